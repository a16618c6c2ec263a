import PyProof.Rows.All
import Wide.All
import OpenK.AllK
import Wide.FinOn
import HandS.ForMost
import HandS.TupAny
import HandS.TupMul
import KE.KDictKeyed
import KE.KeyNested
import HandS.Style
import HandS.Zip
import HandS.IsInst
import KE.KDictDisplayH
import KE.KDictWalk
import HandS.Dict
import HandS.Iter
import KE.GoesEnum
import KE.SortData
import HandS.More
import OpenK.KMore
import PyProof.ReprRoads
import HandS.Ends
import HandS.Property
import KE.KOpsOwn
import PyProof.TwoTypes
import HandS.FStr
import HandS.RaiseMore
import KE.KCallOwn
import HandS.MakeKwOnly
import HandS.ClsMeth
import HandS.CallLocal
import HandS.Gcd
import HandS.Defaults
import PySem.Challenge.RW_aheadsums_k11_whole_numbers_reckoned
set_option Elab.async false
set_option maxRecDepth 100000
set_option maxHeartbeats 4000000
set_option exponentiation.threshold 10000
set_option linter.all false
/-! Data of a run as plain values: the heap only grows but for lists and dicts that one def builds (own ones) and for the pot of draws. -/
namespace Pd
open PySem L2

inductive D where
  | non | bl (b : Bool) | int (i : Int) | str (x : Str) | tup (ds : List D) | lst (ds : List D) | dic (kvs : List (D × D)) | pot | ins (c : Str) (fs : List (Str × D))

mutual
def D.nk : D → Option NestedKey
  | .non => some .none
  | .bl b => some (.num (if b = true then 1 else 0))
  | .int i => some (.num i)
  | .str x => some (.text x)
  | .tup ds => match D.nks ds with
    | some ks => some (.tup ks)
    | none => none
  | .lst _ => none
  | .dic _ => none
  | .pot => none
  | .ins _ _ => none
def D.nks : List D → Option (List NestedKey)
  | [] => some []
  | d :: ds => match D.nk d with
    | none => none
    | some k => match D.nks ds with
      | none => none
      | some ks => some (k :: ks)
end
mutual
def D.py : D → Option PyData
  | .non => some .none
  | .bl b => some (.bool b)
  | .int i => some (.int i)
  | .str x => some (.str x)
  | .tup ds => match D.pys ds with
    | some ks => some (.tuple ks)
    | none => none
  | .lst ds => match D.pys ds with
    | some ks => some (.list ks)
    | none => none
  | .dic _ => none
  | .pot => none
  | .ins _ _ => none
def D.pys : List D → Option (List PyData)
  | [] => some []
  | d :: ds => match D.py d with
    | none => none
    | some k => match D.pys ds with
      | none => none
      | some ks => some (k :: ks)
end

/-! ### runs with draws -/
inductive T (α : Type) where
  | ret (a : α) | fail | draw (n : Nat) (k : Nat → T α)
def T.bind {α β : Type} : T α → (α → T β) → T β
  | .ret a, f => f a
  | .fail, _ => .fail
  | .draw n k, f => .draw n fun i => (k i).bind f
def T.all {α : Type} (P : α → Prop) : T α → Prop
  | .ret a => P a
  | .fail => False
  | .draw n k => ∀ i, i < n → (k i).all P
theorem T.all_bind {α β : Type} {P : β → Prop} : ∀ {t : T α} {f : α → T β}, (t.bind f).all P ↔ t.all fun a => (f a).all P
  | .ret _, _ => Iff.rfl
  | .fail, _ => Iff.rfl
  | .draw n k, f => by
    show (∀ i, i < n → ((k i).bind f).all P) ↔ (∀ i, i < n → (k i).all fun a => (f a).all P)
    exact ⟨fun h i hi => T.all_bind.mp (h i hi), fun h i hi => T.all_bind.mpr (h i hi)⟩
theorem T.all_mono {α : Type} {P Q : α → Prop} (h : ∀ a, P a → Q a) : ∀ {t : T α}, t.all P → t.all Q
  | .ret a, x => h a x
  | .fail, x => x
  | .draw _ _, x => fun i hi => T.all_mono h (x i hi)
/-- decided -/
def T.allB {α : Type} (p : α → Bool) : T α → Bool
  | .ret a => p a
  | .fail => false
  | .draw n k => (List.range n).all fun i => (k i).allB p
theorem T.all_of {α : Type} {p : α → Bool} : ∀ {t : T α}, t.allB p = true → t.all fun a => p a = true
  | .ret _, h => h
  | .fail, h => by cases h
  | .draw n k, h => fun i hi => T.all_of (List.all_eq_true.mp h i (List.mem_range.mpr hi))

/-! ### what stands in the heap -/
def DN (P : Program) (w : World) (a : Addr) (xs : List (NestedKey × Addr × V)) : HO := .ext fun h => (a == sysModules) = false ∧ xs.length ≤ sizeLine ∧ (xs.map (·.1)).Nodup ∧ ∃ ys : List (NestedKey × Addr × Value),
  Paired (fun p q => p.1 = q.1 ∧ p.2.1 = q.2.1 ∧ RelV p.2.2 q.2.2) xs ys ∧ ∃ o es ep, h.get? a = some o ∧ o.ExactDict ∧ o.data = .dict es ep ∧ es.toList = ys.map (entryOfKey (nestedKind P w))

section
variable (K : PySem.W.Frag) (P : Program) (w : World) (π : Addr)
mutual
inductive Rv (H : Hp) : V → D → Prop
  | non : Rv H .non .non
  | bl (b : Bool) : Rv H (.bl b) (.bl b)
  | int (i : Int) : Rv H (.int i) (.int i)
  | str (x : Str) : Rv H (.str x) (.str x)
  | tup {a : Addr} {vs : List V} {ds : List D} : H a = some (.tup vs) → a ≠ π → RvL H vs ds → Rv H (.ref a) (.tup ds)
  | tupK {a : Addr} {vs : List V} {ds : List D} : (∀ H', SqT K H' a vs) → RvL H vs ds → Rv H (.ref a) (.tup ds)
  | lst {a : Addr} {vs : List V} {ds : List D} : H a = some (.lst vs) → a ≠ π → RvL H vs ds → Rv H (.ref a) (.lst ds)
  | dic {a : Addr} {od : Obj} {xs : List (NestedKey × Addr × V)} {kvs : List (D × D)} : H a = some (.frz od (DN P w a xs)) → a ≠ π → RvD H xs kvs → Rv H (.ref a) (.dic kvs)
  | pot : Rv H (.ref π) .pot
  | ins {a dx C : Addr} {c : Str} {fs : List (Str × V)} {ds : List (Str × D)} : PySem.W.nsIn K mainGlobals c = some (some (.ref C)) → H a = some (.ins C dx fs) → a ≠ π → RvF H fs ds → Rv H (.ref a) (.ins c ds)
inductive RvF (H : Hp) : List (Str × V) → List (Str × D) → Prop
  | nil : RvF H [] []
  | cons {x : Str} {v : V} {d : D} {fs : List (Str × V)} {ds : List (Str × D)} : Rv H v d → RvF H fs ds → RvF H ((x, v) :: fs) ((x, d) :: ds)
inductive RvL (H : Hp) : List V → List D → Prop
  | nil : RvL H [] []
  | cons {v : V} {d : D} {vs : List V} {ds : List D} : Rv H v d → RvL H vs ds → RvL H (v :: vs) (d :: ds)
inductive RvD (H : Hp) : List (NestedKey × Addr × V) → List (D × D) → Prop
  | nil : RvD H [] []
  | cons {k : NestedKey} {a : Addr} {v : V} {dk dv : D} {xs : List (NestedKey × Addr × V)} {kvs : List (D × D)} : dk.nk = some k → k.depth ≤ 8 → Rv H (.ref a) dk → Rv H v dv → RvD H xs kvs → RvD H ((k, a, v) :: xs) ((dk, dv) :: kvs)
end
end

/-- what is tracked (but the pot) stays -/
def Kp (π : Addr) (H H' : Hp) : Prop := ∀ a o, a ≠ π → H a = some o → H' a = some o
theorem Kp.refl {π : Addr} {H : Hp} : Kp π H H := fun _ _ _ h => h
theorem Kp.trans {π : Addr} {H H1 H2 : Hp} (a : Kp π H H1) (b : Kp π H1 H2) : Kp π H H2 := fun x o n h => b x o n (a x o n h)

section
variable {K : PySem.W.Frag} {P : Program} {w : World} {π : Addr} {H H' : Hp}
mutual
theorem Rv.mono (k : Kp π H H') : ∀ {d : D} {v : V}, Rv K P w π H v d → Rv K P w π H' v d
  | _, _, .non => .non
  | _, _, .bl b => .bl b
  | _, _, .int i => .int i
  | _, _, .str x => .str x
  | _, _, .tup h n r => .tup (k _ _ n h) n (RvL.mono k r)
  | _, _, .tupK h r => .tupK h (RvL.mono k r)
  | _, _, .lst h n r => .lst (k _ _ n h) n (RvL.mono k r)
  | _, _, .dic h n r => .dic (k _ _ n h) n (RvD.mono k r)
  | _, _, .pot => .pot
  | _, _, .ins c h n r => .ins c (k _ _ n h) n (RvF.mono k r)
theorem RvF.mono (k : Kp π H H') : ∀ {ds : List (Str × D)} {vs : List (Str × V)}, RvF K P w π H vs ds → RvF K P w π H' vs ds
  | _, _, .nil => .nil
  | _, _, .cons r t => .cons (Rv.mono k r) (RvF.mono k t)
theorem RvL.mono (k : Kp π H H') : ∀ {ds : List D} {vs : List V}, RvL K P w π H vs ds → RvL K P w π H' vs ds
  | _, _, .nil => .nil
  | _, _, .cons r t => .cons (Rv.mono k r) (RvL.mono k t)
theorem RvD.mono (k : Kp π H H') : ∀ {kvs : List (D × D)} {xs : List (NestedKey × Addr × V)}, RvD K P w π H xs kvs → RvD K P w π H' xs kvs
  | _, _, .nil => .nil
  | _, _, .cons e dp rk r t => .cons e dp (Rv.mono k rk) (Rv.mono k r) (RvD.mono k t)
end
theorem RvL.length : ∀ {ds : List D} {vs : List V}, RvL K P w π H vs ds → vs.length = ds.length
  | _, _, .nil => rfl
  | _, _, .cons _ t => congrArg Nat.succ (RvL.length t)
theorem RvL.get : ∀ {ds : List D} {vs : List V} {i : Nat} {d : D}, RvL K P w π H vs ds → ds[i]? = some d → ∃ v, vs[i]? = some v ∧ Rv K P w π H v d
  | _, _, _, _, .nil, e => by simp at e
  | _, _, 0, _, .cons r _, e => by simp at e; subst e; exact ⟨_, rfl, r⟩
  | _, _, i + 1, _, .cons _ t, e => RvL.get (i := i) t e
theorem RvL.get' : ∀ {ds : List D} {vs : List V} {i : Nat} {v : V}, RvL K P w π H vs ds → vs[i]? = some v → ∃ d, ds[i]? = some d ∧ Rv K P w π H v d
  | _, _, _, _, .nil, e => by simp at e
  | _, _, 0, _, .cons r _, e => by simp at e; subst e; exact ⟨_, rfl, r⟩
  | _, _, i + 1, _, .cons _ t, e => RvL.get' (i := i) t e
theorem RvL.append : ∀ {ds es : List D} {vs us : List V}, RvL K P w π H vs ds → RvL K P w π H us es → RvL K P w π H (vs ++ us) (ds ++ es)
  | _, _, _, _, .nil, s => s
  | _, _, _, _, .cons r t, s => .cons r (RvL.append t s)
theorem RvL.set {x : V} {d : D} (r : Rv K P w π H x d) : ∀ {ds : List D} {vs : List V} (i : Nat), RvL K P w π H vs ds → RvL K P w π H (vs.set i x) (ds.set i d)
  | _, _, _, .nil => .nil
  | _, _, 0, .cons _ t => .cons r t
  | _, _, i + 1, .cons q t => .cons q (RvL.set r i t)
theorem RvL.take : ∀ {ds : List D} {vs : List V} (n : Nat), RvL K P w π H vs ds → RvL K P w π H (vs.take n) (ds.take n)
  | _, _, 0, _ => .nil
  | _, _, _ + 1, .nil => .nil
  | _, _, n + 1, .cons r t => .cons r (RvL.take n t)
theorem RvL.drop : ∀ {ds : List D} {vs : List V} (n : Nat), RvL K P w π H vs ds → RvL K P w π H (vs.drop n) (ds.drop n)
  | _, _, 0, r => r
  | _, _, _ + 1, .nil => .nil
  | _, _, n + 1, .cons _ t => RvL.drop n t
end

def Hide (N : Addr → Bool) (H : Hp) : Hp := fun a => if N a = true then none else H a
theorem hide_some {N : Addr → Bool} {H : Hp} {a : Addr} {o : HO} (h : Hide N H a = some o) : N a = false ∧ H a = some o := by
  unfold Hide at h
  by_cases n : N a = true
  · rw [if_pos n] at h
    cases h
  · rw [if_neg n] at h
    exact ⟨by simpa using n, h⟩
theorem hide_in {N : Addr → Bool} {H : Hp} {a : Addr} (n : N a = false) : Hide N H a = H a := by
  unfold Hide
  rw [if_neg (by rw [n]; exact Bool.false_ne_true)]
theorem Kp.hide {π : Addr} {N : Addr → Bool} {H H' : Hp} (k : Kp π H H') : Kp π (Hide N H) (Hide N H') := fun a o n h => by
  obtain ⟨na, ha⟩ := hide_some h
  rw [hide_in na]
  exact k a o n ha
theorem Kp.unhide {π : Addr} {N : Addr → Bool} {H : Hp} : Kp π (Hide N H) H := fun _ _ _ h => (hide_some h).2
theorem Kp.less {π : Addr} {N N' : Addr → Bool} {H : Hp} (s : ∀ a, N' a = true → N a = true) : Kp π (Hide N H) (Hide N' H) := fun a o _ h => by
  obtain ⟨na, ha⟩ := hide_some h
  rw [hide_in, ha]
  cases q : N' a with
  | false => rfl
  | true => rw [s a q] at na; cases na

def PotOk (H : Hp) (π : Addr) : Prop := ∃ x y : Int, H π = some (.lst [.int x, .int y]) ∧ 0 ≤ x ∧ 0 ≤ y ∧ y < 2147483648
structure Ex (π : Addr) (H H' : Hp) : Prop where
  kp : Kp π H H'
  pot : PotOk H' π
theorem Ex.refl {π : Addr} {H : Hp} (p : PotOk H π) : Ex π H H := ⟨.refl, p⟩
theorem Ex.trans {π : Addr} {H H1 H2 : Hp} (a : Ex π H H1) (b : Ex π H1 H2) : Ex π H H2 := ⟨a.kp.trans b.kp, b.pot⟩
structure HN (π : Addr) (N : Addr → Bool) (H : Hp) : Prop where
  pot : PotOk H π
  npi : N π = false
  isS : ∀ a, N a = true → H a ≠ none
theorem HN.ext {π : Addr} {N : Addr → Bool} {H H' : Hp} (h : HN π N H) (e : Ex π H H') : HN π N H' := ⟨e.pot, h.npi, fun a n => by
  have q := h.isS a n
  have ne : a ≠ π := fun z => by rw [z, h.npi] at n; cases n
  cases c : H a with
  | none => exact absurd c q
  | some o => rw [e.kp a o ne c]; exact fun z => by cases z⟩
theorem PotOk.ne {π p : Addr} {H : Hp} (h : PotOk H π) (n : H p = none) : p ≠ π := fun e => by
  obtain ⟨x, y, q, _⟩ := h
  rw [← e, n] at q
  cases q
theorem HN.new {π p : Addr} {N : Addr → Bool} {H : Hp} (h : HN π N H) (n : H p = none) : N p = false := by
  cases c : N p with
  | false => rfl
  | true => exact absurd n (h.isS p c)
theorem Ex.new {π p : Addr} {H : Hp} {o : HO} (h : PotOk H π) (n : H p = none) : Ex π H (upd H p o) := ⟨fun a u _ e => by
  rw [upd_ne (ne_of_none e n)]
  exact e, by
  obtain ⟨x, y, q, r⟩ := h
  exact ⟨x, y, by rw [upd_ne (ne_of_none q n)]; exact q, r⟩⟩
theorem hide_new {p : Addr} {N : Addr → Bool} {H : Hp} {o : HO} (n : N p = false) : Hide N (upd H p o) p = some o := by
  rw [hide_in n, upd_same]

/-! ### the names of a def -/
inductive Ent where
  | un | val (d : D) | own (ds : List D) | ownD (kvs : List (D × D)) | ownI (c : Str) (fs : List (Str × D))
abbrev Rho := List Ent
def Ent.isOwn : Ent → Bool
  | .own _ => true
  | .ownD _ => true
  | .ownI _ _ => true
  | _ => false
/-- what stands at l for an own thing -/
def OwnAt (K : PySem.W.Frag) (P : Program) (w : World) (π : Addr) (H : Hp) (l : Addr) (o : HO) : Ent → Prop
  | .own ds => ∃ vs, o = .lst vs ∧ RvL K P w π H vs ds
  | .ownD kvs => ∃ xs, o = DN P w l xs ∧ RvD K P w π H xs kvs
  | .ownI c fs => ∃ C dx vs, o = .ins C dx vs ∧ PySem.W.nsIn K mainGlobals c = some (some (.ref C)) ∧ RvF K P w π H vs fs
  | _ => False
theorem OwnAt.isOwn {K : PySem.W.Frag} {P : Program} {w : World} {π l : Addr} {H : Hp} {o : HO} : ∀ {x : Ent}, OwnAt K P w π H l o x → x.isOwn = true
  | .own _, _ => rfl
  | .ownD _, _ => rfl
  | .ownI _ _, _ => rfl
theorem OwnAt.mono {K : PySem.W.Frag} {P : Program} {w : World} {π l : Addr} {H H' : Hp} {o : HO} (k : Kp π H H') : ∀ {x : Ent}, OwnAt K P w π H l o x → OwnAt K P w π H' l o x
  | .own _, ⟨vs, e, r⟩ => ⟨vs, e, r.mono k⟩
  | .ownD _, ⟨vs, e, r⟩ => ⟨vs, e, r.mono k⟩
  | .ownI _ _, ⟨C, dx, vs, e, c, r⟩ => ⟨C, dx, vs, e, c, r.mono k⟩

structure EnvOk (K : PySem.W.Frag) (P : Program) (w : World) (π : Addr) (N0 : Addr → Bool) (H0 : Hp) (N : Addr → Bool) (H : Hp) (σ : L2.St) (ρ : Rho) : Prop where
  hn : HN π N H
  ex : Kp π H0 H
  sub : ∀ a, N0 a = true → N a = true
  own0 : ∀ a, N a = true → N0 a = true ∨ H0 a = none
  len : σ.length = ρ.length
  val : ∀ (i : Nat) (d : D), ρ[i]? = some (.val d) → ∃ v, σ[i]? = some (some v) ∧ Rv K P w π (Hide N H) v d
  own : ∀ (i : Nat) (x : Ent), ρ[i]? = some x → x.isOwn = true → ∃ l o, σ[i]? = some (some (.ref l)) ∧ N l = true ∧ N0 l = false ∧ H l = some o ∧ OwnAt K P w π (Hide N H) l o x
  inj : ∀ (i j : Nat) (e f : Ent) (l : Addr), ρ[i]? = some e → ρ[j]? = some f → e.isOwn = true → f.isOwn = true → σ[i]? = some (some (.ref l)) → σ[j]? = some (some (.ref l)) → i = j

section
variable {K : PySem.W.Frag} {P : Program} {w : World} {π : Addr} {N0 N : Addr → Bool} {H0 H H' : Hp} {σ : L2.St} {ρ : Rho}
theorem EnvOk.lst (I : EnvOk K P w π N0 H0 N H σ ρ) (i : Nat) (ds : List D) (h : ρ[i]? = some (.own ds)) : ∃ l vs, σ[i]? = some (some (.ref l)) ∧ N l = true ∧ N0 l = false ∧ H l = some (.lst vs) ∧ RvL K P w π (Hide N H) vs ds := by
  obtain ⟨l, o, a, n, n0, b, vs, rfl, r⟩ := I.own i _ h rfl
  exact ⟨l, vs, a, n, n0, b, r⟩
theorem EnvOk.dic (I : EnvOk K P w π N0 H0 N H σ ρ) (i : Nat) (kvs : List (D × D)) (h : ρ[i]? = some (.ownD kvs)) : ∃ l xs, σ[i]? = some (some (.ref l)) ∧ N l = true ∧ N0 l = false ∧ H l = some (DN P w l xs) ∧ RvD K P w π (Hide N H) xs kvs := by
  obtain ⟨l, o, a, n, n0, b, vs, rfl, r⟩ := I.own i _ h rfl
  exact ⟨l, vs, a, n, n0, b, r⟩
theorem EnvOk.obj (I : EnvOk K P w π N0 H0 N H σ ρ) (i : Nat) (c : Str) (fs : List (Str × D)) (h : ρ[i]? = some (.ownI c fs)) : ∃ l C dx vs, σ[i]? = some (some (.ref l)) ∧ N l = true ∧ N0 l = false ∧ H l = some (.ins C dx vs) ∧ PySem.W.nsIn K mainGlobals c = some (some (.ref C)) ∧ RvF K P w π (Hide N H) vs fs := by
  obtain ⟨l, o, a, n, n0, b, C, dx, vs, rfl, c, r⟩ := I.own i _ h rfl
  exact ⟨l, C, dx, vs, a, n, n0, b, c, r⟩
theorem EnvOk.ext (I : EnvOk K P w π N0 H0 N H σ ρ) (e : Ex π H H') : EnvOk K P w π N0 H0 N H' σ ρ where
  hn := I.hn.ext e
  ex := I.ex.trans e.kp
  sub := I.sub
  own0 := I.own0
  len := I.len
  val := fun i d h => let ⟨v, a, b⟩ := I.val i d h; ⟨v, a, b.mono e.kp.hide⟩
  own := fun i x h ho => let ⟨l, o, a, n, n0, b, c⟩ := I.own i x h ho
    ⟨l, o, a, n, n0, e.kp l _ (fun z => by rw [z, I.hn.npi] at n; cases n) b, c.mono e.kp.hide⟩
  inj := I.inj
/-- a name gets a value -/
theorem EnvOk.set {i : Nat} {v : V} {d : D} (I : EnvOk K P w π N0 H0 N H σ ρ) (r : Rv K P w π (Hide N H) v d) : EnvOk K P w π N0 H0 N H (σ.set i (some v)) (ρ.set i (.val d)) where
  hn := I.hn
  ex := I.ex
  sub := I.sub
  own0 := I.own0
  len := by rw [List.length_set, List.length_set]; exact I.len
  val := fun j e h => by
    by_cases q : i = j
    · subst q
      have hl : i < ρ.length := by
        have z := (List.getElem?_eq_some_iff.mp h).1
        rw [List.length_set] at z
        exact z
      rw [List.getElem?_set_self hl] at h
      cases h
      exact ⟨v, List.getElem?_set_self (by rw [I.len]; exact hl), r⟩
    · rw [List.getElem?_set_ne q] at h ⊢
      exact I.val j e h
  own := fun j x h ho => by
    by_cases q : i = j
    · subst q
      have hl : i < ρ.length := by
        have z := (List.getElem?_eq_some_iff.mp h).1
        rw [List.length_set] at z
        exact z
      rw [List.getElem?_set_self hl] at h
      cases h
      cases ho
    · rw [List.getElem?_set_ne q] at h ⊢
      exact I.own j x h ho
  inj := fun j k e f l h1 h2 o1 o2 s1 s2 => by
    have aux : ∀ {j : Nat} {e : Ent}, (ρ.set i (.val d))[j]? = some e → e.isOwn = true → i ≠ j := fun {j e} h1 o1 q => by
      subst q
      have hl : i < ρ.length := by
        have z := (List.getElem?_eq_some_iff.mp h1).1
        rw [List.length_set] at z
        exact z
      rw [List.getElem?_set_self hl] at h1
      cases h1
      cases o1
    have nj := aux h1 o1
    have nk := aux h2 o2
    rw [List.getElem?_set_ne nj] at h1 s1
    rw [List.getElem?_set_ne nk] at h2 s2
    exact I.inj j k e f l h1 h2 o1 o2 s1 s2
end
end Pd

namespace Pd
open PySem L2

section
variable {K : PySem.W.Frag} {P : Program} {w : World} {π : Addr} {N0 N N' : Addr → Bool} {H0 H H' : Hp} {σ σ' : L2.St} {ρ ρ' : Rho}
theorem at_set {α : Type} {l : List α} {i j : Nat} {x y : α} (h : (l.set i x)[j]? = some y) : (i = j ∧ i < l.length ∧ x = y) ∨ (i ≠ j ∧ l[j]? = some y) := by
  by_cases q : i = j
  · subst q
    have hl : i < l.length := by
      have z := (List.getElem?_eq_some_iff.mp h).1
      rw [List.length_set] at z
      exact z
    rw [List.getElem?_set_self hl] at h
    exact .inl ⟨rfl, hl, Option.some.inj h⟩
  · rw [List.getElem?_set_ne q] at h
    exact .inr ⟨q, h⟩
def plus (N : Addr → Bool) (l : Addr) : Addr → Bool := fun a => N a || a == l
def minus (N : Addr → Bool) (l : Addr) : Addr → Bool := fun a => N a && a != l
theorem plus_old {l a : Addr} (h : N a = true) : plus N l a = true := by simp [plus, h]
theorem plus_self {l : Addr} : plus N l l = true := by simp [plus]
theorem plus_or {l a : Addr} (h : plus N l a = true) : N a = true ∨ a = l := by simpa [plus] using h
theorem minus_of {l a : Addr} (h : N a = true) (n : a ≠ l) : minus N l a = true := by simp [minus, h, n]
theorem minus_in {l a : Addr} (h : minus N l a = true) : N a = true ∧ a ≠ l := by simpa [minus] using h
theorem minus_self {l : Addr} : minus N l l = false := by simp [minus]

theorem N_ne (hn : HN π N H) {l : Addr} (h : N l = true) : l ≠ π := fun z => by rw [z, hn.npi] at h; cases h
theorem Ex.hidden (e : Ex π H H') {l : Addr} (hl : H l = none) : Kp π (Hide N H) (Hide (plus N l) H') := fun a o n h => by
  obtain ⟨na, ha⟩ := hide_some h
  have ne : a ≠ l := fun z => by rw [z, hl] at ha; cases ha
  rw [hide_in (by simp [plus, na, ne])]
  exact e.kp a o n ha
/-- what a new own thing leaves -/
theorem EnvOk.newOwn {i : Nat} {l : Addr} {x : Ent} {o : HO} (I : EnvOk K P w π N0 H0 N H σ ρ) (e : Ex π H H') (hl : H l = none) (ho : H' l = some o) (hx : OwnAt K P w π (Hide (plus N l) H') l o x) :
    EnvOk K P w π N0 H0 (plus N l) H' (σ.set i (some (.ref l))) (ρ.set i x) := by
  have hl' : H' l ≠ none := by rw [ho]; exact fun z => by cases z
  have lpi : l ≠ π := I.hn.pot.ne hl
  have Nl : N l = false := I.hn.new hl
  have N0l : N0 l = false := by
    cases c : N0 l with
    | false => rfl
    | true => rw [I.sub l c] at Nl; cases Nl
  have keep : ∀ {l' : Addr} {o : HO}, N l' = true → H l' = some o → l' ≠ l ∧ H' l' = some o := fun {l' o} n h => ⟨(fun z => by rw [z, Nl] at n; cases n), e.kp l' o (N_ne I.hn n) h⟩
  refine ⟨⟨e.pot, by simp [plus, I.hn.npi, lpi.symm], fun a h => ?_⟩, I.ex.trans e.kp, fun a h => plus_old (I.sub a h), fun a h => ?_, ?_, fun j d h => ?_, fun j y h yo => ?_, ?_⟩
  · rcases plus_or h with h | h
    · exact (I.hn.ext e).isS a h
    · rw [h]; exact hl'
  · rcases plus_or h with h | h
    · exact I.own0 a h
    · refine .inr ?_
      rw [h]
      cases c : H0 l with
      | none => rfl
      | some o => rw [I.ex l o lpi c] at hl; cases hl
  · rw [List.length_set, List.length_set]; exact I.len
  · rcases at_set h with ⟨rfl, hi, q⟩ | ⟨q, h⟩
    · subst q; exact hx.elim
    · obtain ⟨v, a, b⟩ := I.val j d h
      exact ⟨v, by rw [List.getElem?_set_ne q]; exact a, b.mono (e.hidden hl)⟩
  · rcases at_set h with ⟨rfl, hi, q⟩ | ⟨q, h⟩
    · subst q
      exact ⟨l, o, List.getElem?_set_self (by rw [I.len]; exact hi), plus_self, N0l, ho, hx⟩
    · obtain ⟨l', o', a, n, n0, b, c⟩ := I.own j y h yo
      exact ⟨l', o', by rw [List.getElem?_set_ne q]; exact a, plus_old n, n0, (keep n b).2, c.mono (e.hidden hl)⟩
  · -- another own thing stands elsewhere
    have other : ∀ {j : Nat} {f : Ent} {l' : Addr}, ρ[j]? = some f → f.isOwn = true → σ[j]? = some (some (.ref l')) → l' ≠ l := fun {j f l'} h1 o1 s1 => by
      obtain ⟨l2, o2, a, n, _, b, _⟩ := I.own j f h1 o1
      rw [s1] at a
      cases a
      exact (keep n b).1
    intro j k f g l' h1 h2 o1 o2 s1 s2
    rcases at_set h1 with ⟨rfl, hi, q⟩ | ⟨q, h1⟩
    · rw [List.getElem?_set_self (by rw [I.len]; exact hi)] at s1
      cases s1
      rcases at_set h2 with ⟨rfl, _, _⟩ | ⟨q2, h2⟩
      · rfl
      · rw [List.getElem?_set_ne q2] at s2
        exact absurd rfl (other h2 o2 s2)
    · rw [List.getElem?_set_ne q] at s1
      rcases at_set h2 with ⟨rfl, hi, q2⟩ | ⟨q2, h2⟩
      · rw [List.getElem?_set_self (by rw [I.len]; exact hi)] at s2
        cases s2
        exact absurd rfl (other h1 o1 s1)
      · rw [List.getElem?_set_ne q2] at s2
        exact I.inj j k f g l' h1 h2 o1 o2 s1 s2
theorem EnvOk.newAny {i : Nat} {l : Addr} {x : Ent} (I : EnvOk K P w π N0 H0 N H σ ρ) (e : Ex π H H') (hl : H l = none) (_hl' : H' l ≠ none)
    (hx : (∃ vs ds, x = .own ds ∧ H' l = some (.lst vs) ∧ RvL K P w π (Hide (plus N l) H') vs ds) ∨ (∃ xs kvs, x = .ownD kvs ∧ H' l = some (DN P w l xs) ∧ RvD K P w π (Hide (plus N l) H') xs kvs)) :
    EnvOk K P w π N0 H0 (plus N l) H' (σ.set i (some (.ref l))) (ρ.set i x) := by
  rcases hx with ⟨vs, ds, rfl, h, r⟩ | ⟨xs, kvs, rfl, h, r⟩
  · exact I.newOwn e hl h ⟨vs, rfl, r⟩
  · exact I.newOwn e hl h ⟨xs, rfl, r⟩
/-- an own thing changes -/
theorem EnvOk.upOwn {i : Nat} {l : Addr} {x y : Ent} {o : HO} (I : EnvOk K P w π N0 H0 N H σ ρ) (hi : ρ[i]? = some y) (hy : y.isOwn = true) (hs : σ[i]? = some (some (.ref l))) (nl : N l = true) (n0 : N0 l = false) (hx : OwnAt K P w π (Hide N H) l o x) :
    EnvOk K P w π N0 H0 N (upd H l o) σ (ρ.set i x) := by
  have lpi := N_ne I.hn nl
  have e : Hide N (upd H l o) = Hide N H := by
    funext a
    by_cases q : a = l
    · subst q; simp [Hide, nl]
    · unfold Hide; rw [upd_ne q]
  have other : ∀ {j : Nat} {f : Ent} {l' : Addr}, i ≠ j → ρ[j]? = some f → f.isOwn = true → σ[j]? = some (some (.ref l')) → l' ≠ l := fun {j f l'} ne h1 o1 s1 z => by
    subst z
    exact ne (I.inj i j y f l' hi h1 hy o1 hs s1)
  refine ⟨⟨?_, I.hn.npi, fun a h => ?_⟩, fun a u n h => ?_, I.sub, I.own0, ?_, fun j d h => ?_, fun j z h zo => ?_, ?_⟩
  · obtain ⟨x, y, q, r⟩ := I.hn.pot
    exact ⟨x, y, by rw [upd_ne lpi.symm]; exact q, r⟩
  · by_cases q : a = l
    · subst q; rw [upd_same]; exact fun z => by cases z
    · rw [upd_ne q]; exact I.hn.isS a h
  · by_cases q : a = l
    · subst q
      rcases I.own0 a nl with z | z
      · rw [n0] at z; cases z
      · rw [z] at h; cases h
    · rw [upd_ne q]; exact I.ex a u n h
  · rw [List.length_set]; exact I.len
  · rw [e]
    rcases at_set h with ⟨rfl, _, q⟩ | ⟨q, h⟩
    · subst q; exact hx.elim
    · exact I.val j d h
  · rw [e]
    rcases at_set h with ⟨rfl, _, q⟩ | ⟨q, h⟩
    · subst q
      exact ⟨l, o, hs, nl, n0, upd_same, hx⟩
    · obtain ⟨l', o', a, n, n0, b, c⟩ := I.own j z h zo
      exact ⟨l', o', a, n, n0, by rw [upd_ne (other q h zo a)]; exact b, c⟩
  · intro j k f g l' h1 h2 o1 o2 s1 s2
    have back : ∀ {j : Nat} {f : Ent}, (ρ.set i x)[j]? = some f → f.isOwn = true → ∃ f', ρ[j]? = some f' ∧ f'.isOwn = true := fun {j f} h o1 => by
      rcases at_set h with ⟨rfl, _, _⟩ | ⟨_, h⟩
      · exact ⟨y, hi, hy⟩
      · exact ⟨f, h, o1⟩
    obtain ⟨f', a1, b1⟩ := back h1 o1
    obtain ⟨g', a2, b2⟩ := back h2 o2
    exact I.inj j k f' g' l' a1 a2 b1 b2 s1 s2
theorem EnvOk.upAny {i : Nat} {l : Addr} {x y : Ent} {o : HO} (I : EnvOk K P w π N0 H0 N H σ ρ) (hi : ρ[i]? = some y) (hy : y.isOwn = true) (hs : σ[i]? = some (some (.ref l))) (nl : N l = true) (n0 : N0 l = false)
    (hx : (∃ vs ds, x = .own ds ∧ o = .lst vs ∧ RvL K P w π (Hide N H) vs ds) ∨ (∃ xs kvs, x = .ownD kvs ∧ o = DN P w l xs ∧ RvD K P w π (Hide N H) xs kvs)) :
    EnvOk K P w π N0 H0 N (upd H l o) σ (ρ.set i x) := by
  rcases hx with ⟨vs, ds, rfl, h, r⟩ | ⟨xs, kvs, rfl, h, r⟩
  · exact I.upOwn hi hy hs nl n0 ⟨vs, h, r⟩
  · exact I.upOwn hi hy hs nl n0 ⟨xs, h, r⟩
/-- an own list, an own instance is a value from now on -/
theorem EnvOk.freezeAny {i : Nat} {y : Ent} {d : D} (I : EnvOk K P w π N0 H0 N H σ ρ) (hi : ρ[i]? = some y) (hy : (∃ ds, y = .own ds ∧ d = .lst ds) ∨ (∃ c fs, y = .ownI c fs ∧ d = .ins c fs)) :
    ∃ N', EnvOk K P w π N0 H0 N' H σ (ρ.set i (.val d)) := by
  have yo : y.isOwn = true := by rcases hy with ⟨_, rfl, _⟩ | ⟨_, _, rfl, _⟩ <;> rfl
  obtain ⟨l, o, hs, nl, n0, hb, hc⟩ := I.own i y hi yo
  have lpi := N_ne I.hn nl
  have k : Kp π (Hide N H) (Hide (minus N l) H) := Kp.less fun a h => (minus_in h).1
  have other : ∀ {j : Nat} {f : Ent} {l' : Addr}, i ≠ j → ρ[j]? = some f → f.isOwn = true → σ[j]? = some (some (.ref l')) → l' ≠ l := fun {j f l'} ne h1 o1 s1 z => by
    subst z
    exact ne (I.inj i j _ f l' hi h1 yo o1 hs s1)
  refine ⟨minus N l, ⟨I.hn.pot, ?_, fun a h => I.hn.isS a (minus_in h).1⟩, I.ex, fun a h => ?_, fun a h => I.own0 a (minus_in h).1, by rw [List.length_set]; exact I.len, fun j e h => ?_, fun j x h xo => ?_, ?_⟩
  · simp [minus, I.hn.npi]
  · exact minus_of (I.sub a h) fun z => by rw [z, n0] at h; cases h
  · rcases at_set h with ⟨rfl, _, q⟩ | ⟨q, h⟩
    · cases q
      refine ⟨.ref l, hs, ?_⟩
      rcases hy with ⟨ds, rfl, rfl⟩ | ⟨c, fs, rfl, rfl⟩
      · obtain ⟨vs, rfl, r⟩ := hc
        exact .lst (by rw [hide_in minus_self]; exact hb) lpi (r.mono k)
      · obtain ⟨C, dx, vs, rfl, cc, r⟩ := hc
        exact .ins cc (by rw [hide_in minus_self]; exact hb) lpi (r.mono k)
    · obtain ⟨v, a, b⟩ := I.val j e h
      exact ⟨v, a, b.mono k⟩
  · rcases at_set h with ⟨rfl, _, q⟩ | ⟨q, h⟩
    · subst q; cases xo
    · obtain ⟨l', o', a, n, m0, b, c⟩ := I.own j x h xo
      exact ⟨l', o', a, minus_of n (other q h xo a), m0, b, c.mono k⟩
  · intro j k f g l' h1 h2 o1 o2 s1 s2
    rcases at_set h1 with ⟨rfl, _, q⟩ | ⟨_, h1⟩
    · subst q; cases o1
    · rcases at_set h2 with ⟨rfl, _, q⟩ | ⟨_, h2⟩
      · subst q; cases o2
      · exact I.inj j k f g l' h1 h2 o1 o2 s1 s2
theorem EnvOk.freeze {i : Nat} {ds : List D} (I : EnvOk K P w π N0 H0 N H σ ρ) (hi : ρ[i]? = some (.own ds)) : ∃ N', EnvOk K P w π N0 H0 N' H σ (ρ.set i (.val (.lst ds))) := I.freezeAny hi (.inl ⟨ds, rfl, rfl⟩)
/-- an own dict is a value from now on: locked -/
theorem EnvOk.freezeD {i : Nat} {kvs : List (D × D)} (I : EnvOk K P w π N0 H0 N H σ ρ) (hi : ρ[i]? = some (.ownD kvs)) :
    ∃ l xs N', H l = some (DN P w l xs) ∧ ∀ od, EnvOk K P w π N0 H0 N' (upd H l (.frz od (DN P w l xs))) σ (ρ.set i (.val (.dic kvs))) := by
  obtain ⟨l, xs, hs, nl, n0, hb, hc⟩ := I.dic i kvs hi
  have lpi := N_ne I.hn nl
  refine ⟨l, xs, minus N l, hb, fun od => ?_⟩
  have k : Kp π (Hide N H) (Hide (minus N l) (upd H l (.frz od (DN P w l xs)))) := fun a o n h => by
    obtain ⟨na, ha⟩ := hide_some h
    have ne : a ≠ l := fun z => by rw [z, nl] at na; cases na
    rw [hide_in (by simp [minus, na]), upd_ne ne]
    exact ha
  have other : ∀ {j : Nat} {f : Ent} {l' : Addr}, i ≠ j → ρ[j]? = some f → f.isOwn = true → σ[j]? = some (some (.ref l')) → l' ≠ l := fun {j f l'} ne h1 o1 s1 z => by
    subst z
    exact ne (I.inj i j _ f l' hi h1 rfl o1 hs s1)
  refine ⟨⟨?_, ?_, fun a h => ?_⟩, fun a u n h => ?_, fun a h => ?_, fun a h => I.own0 a (minus_in h).1, by rw [List.length_set]; exact I.len, fun j e h => ?_, fun j x h xo => ?_, ?_⟩
  · obtain ⟨x, y, q, r⟩ := I.hn.pot
    exact ⟨x, y, by rw [upd_ne lpi.symm]; exact q, r⟩
  · simp [minus, I.hn.npi]
  · rw [upd_ne (minus_in h).2]; exact I.hn.isS a (minus_in h).1
  · by_cases q : a = l
    · subst q
      rcases I.own0 a nl with z | z
      · rw [n0] at z; cases z
      · rw [z] at h; cases h
    · rw [upd_ne q]; exact I.ex a u n h
  · exact minus_of (I.sub a h) fun z => by rw [z, n0] at h; cases h
  · rcases at_set h with ⟨rfl, _, q⟩ | ⟨q, h⟩
    · cases q
      exact ⟨.ref l, hs, .dic (by rw [hide_in minus_self, upd_same]) lpi (hc.mono k)⟩
    · obtain ⟨v, a, b⟩ := I.val j e h
      exact ⟨v, a, b.mono k⟩
  · rcases at_set h with ⟨rfl, _, q⟩ | ⟨q, h⟩
    · subst q; cases xo
    · obtain ⟨l', o', a, n, m0, b, c⟩ := I.own j x h xo
      exact ⟨l', o', a, minus_of n (other q h xo a), m0, by rw [upd_ne (other q h xo a)]; exact b, c.mono k⟩
  · intro j k f g l' h1 h2 o1 o2 s1 s2
    rcases at_set h1 with ⟨rfl, _, q⟩ | ⟨_, h1⟩
    · subst q; cases o1
    · rcases at_set h2 with ⟨rfl, _, q⟩ | ⟨_, h2⟩
      · subst q; cases o2
      · exact I.inj j k f g l' h1 h2 o1 o2 s1 s2
/-- a name without a value -/
theorem EnvOk.wipe1 {i : Nat} (I : EnvOk K P w π N0 H0 N H σ ρ) : EnvOk K P w π N0 H0 N H (σ.set i none) (ρ.set i .un) := by
  refine ⟨I.hn, I.ex, I.sub, I.own0, by rw [List.length_set, List.length_set]; exact I.len, fun j d h => ?_, fun j d h xo => ?_, fun j k f g l h1 h2 o1 o2 s1 s2 => ?_⟩
  · rcases at_set h with ⟨rfl, _, q⟩ | ⟨q, h⟩
    · cases q
    · rw [List.getElem?_set_ne q]; exact I.val j d h
  · rcases at_set h with ⟨rfl, _, q⟩ | ⟨q, h⟩
    · subst q; cases xo
    · rw [List.getElem?_set_ne q]; exact I.own j d h xo
  · rcases at_set h1 with ⟨rfl, _, q⟩ | ⟨q, h1⟩
    · subst q; cases o1
    · rcases at_set h2 with ⟨rfl, _, q2⟩ | ⟨q2, h2⟩
      · subst q2; cases o2
      · rw [List.getElem?_set_ne q] at s1
        rw [List.getElem?_set_ne q2] at s2
        exact I.inj j k f g l h1 h2 o1 o2 s1 s2
/-! what stays through a loop -/
def baseOf (N0 N : Addr → Bool) (H : Hp) : Hp := fun a => if (N a && !N0 a) = true then none else H a
theorem base_some {a : Addr} {o : HO} (h : baseOf N0 N H a = some o) : (N a = false ∨ N0 a = true) ∧ H a = some o := by
  unfold baseOf at h
  by_cases c : (N a && !N0 a) = true
  · rw [if_pos c] at h; cases h
  · rw [if_neg c] at h
    refine ⟨?_, h⟩
    cases h1 : N a with
    | false => exact .inl rfl
    | true =>
      cases h2 : N0 a with
      | true => exact .inr rfl
      | false => rw [h1, h2] at c; exact absurd rfl c
theorem base_in {a : Addr} (h : N a = false ∨ N0 a = true) : baseOf N0 N H a = H a := by
  unfold baseOf
  rw [if_neg]
  rcases h with h | h <;> simp [h]
theorem EnvOk.rebase (I : EnvOk K P w π N0 H0 N H σ ρ) : EnvOk K P w π N0 (baseOf N0 N H) N H σ ρ where
  hn := I.hn
  ex := fun a o _ h => (base_some h).2
  sub := I.sub
  own0 := fun a h => by
    cases c : N0 a with
    | true => exact .inl rfl
    | false =>
      refine .inr ?_
      unfold baseOf
      rw [if_pos (by simp [h, c])]
  len := I.len
  val := I.val
  own := I.own
  inj := I.inj
theorem EnvOk.base_kp (I : EnvOk K P w π N0 H0 N H σ ρ) : Kp π H0 (baseOf N0 N H) := fun a o n h => by
  rw [base_in ?_]
  · exact I.ex a o n h
  · cases c : N a with
    | false => exact .inl rfl
    | true =>
      rcases I.own0 a c with z | z
      · exact .inr z
      · rw [z] at h; cases h
theorem EnvOk.unbase (I : EnvOk K P w π N0 H0 N H σ ρ) (J : EnvOk K P w π N0 (baseOf N0 N H) N' H' σ' ρ') : EnvOk K P w π N0 H0 N' H' σ' ρ' where
  hn := J.hn
  ex := I.base_kp.trans J.ex
  sub := J.sub
  own0 := fun a h => by
    rcases J.own0 a h with z | z
    · exact .inl z
    · refine .inr ?_
      cases c : H0 a with
      | none => rfl
      | some o =>
        by_cases q : a = π
        · rw [q, J.hn.npi] at h; cases h
        · rw [I.base_kp a o q c] at z; cases z
  len := J.len
  val := J.val
  own := J.own
  inj := J.inj
theorem EnvOk.seen (I : EnvOk K P w π N0 H0 N H σ ρ) (J : EnvOk K P w π N0 (baseOf N0 N H) N' H' σ' ρ') : Kp π (Hide N H) (Hide N' H') := fun a o n h => by
  obtain ⟨na, ha⟩ := hide_some h
  have b : baseOf N0 N H a = some o := by rw [base_in (.inl na)]; exact ha
  have h1 := J.ex a o n b
  have n' : N' a = false := by
    cases c : N' a with
    | false => rfl
    | true =>
      rcases J.own0 a c with z | z
      · rw [I.sub a z] at na; cases na
      · rw [b] at z; cases z
  rw [hide_in n']
  exact h1
end

/-! ### the weakest reading of each piece -/
section
variable {X : Cx}
def wpE (X : Cx) (e : Expr) : TE := fun σ H Q => ∃ te, PE X e te ∧ te σ H Q
theorem pe_wp {e : Expr} : PE X e (wpE X e) := ⟨fun pins s σ H Q I ⟨_, h, q⟩ => h.run pins s σ H Q I q⟩
def wpT (X : Cx) (e : Expr) : TT := fun σ H Q => ∃ te, PT X e te ∧ te σ H Q
theorem pt_wp {e : Expr} : PT X e (wpT X e) := ⟨fun pins s σ H Q I ⟨_, h, q⟩ => h.run pins s σ H Q I q⟩
def wpW (X : Cx) (e : Expr) : TT := fun σ H Q => ∃ te, PW X e te ∧ te σ H Q
theorem pw_wp {e : Expr} : PW X e (wpW X e) := ⟨fun wh pins s σ H Q I ⟨_, h, q⟩ => h.run wh pins s σ H Q I q⟩
def wpA (X : Cx) (es : List Expr) : TA := fun σ H Q => ∃ te, PA X es te ∧ te σ H Q
theorem pa_wp {es : List Expr} : PA X es (wpA X es) := ⟨fun pos pins s σ H Q I ⟨_, h, q⟩ => h.run pos pins s σ H Q I q⟩
def wpS (X : Cx) (st : Stmt) : TS := fun De σ H => ∃ te, PS X st te ∧ te De σ H
theorem ps_wp {st : Stmt} : PS X st (wpS X st) := ⟨fun pins s σ H De I ⟨_, h, q⟩ => h.run pins s σ H De I q⟩
def wpSs (X : Cx) (st : List Stmt) : TS := fun De σ H => ∃ te, PSs X st te ∧ te De σ H
theorem pss_wp {st : List Stmt} : PSs X st (wpSs X st) := ⟨fun pins s σ H De I ⟨_, h, q⟩ => h.run pins s σ H De I q⟩
def wpG (X : Cx) (e : Expr) : TG := fun v σ H Q => ∃ t, PG X e t ∧ t v σ H Q
theorem pg_wp {e : Expr} : PG X e (wpG X e) := ⟨fun pins s σ H v u Q I r ⟨_, h, q⟩ => h.run pins s σ H v u Q I r q⟩
def wpI (X : Cx) (tg e : Expr) : TI := fun σ H R => ∃ t, PI X tg e t ∧ t σ H R
theorem pi_wp {tg e : Expr} : PI X tg e (wpI X tg e) := ⟨fun pins s σ H R I ⟨_, h, q⟩ => h.run pins s σ H R I q⟩
def wpOp (X : Cx) (f : Value → Value → Sem Value) : R2 := fun x y H Q => ∃ r, OpR X f r ∧ r x y H Q
theorem op_wp {f : Value → Value → Sem Value} : OpR X f (wpOp X f) := fun pins s σ H x y v u Q I rx ry ⟨_, h, q⟩ => h pins s σ H x y v u Q I rx ry q
def wpUn (X : Cx) (f : Value → Sem Value) : V → Hp → VK → Prop := fun x H Q => ∃ r, UnR X f r ∧ r x H Q
theorem un_wp {f : Value → Sem Value} : UnR X f (wpUn X f) := fun pins s σ H x v Q I rx ⟨_, h, q⟩ => h pins s σ H x v Q I rx q
def wpCa (X : Cx) (f : Value) : List V → Hp → VK → Prop := fun xs H Q => ∃ r, CallR X f r ∧ r xs H Q
theorem ca_wp {f : Value} : CallR X f (wpCa X f) := fun pins s σ H xs us Q I rx ⟨_, h, q⟩ => h pins s σ H xs us Q I rx q
end
end Pd

namespace Pd
open PySem L2

/-! ### sound readings -/
section
variable (X : Cx)
/-- what is wanted of a value that a piece hands on -/
def Kd (π : Addr) (N : Addr → Bool) (H : Hp) (Q : VK) : D → Prop := fun d => ∀ v H2, Ex π H H2 → Rv X.K X.prog X.w π (Hide N H2) v d → Q v H2
def Kl (π : Addr) (N : Addr → Bool) (H : Hp) (Q : VK) : List D → Prop := fun ds => ∀ l vs H2, Ex π H H2 → H l = none → H2 l = some (.lst vs) → RvL X.K X.prog X.w π (Hide (plus N l) H2) vs ds → Q (.ref l) H2
def Ka (π : Addr) (N : Addr → Bool) (H : Hp) (Q : List V → Hp → Prop) : List D → Prop := fun ds => ∀ vs H2, Ex π H H2 → RvL X.K X.prog X.w π (Hide N H2) vs ds → Q vs H2
def Snd (e : Expr) (m : Rho → T D) : Prop := ∀ ⦃π : Addr⦄ ⦃N0 : Addr → Bool⦄ ⦃H0 : Hp⦄ ⦃N : Addr → Bool⦄ ⦃H : Hp⦄ ⦃σ : L2.St⦄ ⦃ρ : Rho⦄ ⦃Q : VK⦄, EnvOk X.K X.prog X.w π N0 H0 N H σ ρ → (m ρ).all (Kd X π N H Q) → wpE X e σ H Q
/-- a new list -/
def SndL (e : Expr) (m : Rho → T (List D)) : Prop := ∀ ⦃π : Addr⦄ ⦃N0 : Addr → Bool⦄ ⦃H0 : Hp⦄ ⦃N : Addr → Bool⦄ ⦃H : Hp⦄ ⦃σ : L2.St⦄ ⦃ρ : Rho⦄ ⦃Q : VK⦄, EnvOk X.K X.prog X.w π N0 H0 N H σ ρ → (m ρ).all (Kl X π N H Q) → wpE X e σ H Q
def SndA (es : List Expr) (m : Rho → T (List D)) : Prop := ∀ ⦃π : Addr⦄ ⦃N0 : Addr → Bool⦄ ⦃H0 : Hp⦄ ⦃N : Addr → Bool⦄ ⦃H : Hp⦄ ⦃σ : L2.St⦄ ⦃ρ : Rho⦄ ⦃Q : List V → Hp → Prop⦄, EnvOk X.K X.prog X.w π N0 H0 N H σ ρ → (m ρ).all (Ka X π N H Q) → wpA X es σ H Q
def SndT (e : Expr) (m : Rho → T Bool) : Prop := ∀ ⦃π : Addr⦄ ⦃N0 : Addr → Bool⦄ ⦃H0 : Hp⦄ ⦃N : Addr → Bool⦄ ⦃H : Hp⦄ ⦃σ : L2.St⦄ ⦃ρ : Rho⦄ ⦃Q : Bool → Hp → Prop⦄, EnvOk X.K X.prog X.w π N0 H0 N H σ ρ → (m ρ).all (fun b => ∀ H2, Ex π H H2 → Q b H2) → wpT X e σ H Q
def SndW (e : Expr) (m : Rho → T Bool) : Prop := ∀ ⦃π : Addr⦄ ⦃N0 : Addr → Bool⦄ ⦃H0 : Hp⦄ ⦃N : Addr → Bool⦄ ⦃H : Hp⦄ ⦃σ : L2.St⦄ ⦃ρ : Rho⦄ ⦃Q : Bool → Hp → Prop⦄, EnvOk X.K X.prog X.w π N0 H0 N H σ ρ → (m ρ).all (fun b => ∀ H2, Ex π H H2 → Q b H2) → wpW X e σ H Q
def OpSnd (f : Value → Value → Sem Value) (m : D → D → T D) : Prop := ∀ ⦃π : Addr⦄ ⦃N : Addr → Bool⦄ ⦃H : Hp⦄ ⦃x y : V⦄ ⦃dx dy : D⦄ ⦃Q : VK⦄, HN π N H → Rv X.K X.prog X.w π (Hide N H) x dx → Rv X.K X.prog X.w π (Hide N H) y dy → (m dx dy).all (Kd X π N H Q) → wpOp X f x y H Q
def CaSnd (f : Value) (m : List D → T D) : Prop := ∀ ⦃π : Addr⦄ ⦃N : Addr → Bool⦄ ⦃H : Hp⦄ ⦃xs : List V⦄ ⦃ds : List D⦄ ⦃Q : VK⦄, HN π N H → RvL X.K X.prog X.w π (Hide N H) xs ds → (m ds).all (Kd X π N H Q) → wpCa X f xs H Q
def CaSndL (f : Value) (m : List D → T (List D)) : Prop := ∀ ⦃π : Addr⦄ ⦃N : Addr → Bool⦄ ⦃H : Hp⦄ ⦃xs : List V⦄ ⦃ds : List D⦄ ⦃Q : VK⦄, HN π N H → RvL X.K X.prog X.w π (Hide N H) xs ds → (m ds).all (Kl X π N H Q) → wpCa X f xs H Q
end

section
variable {X : Cx} {a b c e : Expr} {es : List Expr} {ma mb m : Rho → T D} {mt mu : Rho → T Bool} {pos : Pos}
theorem Kd.up {π : Addr} {N : Addr → Bool} {H H1 : Hp} {Q : VK} {d : D} (e : Ex π H H1) (h : Kd X π N H Q d) : Kd X π N H1 Q d := fun v H2 e2 r => h v H2 (e.trans e2) r
theorem Kl.up {π : Addr} {N : Addr → Bool} {H H1 : Hp} {Q : VK} {ds : List D} (e : Ex π H H1) (h : Kl X π N H Q ds) (pt : PotOk H π) : Kl X π N H1 Q ds := fun l vs H2 e2 n1 h2 r => h l vs H2 (e.trans e2) (by
  cases c : H l with
  | none => rfl
  | some o =>
    by_cases q : l = π
    · subst q
      exact absurd n1 (fun z => (e.pot.ne z) rfl)
    · rw [e.kp l o q c] at n1; cases n1) h2 r
theorem Ka.up {π : Addr} {N : Addr → Bool} {H H1 : Hp} {Q : List V → Hp → Prop} {ds : List D} (e : Ex π H H1) (h : Ka X π N H Q ds) : Ka X π N H1 Q ds := fun v H2 e2 r => h v H2 (e.trans e2) r

def eVar (i : Nat) : Rho → T D := fun ρ => match ρ[i]? with
  | some (.val d) => .ret d
  | _ => .fail
def eC (d : D) : Rho → T D := fun _ => .ret d
def eBin (f : D → D → T D) (ma mb : Rho → T D) : Rho → T D := fun ρ => (ma ρ).bind fun x => (mb ρ).bind fun y => f x y
def asB : D → T Bool
  | .bl b => .ret b
  | _ => .fail
def eTest (m : Rho → T D) : Rho → T Bool := fun ρ => (m ρ).bind asB
def tAnd' (mt mu : Rho → T Bool) : Rho → T Bool := fun ρ => (mt ρ).bind fun b => cond b (mu ρ) (.ret false)
def tOr' (mt mu : Rho → T Bool) : Rho → T Bool := fun ρ => (mt ρ).bind fun b => cond b (.ret true) (mu ρ)
def tNot' (mt : Rho → T Bool) : Rho → T Bool := fun ρ => (mt ρ).bind fun b => .ret (!b)
def eAnd (ma mb : Rho → T D) : Rho → T D := fun ρ => (ma ρ).bind fun d => (asB d).bind fun b => cond b (mb ρ) (.ret (.bl false))
def eOr (ma mb : Rho → T D) : Rho → T D := fun ρ => (ma ρ).bind fun d => (asB d).bind fun b => cond b (.ret (.bl true)) (mb ρ)
def eNot (ma : Rho → T D) : Rho → T D := fun ρ => (ma ρ).bind fun d => (asB d).bind fun b => .ret (.bl (!b))
def eIf (mt : Rho → T Bool) (ma mb : Rho → T D) : Rho → T D := fun ρ => (mt ρ).bind fun b => cond b (ma ρ) (mb ρ)
def aNil : Rho → T (List D) := fun _ => .ret []
def aCons (ma : Rho → T D) (ms : Rho → T (List D)) : Rho → T (List D) := fun ρ => (ma ρ).bind fun d => (ms ρ).bind fun ds => .ret (d :: ds)
def small (ds : List D) : Bool := decide (ds.length ≤ 100000)
def eTup (ms : Rho → T (List D)) : Rho → T D := fun ρ => (ms ρ).bind fun ds => cond (small ds) (.ret (.tup ds)) .fail
def lLst (ms : Rho → T (List D)) : Rho → T (List D) := fun ρ => (ms ρ).bind fun ds => cond (small ds) (.ret ds) .fail
def eL (ml : Rho → T (List D)) : Rho → T D := fun ρ => (ml ρ).bind fun ds => .ret (.lst ds)
def eCall (n : Nat) (F : List D → T D) (ms : Rho → T (List D)) : Rho → T D := fun ρ => (ms ρ).bind fun ds => cond (ds.length == n) (F ds) .fail
def eCa (f : List D → T D) (ms : Rho → T (List D)) : Rho → T D := fun ρ => (ms ρ).bind f
def lCa (f : List D → T (List D)) (ms : Rho → T (List D)) : Rho → T (List D) := fun ρ => (ms ρ).bind f

theorem asB_all {P : Bool → Prop} {d : D} (h : (asB d).all P) : ∃ b, d = .bl b ∧ P b := by
  cases d <;> first | exact ⟨_, rfl, h⟩ | exact False.elim h
theorem Rv.bool {K : PySem.W.Frag} {P : Program} {w : World} {π : Addr} {H : Hp} {v : V} {b : Bool} (r : Rv K P w π H v (.bl b)) : v = .bl b := by cases r; rfl
theorem Rv.intE {K : PySem.W.Frag} {P : Program} {w : World} {π : Addr} {H : Hp} {v : V} {i : Int} (r : Rv K P w π H v (.int i)) : v = .int i := by cases r; rfl
theorem Rv.tupE {K : PySem.W.Frag} {P : Program} {w : World} {π : Addr} {N : Addr → Bool} {H : Hp} {v : V} {ds : List D} (r : Rv K P w π (Hide N H) v (.tup ds)) : ∃ a vs, v = .ref a ∧ SqT K H a vs ∧ RvL K P w π (Hide N H) vs ds := by
  cases r with
  | tup h n r => exact ⟨_, _, rfl, .inl (.inl (hide_some h).2), r⟩
  | tupK h r => exact ⟨_, _, rfl, h _, r⟩
theorem Rv.lstE {K : PySem.W.Frag} {P : Program} {w : World} {π : Addr} {N : Addr → Bool} {H : Hp} {v : V} {ds : List D} (r : Rv K P w π (Hide N H) v (.lst ds)) : ∃ a vs, v = .ref a ∧ H a = some (.lst vs) ∧ N a = false ∧ a ≠ π ∧ RvL K P w π (Hide N H) vs ds := by
  cases r with
  | lst h n r => exact ⟨_, _, rfl, (hide_some h).2, (hide_some h).1, n, r⟩

theorem sv (i : Nat) {x : Str} {pos : Pos} (hN : X.N[i]? = some x := by rfl) (hv : Vis X.env.scope x := by first | exact Or.inl rfl | exact Or.inr (Or.inl rfl) | exact Or.inr (Or.inr rfl)) (hd : (x == ("__debug__" : Str)) = false := by decide)
    (hcd : (x == ("__classdict__" : Str)) = false := by decide) : Snd X (.Name x pos) (eVar i) := fun {π N0 H0 N H σ ρ Q} I h => by
  unfold eVar at h
  split at h
  · obtain ⟨v, hs, r⟩ := I.val i _ (by assumption)
    exact ⟨_, pe_var hN hv hd hcd, v, hs, h v H (Ex.refl I.hn.pot) r⟩
  · exact False.elim h
theorem s_int {i j} : Snd X (.Constant (.int i) j pos) (eC (.int i)) := fun {_ _ _ _ _ _ _ _} I h => ⟨_, pe_int, h _ _ (Ex.refl I.hn.pot) (.int i)⟩
theorem s_bl {b j} : Snd X (.Constant (.bool b) j pos) (eC (.bl b)) := fun {_ _ _ _ _ _ _ _} I h => ⟨_, pe_bl, h _ _ (Ex.refl I.hn.pot) (.bl b)⟩
theorem s_non {j} : Snd X (.Constant .none j pos) (eC .non) := fun {_ _ _ _ _ _ _ _} I h => ⟨_, pe_non, h _ _ (Ex.refl I.hn.pot) .non⟩
theorem s_str {x j} : Snd X (.Constant (.str x) j pos) (eC (.str x)) := fun {_ _ _ _ _ _ _ _} I h => ⟨_, pe_str, h _ _ (Ex.refl I.hn.pot) (.str x)⟩
/-- a constant of the module -/
theorem s_glob {x : Str} {v : V} {u : Value} {d : D} (hg : Gl X x) (hm : X.mg x = some u) (r : RelV v u) (rv : ∀ π H, Rv X.K X.prog X.w π H v d) (hd : (x == ("__debug__" : Str)) = false := by decide) : Snd X (.Name x pos) (eC d) := fun {_ _ _ _ _ _ _ _} I h => ⟨_, pe_glob hg hm r hd, h _ _ (Ex.refl I.hn.pot) (rv _ _)⟩

theorem two {f : D → D → T D} {g : Value → Value → Sem Value} (ho : OpSnd X g f) (ha : Snd X a ma) (hb : Snd X b mb) {π : Addr} {N0 : Addr → Bool} {H0 : Hp} {N : Addr → Bool} {H : Hp} {σ : L2.St} {ρ : Rho} {Q : VK}
    (I : EnvOk X.K X.prog X.w π N0 H0 N H σ ρ) (h : (eBin f ma mb ρ).all (Kd X π N H Q)) : tOp (wpOp X g) (wpE X a) (wpE X b) σ H Q := by
  refine ha I (T.all_mono (fun dx hx => ?_) (T.all_bind.mp h))
  intro v H1 e1 r1
  refine hb (I.ext e1) (T.all_mono (fun dy hy => ?_) (T.all_bind.mp hx))
  intro u H2 e2 r2
  exact ho (I.hn.ext (e1.trans e2)) (r1.mono e2.kp.hide) r2 (T.all_mono (fun _ hd => hd.up (e1.trans e2)) hy)
theorem s_bin {op : Operator} {f : D → D → T D} (ho : OpSnd X (binaryOp op) f) (ha : Snd X a ma) (hb : Snd X b mb) : Snd X (.BinOp a op b pos) (eBin f ma mb) := fun {_ _ _ _ _ _ _ _} I h => ⟨_, pe_op op_wp pe_wp pe_wp, two ho ha hb I h⟩
theorem s_cmp {op : CmpOp} {f : D → D → T D} (ho : OpSnd X (compareOp op) f) (ha : Snd X a ma) (hb : Snd X b mb) (hm : behindInMarks op b = false) : Snd X (.Compare a [op] [b] pos) (eBin f ma mb) := fun {_ _ _ _ _ _ _ _} I h => ⟨_, pe_cmpR op_wp pe_wp pe_wp hm, two ho ha hb I h⟩
theorem Kd.test {π : Addr} {N : Addr → Bool} {H : Hp} {Q : Bool → Hp → Prop} {d : D} (h : (asB d).all fun b => ∀ H2, Ex π H H2 → Q b H2) : Kd X π N H (fun x H' => ∃ k, x = .bl k ∧ Q k H') d := fun v H2 e r => by
  obtain ⟨b, rfl, q⟩ := asB_all h
  exact ⟨b, r.bool, q H2 e⟩
theorem st_cmp {op : CmpOp} {f : D → D → T D} (ho : OpSnd X (compareOp op) f) (ha : Snd X a ma) (hb : Snd X b mb) (hm : behindInMarks op b = false) : SndT X (.Compare a [op] [b] pos) (eTest (eBin f ma mb)) := fun {_ _ _ _ _ _ _ _} I h =>
  ⟨_, pt_cmpR op_wp pe_wp pe_wp hm, two ho ha hb I (T.all_mono (fun _ h => Kd.test h) (T.all_bind.mp h))⟩
theorem st_val (ha : Snd X a m) (he : ∀ whole, isTrue a X.env whole = (do let v ← whole; standAt a.pos; holding [v] (truthy v)) := by intro _; rfl) : SndT X a (eTest m) := fun {_ _ _ _ _ _ _ _} I h =>
  ⟨_, pt_val pe_wp he, ha I (T.all_mono (fun _ h => Kd.test h) (T.all_bind.mp h))⟩
theorem st_not (ha : SndT X a mt) : SndT X (.UnaryOp .Not a pos) (tNot' mt) := fun {_ _ _ _ _ _ _ _} I h => ⟨_, pt_not pt_wp, ha I (T.all_bind.mp h)⟩
theorem sw_and1 (ha : SndT X a mt) : SndW X (.BoolOp .And [a] pos) mt := fun {_ _ _ _ _ _ _ _} I h => ⟨_, pw_and1 pt_wp, ha I h⟩
theorem sw_or1 (ha : SndT X a mt) : SndW X (.BoolOp .Or [a] pos) mt := fun {_ _ _ _ _ _ _ _} I h => ⟨_, pw_or1 pt_wp, ha I h⟩
theorem sw_and {rest : List Expr} (ha : SndT X a mt) (hb : SndW X (.BoolOp .And (b :: rest) pos) mu) : SndW X (.BoolOp .And (a :: b :: rest) pos) (tAnd' mt mu) := fun {_ _ _ _ _ _ _ _} I h =>
  ⟨_, pw_and pt_wp pw_wp, ha I (T.all_mono (fun k hk H2 e => by
    cases k with
    | true => exact iteT (hb (I.ext e) (T.all_mono (fun _ q H3 e3 => q H3 (e.trans e3)) hk))
    | false => exact iteF (hk H2 e)) (T.all_bind.mp h))⟩
theorem sw_or {rest : List Expr} (ha : SndT X a mt) (hb : SndW X (.BoolOp .Or (b :: rest) pos) mu) : SndW X (.BoolOp .Or (a :: b :: rest) pos) (tOr' mt mu) := fun {_ _ _ _ _ _ _ _} I h =>
  ⟨_, pw_or pt_wp pw_wp, ha I (T.all_mono (fun k hk H2 e => by
    cases k with
    | true => exact iteT (hk H2 e)
    | false => exact iteF (hb (I.ext e) (T.all_mono (fun _ q H3 e3 => q H3 (e.trans e3)) hk))) (T.all_bind.mp h))⟩
theorem st_w (h : SndW X a mt) : SndT X a mt := fun {_ _ _ _ _ _ _ _} I q => ⟨_, pw_wp.pt, h I q⟩
theorem s_one {op} (ha : Snd X a m) : Snd X (.BoolOp op [a] pos) m := fun {_ _ _ _ _ _ _ _} I h => ⟨_, pe_one pe_wp, ha I h⟩
theorem s_and {rest : List Expr} (ha : Snd X a ma) (hb : Snd X (.BoolOp .And (b :: rest) pos) mb) : Snd X (.BoolOp .And (a :: b :: rest) pos) (eAnd ma mb) := fun {_ _ _ _ _ _ _ _} I h =>
  ⟨_, pe_and pe_wp pe_wp, ha I (T.all_mono (fun d hd v H2 e r => by
    obtain ⟨k, rfl, q⟩ := asB_all (T.all_bind.mp hd)
    refine ⟨k, r.bool, ?_⟩
    cases k with
    | true => exact iteT (hb (I.ext e) (T.all_mono (fun _ q => q.up e) q))
    | false => exact iteF (q _ H2 e (.bl false))) (T.all_bind.mp h))⟩
theorem s_or {rest : List Expr} (ha : Snd X a ma) (hb : Snd X (.BoolOp .Or (b :: rest) pos) mb) : Snd X (.BoolOp .Or (a :: b :: rest) pos) (eOr ma mb) := fun {_ _ _ _ _ _ _ _} I h =>
  ⟨_, pe_or pe_wp pe_wp, ha I (T.all_mono (fun d hd v H2 e r => by
    obtain ⟨k, rfl, q⟩ := asB_all (T.all_bind.mp hd)
    refine ⟨k, r.bool, ?_⟩
    cases k with
    | true => exact iteT (q _ H2 e (.bl true))
    | false => exact iteF (hb (I.ext e) (T.all_mono (fun _ q => q.up e) q))) (T.all_bind.mp h))⟩
theorem s_not (ha : Snd X a ma) : Snd X (.UnaryOp .Not a pos) (eNot ma) := fun {_ _ _ _ _ _ _ _} I h =>
  ⟨_, pe_not pe_wp, ha I (T.all_mono (fun d hd v H2 e r => by
    obtain ⟨k, rfl, q⟩ := asB_all (T.all_bind.mp hd)
    exact ⟨k, r.bool, q _ H2 e (.bl _)⟩) (T.all_bind.mp h))⟩
theorem s_if (hc : SndT X c mt) (ha : Snd X a ma) (hb : Snd X b mb) : Snd X (.IfExp c a b pos) (eIf mt ma mb) := fun {_ _ _ _ _ _ _ _} I h =>
  ⟨_, pe_ifExp pt_wp pe_wp pe_wp, hc I (T.all_mono (fun k hk H2 e => by
    cases k with
    | true => exact iteT (ha (I.ext e) (T.all_mono (fun _ q => q.up e) hk))
    | false => exact iteF (hb (I.ext e) (T.all_mono (fun _ q => q.up e) hk))) (T.all_bind.mp h))⟩

/-! ### argument lists, displays, calls -/
theorem sa_nil : SndA X [] aNil := fun {_ _ _ _ _ _ _ _} I h => ⟨_, pa_nil, h _ _ (Ex.refl I.hn.pot) .nil⟩
theorem sa_cons {ms : Rho → T (List D)} (ha : Snd X e m) (hr : SndA X es ms) (hs : starEach (e :: es) X.env = (false, eval e X.env) :: starEach es X.env := by rfl) : SndA X (e :: es) (aCons m ms) := fun {_ _ _ _ _ _ _ _} I h =>
  ⟨_, pa_cons pe_wp pa_wp hs, by
    refine ha I (T.all_mono (fun dx hx => ?_) (T.all_bind.mp h))
    intro v H1 e1 r1
    refine hr (I.ext e1) (T.all_mono (fun dy hy => ?_) (T.all_bind.mp hx))
    intro vs H2 e2 r2
    exact hy _ _ (e1.trans e2) (.cons (r1.mono e2.kp.hide) r2)⟩
theorem small_ok {K : PySem.W.Frag} {P : Program} {w : World} {π : Addr} {H : Hp} {vs : List V} {ds : List D} (r : RvL K P w π H vs ds) (h : small ds = true) : vs.length ≤ sizeLine := by
  rw [r.length]
  exact Nat.le_trans (of_decide_eq_true h) (by decide)
theorem cond_all {α : Type} {P : α → Prop} {b : Bool} {t : T α} (h : (cond b t .fail).all P) : b = true ∧ t.all P := by
  cases b with
  | true => exact ⟨rfl, h⟩
  | false => exact False.elim h
theorem s_tup {x1 ms} (h : SndA X es ms) : Snd X (.Tuple es x1 pos) (eTup ms) := fun {π N0 H0 N H σ ρ Q} I q => ⟨_, pe_tup pa_wp, h I (T.all_mono (fun ds hd vs H2 e r => by
  obtain ⟨hs, hd⟩ := cond_all hd
  refine ⟨small_ok r hs, fun p hp => ?_⟩
  have np := (I.hn.ext e).new hp
  exact hd _ _ (e.trans (Ex.new e.pot hp)) (.tup (hide_new np) (e.pot.ne hp) (r.mono (Ex.new e.pot hp).kp.hide))) (T.all_bind.mp q))⟩
theorem sl_lst {ms} (h : SndA X es ms) : SndL X (.List es pos) (lLst ms) := fun {π N0 H0 N H σ ρ Q} I q => ⟨_, pe_lst pa_wp, h I (T.all_mono (fun ds hd vs H2 e r => by
  obtain ⟨hs, hd⟩ := cond_all hd
  refine ⟨small_ok r hs, fun p hp => ?_⟩
  have hp0 : H p = none := by
    cases c : H p with
    | none => rfl
    | some o => rw [e.kp p o (e.pot.ne hp) c] at hp; cases hp
  exact hd p vs _ (e.trans (Ex.new e.pot hp)) hp0 upd_same (r.mono ((Ex.new e.pot hp).hidden hp))) (T.all_bind.mp q))⟩
/-- a new list as a value -/
theorem s_ofL {ml : Rho → T (List D)} (h : SndL X e ml) : Snd X e (eL ml) := fun {π N0 H0 N H σ ρ Q} I q => h I (T.all_mono (fun ds hd l vs H2 e n h2 r => by
  have lpi := I.hn.pot.ne n
  have nl : N l = false := I.hn.new n
  exact hd (.ref l) H2 e (.lst (by rw [hide_in nl]; exact h2) lpi (r.mono (Kp.less fun a h => plus_old h)))) (T.all_bind.mp q))

/-! ### what a def promises -/
end
def spD (K : PySem.W.Frag) (P : Program) (w : World) (n : Nat) (F : List D → T D) : Sp := fun vs H Q _ => ∃ (π : Addr) (N : Addr → Bool) (ds : List D), HN π N H ∧ RvL K P w π (Hide N H) vs ds ∧ vs.length = n ∧
  (F ds).all fun d => ∀ v H', Ex π H H' → Rv K P w π (Hide N H') v d → Q v H'
section
variable {X : Cx} {a b c e : Expr} {es : List Expr} {ma mb m : Rho → T D} {mt mu : Rho → T Bool} {pos : Pos}
theorem s_call {k n : Nat} {f : Addr} {fd : FuncData} {ps : List Str} {F : List D → T D} {x : Str} {p : Pos} {ms : Rho → T (List D)} (G : FnOk X.prog X.w X.K X.mg X.base CX0 k f fd ps (spD X.K X.prog X.w n F)) (hr : Room k X.A) (hm : X.mg x = some (.ref f)) (hk : PySem.W.keepIn X.K (.ref f) = true) (hb : Binds X.K fd ps [])
    (ha : SndA X (e :: es) ms) (hg : Gl X x := by rfl) (hdb : (x == ("__debug__" : Str)) = false := by decide) (he : starEach (e :: es) X.env = (false, eval e X.env) :: starEach es X.env := by rfl) (hpl : (backTo pos (starEach es X.env)).any (·.1) = false := by rfl) :
    Snd X (.Call (.Name x p) (e :: es) [] pos) (eCall n F ms) := fun {π N0 H0 N H σ ρ Q} I h =>
  ⟨_, pe_call G hr hg hm hk hb .nil pass0 pa_wp hdb he hpl, ha I (T.all_mono (fun ds hd vs H2 e1 r => by
    obtain ⟨hn, hd⟩ := cond_all hd
    show spD X.K X.prog X.w n F (vs ++ []) H2 Q E0
    rw [List.append_nil]
    exact ⟨π, N, ds, I.hn.ext e1, r, by rw [r.length]; exact by simpa using hn, T.all_mono (fun d q v H3 e3 r3 => q v H3 (e1.trans e3) r3) hd⟩) (T.all_bind.mp h))⟩
theorem s_callB {id : String} {f : List D → T D} {x : Str} {p : Pos} {ms : Rho → T (List D)} (hc : CaSnd X (.builtin id) f) (hm : X.mg x = none) (hv : bootBuiltins x = some (.builtin id)) (ha : SndA X (e :: es) ms) (hg : Gl X x := by rfl) (hn : x ≠ "__name__" := by decide) (hdb : (x == ("__debug__" : Str)) = false := by decide)
    (he : starEach (e :: es) X.env = (false, eval e X.env) :: starEach es X.env := by rfl) (hpl : (backTo pos (starEach es X.env)).any (·.1) = false := by rfl) : Snd X (.Call (.Name x p) (e :: es) [] pos) (eCa f ms) := fun {_ _ _ _ _ _ _ _} I h =>
  ⟨_, pe_callB ca_wp hg hm hv pa_wp hn hdb he hpl, ha I (T.all_mono (fun ds hd vs H2 e1 r => hc (I.hn.ext e1) r (T.all_mono (fun _ q => q.up e1) hd)) (T.all_bind.mp h))⟩
theorem s_callTy {id : String} {f : List D → T D} {x : Str} {p : Pos} {ms : Rho → T (List D)} (hc : CaSnd X (.type id) f) (hm : X.mg x = none) (hv : bootBuiltins x = some (.type id)) (ha : SndA X (e :: es) ms) (hg : Gl X x := by rfl) (hn : x ≠ "__name__" := by decide) (hdb : (x == ("__debug__" : Str)) = false := by decide)
    (he : starEach (e :: es) X.env = (false, eval e X.env) :: starEach es X.env := by rfl) (hpl : (backTo pos (starEach es X.env)).any (·.1) = false := by rfl) : Snd X (.Call (.Name x p) (e :: es) [] pos) (eCa f ms) := fun {_ _ _ _ _ _ _ _} I h =>
  ⟨_, pe_callTy ca_wp hg hm hv pa_wp hn hdb he hpl, ha I (T.all_mono (fun ds hd vs H2 e1 r => hc (I.hn.ext e1) r (T.all_mono (fun _ q => q.up e1) hd)) (T.all_bind.mp h))⟩
theorem sl_callB {id : String} {f : List D → T (List D)} {x : Str} {p : Pos} {ms : Rho → T (List D)} (hc : CaSndL X (.builtin id) f) (hm : X.mg x = none) (hv : bootBuiltins x = some (.builtin id)) (ha : SndA X (e :: es) ms) (hg : Gl X x := by rfl) (hn : x ≠ "__name__" := by decide) (hdb : (x == ("__debug__" : Str)) = false := by decide)
    (he : starEach (e :: es) X.env = (false, eval e X.env) :: starEach es X.env := by rfl) (hpl : (backTo pos (starEach es X.env)).any (·.1) = false := by rfl) : SndL X (.Call (.Name x p) (e :: es) [] pos) (lCa f ms) := fun {_ _ _ _ _ _ _ _} I h =>
  ⟨_, pe_callB ca_wp hg hm hv pa_wp hn hdb he hpl, ha I (T.all_mono (fun ds hd vs H2 e1 r => hc (I.hn.ext e1) r (T.all_mono (fun _ q => q.up e1 I.hn.pot) hd)) (T.all_bind.mp h))⟩
theorem sl_callTy {id : String} {f : List D → T (List D)} {x : Str} {p : Pos} {ms : Rho → T (List D)} (hc : CaSndL X (.type id) f) (hm : X.mg x = none) (hv : bootBuiltins x = some (.type id)) (ha : SndA X (e :: es) ms) (hg : Gl X x := by rfl) (hn : x ≠ "__name__" := by decide) (hdb : (x == ("__debug__" : Str)) = false := by decide)
    (he : starEach (e :: es) X.env = (false, eval e X.env) :: starEach es X.env := by rfl) (hpl : (backTo pos (starEach es X.env)).any (·.1) = false := by rfl) : SndL X (.Call (.Name x p) (e :: es) [] pos) (lCa f ms) := fun {_ _ _ _ _ _ _ _} I h =>
  ⟨_, pe_callTy ca_wp hg hm hv pa_wp hn hdb he hpl, ha I (T.all_mono (fun ds hd vs H2 e1 r => hc (I.hn.ext e1) r (T.all_mono (fun _ q => q.up e1 I.hn.pot) hd)) (T.all_bind.mp h))⟩
end
end Pd

namespace Pd
open PySem L2

mutual
theorem Rv.dp {K : PySem.W.Frag} {P : Program} {w : World} {π : Addr} {N : Addr → Bool} {H : Hp} : ∀ {d : D} {v : V} {p : PyData}, Rv K P w π (Hide N H) v d → d.py = some p → Dp K H v p
  | _, _, _, .non, h => by cases h; exact .non
  | _, _, _, .bl b, h => by cases h; exact .bl b
  | _, _, _, .int b, h => by cases h; exact .int b
  | _, _, _, .str b, h => by cases h; exact .str b
  | .tup ds, _, p, .tup a n r, h => by
    unfold D.py at h
    cases q : D.pys ds with
    | none => rw [q] at h; cases h
    | some ks => rw [q] at h; cases h; exact .tup (.inl (.inl (hide_some a).2)) (RvL.dp r q)
  | .tup ds, _, p, .tupK a r, h => by
    unfold D.py at h
    cases q : D.pys ds with
    | none => rw [q] at h; cases h
    | some ks => rw [q] at h; cases h; exact .tup (a _) (RvL.dp r q)
  | .lst ds, _, p, .lst a n r, h => by
    unfold D.py at h
    cases q : D.pys ds with
    | none => rw [q] at h; cases h
    | some ks => rw [q] at h; cases h; exact .lst (.inl (.inl (hide_some a).2)) (RvL.dp r q)
  | .dic _, _, _, .dic _ _ _, h => by unfold D.py at h; cases h
  | .pot, _, _, .pot, h => by unfold D.py at h; cases h
theorem RvL.dp {K : PySem.W.Frag} {P : Program} {w : World} {π : Addr} {N : Addr → Bool} {H : Hp} : ∀ {ds : List D} {vs : List V} {ps : List PyData}, RvL K P w π (Hide N H) vs ds → D.pys ds = some ps → DpAll K H vs ps
  | _, _, _, .nil, h => by unfold D.pys at h; cases h; exact .nil
  | d :: ds, _, ps, .cons r t, h => by
    unfold D.pys at h
    cases q : D.py d with
    | none => rw [q] at h; cases h
    | some k =>
      rw [q] at h
      cases q2 : D.pys ds with
      | none => rw [q2] at h; cases h
      | some ks => rw [q2] at h; cases h; exact .cons (Rv.dp r q) (RvL.dp t q2)
end

/-! ### operators by values -/
def opAdd : D → D → T D
  | .int i, .int j => .ret (.int (i + j))
  | .tup a, .tup b => cond (small (a ++ b)) (.ret (.tup (a ++ b))) .fail
  | .lst a, .lst b => cond (small (a ++ b)) (.ret (.lst (a ++ b))) .fail
  | .str x, .str y => cond (decide (x.length + y.length ≤ 100000)) (.ret (.str (x ++ y))) .fail
  | _, _ => .fail
def opSub : D → D → T D
  | .int i, .int j => .ret (.int (i - j))
  | _, _ => .fail
def lim64 (i : Int) : Bool := decide (-(2 ^ 64) < i) && decide (i < 2 ^ 64)
def rep (k : Nat) (a : List D) : List D := match k with
  | 0 => []
  | k + 1 => a ++ rep k a
def opMul : D → D → T D
  | .int i, .int j => cond (lim64 i || lim64 j) (.ret (.int (i * j))) .fail
  | .tup a, .int k => cond (decide (2 ≤ k) && decide (k ≤ 1000) && decide (a.length ≤ 100) && !a.isEmpty) (.ret (.tup (rep k.toNat a))) .fail
  | _, _ => .fail
def opFDiv : D → D → T D
  | .int i, .int j => cond (decide (0 < j) && decide (j < 1073741824)) (.ret (.int (i / j))) .fail
  | _, _ => .fail
def opMod : D → D → T D
  | .int i, .int j => cond (decide (0 < j)) (.ret (.int (i % j))) .fail
  | _, _ => .fail
def opPow : D → D → T D
  | .int i, .int j => cond (decide (0 ≤ j) && decide (j ≤ 1000) && decide (i.natAbs < 2 ^ 64)) (.ret (.int (i ^ j.toNat))) .fail
  | _, _ => .fail
def opI (f : Int → Int → Bool) : D → D → T D
  | .int i, .int j => .ret (.bl (f i j))
  | _, _ => .fail
def opLt := opI fun i j => decide (i < j)
def opLe := opI fun i j => decide (i ≤ j)
def opGt := opI fun i j => decide (j < i)
def opGe := opI fun i j => decide (j ≤ i)
def eqD (x y : D) : Option Bool := match x.py, y.py with
  | some p, some q => cond (SeqAt.shaped p && SeqAt.shaped q) (some (PyData.eqv p q)) none
  | _, _ => none
def opEq (x y : D) : T D := match eqD x y with
  | some b => .ret (.bl b)
  | none => .fail
def opNe (x y : D) : T D := match eqD x y with
  | some b => .ret (.bl (!b))
  | none => .fail
theorem eqD_some {x y : D} {b : Bool} (h : eqD x y = some b) : ∃ p q, x.py = some p ∧ y.py = some q ∧ SeqAt.shaped p = true ∧ SeqAt.shaped q = true ∧ PyData.eqv p q = b := by
  unfold eqD at h
  split at h
  · rename_i p q hp hq
    refine ⟨p, q, hp, hq, ?_⟩
    cases c : SeqAt.shaped p && SeqAt.shaped q with
    | false => rw [c] at h; cases h
    | true =>
      rw [c] at h
      have := Bool.and_eq_true_iff.mp c
      exact ⟨this.1, this.2, Option.some.inj h⟩
  · cases h

section
variable {X : Cx}
theorem Kd.new {π : Addr} {N : Addr → Bool} {H : Hp} {Q : VK} {vs : List V} {ds : List D} {p : Addr} (h : Kd X π N H Q (.tup ds)) (hn : HN π N H) (r : RvL X.K X.prog X.w π (Hide N H) vs ds) (hp : H p = none) : Q (.ref p) (upd H p (.tup vs)) :=
  h _ _ (Ex.new hn.pot hp) (.tup (hide_new (hn.new hp)) (hn.pot.ne hp) (r.mono (Ex.new hn.pot hp).kp.hide))
theorem Kd.newL {π : Addr} {N : Addr → Bool} {H : Hp} {Q : VK} {vs : List V} {ds : List D} {p : Addr} (h : Kd X π N H Q (.lst ds)) (hn : HN π N H) (r : RvL X.K X.prog X.w π (Hide N H) vs ds) (hp : H p = none) : Q (.ref p) (upd H p (.lst vs)) :=
  h _ _ (Ex.new hn.pot hp) (.lst (hide_new (hn.new hp)) (hn.pot.ne hp) (r.mono (Ex.new hn.pot hp).kp.hide))
theorem Kl.new {π : Addr} {N : Addr → Bool} {H : Hp} {Q : VK} {vs : List V} {ds : List D} {p : Addr} (h : Kl X π N H Q ds) (hn : HN π N H) (r : RvL X.K X.prog X.w π (Hide N H) vs ds) (hp : H p = none) : Q (.ref p) (upd H p (.lst vs)) :=
  h p vs _ (Ex.new hn.pot hp) hp upd_same (r.mono ((Ex.new hn.pot hp).hidden hp))
theorem RvL.nil_of {K : PySem.W.Frag} {P : Program} {w : World} {π : Addr} {H : Hp} {vs : List V} {ds : List D} (r : RvL K P w π H vs ds) : vs = [] ↔ ds = [] := by
  cases r with
  | nil => simp
  | cons _ _ => simp
theorem os_add : OpSnd X (binaryOp .Add) opAdd := fun {π N H x y dx dy Q} hn rx ry h => by
  unfold opAdd at h
  split at h
  · cases rx; cases ry
    exact ⟨_, op_add, _, _, rfl, rfl, h _ _ (Ex.refl hn.pot) (.int _)⟩
  · obtain ⟨hs, h⟩ := cond_all h
    obtain ⟨a, vs, rfl, ha, ra⟩ := rx.tupE
    obtain ⟨b, us, rfl, hb, rb⟩ := ry.tupE
    have hz : vs.length + us.length ≤ sizeLine := by
      have := small_ok (ra.append rb) hs
      rw [List.length_append] at this
      exact this
    refine ⟨_, op_catA, a, b, vs, us, rfl, rfl, ha, hb, hz, fun e => ?_, fun ne e => ?_, fun ne ne2 p hp => ?_⟩
    · have e' := ra.nil_of.mp e
      refine h _ _ (Ex.refl hn.pot) ?_
      rw [e', List.nil_append]
      exact ry
    · have e' := rb.nil_of.mp e
      refine h _ _ (Ex.refl hn.pot) ?_
      rw [e', List.append_nil]
      exact rx
    · exact Kd.new h hn (ra.append rb) hp
  · obtain ⟨hs, h⟩ := cond_all h
    obtain ⟨a, vs, rfl, ha, _, _, ra⟩ := rx.lstE
    obtain ⟨b, us, rfl, hb, _, _, rb⟩ := ry.lstE
    have hz : vs.length + us.length ≤ sizeLine := by
      have := small_ok (ra.append rb) hs
      rw [List.length_append] at this
      exact this
    exact ⟨_, op_cat, a, b, vs, us, rfl, rfl, ha, hb, hz, fun p hp => Kd.newL h hn (ra.append rb) hp⟩
  · obtain ⟨hs, h⟩ := cond_all h
    cases rx; cases ry
    exact ⟨_, op_add_str, _, _, rfl, rfl, Nat.le_trans (of_decide_eq_true hs) (by decide), h _ _ (Ex.refl hn.pot) (.str _)⟩
  · exact False.elim h
theorem os_sub : OpSnd X (binaryOp .Sub) opSub := fun {π N H x y dx dy Q} hn rx ry h => by
  unfold opSub at h
  split at h
  · cases rx; cases ry
    exact ⟨_, op_sub, _, _, rfl, rfl, h _ _ (Ex.refl hn.pot) (.int _)⟩
  · exact False.elim h
theorem rep_rv {K : PySem.W.Frag} {P : Program} {w : World} {π : Addr} {H : Hp} {vs : List V} {ds : List D} (r : RvL K P w π H vs ds) : ∀ k : Nat, RvL K P w π H (List.replicate k vs).flatten (rep k ds)
  | 0 => .nil
  | k + 1 => by
    show RvL K P w π H (List.replicate (k + 1) vs).flatten (ds ++ rep k ds)
    rw [List.replicate_succ, List.flatten_cons]
    exact r.append (rep_rv r k)
theorem os_mul : OpSnd X (binaryOp .Mult) opMul := fun {π N H x y dx dy Q} hn rx ry h => by
  unfold opMul at h
  split at h
  · cases rx; cases ry
    obtain ⟨hs, h⟩ := cond_all h
    refine ⟨_, op_mul, _, _, rfl, rfl, ?_, h _ _ (Ex.refl hn.pot) (.int _)⟩
    unfold lim64 at hs
    simp only [Bool.or_eq_true, Bool.and_eq_true, decide_eq_true_eq] at hs
    exact hs
  · obtain ⟨hs, h⟩ := cond_all h
    obtain ⟨a, vs, rfl, ha, ra⟩ := rx.tupE
    cases ry
    simp only [Bool.and_eq_true, decide_eq_true_eq, Bool.not_eq_true'] at hs
    obtain ⟨⟨⟨h1, h2⟩, h3⟩, h4⟩ := hs
    refine ⟨_, op_repT, a, _, vs, rfl, rfl, ha, fun e => ?_, h1, h2, by rw [ra.length]; omega, fun p hp => Kd.new h hn (rep_rv ra _) hp⟩
    rw [ra.nil_of.mp e] at h4
    cases h4
  · exact False.elim h
theorem os_fdiv : OpSnd X (binaryOp .FloorDiv) opFDiv := fun {π N H x y dx dy Q} hn rx ry h => by
  unfold opFDiv at h
  split at h
  · cases rx; cases ry
    obtain ⟨hs, h⟩ := cond_all h
    simp only [Bool.and_eq_true, decide_eq_true_eq] at hs
    exact ⟨_, op_fdiv, _, _, rfl, rfl, hs, h _ _ (Ex.refl hn.pot) (.int _)⟩
  · exact False.elim h
theorem os_mod : OpSnd X (binaryOp .Mod) opMod := fun {π N H x y dx dy Q} hn rx ry h => by
  unfold opMod at h
  split at h
  · cases rx; cases ry
    obtain ⟨hs, h⟩ := cond_all h
    simp only [decide_eq_true_eq] at hs
    exact ⟨_, op_mod, _, _, rfl, rfl, hs, h _ _ (Ex.refl hn.pot) (.int _)⟩
  · exact False.elim h
theorem os_pow : OpSnd X (binaryOp .Pow) opPow := fun {π N H x y dx dy Q} hn rx ry h => by
  unfold opPow at h
  split at h
  · cases rx; cases ry
    obtain ⟨hs, h⟩ := cond_all h
    simp only [Bool.and_eq_true, decide_eq_true_eq] at hs
    exact ⟨_, op_pow, _, _, rfl, rfl, ⟨hs.1.1, by omega, hs.2⟩, h _ _ (Ex.refl hn.pot) (.int _)⟩
  · exact False.elim h
theorem os_I {g : Value → Value → Sem Value} {f : Int → Int → Bool} (hr : OpR X g (rI0 fun i j => .bl (f i j))) : OpSnd X g (opI f) := fun {π N H x y dx dy Q} hn rx ry h => by
  unfold opI at h
  split at h
  · cases rx; cases ry
    exact ⟨_, hr, _, _, rfl, rfl, h _ _ (Ex.refl hn.pot) (.bl _)⟩
  · exact False.elim h
theorem os_lt : OpSnd X (compareOp .Lt) opLt := os_I op_lt
theorem os_le : OpSnd X (compareOp .LtE) opLe := os_I op_le
theorem os_gt : OpSnd X (compareOp .Gt) opGt := os_I op_gt
theorem os_ge : OpSnd X (compareOp .GtE) opGe := os_I op_ge
theorem os_eq (hu : X.A.units + 64 < cLine) : OpSnd X (compareOp .Eq) opEq := fun {π N H x y dx dy Q} hn rx ry h => by
  unfold opEq at h
  split at h
  · rename_i b e
    obtain ⟨p, q, hp, hq, sp, sq, rfl⟩ := eqD_some e
    exact ⟨_, op_eqD hu, p, q, rx.dp hp, ry.dp hq, sp, sq, h _ _ (Ex.refl hn.pot) (.bl _)⟩
  · exact False.elim h
theorem os_ne (hu : X.A.units + 64 < cLine) : OpSnd X (compareOp .NotEq) opNe := fun {π N H x y dx dy Q} hn rx ry h => by
  unfold opNe at h
  split at h
  · rename_i b e
    obtain ⟨p, q, hp, hq, sp, sq, rfl⟩ := eqD_some e
    exact ⟨_, op_neD hu, p, q, rx.dp hp, ry.dp hq, sp, sq, h _ _ (Ex.refl hn.pot) (.bl _)⟩
  · exact False.elim h

/-! ### built-ins by values -/
def bLen : List D → T D
  | [.tup ds] => .ret (.int ds.length)
  | [.lst ds] => .ret (.int ds.length)
  | _ => .fail
theorem cs_len : CaSnd X (.builtin "len") bLen := fun {π N H xs ds Q} hn r h => by
  unfold bLen at h
  split at h
  · cases r with
    | cons r t =>
      cases t
      obtain ⟨a, vs, rfl, ha, ra⟩ := r.tupE
      exact ⟨_, call_len_seq, a, vs, rfl, .inr ha, by rw [ra.length]; exact h _ _ (Ex.refl hn.pot) (.int _)⟩
  · cases r with
    | cons r t =>
      cases t
      obtain ⟨a, vs, rfl, ha, _, _, ra⟩ := r.lstE
      exact ⟨_, call_len_seq, a, vs, rfl, .inl (.inl (.inl ha)), by rw [ra.length]; exact h _ _ (Ex.refl hn.pot) (.int _)⟩
  · exact False.elim h
def bInt : List D → T D
  | [.int i] => .ret (.int i)
  | _ => .fail
theorem cs_int : CaSnd X (.type "int") bInt := fun {π N H xs ds Q} hn r h => by
  unfold bInt at h
  split at h
  · cases r with
    | cons r t =>
      cases t; cases r
      exact ⟨_, call_int1, .inl ⟨_, rfl, h _ _ (Ex.refl hn.pot) (.int _)⟩⟩
  · exact False.elim h
def bAbs : List D → T D
  | [.int i] => .ret (.int (if i < 0 then -i else i))
  | _ => .fail
theorem cs_abs : CaSnd X (.builtin "abs") bAbs := fun {π N H xs ds Q} hn r h => by
  unfold bAbs at h
  split at h
  · cases r with
    | cons r t =>
      cases t; cases r
      exact ⟨_, call_abs, _, rfl, h _ _ (Ex.refl hn.pot) (.int _)⟩
  · exact False.elim h
def bMin2 : List D → T D
  | [.int i, .int j] => .ret (.int (if j < i then j else i))
  | _ => .fail
theorem cs_min2 (hc : X.calm = true) : CaSnd X (.builtin "min") bMin2 := fun {π N H xs ds Q} hn r h => by
  unfold bMin2 at h
  split at h
  · cases r with
    | cons r t =>
      cases t with
      | cons r2 t =>
        cases t; cases r; cases r2
        exact ⟨_, call_min2 hc, _, _, rfl, h _ _ (Ex.refl hn.pot) (.int _)⟩
  · exact False.elim h
def bMax2 : List D → T D
  | [.int i, .int j] => .ret (.int (if j > i then j else i))
  | _ => .fail
theorem cs_max2 (hc : X.calm = true) : CaSnd X (.builtin "max") bMax2 := fun {π N H xs ds Q} hn r h => by
  unfold bMax2 at h
  split at h
  · cases r with
    | cons r t =>
      cases t with
      | cons r2 t =>
        cases t; cases r; cases r2
        exact ⟨_, call_max2 hc, _, _, rfl, h _ _ (Ex.refl hn.pot) (.int _)⟩
  · exact False.elim h
def bTuple : List D → T D
  | [.tup ds] => .ret (.tup ds)
  | [.lst ds] => .ret (.tup ds)
  | _ => .fail
theorem cs_tuple : CaSnd X (.type "tuple") bTuple := fun {π N H xs ds Q} hn r h => by
  unfold bTuple at h
  split at h
  · cases r with
    | cons r t =>
      cases t
      obtain ⟨a, vs, rfl, ha, ra⟩ := id r.tupE
      exact ⟨_, call_tuple_of, a, vs, rfl, .inr ⟨ha, h _ _ (Ex.refl hn.pot) r⟩⟩
  · cases r with
    | cons r t =>
      cases t
      obtain ⟨a, vs, rfl, ha, _, _, ra⟩ := id r.lstE
      exact ⟨_, call_tuple_of, a, vs, rfl, .inl ⟨.inl (.inl ha), fun l hl => Kd.new h hn ra hl⟩⟩
  · exact False.elim h
def bList : List D → T (List D)
  | [.tup ds] => .ret ds
  | [.lst ds] => .ret ds
  | _ => .fail
theorem cs_list : CaSndL X (.type "list") bList := fun {π N H xs ds Q} hn r h => by
  unfold bList at h
  split at h
  · cases r with
    | cons r t =>
      cases t
      obtain ⟨a, vs, rfl, ha, ra⟩ := id r.tupE
      exact ⟨_, call_list_of, a, vs, rfl, .inr ha, fun l hl => Kl.new h hn ra hl⟩
  · cases r with
    | cons r t =>
      cases t
      obtain ⟨a, vs, rfl, ha, _, _, ra⟩ := id r.lstE
      exact ⟨_, call_list_of, a, vs, rfl, .inl (.inl (.inl ha)), fun l hl => Kl.new h hn ra hl⟩
  · exact False.elim h
/-- the bools of a list -/
def bools : List D → Option (List Bool)
  | [] => some []
  | .bl b :: ds => match bools ds with
    | some bs => some (b :: bs)
    | none => none
  | _ => none
theorem bools_rv {K : PySem.W.Frag} {P : Program} {w : World} {π : Addr} {H : Hp} : ∀ {ds : List D} {vs : List V} {bs : List Bool}, RvL K P w π H vs ds → bools ds = some bs → vs = bs.map V.bl
  | _, _, bs, .nil, h => by cases h; rfl
  | .bl b :: ds, _, bs, .cons r t, h => by
    unfold bools at h
    cases q : bools ds with
    | none => rw [q] at h; cases h
    | some cs => rw [q] at h; cases h; rw [bools_rv t q, r.bool]; rfl
  | .int _ :: _, _, _, .cons _ _, h => by cases h
  | .non :: _, _, _, .cons _ _, h => by cases h
  | .str _ :: _, _, _, .cons _ _, h => by cases h
  | .tup _ :: _, _, _, .cons _ _, h => by cases h
  | .lst _ :: _, _, _, .cons _ _, h => by cases h
  | .dic _ :: _, _, _, .cons _ _, h => by cases h
  | .pot :: _, _, _, .cons _ _, h => by cases h
def bAll : List D → T D
  | [.lst ds] => match bools ds with
    | some bs => .ret (.bl (bs.all id))
    | none => .fail
  | _ => .fail
theorem cs_all (hc : X.calm = true) : CaSnd X (.builtin "all") bAll := fun {π N H xs ds Q} hn r h => by
  unfold bAll at h
  split at h
  · cases r with
    | cons r t =>
      cases t
      split at h
      · rename_i bs e
        obtain ⟨a, vs, rfl, ha, _, _, ra⟩ := id r.lstE
        exact ⟨_, cr_all hc, a, bs, rfl, by rw [← bools_rv ra e]; exact .inl (.inl ha), h _ _ (Ex.refl hn.pot) (.bl _)⟩
      · exact False.elim h
  · exact False.elim h
def intsOf : List D → Option (List Int)
  | [] => some []
  | .int b :: ds => match intsOf ds with
    | some bs => some (b :: bs)
    | none => none
  | _ => none
theorem ints_rv {K : PySem.W.Frag} {P : Program} {w : World} {π : Addr} {H : Hp} : ∀ {ds : List D} {vs : List V} {bs : List Int}, RvL K P w π H vs ds → intsOf ds = some bs → vs = bs.map V.int
  | _, _, bs, .nil, h => by cases h; rfl
  | .int b :: ds, _, bs, .cons r t, h => by
    unfold intsOf at h
    cases q : intsOf ds with
    | none => rw [q] at h; cases h
    | some cs => rw [q] at h; cases h; rw [ints_rv t q, r.intE]; rfl
  | .bl _ :: _, _, _, .cons _ _, h => by cases h
  | .non :: _, _, _, .cons _ _, h => by cases h
  | .str _ :: _, _, _, .cons _ _, h => by cases h
  | .tup _ :: _, _, _, .cons _ _, h => by cases h
  | .lst _ :: _, _, _, .cons _ _, h => by cases h
  | .dic _ :: _, _, _, .cons _ _, h => by cases h
  | .pot :: _, _, _, .cons _ _, h => by cases h
def sumI : List Int → Int
  | [] => 0
  | i :: is => i + sumI is
theorem sumI_eq : ∀ l : List Int, sumI l = l.sum
  | [] => rfl
  | i :: is => by rw [List.sum_cons, ← sumI_eq is]; rfl
def bSum : List D → T D
  | [.lst ds] => match intsOf ds with
    | some bs => .ret (.int (sumI bs))
    | none => .fail
  | _ => .fail
theorem cs_sum (hc : X.calm = true) : CaSnd X (.builtin "sum") bSum := fun {π N H xs ds Q} hn r h => by
  unfold bSum at h
  split at h
  · cases r with
    | cons r t =>
      cases t
      split at h
      · rename_i bs e
        obtain ⟨a, vs, rfl, ha, _, _, ra⟩ := id r.lstE
        exact ⟨_, cr_sum hc, a, bs, rfl, by rw [← ints_rv ra e]; exact .inl (.inl ha), by rw [← sumI_eq]; exact h _ _ (Ex.refl hn.pot) (.int _)⟩
      · exact False.elim h
  · exact False.elim h

/-! ### places, slices -/
def ixL (ds : List D) (d : D) : T D := match d with
  | .int i => match atI ds i with
    | some d => .ret d
    | none => .fail
  | _ => .fail
def ixD (x d : D) : T D := match x with
  | .tup ds => ixL ds d
  | .lst ds => ixL ds d
  | _ => .fail
theorem ixL_all {P : D → Prop} {ds : List D} {d : D} (h : (ixL ds d).all P) : ∃ i z, d = .int i ∧ atI ds i = some z ∧ P z := by
  cases d with
  | int i =>
    unfold ixL at h
    simp only [] at h
    cases c : atI ds i with
    | none => rw [c] at h; exact False.elim h
    | some z => rw [c] at h; exact ⟨i, z, rfl, c, h⟩
  | _ => exact False.elim h
theorem atI_rv {K : PySem.W.Frag} {P : Program} {w : World} {π : Addr} {H : Hp} {ds : List D} {vs : List V} {i : Int} {d : D} (r : RvL K P w π H vs ds) (h : atI ds i = some d) : ∃ v, atI vs i = some v ∧ Rv K P w π H v d := by
  unfold atI at h ⊢
  rw [r.length]
  obtain ⟨j, hj, h⟩ := Option.bind_eq_some_iff.mp h
  obtain ⟨v, hv, rv⟩ := r.get h
  exact ⟨v, Option.bind_eq_some_iff.mpr ⟨j, hj, hv⟩, rv⟩
variable {a b e : Expr} {ma mb : Rho → T D} {pos : Pos}
def wpIx (X : Cx) : R2 := fun x y H Q => ∃ r, IxR X r ∧ r x y H Q
theorem ix_wp : IxR X (wpIx X) := fun value slice pins s σ H x y v u Q I rx ry ⟨_, h, q⟩ hs => h value slice pins s σ H x y v u Q I rx ry q hs
theorem s_ix (ha : Snd X a ma) (hb : Snd X b mb) (hs : PlainIx b) : Snd X (.Subscript a b pos) (eBin ixD ma mb) := fun {π N0 H0 N H σ ρ Q} I h => ⟨_, pe_ix ix_wp pe_wp pe_wp hs, by
  refine ha I (T.all_mono (fun dx hx => ?_) (T.all_bind.mp h))
  intro v H1 e1 r1
  refine hb (I.ext e1) (T.all_mono (fun dy hy => ?_) (T.all_bind.mp hx))
  intro u H2 e2 r2
  have hn := I.hn.ext (e1.trans e2)
  have r1 := r1.mono e2.kp.hide
  cases dx with
  | tup ds =>
    obtain ⟨i, z, rfl, ez, hy⟩ := ixL_all hy
    cases r2
    obtain ⟨a, vs, rfl, ha, ra⟩ := r1.tupE
    obtain ⟨z', hz, rz⟩ := atI_rv ra ez
    exact ⟨_, ix_tup, a, vs, _, z', rfl, rfl, ha, hz, hy _ _ (e1.trans e2) rz⟩
  | lst ds =>
    obtain ⟨i, z, rfl, ez, hy⟩ := ixL_all hy
    cases r2
    obtain ⟨a, vs, rfl, ha, _, _, ra⟩ := r1.lstE
    obtain ⟨z', hz, rz⟩ := atI_rv ra ez
    exact ⟨_, ix_list, a, vs, _, z', rfl, rfl, .inl (.inl ha), hz, hy _ _ (e1.trans e2) rz⟩
  | _ => exact False.elim hy⟩
/-- an own list's item -/
def ixOwn (i : Nat) (mb : Rho → T D) : Rho → T D := fun ρ => match ρ[i]? with
  | some (.own ds) => (mb ρ).bind fun y => ixL ds y
  | _ => .fail
theorem s_ixOwn (i : Nat) {x : Str} {p : Pos} (hb : Snd X b mb) (hs : PlainIx b) (hN : X.N[i]? = some x := by rfl) (hv : Vis X.env.scope x := by first | exact Or.inl rfl | exact Or.inr (Or.inl rfl) | exact Or.inr (Or.inr rfl)) (hd : (x == ("__debug__" : Str)) = false := by decide)
    (hcd : (x == ("__classdict__" : Str)) = false := by decide) : Snd X (.Subscript (.Name x p) b pos) (ixOwn i mb) := fun {π N0 H0 N H σ ρ Q} I h => by
  unfold ixOwn at h
  split at h
  · rename_i ds c
    obtain ⟨l, vs, hs1, nl, n0, hl, rl⟩ := I.lst i ds c
    refine ⟨_, pe_ix ix_list (pe_var hN hv hd hcd) pe_wp hs, .ref l, hs1, ?_⟩
    refine hb I (T.all_mono (fun dy hy => ?_) (T.all_bind.mp h))
    intro u H2 e2 r2
    obtain ⟨i, z, rfl, ez, hy⟩ := ixL_all hy
    cases r2
    obtain ⟨z', hz, rz⟩ := atI_rv (rl.mono e2.kp.hide) ez
    exact ⟨l, vs, _, z', rfl, rfl, .inl (.inl (e2.kp l _ (N_ne I.hn nl) hl)), hz, hy _ _ e2 rz⟩
  · exact False.elim h
/-- len of an own list -/
def lenOwn (i : Nat) : Rho → T D := fun ρ => match ρ[i]? with
  | some (.own ds) => .ret (.int ds.length)
  | _ => .fail
theorem s_lenOwn (i : Nat) {x : Str} {p p2 : Pos} (hm : X.mg "len" = none) (hg : Gl X "len" := by rfl) (hN : X.N[i]? = some x := by rfl) (hv : Vis X.env.scope x := by first | exact Or.inl rfl | exact Or.inr (Or.inl rfl) | exact Or.inr (Or.inr rfl)) (hd : (x == ("__debug__" : Str)) = false := by decide)
    (hcd : (x == ("__classdict__" : Str)) = false := by decide) (he : starEach [.Name x p] X.env = (false, eval (.Name x p) X.env) :: starEach [] X.env := by rfl) (hpl : (backTo pos (starEach [] X.env)).any (·.1) = false := by rfl) : Snd X (.Call (.Name "len" p2) [.Name x p] [] pos) (lenOwn i) := fun {π N0 H0 N H σ ρ Q} I h => by
  unfold lenOwn at h
  split at h
  · rename_i ds c
    obtain ⟨l, vs, hs1, nl, n0, hl, rl⟩ := I.lst i ds c
    refine ⟨_, pe_callB call_len_seq hg hm PySem.boot_len (pa_cons (pe_var hN hv hd hcd) pa_nil he) (by decide) (by decide) he hpl, .ref l, hs1, l, vs, rfl, .inl (.inl (.inl hl)), ?_⟩
    rw [rl.length]
    exact h _ _ (Ex.refl I.hn.pot) (.int _)
  · exact False.elim h
/-! slices -/
def oNo : Rho → T (Option Int) := fun _ => .ret none
def oPart (m : Rho → T D) : Rho → T (Option Int) := fun ρ => (m ρ).bind fun d => match d with
  | .int i => .ret (some i)
  | _ => .fail
def SndO (X : Cx) (e : Option Expr) (m : Rho → T (Option Int)) : Prop := ∀ ⦃π : Addr⦄ ⦃N0 : Addr → Bool⦄ ⦃H0 : Hp⦄ ⦃N : Addr → Bool⦄ ⦃H : Hp⦄ ⦃σ : L2.St⦄ ⦃ρ : Rho⦄ ⦃Q : Option Int → Hp → Prop⦄, EnvOk X.K X.prog X.w π N0 H0 N H σ ρ → (m ρ).all (fun b => ∀ H2, Ex π H H2 → Q b H2) → ∃ t, PO X e t ∧ t σ H Q
theorem so_no : SndO X none oNo := fun {_ _ _ _ _ _ _ _} I h => ⟨_, po_none, h _ (Ex.refl I.hn.pot)⟩
theorem so_some (ha : Snd X a ma) : SndO X (some a) (oPart ma) := fun {_ _ _ _ _ _ _ _} I h => ⟨_, po_some pe_wp, ha I (T.all_mono (fun d hd v H2 e r => by
  cases d <;> first | exact False.elim hd | (cases r; exact ⟨_, rfl, hd _ e⟩)) (T.all_bind.mp h))⟩
def wpO (X : Cx) (e : Option Expr) : TO := fun σ H Q => ∃ t, PO X e t ∧ t σ H Q
theorem po_wp {e : Option Expr} : PO X e (wpO X e) := ⟨fun pins s σ H Q I ⟨_, h, q⟩ => h.run pins s σ H Q I q⟩
def cutD (xs : List D) (lo hi : Option Int) : List D := (xs.drop (HT.sIx xs.length 0 lo)).take (HT.sIx xs.length xs.length hi - HT.sIx xs.length 0 lo)
def slD (d : D) (lo hi : Option Int) : T D := match d with
  | .tup ds => .ret (.tup (cutD ds lo hi))
  | .lst ds => .ret (.lst (cutD ds lo hi))
  | _ => .fail
def eSl (m : Rho → T D) (ml mh : Rho → T (Option Int)) : Rho → T D := fun ρ => (m ρ).bind fun d => (ml ρ).bind fun l => (mh ρ).bind fun u => slD d l u
theorem cut_rv {K : PySem.W.Frag} {P : Program} {w : World} {π : Addr} {H : Hp} {ds : List D} {vs : List V} {lo hi : Option Int} (r : RvL K P w π H vs ds) : RvL K P w π H (cutV vs lo hi) (cutD ds lo hi) := by
  unfold cutV cutD
  rw [r.length]
  exact (r.drop _).take _
theorem sIx_le : ∀ (n d : Nat) (o : Option Int), d ≤ n → HT.sIx n d o ≤ n := fun n d o h => by
  cases o with
  | none => exact h
  | some i => unfold HT.sIx; simp only []; split <;> (try split) <;> omega
theorem cut_whole {xs : List D} {lo hi : Option Int} (h : HT.sIx xs.length 0 lo = 0 ∧ HT.sIx xs.length xs.length hi = xs.length) : cutD xs lo hi = xs := by
  unfold cutD
  rw [h.1, h.2, List.drop_zero, Nat.sub_zero, List.take_length]
def wpSl (X : Cx) : V → Option Int → Option Int → Hp → VK → Prop := fun x l u H Q => ∃ r, SlR X r ∧ r x l u H Q
theorem sl_wp : SlR X (wpSl X) := fun pins s σ H x v vl vu lo hi sl Q I rx hs pl pu ⟨_, h, q⟩ => h pins s σ H x v vl vu lo hi sl Q I rx hs pl pu q
theorem s_sl {lo hi : Option Expr} {ml mh : Rho → T (Option Int)} {p2 : Pos} (ha : Snd X a ma) (hl : SndO X lo ml) (hh : SndO X hi mh) : Snd X (.Subscript a (.Slice lo hi none p2) pos) (eSl ma ml mh) := fun {π N0 H0 N H σ ρ Q} I h => ⟨_, pe_slice sl_wp pe_wp po_wp po_wp, by
  refine ha I (T.all_mono (fun dx hx => ?_) (T.all_bind.mp h))
  intro v H1 e1 r1
  refine hl (I.ext e1) (T.all_mono (fun l hl => ?_) (T.all_bind.mp hx))
  intro H2 e2
  refine hh (I.ext (e1.trans e2)) (T.all_mono (fun u hu => ?_) (T.all_bind.mp hl))
  intro H3 e3
  have e := (e1.trans e2).trans e3
  have hn := I.hn.ext e
  have r1 := r1.mono (e2.trans e3).kp.hide
  unfold slD at hu
  split at hu
  · obtain ⟨a, vs, rfl, ha, ra⟩ := id r1.tupE
    refine ⟨_, sl_tupA, a, vs, rfl, ha, fun w => ?_, fun w p hp => Kd.new (hu.up e) hn (cut_rv ra) hp⟩
    rw [ra.length] at w
    refine hu _ _ e ?_
    rw [cut_whole w]
    exact r1
  · obtain ⟨a, vs, rfl, ha, _, _, ra⟩ := id r1.lstE
    exact ⟨_, sl_list, a, vs, rfl, .inl (.inl ha), fun p hp => Kd.newL (hu.up e) hn (cut_rv ra) hp⟩
  · exact False.elim hu⟩
end
end Pd

namespace Pd
open PySem L2

inductive Out where
  | nx (ρ : Rho) | rt (d : D) | bk (ρ : Rho) | ct (ρ : Rho)
section
variable (X : Cx)
def OutOk (π : Addr) (N0 : Addr → Bool) (H0 : Hp) (De : Ends) : Out → Prop
  | .nx ρ => ∀ N H σ, EnvOk X.K X.prog X.w π N0 H0 N H σ ρ → De.nx σ H
  | .bk ρ => ∀ N H σ, EnvOk X.K X.prog X.w π N0 H0 N H σ ρ → De.bk σ H
  | .ct ρ => ∀ N H σ, EnvOk X.K X.prog X.w π N0 H0 N H σ ρ → De.ct σ H
  | .rt d => ∀ v H, Ex π H0 H → Rv X.K X.prog X.w π (Hide N0 H) v d → De.rt v H
def SndS (st : Stmt) (m : Rho → T Out) : Prop := ∀ ⦃π : Addr⦄ ⦃N0 : Addr → Bool⦄ ⦃H0 : Hp⦄ ⦃N : Addr → Bool⦄ ⦃H : Hp⦄ ⦃σ : L2.St⦄ ⦃ρ : Rho⦄ ⦃De : Ends⦄, EnvOk X.K X.prog X.w π N0 H0 N H σ ρ → (m ρ).all (OutOk X π N0 H0 De) → wpS X st De σ H
def SndB (sts : List Stmt) (m : Rho → T Out) : Prop := ∀ ⦃π : Addr⦄ ⦃N0 : Addr → Bool⦄ ⦃H0 : Hp⦄ ⦃N : Addr → Bool⦄ ⦃H : Hp⦄ ⦃σ : L2.St⦄ ⦃ρ : Rho⦄ ⦃De : Ends⦄, EnvOk X.K X.prog X.w π N0 H0 N H σ ρ → (m ρ).all (OutOk X π N0 H0 De) → wpSs X sts De σ H
def SndG (tg : Expr) (g : D → Rho → T Rho) : Prop := ∀ ⦃π : Addr⦄ ⦃N0 : Addr → Bool⦄ ⦃H0 : Hp⦄ ⦃N : Addr → Bool⦄ ⦃H : Hp⦄ ⦃σ : L2.St⦄ ⦃ρ : Rho⦄ ⦃v : V⦄ ⦃d : D⦄ ⦃Q : L2.St → Hp → Prop⦄, EnvOk X.K X.prog X.w π N0 H0 N H σ ρ → Rv X.K X.prog X.w π (Hide N H) v d →
  (g d ρ).all (fun ρ' => ∀ σ', EnvOk X.K X.prog X.w π N0 H0 N H σ' ρ' → Q σ' H) → wpG X tg v σ H Q
def SndGs (tgs : List Expr) (g : List D → Rho → T Rho) : Prop := ∀ ⦃π : Addr⦄ ⦃N0 : Addr → Bool⦄ ⦃H0 : Hp⦄ ⦃N : Addr → Bool⦄ ⦃H : Hp⦄ ⦃σ : L2.St⦄ ⦃ρ : Rho⦄ ⦃vs : List V⦄ ⦃ds : List D⦄ ⦃Q : L2.St → Hp → Prop⦄, EnvOk X.K X.prog X.w π N0 H0 N H σ ρ → RvL X.K X.prog X.w π (Hide N H) vs ds →
  (g ds ρ).all (fun ρ' => ∀ σ', EnvOk X.K X.prog X.w π N0 H0 N H σ' ρ' → Q σ' H) → ∃ t, PGs X tgs t ∧ t vs σ H Q
/-- J walks the data ds, wherever what was seen stands -/
def Walk (π : Addr) (B : Hp) (J : It) (ds : List D) : Prop := ∀ (N : Addr → Bool) (H : Hp) (i : Nat), HN π N H → Kp π B (Hide N H) →
  (∀ d, ds[i]? = some d → J.go i H ∧ ∀ x H', J.yld i H x H' → Ex π H H' ∧ Rv X.K X.prog X.w π (Hide N H') x d) ∧ (i = ds.length → J.stop i H)
def SndI (tg it : Expr) (m : Rho → T (List D)) : Prop := ∀ ⦃π : Addr⦄ ⦃N0 : Addr → Bool⦄ ⦃H0 : Hp⦄ ⦃N : Addr → Bool⦄ ⦃H : Hp⦄ ⦃σ : L2.St⦄ ⦃ρ : Rho⦄ ⦃R : It → Hp → Prop⦄, EnvOk X.K X.prog X.w π N0 H0 N H σ ρ →
  (m ρ).all (fun ds => ∀ J H2, Ex π H H2 → Walk X π (Hide N H2) J ds → R J H2) → wpI X tg it σ H R
end

def bNil : Rho → T Out := fun ρ => .ret (.nx ρ)
def bSeq (m1 m2 : Rho → T Out) : Rho → T Out := fun ρ => (m1 ρ).bind fun o => match o with
  | .nx ρ' => m2 ρ'
  | .rt d => .ret (.rt d)
  | .bk ρ' => .ret (.bk ρ')
  | .ct ρ' => .ret (.ct ρ')
def bFreeze (i : Nat) (m : Rho → T Out) : Rho → T Out := fun ρ => match ρ[i]? with
  | some (.own ds) => m (ρ.set i (.val (.lst ds)))
  | _ => m ρ
def bFreezeD (i : Nat) (m : Rho → T Out) : Rho → T Out := fun ρ => match ρ[i]? with
  | some (.ownD kvs) => m (ρ.set i (.val (.dic kvs)))
  | _ => m ρ
def sSet (i : Nat) (m : Rho → T D) : Rho → T Out := fun ρ => (m ρ).bind fun d => .ret (.nx (ρ.set i (.val d)))
def sOwn (i : Nat) (m : Rho → T (List D)) : Rho → T Out := fun ρ => (m ρ).bind fun ds => .ret (.nx (ρ.set i (.own ds)))
def sRet (m : Rho → T D) : Rho → T Out := fun ρ => (m ρ).bind fun d => .ret (.rt d)
def sExpr (m : Rho → T D) : Rho → T Out := fun ρ => (m ρ).bind fun _ => .ret (.nx ρ)
def sIf (mt : Rho → T Bool) (m1 m2 : Rho → T Out) : Rho → T Out := fun ρ => (mt ρ).bind fun b => cond b (m1 ρ) (m2 ρ)
def sFail : Rho → T Out := fun _ => .fail
def sApp (i : Nat) (m : Rho → T D) : Rho → T Out := fun ρ => match ρ[i]? with
  | some (.own ds) => (m ρ).bind fun d => cond (small ds) (.ret (.nx (ρ.set i (.own (ds ++ [d]))))) .fail
  | _ => .fail
def sAsg (g : D → Rho → T Rho) (m : Rho → T D) : Rho → T Out := fun ρ => (m ρ).bind fun d => (g d ρ).bind fun ρ' => .ret (.nx ρ')
def gNm (i : Nat) : D → Rho → T Rho := fun d ρ => .ret (ρ.set i (.val d))
def gsNil : List D → Rho → T Rho := fun ds ρ => match ds with
  | [] => .ret ρ
  | _ => .fail
def gsCons (g : D → Rho → T Rho) (gs : List D → Rho → T Rho) : List D → Rho → T Rho := fun ds ρ => match ds with
  | d :: ds => (g d ρ).bind fun ρ' => gs ds ρ'
  | [] => .fail
def gTp (n : Nat) (gs : List D → Rho → T Rho) : D → Rho → T Rho := fun d ρ => match d with
  | .tup ds => cond (ds.length == n) (gs ds ρ) .fail
  | _ => .fail
def forT (body : D → Rho → T Out) : List D → Rho → T Out
  | [], ρ => .ret (.nx ρ)
  | d :: ds, ρ => (body d ρ).bind fun o => match o with
    | .nx ρ' => forT body ds ρ'
    | .ct ρ' => forT body ds ρ'
    | .bk ρ' => .ret (.nx ρ')
    | .rt r => .ret (.rt r)
def sFor (mi : Rho → T (List D)) (g : D → Rho → T Rho) (body : Rho → T Out) : Rho → T Out := fun ρ => (mi ρ).bind fun ds => forT (fun d ρ => (g d ρ).bind body) ds ρ
def whT (mt : Rho → T Bool) (body : Rho → T Out) : Nat → Rho → T Out
  | 0, _ => .fail
  | f + 1, ρ => (mt ρ).bind fun b => cond b ((body ρ).bind fun o => match o with
    | .nx ρ' => whT mt body f ρ'
    | .ct ρ' => whT mt body f ρ'
    | .bk ρ' => .ret (.nx ρ')
    | .rt r => .ret (.rt r)) (.ret (.nx ρ))

section
variable {X : Cx} {st : Stmt} {sts rest : List Stmt} {a b c e : Expr} {ma mb m : Rho → T D} {mt : Rho → T Bool} {m1 m2 : Rho → T Out} {pos : Pos}
theorem b_nil : SndB X [] bNil := fun {_ _ _ _ _ _ _ _} I h => ⟨_, pss_nil, h _ _ _ I⟩
theorem b_cons (h1 : SndS X st m1) (h2 : SndB X rest m2) : SndB X (st :: rest) (bSeq m1 m2) := fun {π N0 H0 N H σ ρ De} I h =>
  ⟨_, pss_cons ps_wp pss_wp, h1 I (T.all_mono (fun o ho => by
    cases o with
    | nx ρ' => exact fun N' H' σ' I' => h2 I' ho
    | rt d => exact ho
    | bk ρ' => exact ho
    | ct ρ' => exact ho) (T.all_bind.mp h))⟩
theorem b_one (h1 : SndS X st m1) : SndB X [st] m1 := fun {_ _ _ _ _ _ _ _} I h => ⟨_, pss_one ps_wp, h1 I h⟩
theorem b_freeze (i : Nat) (h : SndB X sts m1) : SndB X sts (bFreeze i m1) := fun {π N0 H0 N H σ ρ De} I q => by
  unfold bFreeze at q
  split at q
  · obtain ⟨N', I'⟩ := I.freeze (by assumption)
    exact h I' q
  · exact h I q
theorem b_freezeD (i : Nat) (h : SndB X sts m1) : SndB X sts (bFreezeD i m1) := fun {π N0 H0 N H σ ρ De} I q => by
  unfold bFreezeD at q
  split at q
  · obtain ⟨l, xs, N', hl, I'⟩ := I.freezeD (by assumption)
    refine ⟨fun De σ H => ∃ l u, H l = some u ∧ Mut (some u) ∧ ∀ od, wpSs X sts De σ (upd H l (.frz od u)), ⟨fun pins s σ H De J z => ?_⟩, l, _, hl, True.intro, fun od => h (I' od) q⟩
    obtain ⟨l, u, hl, mu, z⟩ := z
    obtain ⟨od, J1⟩ := J.lock hl mu
    exact pss_wp.run pins s σ _ De J1 (z od)
  · exact h I q
theorem ss_set {i : Nat} {x : Str} {pos' : Pos} (hN : X.N.Nodup) (he : Snd X e m) (hi : X.N[i]? = some x := by rfl) (hx : Loc X.env.scope x := by first | exact .inl rfl | exact .inr rfl) (hs : swapsWith e (some (.Name x pos')) pos.line X.env = pure false := by rfl) (hf : X.fn x = true ∨ X.env.scope.names.lookup x = some .local := by first | exact .inl rfl | exact .inr rfl) :
    SndS X (.Assign [.Name x pos'] e pos) (sSet i m) := fun {π N0 H0 N H σ ρ De} I h => ⟨_, ps_set hN hi hx pe_wp hs hf, he I (T.all_mono (fun d hd => by intro v H2 e2 r; exact hd _ _ _ ((I.ext e2).set r)) (T.all_bind.mp h))⟩
theorem ss_own {i : Nat} {x : Str} {pos' : Pos} {ml : Rho → T (List D)} (hN : X.N.Nodup) (he : SndL X e ml) (hi : X.N[i]? = some x := by rfl) (hx : Loc X.env.scope x := by first | exact .inl rfl | exact .inr rfl) (hs : swapsWith e (some (.Name x pos')) pos.line X.env = pure false := by rfl) (hf : X.fn x = true ∨ X.env.scope.names.lookup x = some .local := by first | exact .inl rfl | exact .inr rfl) :
    SndS X (.Assign [.Name x pos'] e pos) (sOwn i ml) := fun {π N0 H0 N H σ ρ De} I h => ⟨_, ps_set hN hi hx pe_wp hs hf, he I (T.all_mono (fun ds hd => by intro l vs H2 e2 hl h2 r; exact hd _ _ _ (I.newAny e2 hl (by rw [h2]; exact fun z => by cases z) (.inl ⟨vs, ds, rfl, h2, r⟩))) (T.all_bind.mp h))⟩
theorem EnvOk.ret {π : Addr} {N0 N : Addr → Bool} {H0 H H2 : Hp} {σ : L2.St} {ρ : Rho} {v : V} {d : D} (I : EnvOk X.K X.prog X.w π N0 H0 N H σ ρ) (e : Ex π H H2) (r : Rv X.K X.prog X.w π (Hide N H2) v d) : Ex π H0 H2 ∧ Rv X.K X.prog X.w π (Hide N0 H2) v d :=
  ⟨⟨I.ex.trans e.kp, e.pot⟩, r.mono (Kp.less I.sub)⟩
theorem ss_ret (he : Snd X e m) : SndS X (.Return (some e) pos) (sRet m) := fun {π N0 H0 N H σ ρ De} I h => ⟨_, ps_ret pe_wp, he I (T.all_mono (fun d hd => by intro v H2 e2 r; exact hd v H2 (I.ret e2 r).1 (I.ret e2 r).2) (T.all_bind.mp h))⟩
theorem ss_retN : SndS X (.Return none pos) (sRet (eC .non)) := fun {π N0 H0 N H σ ρ De} I h => ⟨_, ps_retN, h .non H (I.ret (Ex.refl I.hn.pot) .non).1 .non⟩
theorem ss_expr (he : Snd X e m) (hs : swapsWith e none pos.line X.env = pure false := by rfl) : SndS X (.Expr e pos) (sExpr m) := fun {π N0 H0 N H σ ρ De} I h => ⟨_, ps_expr pe_wp hs, he I (T.all_mono (fun d hd => by intro v H2 e2 r; exact hd _ _ _ (I.ext e2)) (T.all_bind.mp h))⟩
theorem ss_if {xs ys : List Stmt} (hc : SndT X c mt) (ha : SndB X xs m1) (hb : SndB X ys m2) : SndS X (.If c xs ys pos) (sIf mt m1 m2) := fun {π N0 H0 N H σ ρ De} I h => ⟨_, ps_if pt_wp pss_wp pss_wp, hc I (T.all_mono (fun k hk H2 e2 => by
  cases k with
  | true => exact iteT (ha (I.ext e2) hk)
  | false => exact iteF (hb (I.ext e2) hk)) (T.all_bind.mp h))⟩
theorem ss_fail : SndS X st sFail := fun {_ _ _ _ _ _ _ _} _ h => False.elim h
theorem sb_fail : SndB X sts sFail := fun {_ _ _ _ _ _ _ _} _ h => False.elim h
theorem ss_pass : SndS X (.Pass pos) bNil := fun {_ _ _ _ _ _ _ _} I h => ⟨_, ps_pass, h _ _ _ I⟩
theorem ss_brk : SndS X (.Break pos) (fun ρ => .ret (.bk ρ)) := fun {_ _ _ _ _ _ _ _} I h => ⟨_, ps_break, h _ _ _ I⟩
theorem ss_ct : SndS X (.Continue pos) (fun ρ => .ret (.ct ρ)) := fun {_ _ _ _ _ _ _ _} I h => ⟨_, ps_continue, h _ _ _ I⟩
theorem ss_app {i : Nat} {x : Str} {p apos cpos : Pos} (he : Snd X e m) (hN : X.N[i]? = some x := by rfl) (hv : Vis X.env.scope x := by first | exact Or.inl rfl | exact Or.inr (Or.inl rfl) | exact Or.inr (Or.inr rfl)) (hd : (x == ("__debug__" : Str)) = false := by decide)
    (hcd : (x == ("__classdict__" : Str)) = false := by decide) (hse : starEach [e] X.env = (false, eval e X.env) :: starEach [] X.env := by rfl) (hpl : (backTo cpos (starEach [] X.env)).any (·.1) = false := by rfl)
    (hs : swapsWith (.Call (.Attribute (.Name x p) "append" apos) [e] [] cpos) none pos.line X.env = pure false := by rfl) (hfew : ((((backTo cpos (starEach [e] X.env)).all fun x => !x.fst) && (backToKw cpos (keywordEach [] X.env)).all fun x => x.fst.isSome) && decide (([e].length + ([] : List Keyword).length + if ([] : List Keyword).isEmpty = true then 0 else 1) < 30)) = true := by rfl) (hline : (apos.endLine == cpos.line) = true := by rfl) : SndS X (.Expr (.Call (.Attribute (.Name x p) "append" apos) [e] [] cpos) pos) (sApp i m) := fun {π N0 H0 N H σ ρ De} I h => by
  unfold sApp at h
  split at h
  · rename_i ds c
    obtain ⟨l, vs, hs1, nl, n0, hl, rl⟩ := I.lst i ds c
    refine ⟨_, ps_expr (pe_bm PySem.F.plainAttrs_list PySem.F.slot_list_append PySem.F.type_list_append mt_append (pe_var hN hv hd hcd) (pa_cons pe_wp pa_nil hse) (hfew := hfew) (hline := hline) (hs := hse) (hplain := hpl)) hs, .ref l, hs1, .inl ⟨rfl, _, SqL.of hl⟩, ?_⟩
    refine he I (T.all_mono (fun d hd => ?_) (T.all_bind.mp h))
    intro v H2 e2 r
    obtain ⟨hsm, hd⟩ := cond_all hd
    have hl2 := e2.kp l _ (N_ne I.hn nl) hl
    refine ⟨l, vs, v, rfl, rfl, hl2, ?_, ?_⟩
    · rw [rl.length]
      exact Nat.lt_of_le_of_lt (of_decide_eq_true hsm) (by decide)
    · exact hd _ _ _ ((I.ext e2).upAny c rfl hs1 nl n0 (.inl ⟨vs ++ [v], ds ++ [d], rfl, rfl, (rl.mono e2.kp.hide).append (.cons r .nil)⟩))
  · exact False.elim h
/-! targets -/
theorem g_name {i : Nat} {x : Str} (hN : X.N.Nodup) (hi : X.N[i]? = some x := by rfl) (hx : Loc X.env.scope x := by first | exact .inl rfl | exact .inr rfl) (hf : X.fn x = true ∨ X.env.scope.names.lookup x = some .local := by first | exact .inl rfl | exact .inr rfl | assumption) : SndG X (.Name x pos) (gNm i) := fun {_ _ _ _ _ _ _ _ _ _} I r h => ⟨_, pg_name hN hi hx hf, h _ (I.set r)⟩
theorem gs_nil : SndGs X [] gsNil := fun {π N0 H0 N H σ ρ vs ds Q} I r h => by
  cases r with
  | nil => exact ⟨_, pgs_nil, rfl, h _ I⟩
  | cons _ _ => exact False.elim h
theorem gs_cons {es : List Expr} {g : D → Rho → T Rho} {gs : List D → Rho → T Rho} (h1 : SndG X e g) (h2 : SndGs X es gs) (hs : (assignEach (e :: es) X.env).map (·.2) = assign e X.env :: (assignEach es X.env).map (·.2) := by rfl) : SndGs X (e :: es) (gsCons g gs) := fun {π N0 H0 N H σ ρ vs ds Q} I r h => by
  cases r with
  | nil => exact False.elim h
  | cons r t =>
    refine ⟨_, pgs_cons (u := fun vs σ H Q => ∃ t, PGs X es t ∧ t vs σ H Q) pg_wp ⟨fun pins s σ H vs us Q I r ⟨_, h, q⟩ => h.run pins s σ H vs us Q I r q⟩ hs, _, _, rfl, h1 I r (T.all_mono (fun ρ' hρ σ' I' => h2 I' t hρ) (T.all_bind.mp h))⟩
theorem g_tup {es : List Expr} {k n : Nat} {gs : List D → Rho → T Rho} (hc : X.calm = true) (h : SndGs X es gs) (hn : (assignEach es X.env).length = n := by rfl) (hst : (assignEach es X.env).findIdx? (·.1) = none := by rfl) : SndG X (.Tuple es k pos) (gTp n gs) := fun {π N0 H0 N H σ ρ v d Q} I r q => by
  unfold gTp at q
  split at q
  · obtain ⟨hl, q⟩ := cond_all q
    obtain ⟨a, vs, rfl, ha, ra⟩ := id r.tupE
    exact ⟨_, pg_tup (t := fun vs σ H Q => ∃ t, PGs X es t ∧ t vs σ H Q) hc ⟨fun pins s σ H vs us Q I r ⟨_, h, q⟩ => h.run pins s σ H vs us Q I r q⟩ hn hst, a, vs, rfl, ha, by rw [ra.length]; exact by simpa using hl, h I ra q⟩
  · exact False.elim q
theorem ss_asg {tg : Expr} {g : D → Rho → T Rho} (he : Snd X e m) (hg : SndG X tg g) (hs : swapsWithSole [tg] e pos.line X.env = pure false := by rfl) (hw : swappedStores [tg] e X.env = pure none := by rfl)
    (h1 : (assignEach [tg] X.env).map (·.2) = [assign tg X.env] := by rfl) : SndS X (.Assign [tg] e pos) (sAsg g m) := fun {π N0 H0 N H σ ρ De} I h => ⟨_, ps_asg pe_wp pg_wp hs hw h1, he I (T.all_mono (fun d hd => by intro v H2 e2 r; exact hg (I.ext e2) r (T.all_mono (fun ρ' q => by intro σ' I'; exact q _ _ _ I') (T.all_bind.mp hd))) (T.all_bind.mp h))⟩
/-! loops -/
theorem ss_for {tg it : Expr} {body : List Stmt} {mi : Rho → T (List D)} {g : D → Rho → T Rho} {mbd : Rho → T Out} (hp : PassesOwn (model X.prog X.w) X.A X.env X.xe) (hc : X.calm = true) (hi : SndI X tg it mi) (hg : SndG X tg g) (hb : SndB X body mbd)
    (hs : ∀ x, foldedSetIterable it X.env x = pure x := by intro _; rfl) : SndS X (.For tg it body [] pos) (sFor mi g mbd) := fun {π N0 H0 N H σ ρ De} I h => by
  refine ⟨_, ps_for hp hc pi_wp pg_wp pss_wp hs, hi I (T.all_mono (fun ds hds J H2 e2 wk => ?_) (T.all_bind.mp h))⟩
  have I2 := I.ext e2
  refine ⟨fun i k σ' H' => k = ds.length - i ∧ i ≤ ds.length ∧ ∃ N' ρ', EnvOk X.K X.prog X.w π N0 (baseOf N0 N H2) N' H' σ' ρ' ∧ (forT (fun d ρ => (g d ρ).bind mbd) (ds.drop i) ρ').all (OutOk X π N0 H0 De),
    ⟨ds.length, rfl, Nat.zero_le _, N, ρ, I2.rebase, hds⟩, ?_⟩
  rintro i k σ' H' ⟨rfl, hle, N', ρ', I', hall⟩
  have w := wk N' H' i I'.hn (I2.seen I')
  by_cases hlt : i < ds.length
  · have hget : ds[i]? = some ds[i] := List.getElem?_eq_getElem hlt
    obtain ⟨go, yl⟩ := w.1 _ hget
    rw [List.drop_eq_getElem_cons hlt] at hall
    refine .inr ⟨go, fun σ'' H'' => ∃ N'' ρ'', EnvOk X.K X.prog X.w π N0 (baseOf N0 N H2) N'' H'' σ'' ρ'' ∧ (forT (fun d ρ => (g d ρ).bind mbd) (ds.drop (i + 1)) ρ'').all (OutOk X π N0 H0 De), fun σ'' H'' q => ⟨ds.length - (i + 1), by omega, rfl, hlt, q⟩, fun x H'' y => ?_⟩
    obtain ⟨e3, rx⟩ := yl x H'' y
    refine hg (I'.ext e3) rx (T.all_mono (fun ρ2 h2 σ2 I3 => ?_) (T.all_bind.mp (T.all_bind.mp hall)))
    refine hb I3 (T.all_mono (fun o ho => ?_) h2)
    cases o with
    | nx ρ3 => exact fun N4 H4 σ4 I4 => ⟨N4, ρ3, I4, ho⟩
    | ct ρ3 => exact fun N4 H4 σ4 I4 => ⟨N4, ρ3, I4, ho⟩
    | bk ρ3 => exact fun N4 H4 σ4 I4 => ho N4 H4 σ4 (I2.unbase I4)
    | rt d => exact fun v H4 e4 r4 => ho v H4 ⟨I2.base_kp.trans e4.kp, e4.pot⟩ r4
  · have e : i = ds.length := by omega
    subst e
    rw [List.drop_length] at hall
    exact .inl ⟨w.2 rfl, hall _ _ _ (I2.unbase I')⟩
theorem ss_while {body : List Stmt} {mbd : Rho → T Out} (f : Nat) (hp : PassesOwn (model X.prog X.w) X.A X.env X.xe) (hc : SndT X c mt) (hb : SndB X body mbd) : SndS X (.While c body [] pos) (whT mt mbd f) := fun {π N0 H0 N H σ ρ De} I h => by
  refine ⟨_, ps_while hp pt_wp pss_wp, fun k σ' H' => ∃ N' ρ', EnvOk X.K X.prog X.w π N0 H0 N' H' σ' ρ' ∧ (whT mt mbd k ρ').all (OutOk X π N0 H0 De), ⟨f, N, ρ, I, h⟩, ?_⟩
  rintro k σ' H' ⟨N', ρ', I', h'⟩
  cases k with
  | zero => exact False.elim h'
  | succ k =>
    refine hc I' (T.all_mono (fun b hb' H2 e2 => ?_) (T.all_bind.mp h'))
    cases b with
    | false => exact iteF (hb' _ _ _ (I'.ext e2))
    | true =>
      refine iteT ⟨fun σ'' H'' => ∃ N'' ρ'', EnvOk X.K X.prog X.w π N0 H0 N'' H'' σ'' ρ'' ∧ (whT mt mbd k ρ'').all (OutOk X π N0 H0 De), fun σ'' H'' q => ⟨k, Nat.lt_succ_self k, q⟩, ?_⟩
      refine hb (I'.ext e2) (T.all_mono (fun o ho => ?_) (T.all_bind.mp hb'))
      cases o with
      | nx ρ3 => exact fun N4 H4 σ4 I4 => ⟨N4, ρ3, I4, ho⟩
      | ct ρ3 => exact fun N4 H4 σ4 I4 => ⟨N4, ρ3, I4, ho⟩
      | bk ρ3 => exact fun N4 H4 σ4 I4 => ho N4 H4 σ4 I4
      | rt d => exact ho
end
end Pd

namespace Pd
open PySem L2 RZ

def asL : D → T (List D)
  | .lst ds => .ret ds
  | _ => .fail
def asTp : D → T (List D)
  | .tup ds => .ret ds
  | _ => .fail
def iLst (m : Rho → T D) : Rho → T (List D) := fun ρ => (m ρ).bind asL
def iTp (m : Rho → T D) : Rho → T (List D) := fun ρ => (m ρ).bind asTp
def upto (lo : Int) : Nat → List D
  | 0 => []
  | n + 1 => .int lo :: upto (lo + 1) n
theorem upto_len : ∀ (lo : Int) (n : Nat), (upto lo n).length = n
  | _, 0 => rfl
  | lo, n + 1 => congrArg Nat.succ (upto_len (lo + 1) n)
theorem upto_get : ∀ {lo : Int} {n i : Nat} {d : D}, (upto lo n)[i]? = some d → i < n ∧ d = .int (lo + i)
  | _, 0, _, _, h => by cases h
  | lo, n + 1, 0, d, h => by
    cases h
    exact ⟨Nat.succ_pos n, by simp⟩
  | lo, n + 1, i + 1, d, h => by
    obtain ⟨a, b⟩ := upto_get (lo := lo + 1) (n := n) (i := i) h
    refine ⟨Nat.succ_lt_succ a, ?_⟩
    rw [b]
    congr 1
    omega
def rng1 : List D → T (List D)
  | [.int j] => cond (decide (j ≤ 100000) && decide (-100000 ≤ j)) (.ret (upto 0 j.toNat)) .fail
  | _ => .fail
def rng2 : List D → T (List D)
  | [.int i, .int j] => cond (decide (j ≤ 100000) && decide (-100000 ≤ j) && (decide (i ≤ 100000) && decide (-100000 ≤ i))) (.ret (upto i (j - i).toNat)) .fail
  | _ => .fail
def iRg (f : List D → T (List D)) (ms : Rho → T (List D)) : Rho → T (List D) := fun ρ => (ms ρ).bind f
def zipD : List D → List D → List D
  | a :: as, b :: bs => .tup [a, b] :: zipD as bs
  | _, _ => []
theorem zipD_get : ∀ {as bs : List D} {i : Nat} {d : D}, (zipD as bs)[i]? = some d → ∃ a b, as[i]? = some a ∧ bs[i]? = some b ∧ d = .tup [a, b]
  | [], _, _, _, h => by simp [zipD] at h
  | _ :: _, [], _, _, h => by simp [zipD] at h
  | a :: as, b :: bs, 0, d, h => by cases h; exact ⟨a, b, rfl, rfl, rfl⟩
  | a :: as, b :: bs, i + 1, d, h => zipD_get (as := as) (bs := bs) (i := i) h
theorem zipD_len : ∀ (as bs : List D), (zipD as bs).length = min as.length bs.length
  | [], _ => by simp [zipD]
  | _ :: _, [] => by simp [zipD]
  | a :: as, b :: bs => by
    show (zipD as bs).length + 1 = min (as.length + 1) (bs.length + 1)
    rw [zipD_len as bs]
    omega
/-- zip of two tuples -/
def zipT : List D → T (List D)
  | [.tup as, .tup bs] => .ret (zipD as bs)
  | _ => .fail
def zipLs : List D → T (List D)
  | [.lst as, .lst bs] => .ret (zipD as bs)
  | _ => .fail

/-! comprehensions -/
def compT (g : D → Rho → T Rho) (mt : Rho → T Bool) (me : Rho → T D) (ρ : Rho) : List D → List D → T (List D)
  | [], acc => .ret acc
  | d :: ds, acc => (g d ρ).bind fun ρ2 => (mt ρ2).bind fun b => cond b ((me ρ2).bind fun y => cond (small acc) (compT g mt me ρ ds (acc ++ [y])) .fail) (compT g mt me ρ ds acc)
def wipeR (ρ : Rho) : List Nat → Rho
  | [] => ρ
  | v :: vs => (wipeR ρ vs).set v .un
def yesT : Rho → T Bool := fun _ => .ret true
def lComp (vs : List Nat) (mi : Rho → T (List D)) (g : D → Rho → T Rho) (mt : Rho → T Bool) (me : Rho → T D) : Rho → T (List D) := fun ρ => (mi ρ).bind fun ds => compT g mt me (wipeR ρ vs) ds []

section
variable {X : Cx} {a b c e : Expr} {es : List Expr} {m ma mb : Rho → T D} {pos : Pos} {tg : Expr}
theorem vis_some {π : Addr} {N N' : Addr → Bool} {H H' : Hp} {a : Addr} {o : HO} (k : Kp π (Hide N H) (Hide N' H')) (na : N a = false) (ne : a ≠ π) (h : H a = some o) : N' a = false ∧ H' a = some o := by
  have := k a o ne (by rw [hide_in na]; exact h)
  exact hide_some this
theorem walk_list {π : Addr} {N : Addr → Bool} {H : Hp} {a : Addr} {vs : List V} {ds : List D} (ha : H a = some (.lst vs)) (na : N a = false) (ne : a ≠ π) (r : RvL X.K X.prog X.w π (Hide N H) vs ds) : Walk X π (Hide N H) (Itl X.K a) ds := fun N' H' i hn k => by
  obtain ⟨n', h'⟩ := vis_some k na ne ha
  have sq : SqL X.K H' a vs := .inl (.inl h')
  refine ⟨fun d hd => ?_, fun e => ⟨vs, sq, by rw [r.length, e]; exact Nat.le_refl _⟩⟩
  obtain ⟨v, hv, rv⟩ := r.get hd
  refine ⟨⟨vs, v, sq, hv⟩, fun x H2 y => ?_⟩
  obtain ⟨rfl, y⟩ := y
  have := y vs sq
  rw [hv] at this
  cases this
  exact ⟨Ex.refl hn.pot, rv.mono k⟩
theorem si_list (ha : Snd X a m) : SndI X tg a (iLst m) := fun {π N0 H0 N H σ ρ R} I h => ⟨_, pi_list pe_wp, ha I (T.all_mono (fun d hd => by
  intro v H2 e2 r
  cases d with
  | lst ds =>
    obtain ⟨a, vs, rfl, ha, na, ne, ra⟩ := id r.lstE
    exact ⟨a, rfl, ⟨vs, .inl (.inl ha)⟩, hd _ _ e2 (walk_list ha na ne ra)⟩
  | _ => exact False.elim hd) (T.all_bind.mp h))⟩
theorem sqt_kp {π : Addr} {N N' : Addr → Bool} {H H' : Hp} {v : V} {ds : List D} (k : Kp π (Hide N H) (Hide N' H')) (r : Rv X.K X.prog X.w π (Hide N H) v (.tup ds)) : ∃ a vs, v = .ref a ∧ SqT X.K H a vs ∧ SqT X.K H' a vs ∧ RvL X.K X.prog X.w π (Hide N H) vs ds ∧ RvL X.K X.prog X.w π (Hide N' H') vs ds := by
  cases r with
  | tup h n r =>
    obtain ⟨na, h1⟩ := hide_some h
    exact ⟨_, _, rfl, .inl (.inl h1), .inl (.inl (vis_some k na n h1).2), r, r.mono k⟩
  | tupK h r => exact ⟨_, _, rfl, h _, h _, r, r.mono k⟩
theorem walk_tup {π : Addr} {N : Addr → Bool} {H : Hp} {a : Addr} {ds : List D} (r : Rv X.K X.prog X.w π (Hide N H) (.ref a) (.tup ds)) : Walk X π (Hide N H) (Itt X.K a) ds := fun N' H' i hn k => by
  obtain ⟨a', vs, e, _, sq, _, ra⟩ := sqt_kp k r
  cases e
  refine ⟨fun d hd => ?_, fun e => ⟨vs, sq, by rw [ra.length, e]; exact Nat.le_refl _⟩⟩
  obtain ⟨v, hv, rv⟩ := ra.get hd
  refine ⟨⟨vs, v, sq, hv⟩, fun x H2 y => ?_⟩
  obtain ⟨rfl, y⟩ := y
  have := y vs sq
  rw [hv] at this
  cases this
  exact ⟨Ex.refl hn.pot, rv⟩
theorem si_tup (ha : Snd X a m) : SndI X tg a (iTp m) := fun {π N0 H0 N H σ ρ R} I h => ⟨_, pi_tup pe_wp, ha I (T.all_mono (fun d hd => by
  intro v H2 e2 r
  cases d with
  | tup ds =>
    obtain ⟨a, vs, rfl, ha, ra⟩ := id r.tupE
    exact ⟨a, rfl, ⟨vs, ha⟩, hd _ _ e2 (walk_tup r)⟩
  | _ => exact False.elim hd) (T.all_bind.mp h))⟩
theorem walk_range {π : Addr} {B : Hp} {lo : Int} {n : Nat} : Walk X π B (Itr lo n) (upto lo n) := fun N' H' i hn k => by
  refine ⟨fun d hd => ?_, fun e => by show n ≤ i; rw [e, upto_len]; exact Nat.le_refl _⟩
  obtain ⟨hi, rfl⟩ := upto_get hd
  refine ⟨hi, fun x H2 y => ?_⟩
  obtain ⟨rfl, rfl⟩ := y
  exact ⟨Ex.refl hn.pot, .int _⟩
theorem si_range1 {ms : Rho → T (List D)} {p : Pos} (hm : X.mg "range" = none) (ha : SndA X [a] ms) (hg : Gl X "range" := by rfl) (hs : starEach [a] X.env = [(false, eval a X.env)] := by rfl) : SndI X tg (.Call (.Name "range" p) [a] [] pos) (iRg rng1 ms) := fun {π N0 H0 N H σ ρ R} I h =>
  ⟨_, pi_range1 hg hm pa_wp hs, ha I (T.all_mono (fun ds hd => by
    intro vs H2 e2 r
    unfold rng1 at hd
    split at hd
    · obtain ⟨hb, hd⟩ := cond_all hd
      simp only [Bool.and_eq_true, decide_eq_true_eq] at hb
      cases r with
      | cons r t =>
        cases t; cases r
        exact ⟨_, rfl, by omega, by omega, hd _ _ e2 walk_range⟩
    · exact False.elim hd) (T.all_bind.mp h))⟩
theorem si_range2 {ms : Rho → T (List D)} {p : Pos} (hm : X.mg "range" = none) (ha : SndA X [a, b] ms) (hg : Gl X "range" := by rfl) (hs : starEach [a, b] X.env = [(false, eval a X.env), (false, eval b X.env)] := by rfl) (hs2 : starEach [b] X.env = [(false, eval b X.env)] := by rfl) : SndI X tg (.Call (.Name "range" p) [a, b] [] pos) (iRg rng2 ms) := fun {π N0 H0 N H σ ρ R} I h =>
  ⟨_, pi_range2 hg hm pa_wp hs hs2, ha I (T.all_mono (fun ds hd => by
    intro vs H2 e2 r
    unfold rng2 at hd
    split at hd
    · obtain ⟨hb, hd⟩ := cond_all hd
      simp only [Bool.and_eq_true, decide_eq_true_eq] at hb
      cases r with
      | cons r t =>
        cases t with
        | cons r2 t =>
          cases t; cases r; cases r2
          exact ⟨_, _, rfl, ⟨by omega, by omega, by omega, by omega⟩, hd _ _ e2 walk_range⟩
    · exact False.elim hd) (T.all_bind.mp h))⟩
theorem walk_zipT {π : Addr} {N : Addr → Bool} {H : Hp} {a b : Addr} {as bs : List D} (r : Rv X.K X.prog X.w π (Hide N H) (.ref a) (.tup as)) (r2 : Rv X.K X.prog X.w π (Hide N H) (.ref b) (.tup bs)) : Walk X π (Hide N H) (ItzT X.K a b) (zipD as bs) := fun N' H' i hn k => by
  obtain ⟨a', vs, e, _, sq, _, ra⟩ := sqt_kp k r
  cases e
  obtain ⟨b', us, e, _, sq2, _, rb⟩ := sqt_kp k r2
  cases e
  refine ⟨fun d hd => ?_, fun e => ⟨vs, us, sq, sq2, ?_⟩⟩
  · obtain ⟨x, y, hx, hy, rfl⟩ := zipD_get hd
    obtain ⟨v, hv, rv⟩ := ra.get hx
    obtain ⟨u, hu, ru⟩ := rb.get hy
    refine ⟨⟨vs, us, v, u, sq, sq2, hv, hu⟩, fun z H2 q => ?_⟩
    obtain ⟨T, x', y', rfl, hT, rfl, f1, f2⟩ := q
    have e1 := f1 vs sq
    have e2 := f2 us sq2
    rw [hv] at e1
    rw [hu] at e2
    cases e1; cases e2
    exact ⟨Ex.new hn.pot hT, .tup (hide_new (hn.new hT)) (hn.pot.ne hT) (.cons (rv.mono (Ex.new hn.pot hT).kp.hide) (.cons (ru.mono (Ex.new hn.pot hT).kp.hide) .nil))⟩
  · rw [zipD_len] at e
    rw [ra.length, rb.length]
    omega
theorem si_zipT {ms : Rho → T (List D)} {p tpos : Pos} {elts : List Expr} {kk : Nat} (hm : X.mg "zip" = none) (ha : SndA X [a, b] ms) (hg : Gl X "zip" := by rfl) (hs : starEach [a, b] X.env = (false, eval a X.env) :: starEach [b] X.env := by rfl) (hpl : (backTo pos (starEach [b] X.env)).any (·.1) = false := by rfl) :
    SndI X (.Tuple elts kk tpos) (.Call (.Name "zip" p) [a, b] [] pos) (iRg zipT ms) := fun {π N0 H0 N H σ ρ R} I h => ⟨_, pi_zipA hg hm pa_wp hs hpl, ha I (T.all_mono (fun ds hd => by
    intro vs H2 e2 r
    unfold zipT at hd
    split at hd
    · cases r with
      | cons r t =>
        cases t with
        | cons r2 t =>
          cases t
          obtain ⟨a, vs, rfl, ha, ra⟩ := id r.tupE
          obtain ⟨b, us, rfl, hb, rb⟩ := id r2.tupE
          exact ⟨a, b, vs, us, rfl, .inr ⟨ha, hb, hd _ _ e2 (walk_zipT r r2)⟩⟩
    · exact False.elim hd) (T.all_bind.mp h))⟩

/-! ### comprehensions -/
theorem wipe_ok {K : PySem.W.Frag} {P : Program} {w : World} {π : Addr} {N0 N : Addr → Bool} {H0 H : Hp} {σ : L2.St} {ρ : Rho} (I : EnvOk K P w π N0 H0 N H σ ρ) : ∀ vs : List Nat, EnvOk K P w π N0 H0 N H (wipe σ vs) (wipeR ρ vs)
  | [] => I
  | v :: vs => (wipe_ok I vs).wipe1
/-- the readings of a comprehension's pieces -/
def bE (X : Cx) (scope : Scope) (e : Expr) : TE := fun σ H Q => ∀ (s : Shared) (Hh : Hp) (C : Addr) (cl : List (Str × Addr)) (fp : List Addr), wpE (X.blk s Hh scope (compEnvC scope cl C X.env) fp) e σ H Q
def bG (X : Cx) (scope : Scope) (e : Expr) : TG := fun v σ H Q => ∀ (s : Shared) (Hh : Hp) (C : Addr) (cl : List (Str × Addr)) (fp : List Addr), wpG (X.blk s Hh scope (compEnvC scope cl C X.env) fp) e v σ H Q
def wpTs (X : Cx) (ifs : List Expr) : TT := fun σ H Q => ∃ te, PTs X ifs te ∧ te σ H Q
theorem pts_wp {ifs : List Expr} : PTs X ifs (wpTs X ifs) := ⟨fun pins s σ H Q I ⟨_, h, q⟩ => h.run pins s σ H Q I q⟩
def bT (X : Cx) (scope : Scope) (ifs : List Expr) : TT := fun σ H Q => ∀ (s : Shared) (Hh : Hp) (C : Addr) (cl : List (Str × Addr)) (fp : List Addr), wpTs (X.blk s Hh scope (compEnvC scope cl C X.env) fp) ifs σ H Q
def SndTs (X : Cx) (ifs : List Expr) (m : Rho → T Bool) : Prop := ∀ ⦃π : Addr⦄ ⦃N0 : Addr → Bool⦄ ⦃H0 : Hp⦄ ⦃N : Addr → Bool⦄ ⦃H : Hp⦄ ⦃σ : L2.St⦄ ⦃ρ : Rho⦄ ⦃Q : Bool → Hp → Prop⦄, EnvOk X.K X.prog X.w π N0 H0 N H σ ρ → (m ρ).all (fun b => ∀ H2, Ex π H H2 → Q b H2) → wpTs X ifs σ H Q
theorem ts_nil : SndTs X [] yesT := fun {_ _ _ _ _ _ _ _} I h => ⟨_, pts_nil, h _ (Ex.refl I.hn.pot)⟩
theorem ts_one {mt : Rho → T Bool} (hc : SndT X c mt) : SndTs X [c] mt := fun {_ _ _ _ _ _ _ _} I h => ⟨_, pts_one pt_wp, hc I h⟩

theorem EnvOk.hideNew {K : PySem.W.Frag} {P : Program} {w : World} {π : Addr} {N0 N : Addr → Bool} {H0 H H' : Hp} {σ : L2.St} {ρ : Rho} {l : Addr} {vs : List V} (I : EnvOk K P w π N0 H0 N H σ ρ) (e : Ex π H H') (hl : H l = none) (hl' : H' l = some (.lst vs)) (r : ∃ ds, RvL K P w π (Hide (plus N l) H') vs ds) : EnvOk K P w π N0 H0 (plus N l) H' σ ρ := by
  obtain ⟨ds, r⟩ := r
  have J := I.newAny (i := σ.length) (x := .own ds) e hl (by rw [hl']; exact fun z => by cases z) (.inl ⟨vs, ds, rfl, hl', r⟩)
  rw [List.set_eq_of_length_le (Nat.le_refl _), List.set_eq_of_length_le (by rw [I.len]; exact Nat.le_refl _)] at J
  exact J
/-- a hidden list that no name holds changes -/
theorem EnvOk.upHid {K : PySem.W.Frag} {P : Program} {w : World} {π : Addr} {N0 N : Addr → Bool} {H0 H : Hp} {σ : L2.St} {ρ : Rho} {l : Addr} {o : HO} (I : EnvOk K P w π N0 H0 N H σ ρ) (nl : N l = true) (n0 : N0 l = false)
    (no : ∀ (j : Nat) (f : Ent) (l' : Addr), ρ[j]? = some f → f.isOwn = true → σ[j]? = some (some (.ref l')) → l' ≠ l) : EnvOk K P w π N0 H0 N (upd H l o) σ ρ := by
  have lpi := N_ne I.hn nl
  have e : Hide N (upd H l o) = Hide N H := by
    funext a
    by_cases q : a = l
    · subst q; simp [Hide, nl]
    · unfold Hide; rw [upd_ne q]
  refine ⟨⟨?_, I.hn.npi, fun a h => ?_⟩, fun a u n h => ?_, I.sub, I.own0, I.len, fun j d h => ?_, fun j x h xo => ?_, I.inj⟩
  · obtain ⟨x, y, q, r⟩ := I.hn.pot
    exact ⟨x, y, by rw [upd_ne lpi.symm]; exact q, r⟩
  · by_cases q : a = l
    · subst q; rw [upd_same]; exact fun z => by cases z
    · rw [upd_ne q]; exact I.hn.isS a h
  · by_cases q : a = l
    · subst q
      rcases I.own0 a nl with z | z
      · rw [n0] at z; cases z
      · rw [z] at h; cases h
    · rw [upd_ne q]; exact I.ex a u n h
  · rw [e]; exact I.val j d h
  · rw [e]
    obtain ⟨l', o', a, n, n1, b, c⟩ := I.own j x h xo
    exact ⟨l', o', a, n, n1, by rw [upd_ne (no j _ l' h xo a)]; exact b, c⟩

theorem wipe_at {j : Nat} : ∀ (vs : List Nat) (τ τ' : L2.St), τ.length = τ'.length → j ∈ vs → (wipe τ vs)[j]? = (wipe τ' vs)[j]?
  | [], _, _, _, h => by cases h
  | u :: us, τ, τ', hl, hm => by
    unfold wipe
    by_cases q2 : u = j
    · subst q2
      by_cases c : u < (wipe τ us).length
      · rw [List.getElem?_set_self c, List.getElem?_set_self (by rw [wipe_length] at c ⊢; omega)]
      · rw [List.getElem?_eq_none (by rw [List.length_set]; omega), List.getElem?_eq_none (by rw [List.length_set]; rw [wipe_length] at c ⊢; omega)]
    · rw [List.getElem?_set_ne q2, List.getElem?_set_ne q2]
      exact wipe_at us τ τ' hl (by
        rcases List.mem_cons.mp hm with e | e
        · exact absurd e.symm q2
        · exact e)
theorem wipe_ext {vs : List Nat} {τ τ' : L2.St} (hl : τ.length = τ'.length) (h : ∀ j : Nat, j ∉ vs → τ[j]? = τ'[j]?) : wipe τ vs = wipe τ' vs := by
  refine List.ext_getElem? fun j => ?_
  by_cases c : j ∈ vs
  · exact wipe_at vs τ τ' hl c
  · rw [wipe_out c, wipe_out c]
    exact h j c
theorem wipe_wipe {vs : List Nat} {σ : L2.St} : wipe (wipe σ vs) vs = wipe σ vs := wipe_ext (wipe_length _ _) fun j hj => wipe_out hj
theorem wipe_set {vs : List Nat} {σ : L2.St} {i : Nat} {x : Option V} (hi : i ∈ vs) : wipe (σ.set i x) vs = wipe σ vs := wipe_ext (by rw [List.length_set]) fun j hj => List.getElem?_set_ne fun e => hj (by rw [← e]; exact hi)
/-- a comprehension's target: its own names alone are stored -/
def SndGw (X : Cx) (vs : List Nat) (tg : Expr) (g : D → Rho → T Rho) : Prop := ∀ ⦃π : Addr⦄ ⦃N0 : Addr → Bool⦄ ⦃H0 : Hp⦄ ⦃N : Addr → Bool⦄ ⦃H : Hp⦄ ⦃σ : L2.St⦄ ⦃ρ : Rho⦄ ⦃v : V⦄ ⦃d : D⦄ ⦃Q : L2.St → Hp → Prop⦄, EnvOk X.K X.prog X.w π N0 H0 N H σ ρ → Rv X.K X.prog X.w π (Hide N H) v d →
  (g d ρ).all (fun ρ' => ∀ σ', EnvOk X.K X.prog X.w π N0 H0 N H σ' ρ' → Q σ' H) → wpG X tg v σ H fun σ' H' => wipe σ' vs = wipe σ vs ∧ Q σ' H'
def SndGsw (X : Cx) (vs : List Nat) (tgs : List Expr) (g : List D → Rho → T Rho) : Prop := ∀ ⦃π : Addr⦄ ⦃N0 : Addr → Bool⦄ ⦃H0 : Hp⦄ ⦃N : Addr → Bool⦄ ⦃H : Hp⦄ ⦃σ : L2.St⦄ ⦃ρ : Rho⦄ ⦃us : List V⦄ ⦃ds : List D⦄ ⦃Q : L2.St → Hp → Prop⦄, EnvOk X.K X.prog X.w π N0 H0 N H σ ρ → RvL X.K X.prog X.w π (Hide N H) us ds →
  (g ds ρ).all (fun ρ' => ∀ σ', EnvOk X.K X.prog X.w π N0 H0 N H σ' ρ' → Q σ' H) → ∃ t, PGs X tgs t ∧ t us σ H fun σ' H' => wipe σ' vs = wipe σ vs ∧ Q σ' H'
theorem gw_name {i : Nat} {x : Str} {vs : List Nat} (hN : X.N.Nodup) (hm : i ∈ vs) (hi : X.N[i]? = some x := by rfl) (hx : Loc X.env.scope x := by first | exact .inl rfl | exact .inr rfl) (hf : X.fn x = true ∨ X.env.scope.names.lookup x = some .local := by first | exact .inl rfl | exact .inr rfl | assumption) : SndGw X vs (.Name x pos) (gNm i) := fun {_ _ _ _ _ _ _ _ _ _} I r h => ⟨_, pg_name hN hi hx hf, wipe_set hm, h _ (I.set r)⟩
theorem wpG_mono {e : Expr} {v : V} {σ : L2.St} {H : Hp} {Q Q' : L2.St → Hp → Prop} (h : wpG X e v σ H Q) (k : ∀ a b, Q a b → Q' a b) : wpG X e v σ H Q' := by
  obtain ⟨t, p, q⟩ := h
  exact ⟨fun v σ H Q => ∃ Q0, (∀ a b, Q0 a b → Q a b) ∧ t v σ H Q0, ⟨fun pins s σ H v u Q I r ⟨Q0, k, q⟩ => thn (p.run pins s σ H v u Q0 I r q) fun _ s' ⟨σ', H', I', z⟩ => ⟨σ', H', I', k _ _ z⟩⟩, Q, k, q⟩
theorem pgs_mono {es : List Expr} {us : List V} {σ : L2.St} {H : Hp} {Q Q' : L2.St → Hp → Prop} (h : ∃ t, PGs X es t ∧ t us σ H Q) (k : ∀ a b, Q a b → Q' a b) : ∃ t, PGs X es t ∧ t us σ H Q' := by
  obtain ⟨t, p, q⟩ := h
  exact ⟨fun v σ H Q => ∃ Q0, (∀ a b, Q0 a b → Q a b) ∧ t v σ H Q0, ⟨fun pins s σ H v u Q I r ⟨Q0, k, q⟩ => thn (p.run pins s σ H v u Q0 I r q) fun _ s' ⟨σ', H', I', z⟩ => ⟨σ', H', I', k _ _ z⟩⟩, Q, k, q⟩
theorem gsw_nil {vs : List Nat} : SndGsw X vs [] gsNil := fun {π N0 H0 N H σ ρ us ds Q} I r h => by
  cases r with
  | nil => exact ⟨_, pgs_nil, rfl, rfl, h _ I⟩
  | cons _ _ => exact False.elim h
theorem gsw_cons {vs : List Nat} {e : Expr} {es : List Expr} {g : D → Rho → T Rho} {gs : List D → Rho → T Rho} (h1 : SndGw X vs e g) (h2 : SndGsw X vs es gs) (hs : (assignEach (e :: es) X.env).map (·.2) = assign e X.env :: (assignEach es X.env).map (·.2) := by rfl) : SndGsw X vs (e :: es) (gsCons g gs) := fun {π N0 H0 N H σ ρ us ds Q} I r h => by
  cases r with
  | nil => exact False.elim h
  | cons r t =>
    refine ⟨_, pgs_cons (u := fun vs σ H Q => ∃ t, PGs X es t ∧ t vs σ H Q) pg_wp ⟨fun pins s σ H vs us Q I r ⟨_, h, q⟩ => h.run pins s σ H vs us Q I r q⟩ hs, _, _, rfl, ?_⟩
    refine wpG_mono (h1 (Q := fun σ1 H1 => ∃ tt, PGs X es tt ∧ tt _ σ1 H1 fun σ' H' => wipe σ' vs = wipe σ1 vs ∧ Q σ' H') I r (T.all_mono (fun ρ' hρ σ' I' => h2 I' t hρ) (T.all_bind.mp h))) fun σ1 H1 q => ?_
    obtain ⟨e1, q⟩ := q
    exact pgs_mono q fun σ2 H2 z => ⟨z.1.trans e1, z.2⟩
theorem gw_tup {vs : List Nat} {es : List Expr} {k n : Nat} {gs : List D → Rho → T Rho} (hc : X.calm = true) (h : SndGsw X vs es gs) (hn : (assignEach es X.env).length = n := by rfl) (hst : (assignEach es X.env).findIdx? (·.1) = none := by rfl) : SndGw X vs (.Tuple es k pos) (gTp n gs) := fun {π N0 H0 N H σ ρ v d Q} I r q => by
  unfold gTp at q
  split at q
  · obtain ⟨hl, q⟩ := cond_all q
    obtain ⟨a, us, rfl, ha, ra⟩ := id r.tupE
    exact ⟨_, pg_tup (t := fun vs σ H Q => ∃ t, PGs X es t ∧ t vs σ H Q) hc ⟨fun pins s σ H vs us Q I r ⟨_, h, q⟩ => h.run pins s σ H vs us Q I r q⟩ hn hst, a, us, rfl, ha, by rw [ra.length]; exact by simpa using hl, h I ra q⟩
  · exact False.elim q
/-- SndG in a comprehension: its own names alone are stored -/
theorem lc_run {π : Addr} {N0 N : Addr → Bool} {H0 H : Hp} {σ : L2.St} {ρ : Rho} {Q : VK} {tg it elt : Expr} {ifs : List Expr} {scope : Scope} {vs : List Nat} {mi : Rho → T (List D)} {g : D → Rho → T Rho} {mt : Rho → T Bool} {me : Rho → T D}
    (hi : SndI X tg it mi) (hg : ∀ s Hh C cl fp, SndGw (X.blk s Hh scope (compEnvC scope cl C X.env) fp) vs tg g) (ht : ∀ s Hh C cl fp, SndTs (X.blk s Hh scope (compEnvC scope cl C X.env) fp) ifs mt) (he : ∀ s Hh C cl fp, Snd (X.blk s Hh scope (compEnvC scope cl C X.env) fp) elt me)
    (I : EnvOk X.K X.prog X.w π N0 H0 N H σ ρ) (h : (lComp vs mi g mt me ρ).all (Kl X π N H Q)) : tLc (wpI X tg it) (bG X scope tg) (bT X scope ifs) (bE X scope elt) vs σ H Q := by
  refine hi I (T.all_mono (fun ds hds J H2 e2 wk => ?_) (T.all_bind.mp h))
  intro Dl hD
  have I2 := I.ext e2
  have hD0 : H Dl = none := by
    cases c : H Dl with
    | none => rfl
    | some o => rw [e2.kp Dl o (I2.hn.pot.ne hD) c] at hD; cases hD
  have eN : Ex π H2 (upd H2 Dl (.lst [])) := Ex.new I2.hn.pot hD
  have dpi := I2.hn.pot.ne hD
  have I3 : EnvOk X.K X.prog X.w π N0 H0 (plus N Dl) (upd H2 Dl (.lst [])) (wipe σ vs) (wipeR ρ vs) := wipe_ok (I2.hideNew eN hD upd_same ⟨[], .nil⟩) vs
  have n0 : N0 Dl = false := by
    cases c : N0 Dl with
    | false => rfl
    | true =>
      have := I2.hn.new hD
      rw [I2.sub Dl c] at this
      cases this
  -- no name holds the new list
  have no : ∀ (j : Nat) (f : Ent) (l' : Addr), (wipeR ρ vs)[j]? = some f → f.isOwn = true → (wipe σ vs)[j]? = some (some (.ref l')) → l' ≠ Dl := fun j f l' h1 o1 s1 => by
    have W := wipe_ok I2 vs
    have nD : ∀ {o : HO}, H2 l' = some o → l' ≠ Dl := fun {o} h z => by rw [z, hD] at h; cases h
    obtain ⟨l2, o2, a, _, _, b, _⟩ := W.own j f h1 o1
    rw [s1] at a
    cases a
    exact nD b
  refine ⟨fun i k H' => k = ds.length - i ∧ i ≤ ds.length ∧ ∃ acc accD, EnvOk X.K X.prog X.w π N0 H0 (plus N Dl) H' (wipe σ vs) (wipeR ρ vs) ∧ Kp π H2 H' ∧ H' Dl = some (.lst acc) ∧ RvL X.K X.prog X.w π (Hide (plus N Dl) H') acc accD ∧ (compT g mt me (wipeR ρ vs) (ds.drop i) accD).all (Kl X π N H Q),
    ⟨ds.length, rfl, Nat.zero_le _, [], [], I3, eN.kp, upd_same, .nil, hds⟩, ?_⟩
  rintro i k H' ⟨rfl, hle, acc, accD, I', kp, hDl, rl, hall⟩
  have vis : Kp π (Hide N H2) (Hide (plus N Dl) H') := fun a o n q => by
    obtain ⟨na, ha⟩ := hide_some q
    have ne : a ≠ Dl := fun z => by rw [z, hD] at ha; cases ha
    rw [hide_in (by simp [plus, na, ne])]
    exact kp a o n ha
  have w := wk (plus N Dl) H' i I'.hn vis
  by_cases hlt : i < ds.length
  · have hget : ds[i]? = some ds[i] := List.getElem?_eq_getElem hlt
    obtain ⟨go, yl⟩ := w.1 _ hget
    rw [List.drop_eq_getElem_cons hlt] at hall
    refine .inr ⟨go, fun H'' => ∃ acc accD, EnvOk X.K X.prog X.w π N0 H0 (plus N Dl) H'' (wipe σ vs) (wipeR ρ vs) ∧ Kp π H2 H'' ∧ H'' Dl = some (.lst acc) ∧ RvL X.K X.prog X.w π (Hide (plus N Dl) H'') acc accD ∧ (compT g mt me (wipeR ρ vs) (ds.drop (i + 1)) accD).all (Kl X π N H Q), fun H'' q => ⟨ds.length - (i + 1), by omega, rfl, hlt, q⟩, fun x H'' y => ?_⟩
    obtain ⟨e3, rx⟩ := yl x H'' y
    have I4 := I'.ext e3
    refine fun s Hh C cl fp => wpG_mono (hg s Hh C cl fp (Q := fun σ2 H2' => bT X scope ifs σ2 H2' fun b H3 => if b = true then bE X scope elt σ2 H3 fun y H4 => ∃ acc, H4 Dl = some (.lst acc) ∧ acc.length < sizeLine ∧
      (∃ acc' accD, EnvOk X.K X.prog X.w π N0 H0 (plus N Dl) (upd H4 Dl (.lst (acc ++ [y]))) (wipe σ vs) (wipeR ρ vs) ∧ Kp π H2 (upd H4 Dl (.lst (acc ++ [y]))) ∧ (upd H4 Dl (.lst (acc ++ [y]))) Dl = some (.lst acc') ∧ RvL X.K X.prog X.w π (Hide (plus N Dl) (upd H4 Dl (.lst (acc ++ [y])))) acc' accD ∧ (compT g mt me (wipeR ρ vs) (ds.drop (i + 1)) accD).all (Kl X π N H Q))
      else ∃ acc' accD, EnvOk X.K X.prog X.w π N0 H0 (plus N Dl) H3 (wipe σ vs) (wipeR ρ vs) ∧ Kp π H2 H3 ∧ H3 Dl = some (.lst acc') ∧ RvL X.K X.prog X.w π (Hide (plus N Dl) H3) acc' accD ∧ (compT g mt me (wipeR ρ vs) (ds.drop (i + 1)) accD).all (Kl X π N H Q))
      (I4 : EnvOk X.K X.prog X.w π N0 H0 (plus N Dl) H'' (wipe σ vs) (wipeR ρ vs)) rx (T.all_mono (fun ρ2 h2 => ?_) (T.all_bind.mp hall))) fun σ' H' q => ⟨q.1.trans wipe_wipe, q.2⟩
    intro σ2 I5 s Hh C cl fp
    refine ht s Hh C cl fp I5 (T.all_mono (fun b hb => ?_) (T.all_bind.mp h2))
    intro H5 e5
    have e35 := e3.trans e5
    cases b with
    | false => exact iteF ⟨acc, accD, I4.ext e5, kp.trans e35.kp, e35.kp Dl _ dpi hDl, rl.mono e35.kp.hide, hb⟩
    | true =>
      refine iteT fun s Hh C cl fp => he s Hh C cl fp (I5.ext e5 : EnvOk X.K X.prog X.w π N0 H0 (plus N Dl) H5 σ2 ρ2) (T.all_mono (fun y hy => ?_) (T.all_bind.mp hb))
      intro v H6 e6 rv
      obtain ⟨hsm, hy⟩ := cond_all hy
      have e36 := e35.trans e6
      have hD6 := e36.kp Dl _ dpi hDl
      have hd : Hide (plus N Dl) (upd H6 Dl (.lst (acc ++ [v]))) = Hide (plus N Dl) H6 := by
        funext a
        by_cases q : a = Dl
        · subst q; simp [Hide, plus]
        · unfold Hide; rw [upd_ne q]
      refine ⟨acc, hD6, by rw [rl.length]; exact Nat.lt_of_le_of_lt (of_decide_eq_true hsm) (by decide), acc ++ [v], accD ++ [y], ((I4.ext (e5.trans e6)).upHid plus_self n0 no), ?_, upd_same, ?_, hy⟩
      · intro a o n q
        have ne : a ≠ Dl := fun z => by rw [z, hD] at q; cases q
        rw [upd_ne ne]
        exact (kp.trans e36.kp) a o n q
      · rw [hd]
        exact (rl.mono e36.kp.hide).append (.cons rv .nil)
  · have e : i = ds.length := by omega
    subst e
    rw [List.drop_length] at hall
    exact .inl ⟨w.2 rfl, hall Dl acc H' ⟨e2.kp.trans kp, I'.hn.pot⟩ hD0 hDl rl⟩
end
end Pd

namespace Pd
open PySem L2

def runB (n : Nat) (m : Rho → T Out) : List D → T D := fun ds => (m (ds.map Ent.val ++ List.replicate (n - ds.length) Ent.un)).bind fun o => match o with
  | .nx _ => .ret .non
  | .rt d => .ret d
  | .bk _ => .fail
  | .ct _ => .fail
theorem env_start {K : PySem.W.Frag} {P : Program} {w : World} {π : Addr} {N : Addr → Bool} {H : Hp} {vs : List V} {ds : List D} {Nm : List Str} (hn : HN π N H) (r : RvL K P w π (Hide N H) vs ds) :
    EnvOk K P w π N H N H (L2.start Nm vs) (ds.map Ent.val ++ List.replicate (Nm.length - ds.length) Ent.un) := by
  have hl := r.length
  have at' : ∀ (i : Nat) (e : Ent), (ds.map Ent.val ++ List.replicate (Nm.length - ds.length) Ent.un)[i]? = some e → e = .un ∨ ∃ d, ds[i]? = some d ∧ e = .val d := fun i e h => by
    by_cases c : i < ds.length
    · rw [List.getElem?_append_left (by rw [List.length_map]; exact c), List.getElem?_map] at h
      cases q : ds[i]? with
      | none => rw [q] at h; cases h
      | some d => rw [q] at h; cases h; exact .inr ⟨d, rfl, rfl⟩
    · rw [List.getElem?_append_right (by rw [List.length_map]; omega), List.getElem?_replicate] at h
      split at h
      · cases h; exact .inl rfl
      · cases h
  refine ⟨hn, .refl, fun _ h => h, fun _ h => .inl h, ?_, fun i d h => ?_, fun i x h xo => ?_, fun i j e f l h1 h2 o1 o2 => ?_⟩
  · unfold L2.start
    rw [List.length_append, List.length_append, List.length_map, List.length_map, List.length_replicate, List.length_replicate, hl]
  · rcases at' i _ h with e | ⟨d', hd, e⟩
    · cases e
    · cases e
      obtain ⟨v, hv, rv⟩ := r.get hd
      refine ⟨v, ?_, rv⟩
      have c : i < vs.length := (List.getElem?_eq_some_iff.mp hv).1
      unfold L2.start
      rw [List.getElem?_append_left (by rw [List.length_map]; exact c), List.getElem?_map, hv]
      rfl
  · rcases at' i _ h with e | ⟨d', hd, e⟩ <;> (subst e; cases xo)
  · rcases at' i _ h1 with e | ⟨d', hd, e⟩ <;> (subst e; cases o1)
section
variable {P : Program} {w : World} {K : PySem.W.Frag} {mg : Str → Option Value} {base : Heap}
/-- a def of the text, by its body's reading -/
theorem fn_ok {x qual : Str} {st : Stmt} {f : Addr} {fd : FuncData} {Nm ps : List Str} {k n p : Nat} {m : Rho → T Out} {G : List D → T D} (F : Fun K x qual st f fd) (S : FnScope Nm ps (defScope st)) (hn : Nm.length = n) (hp : ps.length = p) (hG : G = runB n m)
    (hb : ∀ (cdv : Value) (A : Around) (outer : List Env) (s : Shared) (H : Hp) (E : XK), Room k (A.deeper (PyProof.Rows.envOfC qual (defScope st) s.heap.objs.size f cdv)) → SndB (cxOf CX0 P w K mg base Nm qual (defScope st) f cdv A outer s H E).nox (defBody st) m) :
    FnOk P w K mg base CX0 (k + 1) f fd ps (spD K P w p G) := by
  subst hn hp hG
  refine F.ok S (fun vs H Q E h => ?_) (fun cdv A outer s H vs Q E hr h => ?_)
  · obtain ⟨π, N, ds, hn, r, hl, _⟩ := h
    exact hl
  · obtain ⟨π, N, ds, hn, r, hl, hall⟩ := h
    refine hb cdv A outer s H E hr (env_start hn r) (T.all_mono (fun o ho => ?_) (T.all_bind.mp hall))
    cases o with
    | nx ρ => exact fun N' H' σ' I => ho .non H' ⟨I.ex, I.hn.pot⟩ .non
    | rt d => exact fun v H' e r => ho v H' e r
    | bk ρ => exact False.elim ho
    | ct ρ => exact False.elim ho
end
section
variable {X : Cx} {a b c e : Expr} {es : List Expr} {m ma mb : Rho → T D} {pos : Pos} {tg it elt : Expr} {ifs : List Expr} {scope : Scope} {own : List (Str × Nat)} {mi : Rho → T (List D)} {g : D → Rho → T Rho} {mt : Rho → T Bool} {me : Rho → T D}
theorem sl_comp (own : List (Str × Nat)) {vs : List Nat} (hv : own.map (·.2) = vs) (hc : X.calm = true) (hN : X.N.Nodup) (ok : BlkOk X.N X.env.scope scope own) (hi : SndI X tg it mi) (hg : ∀ s Hh C cl fp, SndGw (X.blk s Hh scope (compEnvC scope cl C X.env) fp) vs tg g) (ht : ∀ s Hh C cl fp, SndTs (X.blk s Hh scope (compEnvC scope cl C X.env) fp) ifs mt) (he : ∀ s Hh C cl fp, Snd (X.blk s Hh scope (compEnvC scope cl C X.env) fp) elt me)
    (hs : ∀ x, foldedSetIterable it X.env x = pure x := by intro _; rfl) : SndL X (.ListComp elt [⟨tg, it, ifs, 0⟩] scope pos) (lComp vs mi g mt me) := fun {_ _ _ _ _ _ _ _} I h =>
  ⟨_, pe_lc (g := bG X scope tg) (tt := bT X scope ifs) (te := bE X scope elt) hc hN pi_wp ok (fun s H C cl fp => ⟨fun pins s' σ H' v u Q I r h => pg_wp.run pins s' σ H' v u Q I r (h s H C cl fp)⟩) (fun s H C cl fp => ⟨fun pins s' σ H' Q I h => pts_wp.run pins s' σ H' Q I (h s H C cl fp)⟩)
    (fun s H C cl fp => ⟨fun pins s' σ H' Q I h => pe_wp.run pins s' σ H' Q I (h s H C cl fp)⟩) hs, by rw [hv]; exact lc_run hi hg ht he I h⟩
theorem ss_ownLc {i : Nat} {y : Str} {py spos : Pos} (own : List (Str × Nat)) {vs : List Nat} (hv : own.map (·.2) = vs) (hc : X.calm = true) (hN : X.N.Nodup) (ok : BlkOk X.N X.env.scope scope own) (hi : SndI X tg it mi) (hg : ∀ s Hh C cl fp, SndGw (X.blk s Hh scope (compEnvC scope cl C X.env) fp) vs tg g) (ht : ∀ s Hh C cl fp, SndTs (X.blk s Hh scope (compEnvC scope cl C X.env) fp) ifs mt) (he : ∀ s Hh C cl fp, Snd (X.blk s Hh scope (compEnvC scope cl C X.env) fp) elt me)
    (hsw : swapsWith (.ListComp elt [⟨tg, it, ifs, 0⟩] scope pos) (some (.Name y py)) spos.line X.env = pure true) (hy : X.N[i]? = some y := by rfl) (hyl : X.env.scope.names.lookup y = some .local := by rfl) (hs : ∀ x, foldedSetIterable it X.env x = pure x := by intro _; rfl) : SndS X (.Assign [.Name y py] (.ListComp elt [⟨tg, it, ifs, 0⟩] scope pos) spos) (sOwn i (lComp vs mi g mt me)) := fun {π N0 H0 N H σ ρ De} I h =>
  ⟨_, ps_setLc (g := bG X scope tg) (tt := bT X scope ifs) (te := bE X scope elt) hc hN hy hyl hsw pi_wp ok (fun s H C cl fp => ⟨fun pins s' σ H' v u Q I r h => pg_wp.run pins s' σ H' v u Q I r (h s H C cl fp)⟩) (fun s H C cl fp => ⟨fun pins s' σ H' Q I h => pts_wp.run pins s' σ H' Q I (h s H C cl fp)⟩)
    (fun s H C cl fp => ⟨fun pins s' σ H' Q I h => pe_wp.run pins s' σ H' Q I (h s H C cl fp)⟩) hs, by
    rw [hv]
    exact lc_run (Q := fun x H1 => De.nx (σ.set i (some x)) H1) hi hg ht he I (T.all_mono (fun ds hd => by intro l vs H2 e2 hl h2 r; exact hd _ _ _ (I.newAny e2 hl (by rw [h2]; exact fun z => by cases z) (.inl ⟨vs, ds, rfl, h2, r⟩))) (T.all_bind.mp h))⟩
/-! two or three names at once -/
def sPar (i j : Nat) (ma mb : Rho → T D) : Rho → T Out := fun ρ => (ma ρ).bind fun x => (mb ρ).bind fun y => .ret (.nx ((ρ.set i (.val x)).set j (.val y)))
def sPar3 (i j l : Nat) (ma mb mc : Rho → T D) : Rho → T Out := fun ρ => (ma ρ).bind fun x => (mb ρ).bind fun y => (mc ρ).bind fun z => .ret (.nx (((ρ.set i (.val x)).set j (.val y)).set l (.val z)))
theorem ss_par {i j : Nat} {x y : Str} {px py pt : Pos} {kt k2 pt2} (hc : X.calm = true) (hN : X.N.Nodup) (ha : Snd X a ma) (hb : Snd X b mb) (hij : i ≠ j := by decide) (hi : X.N[i]? = some x := by rfl) (hj : X.N[j]? = some y := by rfl)
    (hx : X.env.scope.names.lookup x = some .local := by rfl) (hy : X.env.scope.names.lookup y = some .local := by rfl)
    (hw : swappedStores [.Tuple [.Name x px, .Name y py] kt pt] (.Tuple [a, b] k2 pt2) X.env = pure (some [x, y]) := by rfl)
    (hs : swapsWithSole [.Tuple [.Name x px, .Name y py] kt pt] (.Tuple [a, b] k2 pt2) pos.line X.env = pure false := by rfl) (he : starEach [a, b] X.env = (false, eval a X.env) :: starEach [b] X.env := by rfl) (he2 : starEach [b] X.env = (false, eval b X.env) :: starEach [] X.env := by rfl) :
    SndS X (.Assign [.Tuple [.Name x px, .Name y py] kt pt] (.Tuple [a, b] k2 pt2) pos) (sPar i j ma mb) := fun {π N0 H0 N H σ ρ De} I h => ⟨_, ps_par hc hN hi hj hij hx hy (pa_cons pe_wp (pa_cons pe_wp pa_nil he2) he) hw hs, by
  refine ha I (T.all_mono (fun d hd => ?_) (T.all_bind.mp h))
  intro v H1 e1 r1
  refine hb (I.ext e1) (T.all_mono (fun d2 hd => ?_) (T.all_bind.mp hd))
  intro u H2 e2 r2
  exact ⟨v, u, rfl, hd _ _ _ ((((I.ext e1).ext e2).set (r1.mono e2.kp.hide)).set r2)⟩⟩
theorem ss_par3 {i j l : Nat} {x y z : Str} {px py pz pt : Pos} {kt k2 pt2} {mc : Rho → T D} (hc : X.calm = true) (hN : X.N.Nodup) (ha : Snd X a ma) (hb : Snd X b mb) (hcc : Snd X c mc) (hij : i ≠ j := by decide) (hil : i ≠ l := by decide) (hjl : j ≠ l := by decide) (hi : X.N[i]? = some x := by rfl) (hj : X.N[j]? = some y := by rfl) (hl : X.N[l]? = some z := by rfl)
    (hx : X.env.scope.names.lookup x = some .local := by rfl) (hy : X.env.scope.names.lookup y = some .local := by rfl) (hz : X.env.scope.names.lookup z = some .local := by rfl)
    (hw : swappedStores [.Tuple [.Name x px, .Name y py, .Name z pz] kt pt] (.Tuple [a, b, c] k2 pt2) X.env = pure (some [x, y, z]) := by rfl)
    (hs : swapsWithSole [.Tuple [.Name x px, .Name y py, .Name z pz] kt pt] (.Tuple [a, b, c] k2 pt2) pos.line X.env = pure false := by rfl) (he : starEach [a, b, c] X.env = (false, eval a X.env) :: starEach [b, c] X.env := by rfl) (he2 : starEach [b, c] X.env = (false, eval b X.env) :: starEach [c] X.env := by rfl) (he3 : starEach [c] X.env = (false, eval c X.env) :: starEach [] X.env := by rfl) :
    SndS X (.Assign [.Tuple [.Name x px, .Name y py, .Name z pz] kt pt] (.Tuple [a, b, c] k2 pt2) pos) (sPar3 i j l ma mb mc) := fun {π N0 H0 N H σ ρ De} I h => ⟨_, ps_par3 hc hN hi hj hl hij hil hjl hx hy hz (pa_cons pe_wp (pa_cons pe_wp (pa_cons pe_wp pa_nil he3) he2) he) hw hs, by
  refine ha I (T.all_mono (fun d hd => ?_) (T.all_bind.mp h))
  intro v H1 e1 r1
  refine hb (I.ext e1) (T.all_mono (fun d2 hd => ?_) (T.all_bind.mp hd))
  intro u H2 e2 r2
  refine hcc ((I.ext e1).ext e2) (T.all_mono (fun d3 hd => ?_) (T.all_bind.mp hd))
  intro t H3 e3 r3
  exact ⟨v, u, t, rfl, hd _ _ _ (((((I.ext e1).ext e2).ext e3).set (r1.mono (e2.trans e3).kp.hide)).set (r2.mono e3.kp.hide) |>.set r3)⟩⟩
/-! unary minus -/
def uNeg : D → T D
  | .int i => .ret (.int (-i))
  | _ => .fail
def eUn (f : D → T D) (ma : Rho → T D) : Rho → T D := fun ρ => (ma ρ).bind f
theorem s_neg (ha : Snd X a ma) : Snd X (.UnaryOp .USub a pos) (eUn uNeg ma) := fun {π N0 H0 N H σ ρ Q} I h => ⟨_, pe_un un_neg pe_wp, ha I (T.all_mono (fun d hd => by
  intro v H2 e2 r
  cases d with
  | int i => cases r; exact ⟨_, rfl, hd _ _ e2 (.int _)⟩
  | _ => exact False.elim hd) (T.all_bind.mp h))⟩
/-! f(k = v, ..) -/
def SndK (X : Cx) (kws : List Keyword) (ms : Rho → T (List D)) : Prop := ∀ ⦃π : Addr⦄ ⦃N0 : Addr → Bool⦄ ⦃H0 : Hp⦄ ⦃N : Addr → Bool⦄ ⦃H : Hp⦄ ⦃σ : L2.St⦄ ⦃ρ : Rho⦄ ⦃Q : List V → Hp → Prop⦄, EnvOk X.K X.prog X.w π N0 H0 N H σ ρ → (ms ρ).all (Ka X π N H Q) → ∃ t, PK X kws t ∧ t σ H Q
theorem sk_nil : SndK X [] aNil := fun {_ _ _ _ _ _ _ _} I h => ⟨_, pk_nil, h _ _ (Ex.refl I.hn.pot) .nil⟩
def wpK (X : Cx) (kws : List Keyword) : TA := fun σ H Q => ∃ t, PK X kws t ∧ t σ H Q
theorem pk_wp {kws : List Keyword} : PK X kws (wpK X kws) := ⟨fun pos pins s σ H Q I ⟨_, h, q⟩ => h.run pos pins s σ H Q I q⟩
theorem sk_cons {kws : List Keyword} {nm : Option Str} {kpos : Pos} {ms : Rho → T (List D)} (ha : Snd X e m) (hr : SndK X kws ms) : SndK X (⟨nm, e, kpos⟩ :: kws) (aCons m ms) := fun {_ _ _ _ _ _ _ _} I h =>
  ⟨_, pk_cons pe_wp pk_wp, by
    refine ha I (T.all_mono (fun dx hx => ?_) (T.all_bind.mp h))
    intro v H1 e1 r1
    refine hr (I.ext e1) (T.all_mono (fun dy hy => ?_) (T.all_bind.mp hx))
    intro vs H2 e2 r2
    exact hy _ _ (e1.trans e2) (.cons (r1.mono e2.kp.hide) r2)⟩
end
end Pd

namespace Pd
open PySem L2
section
variable {X : Cx} {pos : Pos}
theorem s_globI {x : Str} {v : Int} (h : ∃ t, X.mg x = some (.int v t)) (hg : Gl X x := by rfl) (hd : (x == ("__debug__" : Str)) = false := by decide) : Snd X (.Name x pos) (eC (.int v)) := fun {_ _ _ _ _ _ _ _} I q => by
  obtain ⟨t, h⟩ := h
  exact ⟨_, pe_glob hg h (v := .int v) ⟨t, rfl⟩ hd, q _ _ (Ex.refl I.hn.pot) (.int v)⟩
/-! isinstance -/
inductive Ty5 where
  | int | bool | str | tuple | list | non
def Ty5.nm : Ty5 → String
  | .int => "int"
  | .bool => "bool"
  | .str => "str"
  | .tuple => "tuple"
  | .list => "list"
  | .non => "NoneType"
def Ty5.sub : Ty5 → Ty5 → Bool
  | .int, .int => true
  | .bool, .bool => true
  | .bool, .int => true
  | .str, .str => true
  | .tuple, .tuple => true
  | .list, .list => true
  | .non, .non => true
  | _, _ => false
theorem kitB_sub (a b : Ty5) : kitB a.nm b.nm = some (Ty5.sub a b) := by
  cases a <;> cases b <;> decide +kernel
def tyD : D → Option Ty5
  | .non => some .non
  | .bl _ => some .bool
  | .int _ => some .int
  | .str _ => some .str
  | .tup _ => some .tuple
  | .lst _ => some .list
  | .dic _ => none
  | .pot => none
  | .ins _ _ => none
def isD (k : Ty5) (d : D) : T D := match tyD d with
  | some t => .ret (.bl (Ty5.sub t k))
  | none => .fail
theorem ty_of {K : PySem.W.Frag} {P : Program} {w : World} {π : Addr} {N : Addr → Bool} {H : Hp} {v : V} {d : D} {t : Ty5} (r : Rv K P w π (Hide N H) v d) (h : tyD d = some t) : TyX K H v (.type t.nm) := by
  cases r with
  | non => cases h; exact .base .non
  | bl b => cases h; exact .base (.bl b)
  | int b => cases h; exact .base (.int b)
  | str b => cases h; exact .base (.str b)
  | tup a n r => cases h; exact .base (.tup (hide_some a).2)
  | tupK a r =>
    cases h
    rcases a (fun _ => none) with (z | ⟨o, z⟩) | ⟨o, _, _, z1, z2, _⟩
    · cases z
    · cases z
    · exact .kTuple z1 z2
  | lst a n r => cases h; exact .base (.lst (hide_some a).2)
  | dic a n r => cases h
  | pot => cases h
  | ins _ _ _ _ => cases h
theorem s_isinst {e : Expr} {m : Rho → T D} {k : Ty5} {ty : Str} {p p2 : Pos} (hm : X.mg "isinstance" = none) (hmt : X.mg ty = none) (hb : bootBuiltins ty = some (.type k.nm)) (ha : Snd X e m) (hg : Gl X "isinstance" := by rfl) (hgt : Gl X ty := by rfl) (hbi : bootBuiltins "isinstance" = some (.builtin "isinstance") := by decide +kernel) (hn : ty ≠ "__name__" := by decide) (hd : (ty == ("__debug__" : Str)) = false := by decide)
    (he : starEach [e, .Name ty p] X.env = (false, eval e X.env) :: starEach [.Name ty p] X.env := by rfl) (he2 : starEach [.Name ty p] X.env = (false, eval (.Name ty p) X.env) :: starEach [] X.env := by rfl) (hpl : (backTo pos (starEach [.Name ty p] X.env)).any (·.1) = false := by rfl) :
    Snd X (.Call (.Name "isinstance" p2) [e, .Name ty p] [] pos) (eUn (isD k) m) := fun {π N0 H0 N H σ ρ Q} I h =>
  ⟨_, pe_callB call_isi hg hm hbi (pa_cons pe_wp (pa_cons (pe_bltn (v := .ty k.nm) hgt hmt hb rfl hn hd) pa_nil he2) he) (by decide) (by decide) he hpl, ha I (T.all_mono (fun d hd => by
    intro v H2 e2 r
    unfold isD at hd
    cases c : tyD d with
    | none => rw [c] at hd; exact False.elim hd
    | some t =>
      rw [c] at hd
      exact ⟨v, .ty k.nm, .type t.nm, .type k.nm, Ty5.sub t k, rfl, .ty _, ty_of r c, kit_ty (kitB_sub t k), hd _ _ e2 (.bl _)⟩) (T.all_bind.mp h))⟩
end
end Pd

/-! Dicts with nested keys. -/
namespace Pd
open PySem L2

section
variable {X : Cx} {π : Addr} {N : Addr → Bool} {H : Hp} {pins : List (Addr × Obj)} {σ : L2.St} {s : Shared}
mutual
theorem Rv.nested (I : Inv X pins σ H s) : ∀ {d : D} {v : V} {k : NestedKey} {u : Value}, Rv X.K X.prog X.w π (Hide N H) v d → d.nk = some k → RelV v u → NestedIs s.heap k u
  | _, _, _, _, .non, h, r => by cases h; cases r; exact .none
  | _, _, _, _, .bl b, h, r => by cases h; cases r; exact .bool rfl
  | _, _, _, _, .int i, h, r => by cases h; obtain ⟨t, rfl⟩ := r; exact .int i t
  | _, _, _, _, .str x, h, r => by cases h; obtain ⟨t, rfl⟩ := r; exact .text x t
  | .tup ds, _, k, _, .tup a n q, h, r => by
    unfold D.nk at h
    cases e : D.nks ds with
    | none => rw [e] at h; cases h
    | some ks =>
      rw [e] at h; cases h; cases r
      obtain ⟨its, rv, ⟨o, ho, hc, m, hd⟩, _⟩ := I.tuple (.inl (.inl (hide_some a).2))
      exact .tup ho hc hd (RvL.nested I q e (by simpa using rv))
  | .tup ds, _, k, _, .tupK a q, h, r => by
    unfold D.nk at h
    cases e : D.nks ds with
    | none => rw [e] at h; cases h
    | some ks =>
      rw [e] at h; cases h; cases r
      obtain ⟨its, rv, ⟨o, ho, hc, m, hd⟩, _⟩ := I.tuple (a H)
      exact .tup ho hc hd (RvL.nested I q e (by simpa using rv))
  | .lst _, _, _, _, _, h, _ => by unfold D.nk at h; cases h
  | .dic _, _, _, _, _, h, _ => by unfold D.nk at h; cases h
  | .pot, _, _, _, _, h, _ => by unfold D.nk at h; cases h
  | .ins _ _, _, _, _, _, h, _ => by unfold D.nk at h; cases h
theorem RvL.nested (I : Inv X pins σ H s) : ∀ {ds : List D} {vs : List V} {ks : List NestedKey} {us : List Value}, RvL X.K X.prog X.w π (Hide N H) vs ds → D.nks ds = some ks → Vals vs us → NestedAll s.heap ks us
  | _, _, _, _, .nil, h, r => by unfold D.nks at h; cases h; cases r; exact .nil
  | d :: ds, _, ks, _, .cons q t, h, r => by
    unfold D.nks at h
    cases e : D.nk d with
    | none => rw [e] at h; cases h
    | some k =>
      rw [e] at h
      cases e2 : D.nks ds with
      | none => rw [e2] at h; cases h
      | some ks' =>
        rw [e2] at h; cases h
        cases r with
        | cons r1 r2 => exact .cons (Rv.nested I q e r1) (RvL.nested I t e2 r2)
end
end

/-! ### entries by keys -/
def putX {α : Type} : List (NestedKey × Addr × α) → NestedKey → Addr → α → List (NestedKey × Addr × α)
  | [], k, a, v => [(k, a, v)]
  | x :: r, k, a, v => if x.1 = k then (x.1, x.2.1, v) :: r else x :: putX r k a v
def valX : List (NestedKey × Addr × V) → NestedKey → Option V
  | [], _ => none
  | x :: r, k => if x.1 = k then some x.2.2 else valX r k
theorem stored_rec {k : NestedKey} {a : Addr} {v : Value} : ∀ {ys : List (NestedKey × Addr × Value)}, (ys.map (·.1)).Nodup → storedH ys k a v = putX ys k a v
  | [], _ => by simp [storedH, atKey, putX]
  | y :: r, hn => by
    rw [List.map_cons, List.nodup_cons] at hn
    by_cases e : y.1 = k
    · have at' : (atKey (y :: r) k).isSome = true := by simp [atKey, e]
      unfold storedH putX
      rw [if_pos at', if_pos e, List.map_cons]
      congr 1
      · unfold putAt; rw [if_pos e]
      · refine (List.map_congr_left (g := id) fun x hx => ?_).trans (List.map_id r)
        unfold putAt
        rw [if_neg (fun z => hn.1 (by rw [e, ← z]; exact List.mem_map_of_mem hx))]
        rfl
    · have ih := stored_rec (k := k) (a := a) (v := v) hn.2
      unfold putX
      rw [if_neg e, ← ih]
      have at' : atKey (y :: r) k = atKey r k := by simp [atKey, e]
      unfold storedH
      rw [at']
      split
      · rw [List.map_cons]; congr 1; unfold putAt; rw [if_neg e]
      · rfl

def hasK (k : NestedKey) (d : D) : Bool := match d.nk with
  | some k' => NestedKey.beq k' k
  | none => false
def dAt : List (D × D) → NestedKey → Option D
  | [], _ => none
  | x :: r, k => cond (hasK k x.1) (some x.2) (dAt r k)
def dPut : List (D × D) → NestedKey → D → D → List (D × D)
  | [], _, dk, dv => [(dk, dv)]
  | x :: r, k, dk, dv => cond (hasK k x.1) ((x.1, dv) :: r) (x :: dPut r k dk dv)
theorem hasK_eq {k k' : NestedKey} {d : D} (h : d.nk = some k') : hasK k d = decide (k' = k) := by
  unfold hasK
  rw [h, NestedKey.decide_eq]

abbrev PX : List (NestedKey × Addr × V) → List (NestedKey × Addr × Value) → Prop := Paired fun p q => p.1 = q.1 ∧ p.2.1 = q.2.1 ∧ RelV p.2.2 q.2.2
theorem PX.val {k : NestedKey} {xs : List (NestedKey × Addr × V)} {ys : List (NestedKey × Addr × Value)} (r : PX xs ys) : RelO (valX xs k) ((atKey ys k).map (·.2)) := by
  induction r with
  | nil => exact True.intro
  | @cons p q ps qs h t ih =>
    obtain ⟨h1, h2, h3⟩ := h
    by_cases e : p.1 = k
    · have e2 : q.1 = k := by rw [← h1]; exact e
      simp only [valX, atKey, e, e2, if_true, List.find?_cons, decide_true, Option.map_some]
      exact h3
    · have e2 : ¬ q.1 = k := by rw [← h1]; exact e
      have z : atKey (q :: qs) k = atKey qs k := by simp [atKey, e2]
      rw [z]
      simp only [valX, if_neg e]
      exact ih
theorem PX.put {k : NestedKey} {a : Addr} {v : V} {u : Value} (rv : RelV v u) {xs : List (NestedKey × Addr × V)} {ys : List (NestedKey × Addr × Value)} (r : PX xs ys) : PX (putX xs k a v) (putX ys k a u) := by
  induction r with
  | nil => exact .cons ⟨rfl, rfl, rv⟩ .nil
  | @cons p q ps qs h t ih =>
    by_cases e : p.1 = k
    · have e2 : q.1 = k := by rw [← h.1]; exact e
      unfold putX
      rw [if_pos e, if_pos e2]
      exact .cons ⟨h.1, h.2.1, rv⟩ t
    · have e2 : ¬ q.1 = k := by rw [← h.1]; exact e
      unfold putX
      rw [if_neg e, if_neg e2]
      exact .cons h ih
theorem PX.keys {xs : List (NestedKey × Addr × V)} {ys : List (NestedKey × Addr × Value)} (r : PX xs ys) : xs.map (·.1) = ys.map (·.1) := by
  induction r with
  | nil => rfl
  | cons h t ih => rw [List.map_cons, List.map_cons, h.1, ih]
theorem putX_len {α : Type} {k : NestedKey} {a : Addr} {v : α} : ∀ {xs : List (NestedKey × Addr × α)}, (putX xs k a v).length ≤ xs.length + 1
  | [] => Nat.le_refl _
  | x :: r => by
    unfold putX
    split
    · simp
    · have := putX_len (k := k) (a := a) (v := v) (xs := r)
      simp; exact this
section
variable {K : PySem.W.Frag} {P : Program} {w : World} {π : Addr} {H : Hp}
theorem RvD.length : ∀ {kvs : List (D × D)} {xs : List (NestedKey × Addr × V)}, RvD K P w π H xs kvs → xs.length = kvs.length
  | _, _, .nil => rfl
  | _, _, .cons _ _ _ _ t => congrArg Nat.succ (RvD.length t)
theorem RvD.val {k : NestedKey} : ∀ {kvs : List (D × D)} {xs : List (NestedKey × Addr × V)}, RvD K P w π H xs kvs → match dAt kvs k with
    | some d => ∃ v, valX xs k = some v ∧ Rv K P w π H v d
    | none => valX xs k = none
  | _, _, .nil => rfl
  | _, _, .cons (k := k') (dk := dk) e dp rk r t => by
    have ih := RvD.val (k := k) t
    unfold dAt valX
    rw [hasK_eq e]
    by_cases q : k' = k
    · simp only [q, decide_true, cond_true, if_true]
      exact ⟨_, rfl, r⟩
    · simp only [q, decide_false, cond_false, if_false]
      exact ih
theorem RvD.put {k : NestedKey} {a : Addr} {v : V} {dk dv : D} (e : dk.nk = some k) (dp : k.depth ≤ 8) (rk : Rv K P w π H (.ref a) dk) (rv : Rv K P w π H v dv) : ∀ {kvs : List (D × D)} {xs : List (NestedKey × Addr × V)}, RvD K P w π H xs kvs → RvD K P w π H (putX xs k a v) (dPut kvs k dk dv)
  | _, _, .nil => .cons e dp rk rv .nil
  | _, _, .cons (k := k') e' dp' rk' r t => by
    have ih := RvD.put e dp rk rv t
    unfold putX dPut
    rw [hasK_eq e']
    by_cases q : k' = k
    · simp only [q, decide_true, cond_true, if_true]
      subst q
      exact .cons e' dp' rk' rv t
    · simp only [q, decide_false, cond_false, if_false]
      exact .cons e' dp' rk' r ih
theorem RvD.get : ∀ {kvs : List (D × D)} {xs : List (NestedKey × Addr × V)} {i : Nat} {p : D × D}, RvD K P w π H xs kvs → kvs[i]? = some p → ∃ k a v, xs[i]? = some (k, a, v) ∧ Rv K P w π H (.ref a) p.1 ∧ Rv K P w π H v p.2
  | _, _, _, _, .nil, e => by simp at e
  | _, _, 0, _, .cons _ _ rk r _, e => by simp at e; subst e; exact ⟨_, _, _, rfl, rk, r⟩
  | _, _, i + 1, _, .cons _ _ _ _ t, e => RvD.get (i := i) t e
end

section
variable {X : Cx} {π : Addr} {N : Addr → Bool} {H : Hp} {pins : List (Addr × Obj)} {σ : L2.St} {s : Shared}
/-- the entries' keys are keys -/
theorem RvD.keys (I : Inv X pins σ H s) : ∀ {kvs : List (D × D)} {xs : List (NestedKey × Addr × V)} {ys : List (NestedKey × Addr × Value)}, RvD X.K X.prog X.w π (Hide N H) xs kvs → PX xs ys → ∀ y ∈ ys, (nestedKind X.prog X.w).is s.heap y.1 y.2.1
  | _, _, _, .nil, .nil => fun _ h => nomatch h
  | _, _, _, .cons e dp rk r t, .cons h p => fun y hy => by
    rcases List.mem_cons.mp hy with z | z
    · subst z
      have h1 : _ = y.1 := h.1
      have h2 : _ = y.2.1 := h.2.1
      rw [← h1, ← h2]
      exact ⟨Rv.nested I rk e rfl, dp⟩
    · exact RvD.keys I t p y z
def KeyAt (X : Cx) (H : Hp) (b : Addr) (k : NestedKey) : Prop := k.depth ≤ 8 ∧ ∃ (π : Addr) (N : Addr → Bool) (d : D), Rv X.K X.prog X.w π (Hide N H) (.ref b) d ∧ d.nk = some k
def EntAt (X : Cx) (H : Hp) (xs : List (NestedKey × Addr × V)) : Prop := ∃ (π : Addr) (N : Addr → Bool) (kvs : List (D × D)), RvD X.K X.prog X.w π (Hide N H) xs kvs
theorem KeyAt.is (I : Inv X pins σ H s) {b : Addr} {k : NestedKey} (h : KeyAt X H b k) : (nestedKind X.prog X.w).is s.heap k b := let ⟨dp, _, _, _, r, e⟩ := h; ⟨Rv.nested I r e rfl, dp⟩
theorem dn_of (I : Inv X pins σ H s) {a : Addr} {xs : List (NestedKey × Addr × V)} (h : Rd H a (DN X.prog X.w a xs)) (en : EntAt X H xs) : (a == sysModules) = false ∧ xs.length ≤ sizeLine ∧ ∃ ys, PX xs ys ∧ s.heap.DictOfH (nestedKind X.prog X.w) a ys := by
  obtain ⟨π, N, kvs, rd⟩ := en
  have ok : ObjOk X.prog X.w H s.heap a (DN X.prog X.w a xs) := rd_of I.hok h
  obtain ⟨⟨h1, h2, h3, ys, pr, o, es, ep, ho, hc, hd, he⟩, _⟩ := ok
  exact ⟨h1, h2, ys, pr, o, es, ep, ho, hc, hd, he, RvD.keys I rd pr, by rw [← PX.keys pr]; exact h3⟩
theorem dn_ok {P : Program} {w : World} {H' : Hp} {h : Heap} {a : Addr} {xs : List (NestedKey × Addr × V)} {ys : List (NestedKey × Addr × Value)} (h1 : (a == sysModules) = false) (h2 : xs.length ≤ sizeLine) (pr : PX xs ys) (dd : h.DictOfH (nestedKind P w) a ys) : ObjOk P w H' h a (DN P w a xs) := by
  obtain ⟨o, es, ep, ho, hc, hd, he, _, hn⟩ := dd
  refine ⟨⟨h1, h2, by rw [PX.keys pr]; exact hn, ys, pr, o, es, ep, ho, hc, hd, he⟩, ⟨o, ho⟩, fun g1 g2 hg k => ?_⟩
  obtain ⟨x1, x2, x3, ys, pr, o, es, ep, ho, r⟩ := hg
  exact ⟨x1, x2, x3, ys, pr, o, es, ep, k _ ho, r⟩
/-- d[k] -/
theorem dn_getItem {A : Around} {E : Value → Shared → Prop} {a b : Addr} {xs : List (NestedKey × Addr × V)} {k : NestedKey} {v : V} {Q : Value → Shared → Prop} (hu : A.units + 64 < cLine) (I : Inv X pins σ H s) (h : Rd H a (DN X.prog X.w a xs)) (en : EntAt X H xs) (kk : KeyAt X H b k) (hv : valX xs k = some v)
    (hq : ∀ w' s', Inv X pins σ H s' → RelV v w' → Q w' s') : wpAny (model X.prog X.w) A (getItem (.ref a) (.ref b)) Q E s := by
  obtain ⟨h1, h2, ys, pr, dd⟩ := dn_of I h en
  obtain ⟨w', hw, rw'⟩ := RelO.some_of (v := v) (o := (atKey ys k).map (·.2)) (by rw [← hv]; exact pr.val)
  obtain ⟨p, hp, hp2⟩ := Option.map_eq_some_iff.mp hw
  refine wpAny_getItem_heap (knd := nestedKind X.prog X.w) (by show A.in1.units + 8 < cLine; rw [Around.in1_units]; omega) (kk.is I) dd hp ?_
  rw [hp2]
  exact hq w' _ (I.tok _) rw'
/-- d.get(k, x) -/
theorem dn_get2 {A : Around} {E : Value → Shared → Prop} {a b : Addr} {xs : List (NestedKey × Addr × V)} {k : NestedKey} {z : V} {r : Value} {Q : Value → Shared → Prop} (hu : A.units + 64 < cLine) (I : Inv X pins σ H s) (h : Rd H a (DN X.prog X.w a xs)) (en : EntAt X H xs) (kk : KeyAt X H b k) (rz : RelV z r)
    (hq : ∀ w' s', Inv X pins σ H s' → RelV ((valX xs k).getD z) w' → Q w' s') : wpAny (model X.prog X.w) A (call (.builtin "dict.get") [.ref a, .ref b, r]) Q E s := by
  obtain ⟨h1, h2, ys, pr, dd⟩ := dn_of I h en
  refine call_meetsIn PySem.F.slot_dict_get dd.typeIs PySem.F.entry_dict_get (PySem.F.args_dict_get_3 _ _ _) (meetsH_dict_get_default (nestedKind X.prog X.w) a b h1 r) ⟨by show A.in1.units + 8 < cLine; rw [Around.in1_units]; omega, k, ys, kk.is I, dd, hq _ _ (I.tok _) ?_⟩
  exact (pr.val (k := k)).getD rz
/-- d[k] = v -/
theorem dn_setItem {A : Around} {E : Value → Shared → Prop} {a b : Addr} {xs : List (NestedKey × Addr × V)} {k : NestedKey} {v : V} {r : Value} {Q : Unit → Shared → Prop} (hu : A.units + 64 < cLine) (I : Inv X pins σ H s) (h : H a = some (DN X.prog X.w a xs)) (en : EntAt X H xs) (kk : KeyAt X H b k) (hz : xs.length < sizeLine) (rv : RelV v r)
    (hq : ∀ s', Inv X pins σ (upd H a (DN X.prog X.w a (putX xs k b v))) s' → Q () s') : wpAny (model X.prog X.w) A (setItem (.ref a) (.ref b) r) Q E s := by
  obtain ⟨h1, h2, ys, pr, dd⟩ := dn_of I (.inl h) en
  have hl : ys.length = xs.length := (Paired.length pr).symm
  have hn : (ys.map (·.1)).Nodup := by obtain ⟨_, _, _, _, _, _, _, _, q⟩ := dd; exact q
  refine wpAny_setItem_heap (knd := nestedKind X.prog X.w) (hsz := by rw [hl]; exact h2) (by show A.in1.units + 8 < cLine; rw [Around.in1_units]; omega) (kk.is I) dd fun h' dd' hs => hq _ ?_
  have he : ∃ q, h'.get? a = some q := let ⟨q, _, _, e, _⟩ := dd'; ⟨q, e⟩
  rw [stored_rec hn] at dd'
  refine d_write I (by rw [h]; exact True.intro) hs he (dn_ok h1 ?_ (pr.put rv) dd')
  have := putX_len (k := k) (a := b) (v := v) (xs := xs)
  omega
end
end Pd

/-! Dicts with nested keys: the rules. -/
namespace Pd
open PySem L2

theorem dn_empty {P : Program} {w : World} {H : Hp} (h : Heap) (hb : sysModules < h.objs.size) : ObjOk P w H (h.push { cls := .type "dict", data := .dict #[] }) h.objs.size (DN P w h.objs.size []) :=
  dn_ok (beq_eq_false_iff_ne.mpr (Ne.symm (Nat.ne_of_lt hb))) (Nat.zero_le _) .nil (Heap.DictOfH.new h)
section
variable {X : Cx} {π : Addr} {N0 N : Addr → Bool} {H0 H : Hp} {pins : List (Addr × Obj)} {σ : L2.St} {ρ : Rho} {s : Shared} {pos : Pos} {a b ke ve e f : Expr} {m mk mv ma mb : Rho → T D}
theorem pe_dnewN : PE X (.Dict [] [] pos) (fun _ H Q => ∀ p, H p = none → Q (.ref p) (upd H p (DN X.prog X.w p []))) := ⟨fun pins s σ H Q I h =>
  wpAny_Dict_empty ⟨.ref s.heap.objs.size, _, I.laid (a := s.heap.objs.size) (o := DN X.prog X.w s.heap.objs.size []) (t' := s.toks) (fun _ _ q => Heap.get?_push_of_some _ q) (Nat.le_refl _) (dn_empty s.heap I.big), rfl, h _ (I.hok.fresh (Nat.le_refl _))⟩⟩
def sOwnD (i : Nat) : Rho → T Out := fun ρ => .ret (.nx (ρ.set i (.ownD [])))
theorem ss_ownD {i : Nat} {x : Str} {pos' pd : Pos} (hN : X.N.Nodup) (hi : X.N[i]? = some x := by rfl) (hx : Loc X.env.scope x := by first | exact .inl rfl | exact .inr rfl) (hs : swapsWith (.Dict [] [] pd) (some (.Name x pos')) pos.line X.env = pure false := by rfl) (hf : X.fn x = true ∨ X.env.scope.names.lookup x = some .local := by first | exact .inl rfl | exact .inr rfl) :
    SndS X (.Assign [.Name x pos'] (.Dict [] [] pd) pos) (sOwnD i) := fun {π N0 H0 N H σ ρ De} I h => ⟨_, ps_set hN hi hx pe_dnewN hs hf, fun p hp => by
  have e := Ex.new (o := DN X.prog X.w p []) I.hn.pot hp
  exact h _ _ _ (I.newAny e hp (by rw [upd_same]; exact fun z => by cases z) (.inr ⟨[], [], rfl, upd_same, .nil⟩))⟩

/-- a key's data -/
def keyD (d : D) : Option NestedKey := match d with
  | .tup ds => match D.nk (.tup ds) with
    | some k => cond (decide (k.depth ≤ 8)) (some k) none
    | none => none
  | _ => none
theorem keyD_of {d : D} {k : NestedKey} (h : keyD d = some k) : ∃ ds, d = .tup ds ∧ d.nk = some k ∧ k.depth ≤ 8 := by
  unfold keyD at h
  split at h
  · rename_i ds
    split at h
    · rename_i k' e
      cases c : decide (k'.depth ≤ 8) with
      | true => rw [c] at h; cases h; exact ⟨ds, rfl, e, of_decide_eq_true c⟩
      | false => rw [c] at h; cases h
    · cases h
  · cases h
def withKey {α : Type} (d : D) (f : NestedKey → T α) : T α := match keyD d with
  | some k => f k
  | none => .fail
theorem withKey_all {α : Type} {P : α → Prop} {d : D} {f : NestedKey → T α} (h : (withKey d f).all P) : ∃ ds k, d = .tup ds ∧ d.nk = some k ∧ k.depth ≤ 8 ∧ (f k).all P := by
  unfold withKey at h
  split at h
  · obtain ⟨ds, e, e2, dp⟩ := keyD_of (by assumption)
    exact ⟨ds, _, e, e2, dp, h⟩
  · exact False.elim h
def sPut (i : Nat) (mk mv : Rho → T D) : Rho → T Out := fun ρ => match ρ[i]? with
  | some (.ownD kvs) => (mv ρ).bind fun dv => (mk ρ).bind fun dk => withKey dk fun k => cond (decide (kvs.length ≤ 100000)) (.ret (.nx (ρ.set i (.ownD (dPut kvs k dk dv))))) .fail
  | _ => .fail
theorem ps_putN {i : Nat} {x : Str} {p pos' : Pos} (hu : X.A.units + 64 < cLine) (hN : X.N[i]? = some x) (hv : Vis X.env.scope x) (hd : (x == ("__debug__" : Str)) = false) (hcd : (x == ("__classdict__" : Str)) = false) (hs : swapsWith ve (some (.Subscript (.Name x p) ke pos')) pos.line X.env = pure false) :
    PS X (.Assign [.Subscript (.Name x p) ke pos'] ve pos) (fun De σ H => wpE X ve σ H fun v H1 => ∃ l, σ[i]? = some (some (.ref l)) ∧ wpE X ke σ H1 fun y H2 => ∃ b xs k, y = .ref b ∧ H2 l = some (DN X.prog X.w l xs) ∧ EntAt X H2 xs ∧ KeyAt X H2 b k ∧ xs.length < sizeLine ∧ De.nx σ (upd H2 l (DN X.prog X.w l (putX xs k b v)))) := by
  refine ⟨fun pins s σ H D I h => ?_⟩
  refine wpAny_Assign_Subscript (thn (pe_wp.run pins s σ H _ I h) fun r s1 ⟨v, H1, I1, rv, l, hl, q1⟩ => thn ((pe_var hN hv hd hcd).run pins s1 σ H1 (fun x H2 => x = .ref l ∧ H2 = H1) I1 ⟨_, hl, rfl, rfl⟩) fun u s2 ⟨x, H2, I2, rx, ex, eH⟩ => ?_) hs
  subst ex eH
  refine thn (pe_wp.run pins s2 σ H2 _ I2 q1) fun iv s3 ⟨y, H3, I3, ry, b, xs, k, ey, hd, en, kk, hz, q3⟩ => ?_
  subst ey
  obtain rfl : u = Value.ref l := rx
  obtain rfl : iv = Value.ref b := ry
  exact dn_setItem hu I3 hd en kk hz rv fun s4 I4 => ⟨σ, _, I4, q3⟩
theorem ss_put (i : Nat) {x : Str} {p pos' : Pos} (hu : X.A.units + 64 < cLine) (hve : Snd X ve mv) (hke : Snd X ke mk) (hN : X.N[i]? = some x := by rfl) (hv : Vis X.env.scope x := by first | exact Or.inl rfl | exact Or.inr (Or.inl rfl) | exact Or.inr (Or.inr rfl)) (hd : (x == ("__debug__" : Str)) = false := by decide)
    (hcd : (x == ("__classdict__" : Str)) = false := by decide) (hs : swapsWith ve (some (.Subscript (.Name x p) ke pos')) pos.line X.env = pure false := by rfl) : SndS X (.Assign [.Subscript (.Name x p) ke pos'] ve pos) (sPut i mk mv) := fun {π N0 H0 N H σ ρ De} I h => ⟨_, ps_putN hu hN hv hd hcd hs, by
  unfold sPut at h
  split at h
  · rename_i kvs c
    refine hve I (T.all_mono (fun dv hdv => ?_) (T.all_bind.mp h))
    intro v H1 e1 r1
    have I1 := I.ext e1
    obtain ⟨l, xs, hs1, nl, n0, hl, rl⟩ := I1.dic i kvs c
    refine ⟨l, hs1, hke I1 (T.all_mono (fun dk hdk => ?_) (T.all_bind.mp hdv))⟩
    intro y H2 e2 r2
    obtain ⟨ds, k, rfl, e, dp, hdk⟩ := withKey_all hdk
    obtain ⟨hsm, hdk⟩ := cond_all hdk
    obtain ⟨b, vs, rfl, hb, rb⟩ := id r2.tupE
    have hl2 := e2.kp l _ (N_ne I1.hn nl) hl
    have rl2 := rl.mono e2.kp.hide
    refine ⟨b, xs, k, rfl, hl2, ⟨_, _, _, rl2⟩, ⟨dp, _, _, _, r2, e⟩, ?_, ?_⟩
    · rw [rl.length]
      exact Nat.lt_of_le_of_lt (of_decide_eq_true hsm) (by decide)
    · exact hdk _ _ _ ((I1.ext e2).upAny c rfl hs1 nl n0 (.inr ⟨_, _, rfl, rfl, RvD.put e dp r2 (r1.mono e2.kp.hide) rl2⟩))
  · exact False.elim h⟩
/-! d.get(k, x) of an own dict -/
def getOwn (i : Nat) (mk mx : Rho → T D) : Rho → T D := fun ρ => match ρ[i]? with
  | some (.ownD kvs) => (mk ρ).bind fun dk => (mx ρ).bind fun dx => withKey dk fun k => .ret ((dAt kvs k).getD dx)
  | _ => .fail
theorem dn_noDict {H : Hp} {a : Addr} {xs : List (NestedKey × Addr × V)} (I : Inv X pins σ H s) (h : Rd H a (DN X.prog X.w a xs)) (en : EntAt X H xs) : s.TypeIs (.ref a) "dict" ∧ ∀ b, Value.ref a = .ref b → ∃ ob, s.heap.get? b = some ob ∧ ob.dict = none := by
  obtain ⟨_, _, ys, _, dd⟩ := dn_of I h en
  refine ⟨dd.typeIs, fun b q => ?_⟩
  cases q
  obtain ⟨o, es, ep, ho, hc, _⟩ := dd
  exact ⟨o, ho, hc.2.1⟩
theorem pe_getN {i : Nat} {x : Str} {p apos cpos : Pos} (hu : X.A.units + 64 < cLine) (hN : X.N[i]? = some x) (hv : Vis X.env.scope x) (hd : (x == ("__debug__" : Str)) = false) (hcd : (x == ("__classdict__" : Str)) = false) (m : M2 X (.Name x p) "get" apos e f cpos) :
    PE X (.Call (.Attribute (.Name x p) "get" apos) [e, f] [] cpos) (fun σ H Q => ∃ l xs, σ[i]? = some (some (.ref l)) ∧ Rd H l (DN X.prog X.w l xs) ∧ EntAt X H xs ∧ wpE X e σ H fun y H2 => wpE X f σ H2 fun z H3 => ∃ b k, y = .ref b ∧ Rd H3 l (DN X.prog X.w l xs) ∧ EntAt X H3 xs ∧ KeyAt X H3 b k ∧ Q ((valX xs k).getD z) H3) := by
  refine ⟨fun pins s σ H Q I h => ?_⟩
  obtain ⟨l, xs, hl, h1, en, q1⟩ := h
  refine wpAny_Call_method m.base m.few m.line PySem.F.plainAttrs_dict PySem.F.slot_dict_get PySem.F.type_dict_get (thn ((pe_var hN hv hd hcd).run pins s σ H (fun x H2 => x = .ref l ∧ H2 = H) I ⟨_, hl, rfl, rfl⟩) fun u s1 ⟨x, H1, I1, rx, ex, eH⟩ => ?_)
  subst ex eH
  obtain rfl : u = Value.ref l := rx
  obtain ⟨t1, t2⟩ := dn_noDict I1 h1 en
  refine ⟨t1, t2, ?_⟩
  rw [m.trees]
  refine Calls.callWith_builtin rfl (Calls.evalArgs_plain (Calls.spliced_cons (thn (pe_wp.run pins s1 σ H1 _ I1 q1) fun iv s2 ⟨y, H2, I2, ry, q2⟩ =>
    Calls.spliced_cons (thn (pe_wp.run pins s2 σ H2 _ I2 q2) fun fv s3 ⟨z, H3, I3, rz, b, k, ey, h3, en3, kk, q3⟩ => Calls.spliced_nil ?_))))
  subst ey
  obtain rfl : iv = Value.ref b := ry
  exact dn_get2 hu I3 h3 en3 kk rz fun w' s4 I4 rw' => ⟨_, H3, I4, rw', q3⟩
theorem s_getOwn (i : Nat) {x : Str} {p apos cpos : Pos} (hu : X.A.units + 64 < cLine) (hke : Snd X e mk) (hxe : Snd X f mv) (hN : X.N[i]? = some x := by rfl) (hv : Vis X.env.scope x := by first | exact Or.inl rfl | exact Or.inr (Or.inl rfl) | exact Or.inr (Or.inr rfl)) (hd : (x == ("__debug__" : Str)) = false := by decide)
    (hcd : (x == ("__classdict__" : Str)) = false := by decide) (m : M2 X (.Name x p) "get" apos e f cpos := by exact ⟨rfl, rfl, rfl, rfl⟩) : Snd X (.Call (.Attribute (.Name x p) "get" apos) [e, f] [] cpos) (getOwn i mk mv) := fun {π N0 H0 N H σ ρ Q} I h => ⟨_, pe_getN hu hN hv hd hcd m, by
  unfold getOwn at h
  split at h
  · rename_i kvs c
    obtain ⟨l, xs, hs1, nl, n0, hl, rl⟩ := I.dic i kvs c
    refine ⟨l, xs, hs1, .inl hl, ⟨_, _, _, rl⟩, hke I (T.all_mono (fun dk hdk => ?_) (T.all_bind.mp h))⟩
    intro y H1 e1 r1
    refine hxe (I.ext e1) (T.all_mono (fun dx hdx => ?_) (T.all_bind.mp hdk))
    intro z H2 e2 r2
    obtain ⟨ds, k, rfl, ek, dp, hdx⟩ := withKey_all hdx
    obtain ⟨b, vs, rfl, hb, rb⟩ := id r1.tupE
    have e12 := e1.trans e2
    have rl2 := rl.mono e12.kp.hide
    refine ⟨b, k, rfl, .inl (e12.kp l _ (N_ne I.hn nl) hl), ⟨_, _, _, rl2⟩, ⟨dp, _, _, _, r1.mono e2.kp.hide, ek⟩, ?_⟩
    have hv := RvD.val (k := k) rl2
    cases q : dAt kvs k with
    | none =>
      rw [q] at hv hdx
      have hv : valX xs k = none := hv
      rw [hv]
      exact hdx z H2 e12 r2
    | some d =>
      rw [q] at hv hdx
      obtain ⟨v, hv, rv⟩ := (show ∃ v, valX xs k = some v ∧ Rv X.K X.prog X.w π (Hide N H2) v d from hv)
      rw [hv]
      exact hdx v H2 e12 rv
  · exact False.elim h⟩
/-! d[k] of a dict that is a value -/
def dGet : D → D → T D := fun d dk => match d with
  | .dic kvs => withKey dk fun k => match dAt kvs k with
    | some d => .ret d
    | none => .fail
  | _ => .fail
theorem pe_dgetN (hu : X.A.units + 64 < cLine) (hs : NoSl b) : PE X (.Subscript a b pos) (fun σ H Q => wpE X a σ H fun x H1 => wpE X b σ H1 fun y H2 => ∃ l xs c k v, x = .ref l ∧ y = .ref c ∧ Rd H2 l (DN X.prog X.w l xs) ∧ EntAt X H2 xs ∧ KeyAt X H2 c k ∧ valX xs k = some v ∧ Q v H2) := by
  refine ⟨fun pins s σ H Q I h => ?_⟩
  refine subD_of PySem.F.slot_dict_getitem.lookup hs (thn (pe_wp.run pins s σ H _ I h) fun u s1 ⟨x, H1, I1, rx, q1⟩ => thn (pe_wp.run pins s1 σ H1 _ I1 q1) fun iv s2 ⟨y, H2, I2, ry, l, xs, c, k, v, ex, ey, hr, en, kk, hv, q2⟩ => ?_)
  subst ex ey
  obtain rfl : u = Value.ref l := rx
  obtain rfl : iv = Value.ref c := ry
  exact ⟨(dn_noDict I2 hr en).1, dn_getItem hu I2 hr en kk hv fun w' s3 I3 rw' => ⟨v, H2, I3, rw', q2⟩⟩
theorem Rv.dicE {K : PySem.W.Frag} {P : Program} {w : World} {π : Addr} {N : Addr → Bool} {H : Hp} {v : V} {kvs : List (D × D)} (r : Rv K P w π (Hide N H) v (.dic kvs)) : ∃ a od xs, v = .ref a ∧ H a = some (.frz od (DN P w a xs)) ∧ N a = false ∧ a ≠ π ∧ RvD K P w π (Hide N H) xs kvs := by
  cases r with
  | dic h n r => exact ⟨_, _, _, rfl, (hide_some h).2, (hide_some h).1, n, r⟩
theorem s_dGet (hu : X.A.units + 64 < cLine) (ha : Snd X a ma) (hb : Snd X b mb) (hs : NoSl b) : Snd X (.Subscript a b pos) (eBin dGet ma mb) := fun {π N0 H0 N H σ ρ Q} I h => ⟨_, pe_dgetN hu hs, by
  refine ha I (T.all_mono (fun dx hx => ?_) (T.all_bind.mp h))
  intro v H1 e1 r1
  refine hb (I.ext e1) (T.all_mono (fun dy hy => ?_) (T.all_bind.mp hx))
  intro u H2 e2 r2
  unfold dGet at hy
  split at hy
  · rename_i kvs
    obtain ⟨ds, k, rfl, ek, dp, hy⟩ := withKey_all hy
    obtain ⟨l, od, xs, rfl, hl, _, _, rl⟩ := (r1.mono e2.kp.hide).dicE
    obtain ⟨c, vs, rfl, hb, rb⟩ := id r2.tupE
    have hv := RvD.val (k := k) rl
    cases q : dAt kvs k with
    | none => rw [q] at hy; exact False.elim hy
    | some d =>
      rw [q] at hv hy
      obtain ⟨v, hv, rv⟩ := (show ∃ v, valX xs k = some v ∧ Rv X.K X.prog X.w π (Hide N H2) v d from hv)
      exact ⟨l, xs, c, k, v, rfl, rfl, .inr ⟨_, hl⟩, ⟨_, _, _, rl⟩, ⟨dp, _, _, _, r2, ek⟩, hv, hy v H2 (e1.trans e2) rv⟩
  · exact False.elim hy⟩
/-! {k: v} -/
def eDict1 (mk mv : Rho → T D) : Rho → T D := fun ρ => (mk ρ).bind fun dk => (mv ρ).bind fun dv => withKey dk fun _ => .ret (.dic [(dk, dv)])
theorem pe_dict1 (hu : X.A.units + 64 < cLine) : PE X (.Dict [some ke] [ve] pos) (fun σ H Q => ∀ p, H p = none → wpE X ke σ (upd H p (DN X.prog X.w p [])) fun y H1 => wpE X ve σ H1 fun v H2 => ∃ b k, y = .ref b ∧ KeyAt X H2 b k ∧ H2 p = some (DN X.prog X.w p []) ∧ ∀ od, Q (.ref p) (upd H2 p (.frz od (DN X.prog X.w p [(k, b, v)])))) := by
  refine ⟨fun pins s σ H Q I h => ?_⟩
  have hn := I.hok.fresh (Nat.le_refl s.heap.objs.size)
  have I1 := I.laid (a := s.heap.objs.size) (o := DN X.prog X.w s.heap.objs.size []) (h' := s.heap.push { cls := .type "dict", data := .dict #[] }) (t' := s.toks) (fun _ _ q => Heap.get?_push_of_some _ q) (Nat.le_refl _) (dn_empty s.heap I.big)
  have hshape : (evalEachOpt [some ke] X.env).zip ((evalEach [ve] X.env).map fun v => do let x ← v; standAt pos; pure x) = ([(eval ke X.env, do let x ← eval ve X.env; standAt pos; pure x)] : List (Sem Value × Sem Value)).map fun p => (some p.1, p.2) := rfl
  rw [arm_eval_Dict, hshape, dictDisplay_pairs [(eval ke X.env, do let x ← eval ve X.env; standAt pos; pure x)] (by simp) (by simp)]
  refine wpAny_bind (wpAny_standAt (wpAny_bind (wpAny_subDictH (knd := nestedKind X.prog X.w) (by show X.A.units + 8 < cLine; omega) (by simp)
    (evalPairs_cons (thn (pe_wp.run pins _ σ _ _ I1 (h _ hn)) fun u s1 ⟨y, H1, I1, ry, q1⟩ => wpAny_bind (thn (pe_wp.run pins s1 σ H1 _ I1 q1) fun w2 s2 ⟨v, H2, I2, rv, b, k, ey, kk, hp, q⟩ => wpAny_bind (wpAny_standAt (wpAny_pure (evalPairs_nil ?_)))))))))
  subst ey
  obtain rfl : u = Value.ref b := ry
  obtain ⟨h1, _, ys, pr, dd⟩ := dn_of I2 (.inl hp) ⟨s.heap.objs.size, fun _ => false, [], .nil⟩
  cases pr
  refine ⟨[(k, b, w2)], ⟨rfl, rfl, kk.is I2, True.intro⟩, dd, fun h' tk dz sb => wpAny_pure ?_⟩
  have I3 : Inv X pins σ (upd H2 s.heap.objs.size (DN X.prog X.w s.heap.objs.size [(k, b, v)])) { s2 with heap := h', toks := tk } := by
    have he : ∃ q, h'.get? s.heap.objs.size = some q := let ⟨q, _, _, e, _⟩ := dz; ⟨q, e⟩
    exact d_write I2 (by rw [hp]; exact True.intro) sb he (dn_ok h1 (show 1 ≤ sizeLine by decide) (.cons ⟨rfl, rfl, rv⟩ .nil) dz)
  obtain ⟨od, I4⟩ := I3.lock upd_same True.intro
  rw [upd_upd] at I4
  exact ⟨.ref s.heap.objs.size, _, I4, rfl, q od⟩
theorem EnvOk.hideNewD {l : Addr} (I : EnvOk X.K X.prog X.w π N0 H0 N H σ ρ) (hl : H l = none) : EnvOk X.K X.prog X.w π N0 H0 (plus N l) (upd H l (DN X.prog X.w l [])) σ ρ := by
  have J := I.newAny (i := σ.length) (x := .ownD []) (Ex.new (o := DN X.prog X.w l []) I.hn.pot hl) hl (by rw [upd_same]; exact fun z => by cases z) (.inr ⟨[], [], rfl, upd_same, .nil⟩)
  rw [List.set_eq_of_length_le (Nat.le_refl _), List.set_eq_of_length_le (by rw [I.len]; exact Nat.le_refl _)] at J
  exact J
theorem s_dict1 (hu : X.A.units + 64 < cLine) (hk : Snd X ke mk) (hv : Snd X ve mv) : Snd X (.Dict [some ke] [ve] pos) (eDict1 mk mv) := fun {π N0 H0 N H σ ρ Q} I h => ⟨_, pe_dict1 hu, fun p hp => by
  have Np := I.hn.new hp
  have ppi := I.hn.pot.ne hp
  have I1 := I.hideNewD hp
  refine hk I1 (T.all_mono (fun dk hdk => ?_) (T.all_bind.mp h))
  intro y H1 e1 r1
  refine hv (I1.ext e1) (T.all_mono (fun dv hdv => ?_) (T.all_bind.mp hdk))
  intro v H2 e2 r2
  obtain ⟨ds, k, rfl, ek, dp, hdv⟩ := withKey_all hdv
  have r1 := r1.mono e2.kp.hide
  obtain ⟨b, vs, rfl, hb, rb⟩ := id r1.tupE
  have e12 := e1.trans e2
  have h2 : H2 p = some (DN X.prog X.w p []) := e12.kp p _ ppi upd_same
  refine ⟨b, k, rfl, ⟨dp, _, _, _, r1, ek⟩, h2, fun od => ?_⟩
  have kp : Kp π (Hide (plus N p) H2) (Hide N (upd H2 p (.frz od (DN X.prog X.w p [(k, b, v)])))) := fun a o n q => by
    obtain ⟨na, ha⟩ := hide_some q
    have ne : a ≠ p := fun z => by rw [z, plus_self] at na; cases na
    have na' : N a = false := by
      cases c : N a with
      | false => rfl
      | true => rw [plus_old c] at na; cases na
    rw [hide_in na', upd_ne ne]
    exact ha
  refine hdv _ _ ⟨fun a o n q => ?_, ?_⟩ (.dic (od := od) (xs := [(k, b, v)]) (by rw [hide_in Np, upd_same]) ppi (.cons ek dp (r1.mono kp) (r2.mono kp) .nil))
  · have ne : a ≠ p := fun z => by rw [z, hp] at q; cases q
    rw [upd_ne ne]
    exact e12.kp a o n (by rw [upd_ne ne]; exact q)
  · obtain ⟨x, y, q, r⟩ := e12.pot
    exact ⟨x, y, by rw [upd_ne ppi.symm]; exact q, r⟩⟩
end
end Pd

/-! Loops over d.items() and enumerate(tuple). -/
namespace Pd
open PySem L2 PySem.Spec PyProof.Rows

/-- the entries of a locked dict, each in a new pair -/
def Itn (P : Program) (w : World) (d : Addr) (o : Obj) (xs : List (NestedKey × Addr × V)) : It :=
  ⟨fun i H => H d = some (.frz o (DN P w d xs)) ∧ i < xs.length, fun i H v H' => ∃ T x, xs[i]? = some x ∧ v = .ref T ∧ H T = none ∧ H' = upd H T (.tup [.ref x.2.1, x.2.2]), fun i H => H d = some (.frz o (DN P w d xs)) ∧ i = xs.length⟩
theorem PX.get {xs : List (NestedKey × Addr × V)} {ys : List (NestedKey × Addr × Value)} (r : PX xs ys) : ∀ {i : Nat} {x : NestedKey × Addr × V}, xs[i]? = some x → ∃ y, ys[i]? = some y ∧ x.1 = y.1 ∧ x.2.1 = y.2.1 ∧ RelV x.2.2 y.2.2 := by
  induction r with
  | nil => intro i x e; simp at e
  | @cons p q ps qs h t ih =>
    intro i x e
    cases i with
    | zero => simp at e; subst e; exact ⟨q, rfl, h⟩
    | succ i => exact ih (i := i) (by simpa using e)
section
variable {X : Cx} {pins : List (Addr × Obj)} {σ : L2.St} {H : Hp} {s : Shared} {P : Program} {w : World} {K : PySem.W.Frag}
theorem frz_at {d : Addr} {o : Obj} {xs : List (NestedKey × Addr × V)} {es : Array DictEntry} {ep : Nat} (I : Inv X pins σ H s) (h : H d = some (.frz o (DN X.prog X.w d xs))) (hod : o.data = .dict es ep) :
    s.heap.DictRaw d es ep ∧ es.size = xs.length ∧ ∀ (i : Nat) (x : NestedKey × Addr × V), xs[i]? = some x → ∃ (hi : i < es.size), es[i].key = .ref x.2.1 ∧ RelV x.2.2 es[i].val := by
  obtain ⟨ho, ⟨h1, h2, h3, ys, pr, o', es', ep', ho', hc, hd, he⟩, _⟩ := (show ObjOk X.prog X.w H s.heap d (.frz o (DN X.prog X.w d xs)) from I.hok d _ h)
  rw [ho] at ho'
  cases ho'
  rw [hod] at hd
  cases hd
  have hs : es.size = ys.length := size_of_entries he
  have hl : xs.length = ys.length := Paired.length pr
  refine ⟨⟨o, ho, hc, hod⟩, by omega, fun i x hx => ?_⟩
  obtain ⟨y, hy, r1, r2, r3⟩ := PX.get pr hx
  have hi : i < es.size := by
    have := (List.getElem?_eq_some_iff.mp hy).1
    omega
  have e := entry_at he i
  rw [Array.getElem?_eq_getElem hi, hy, Option.map_some] at e
  have e' : es[i] = entryOfKey (nestedKind X.prog X.w) y := Option.some.inj e
  refine ⟨hi, ?_, ?_⟩
  · rw [e', r2]; rfl
  · rw [e']; exact r3
theorem turn_itemsN {d : Addr} {o : Obj} {xs : List (NestedKey × Addr × V)} {es : Array DictEntry} {ep : Nat} {elts : List Expr} {kk : Nat} {tpos : Pos} (it : Addr) (hod : o.data = .dict es ep) :
    Turn P w K (.Tuple elts kk tpos) (Itn P w d o xs) [it] it (fun i h => ∃ ok ov, IsItemIter h it d i es.size ep ok ov) where
  mem := by simp
  obj := fun i h st b hb => by
    have e : b = it := by simpa using hb
    subst e
    obtain ⟨ok, ov, e⟩ := st
    exact ⟨_, e, fun v z => nomatch z⟩
  keep := fun i h h' st k => let ⟨ok, ov, e⟩ := st; ⟨ok, ov, k it (by simp) _ e⟩
  item := by
    intro X hP hw hK hc i pins s σ H E I hf st hg
    subst hP hw hK
    obtain ⟨hd, hi⟩ := hg
    obtain ⟨raw, hsz, ent⟩ := frz_at I hd hod
    obtain ⟨x, hx⟩ : ∃ x, xs[i]? = some x := ⟨xs[i], List.getElem?_eq_getElem hi⟩
    obtain ⟨hlt, ek, ev⟩ := ent i x hx
    obtain ⟨ok, ov, he⟩ := st
    have hil : it < s.heap.objs.size := Heap.lt_size he
    refine wpAny_pyNext_items_item_raw he raw hlt fun h' ho hT hz hk => ?_
    refine ⟨_, rfl, wpAny_letOwnedTupleGo_items (s := { s with heap := h' }) ho fun h'' he' sb => ?_⟩
    have hT2 : h''.get? s.heap.objs.size = some { cls := .type "tuple", data := .seq #[es[i].key, es[i].val] } := (sb.2 _ (Nat.ne_of_gt hil)).trans hT
    have new : ObjOk X.prog X.w (upd H s.heap.objs.size (.tup [.ref x.2.1, x.2.2])) h'' s.heap.objs.size (.tup [.ref x.2.1, x.2.2]) :=
      ⟨by show 2 ≤ sizeLine; decide, [es[i].key, es[i].val], .cons (show RelV (V.ref x.2.1) es[i].key by rw [ek]; rfl) (.cons ev .nil), ⟨_, hT2, rfl, _, rfl⟩⟩
    have I1 : Inv X pins σ (upd H s.heap.objs.size (.tup [.ref x.2.1, x.2.2])) { s with heap := h'' } :=
      I.turnedNew (t' := s.toks) (ch := [it]) (fun b ob hb e => (sb.2 b (by simpa using hb)).trans (hk b ob (by simpa using hb) e)) hf (Nat.le_refl _) new
    refine ⟨.ref s.heap.objs.size, _, I1, rfl, ⟨_, x, hx, rfl, I.hok.fresh (Nat.le_refl _), rfl⟩, ⟨_, _, he'⟩, fun b hb => ?_⟩
    have e : b = it := by simpa using hb
    rw [e, upd_ne (Nat.ne_of_lt hil)]
    exact (hf it (by simp)).1
  done := by
    intro X hP hw hK hc i pins s σ H E I hf st hg
    subst hP hw hK
    obtain ⟨hd, hi⟩ := hg
    obtain ⟨f0, f1, f2, f3, f4, f5⟩ := hf it (by simp)
    obtain ⟨raw, hsz, ent⟩ := frz_at I hd hod
    obtain ⟨ok, ov, he⟩ := st
    exact wpAny_pyNext_items_end_raw (I.ok.hd hc) he raw (by omega) fun h' eb => ⟨rfl, I.turned (t' := s.toks) (fun b ob hb e => eb b ob hb e) f0 f1 f3 f4 f5⟩
  self := fun A i s Q E st h => let ⟨_, _, e⟩ := st; PySem.wpAny_pyIter_itemiter e h
end
section
variable {X : Cx} {e : Expr} {apos cpos tpos : Pos} {elts : List Expr} {kk : Nat} {m : Rho → T D} {ms : Rho → T (List D)}
theorem pi_itemsN (hbase : attributeBase e "items" X.env (eval e X.env) = eval e X.env) (hline : (apos.endLine == cpos.line) = true) :
    PI X (.Tuple elts kk tpos) (.Call (.Attribute e "items" apos) [] [] cpos) (fun σ H R => wpE X e σ H fun x H1 => ∃ d o xs, x = .ref d ∧ H1 d = some (.frz o (DN X.prog X.w d xs)) ∧ R (Itn X.prog X.w d o xs) H1) := by
  refine ⟨fun pins s σ H R I h => ?_⟩
  refine wpAny_Call_method (T := "dict") (id := "dict.items") hbase rfl hline F.plainAttrs_dict F.slot_dict_items F.type_dict_items (thn (pe_wp.run pins s σ H _ I h) fun u s1 ⟨x, H1, I1, rx, d, o, xs, ex, hd, q⟩ => ?_)
  subst ex
  obtain rfl : u = Value.ref d := rx
  obtain ⟨ho, ⟨h1, h2, h3, ys, pr, o', es, ep, ho', hc, hdt, he⟩, _⟩ := (show ObjOk X.prog X.w H1 s1.heap d (.frz o (DN X.prog X.w d xs)) from I1.hok d _ hd)
  have eo : o' = o := Option.some.inj (ho'.symm.trans ho)
  subst eo
  have raw : s1.heap.DictRaw d es ep := ⟨_, ho, hc, hdt⟩
  refine ⟨raw.typeIs, fun b q => ?_, ?_⟩
  · cases q
    exact ⟨_, ho, hc.2.1⟩
  have I2 : Inv X pins σ H1 { s1 with heap := s1.heap.push { cls := .type "dict_items", data := .fields #[.ref d] } } := I1.kept (t' := s1.toks) fun b ob q => Heap.get?_push_of_some _ q
  have fin : wpAny (model X.prog X.w) X.A (pyIter (.ref s1.heap.objs.size)) (PIE X pins σ (.Tuple elts kk tpos) R) X.xe { s1 with heap := s1.heap.push { cls := .type "dict_items", data := .fields #[.ref d] } } :=
    wpAny_pyIter_items_raw (d := d) ⟨_, Heap.get?_push_size _ rfl, rfl, rfl⟩ (raw.at fun o q => Heap.get?_push_of_some _ q) (pi_one (tk := s1.toks) I2 _ (turn_itemsN _ hdt) ⟨.none, .none, Heap.get?_push_size _ rfl⟩ q)
  show wpAny _ _ (callWith cpos (.builtin "dict.items") [.ref d] [] []) _ X.xe s1
  exact method_meetsIn F.slot_dict_items F.entry_dict_items rfl (PySem.evalArgs_none ⟨rfl, raw.typeIs, F.args_dict_items_1 _, _, meets_dict_items_raw d h1, ⟨es, ep, raw⟩, fin⟩)
def iItems (m : Rho → T D) : Rho → T (List D) := fun ρ => (m ρ).bind fun d => match d with
  | .dic kvs => .ret (kvs.map fun p => .tup [p.1, p.2])
  | _ => .fail
theorem si_items (ha : Snd X e m) (hbase : attributeBase e "items" X.env (eval e X.env) = eval e X.env := by rfl) (hline : (apos.endLine == cpos.line) = true := by rfl) : SndI X (.Tuple elts kk tpos) (.Call (.Attribute e "items" apos) [] [] cpos) (iItems m) := fun {π N0 H0 N H σ ρ R} I h =>
  ⟨_, pi_itemsN hbase hline, ha I (T.all_mono (fun d hd => by
    intro v H2 e2 r
    cases d with
    | dic kvs =>
      obtain ⟨l, od, xs, rfl, hl, nl, ne, rl⟩ := r.dicE
      refine ⟨l, od, xs, rfl, hl, hd _ _ e2 fun N' H' i hn k => ?_⟩
      have hv : Hide N H2 l = some (.frz od (DN X.prog X.w l xs)) := by rw [hide_in nl]; exact hl
      have h' := k l _ ne hv
      obtain ⟨n', hl'⟩ := hide_some h'
      have hlen := rl.length
      refine ⟨fun d hd => ?_, fun e => ⟨hl', by rw [hlen, e, List.length_map]⟩⟩
      rw [List.getElem?_map] at hd
      cases q : kvs[i]? with
      | none => rw [q] at hd; cases hd
      | some p =>
        rw [q] at hd
        cases hd
        obtain ⟨kx, a, v, hx, r1, r2⟩ := (rl.mono k).get q
        refine ⟨⟨hl', (List.getElem?_eq_some_iff.mp hx).1⟩, fun x H3 y => ?_⟩
        obtain ⟨T, x', hx', rfl, hT, rfl⟩ := y
        rw [hx] at hx'
        cases hx'
        have en := Ex.new (o := .tup [V.ref a, v]) hn.pot hT
        exact ⟨en, .tup (hide_new (hn.new hT)) (hn.pot.ne hT) (.cons (r1.mono en.kp.hide) (.cons (r2.mono en.kp.hide) .nil))⟩
    | _ => exact False.elim hd) (T.all_bind.mp h))⟩
end

/-! ### enumerate(tuple) -/
set_option maxHeartbeats 1000000 in
theorem meets_enum1 {v : Value} {o : Obj} {H : Heap → Prop} (B : Begins v o H) :
    Meets (Builtin.«enumerate.__new__» ⟨[.type "enumerate", v], []⟩) (fun _ R s => H s.heap ∧
      R (.ok (.ret (.ref (s.heap.push o).objs.size))) { s with heap := (s.heap.push o).push { cls := .type "enumerate", data := .fields #[.none, .bool false, .ref s.heap.objs.size, rawInt 0, .none, .none] } }) :=
  .of_wp fun prog w A R s h => by
    obtain ⟨hp, g, d, tk, os⟩ := s; obtain ⟨h1, h⟩ := h
    have hsub := sub_enumerate
    have q1 : ∀ {A' : Around} {E : Value → Shared → Prop} {Q : Value → Shared → Prop}, Q (.ref hp.objs.size) ⟨hp.push o, g, d, tk, os⟩ → wpAny (model prog w) A' (pyIter v) Q E ⟨hp, g, d, tk, os⟩ :=
      fun q => B.iter prog w _ _ ⟨hp, g, d, tk, os⟩ _ h1 q
    wp_walk using q1
    refine wpAny_stack_any fun st => wpAny_pure ?_
    split
    · rename_i c _ _ _ _ _
      cases (c == Value.type "enumerate")
      · wp_walk using q1
        exact ⟨_, rfl, h⟩
      · wp_walk using q1
        exact ⟨_, rfl, h⟩
    · wp_walk using q1
      exact ⟨_, rfl, h⟩
theorem enum_begins1 {prog : Program} {w : World} {A : Around} {E : Value → Shared → Prop} {s : Shared} {v : Value} {o : Obj} {H : Heap → Prop} {Q : Value → Shared → Prop} (B : Begins v o H) (h1 : H s.heap)
    (h : ∀ h', IsEnum h' (s.heap.objs.size + 1) s.heap.objs.size 0 .none → h'.get? s.heap.objs.size = some o → h'.objs.size = s.heap.objs.size + 2 →
      (∀ b o, s.heap.get? b = some o → h'.get? b = some o) → Q (.ref (s.heap.objs.size + 1)) { s with heap := h' }) :
    wpAny (model prog w) A (call (.type "enumerate") [v]) Q E s := by
  refine callType_new F.called_enumerate (by decide) (F.typeCall_enumerate_1 _) (F.newCall_enumerate_1 _) (fun obj => F.args_object_init_2 obj _) F.entry_enumerate_new (meets_enum1 B) ⟨h1, ?_⟩
  have hz : (s.heap.push o).objs.size = s.heap.objs.size + 1 := Heap.size_push ..
  show _ ∧ _
  rw [hz]
  have he : IsEnum ((s.heap.push o).push { cls := .type "enumerate", data := .fields #[.none, .bool false, .ref s.heap.objs.size, rawInt 0, .none, .none] }) (s.heap.objs.size + 1) s.heap.objs.size 0 .none := by
    have := Heap.get?_push_size (s.heap.push o) (o := { cls := .type "enumerate", data := .fields #[.none, .bool false, .ref s.heap.objs.size, rawInt 0, .none, .none] }) rfl
    rw [hz] at this; exact this
  refine ⟨⟨_, he, rfl⟩, h _ he (Heap.get?_push_of_some _ (Heap.get?_push_size _ B.free)) (by rw [Heap.size_push, hz]) fun b o x => Heap.get?_push_of_some _ (Heap.get?_push_of_some _ x)⟩
def Iten (K : PySem.W.Frag) (a : Addr) : It :=
  ⟨fun i H => ∃ (xs : List V) (x : V), SqT K H a xs ∧ xs[i]? = some x, fun i H v H' => ∃ T x, v = .ref T ∧ H T = none ∧ H' = upd H T (.tup [.int (i : Nat), x]) ∧ ∀ xs, SqT K H a xs → xs[i]? = some x, fun i H => ∃ xs : List V, SqT K H a xs ∧ xs.length = i⟩
theorem turn_enumT {P : Program} {w : World} {K : PySem.W.Frag} {elts : List Expr} {kk : Nat} {tpos : Pos} (a e it : Addr) :
    Turn P w K (.Tuple elts kk tpos) (Iten K a) [e, it] e (fun i h => (∃ old, IsEnum h e it ((i : Nat) : Int) old) ∧ h.IsTupleIter it a i ∧ e ≠ it ∧ a ≠ it ∧ a ≠ e) where
  mem := by simp
  obj := fun i h st b hb => by
    obtain ⟨⟨old, he⟩, ⟨o, ho, hc, hd⟩, _⟩ := st
    have e' : b = e ∨ b = it := by simpa using hb
    rcases e' with z | z
    · rw [z]; exact ⟨_, he, fun v q => nomatch q⟩
    · rw [z]; exact ⟨o, ho, fun v q => by rw [hd] at q; cases q⟩
  keep := fun i h h' st k => let ⟨⟨old, he⟩, hi, hne⟩ := st; ⟨⟨old, k e (by simp) _ he⟩, hi.at fun o q => k it (by simp) o q, hne⟩
  item := by
    intro X hP hw hK hc i pins s σ H E I hf st hg
    subst hP hw hK
    obtain ⟨⟨old, he⟩, hit, hne, ha1, ha2⟩ := st
    obtain ⟨xs, x, hq, hx⟩ := hg
    obtain ⟨its, rv, p, hz⟩ := I.tuple hq
    obtain ⟨u, hu, ru⟩ := rv.get hx
    have hel : e < s.heap.objs.size := Heap.lt_size he
    have hil : it < s.heap.objs.size := by obtain ⟨_, q, _⟩ := hit; exact Heap.lt_size q
    have pt : s.heap.IsTuple a its.toArray := p
    have hi : i < its.toArray.size := by
      have := (List.getElem?_eq_some_iff.mp hu).1
      simpa using this
    refine wpAny_pyNext_enum_itemC (Draws.tuple (show X.A.in1.handled = none from I.ok.hd hc) it a ha1 its.toArray) he ⟨hit, pt⟩ hi hne (by simp [hne, ha2.symm]) fun x' h' tk hP ho hst hT hsz hk => ?_
    have ex : x' = u := by
      have hu' : its.toArray[i]? = some u := by simpa using hu
      exact Option.some.inj (hP.symm.trans hu')
    subst ex
    refine ⟨_, rfl, wpAny_letOwnedTupleGo_enum (s := { s with heap := h', toks := tk + 1 }) ho fun h'' he' sb => ?_⟩
    have hT2 : h''.get? s.heap.objs.size = some { cls := .type "tuple", data := .seq #[.int i tk, x'] } := (sb.2 _ (Nat.ne_of_gt hel)).trans hT
    have new : ObjOk X.prog X.w (upd H s.heap.objs.size (.tup [.int (i : Nat), x])) h'' s.heap.objs.size (.tup [.int (i : Nat), x]) :=
      ⟨by show 2 ≤ sizeLine; decide, [.int i tk, x'], .cons ⟨_, rfl⟩ (.cons ru .nil), ⟨_, hT2, rfl, _, rfl⟩⟩
    have I1 : Inv X pins σ (upd H s.heap.objs.size (.tup [.int (i : Nat), x])) { s with heap := h'', toks := tk + 1 } :=
      I.turnedNew (ch := [e, it]) (fun b ob hb q => (sb.2 b (fun z => hb (by simp [z]))).trans (hk b ob (fun z => hb (by simp [z])) (fun z => hb (by simp [z])) q)) hf (Nat.le_refl _) new
    refine ⟨.ref s.heap.objs.size, _, I1, rfl, ⟨_, x, rfl, I.hok.fresh (Nat.le_refl _), rfl, fun ys hy => by rw [I.tuple_inj hy hq]; exact hx⟩, ⟨⟨x', ?_⟩, hst.1.at fun o q => (sb.2 it (Ne.symm hne)).trans q, hne, ha1, ha2⟩, fun b hb => ?_⟩
    · have e1 : ((i + 1 : Nat) : Int) = (i : Int) + 1 := by omega
      rw [e1]; exact he'
    · have hb' : b < s.heap.objs.size := by
        have e' : b = e ∨ b = it := by simpa using hb
        rcases e' with z | z
        · rw [z]; exact hel
        · rw [z]; exact hil
      rw [upd_ne (Nat.ne_of_lt hb')]
      exact (hf b hb).1
  done := by
    intro X hP hw hK hc i pins s σ H E I hf st hg
    subst hP hw hK
    obtain ⟨⟨old, he⟩, hit, hne, ha1, ha2⟩ := st
    obtain ⟨xs, hq, hx⟩ := hg
    obtain ⟨its, rv, p, hz⟩ := I.tuple hq
    obtain ⟨f0, f1, f2, f3, f4, f5⟩ := hf it (by simp)
    have hl := rv.length
    have pt : s.heap.IsTuple a its.toArray := p
    have ei : i = its.toArray.size := by simp; omega
    rw [ei] at hit
    exact wpAny_pyNext_enum_endD (Draws.tuple (show X.A.in1.handled = none from I.ok.hd hc) it a ha1 its.toArray) he ⟨hit, pt⟩ fun h' eb => ⟨rfl, I.turned (t' := s.toks) (fun b o hb q => eb b o hb q) f0 f1 f3 f4 f5⟩
  self := fun A i s Q E st h => let ⟨⟨_, he⟩, _⟩ := st; wpAny_pyIter_enum he h
section
variable {X : Cx} {a : Expr} {p pos tpos : Pos} {elts : List Expr} {kk : Nat} {ms : Rho → T (List D)}
theorem pi_enumT {ta : TA} (hg : Gl X "enumerate") (hm : X.mg "enumerate" = none) (ha : PA X [a] ta) (hs : starEach [a] X.env = [(false, eval a X.env)]) :
    PI X (.Tuple elts kk tpos) (.Call (.Name "enumerate" p) [a] [] pos) (fun σ H R => ta σ H fun vs H1 => ∃ a xs, vs = [.ref a] ∧ SqT X.K H1 a xs ∧ R (Iten X.K a) H1) := by
  refine ⟨fun pins s σ H R I h => ?_⟩
  refine Call_ (ld_blt I hg hm boot_enumerate (PyProof.Rows.callWith_type1 (thn (ha.run pos pins s σ H _ I h) fun us s1 ⟨vs, H1, I1, r1, q1⟩ => ?_) hs rfl))
  obtain ⟨a, xs, ex, hq, q⟩ := q1
  subst ex
  cases r1 with
  | cons r rr =>
    cases rr
    cases r
    obtain ⟨its, rv, p', hz⟩ := I1.tuple hq
    have pt : s1.heap.IsTuple a its.toArray := p'
    have alt : a < s1.heap.objs.size := let ⟨_, ho, _⟩ := p'; Heap.lt_size ho
    refine enum_begins1 (begins_tuple a its.toArray) pt fun h' he hit hsz hk => wpAny_pyIter_enum he ?_
    have I2 : Inv X pins σ H1 { s1 with heap := h' } := I1.kept (t' := s1.toks) hk
    refine ⟨s1.heap.objs.size + 1, [s1.heap.objs.size + 1, s1.heap.objs.size], _, _, H1, rfl, I2, turn_enumT a (s1.heap.objs.size + 1) s1.heap.objs.size, ⟨⟨.none, he⟩, ⟨_, hit, rfl, rfl⟩, Nat.succ_ne_self _, Nat.ne_of_lt alt, Nat.ne_of_lt (Nat.lt_succ_of_lt alt)⟩, fun b hb => ?_, q⟩
    have e' : b = s1.heap.objs.size + 1 ∨ b = s1.heap.objs.size := by simpa using hb
    have hle : s1.heap.objs.size ≤ b := by
      rcases e' with z | z
      · rw [z]; exact Nat.le_add_right _ _
      · rw [z]; exact Nat.le_refl _
    exact I1.fpOk hle (I1.hok.fresh hle)
def numbered : Nat → List D → List D
  | _, [] => []
  | n, d :: ds => .tup [.int n, d] :: numbered (n + 1) ds
theorem numbered_len : ∀ {ds : List D} {n : Nat}, (numbered n ds).length = ds.length
  | [], _ => rfl
  | _ :: ds, n => congrArg Nat.succ numbered_len
theorem numbered_get : ∀ {ds : List D} {n i : Nat} {d : D}, (numbered n ds)[i]? = some d → ∃ x, ds[i]? = some x ∧ d = .tup [.int ((n + i : Nat) : Int), x]
  | [], _, _, _, h => by simp [numbered] at h
  | x :: ds, n, 0, d, h => by simp [numbered] at h; exact ⟨x, rfl, h.symm⟩
  | x :: ds, n, i + 1, d, h => by
    obtain ⟨y, hy, e⟩ := numbered_get (ds := ds) (n := n + 1) (i := i) (by simpa [numbered] using h)
    exact ⟨y, hy, by rw [e]; congr 4; omega⟩
def enumT : List D → T (List D)
  | [.tup ds] => .ret (numbered 0 ds)
  | _ => .fail
theorem si_enumT (hm : X.mg "enumerate" = none) (ha : SndA X [a] ms) (hg : Gl X "enumerate" := by rfl) (hs : starEach [a] X.env = [(false, eval a X.env)] := by rfl) : SndI X (.Tuple elts kk tpos) (.Call (.Name "enumerate" p) [a] [] pos) (iRg enumT ms) := fun {π N0 H0 N H σ ρ R} I h =>
  ⟨_, pi_enumT hg hm pa_wp hs, ha I (T.all_mono (fun ds hd => by
    intro vs H2 e2 r
    unfold enumT at hd
    split at hd
    · cases r with
      | cons r t =>
        cases t
        obtain ⟨a, us, rfl, hq, ra⟩ := id r.tupE
        refine ⟨a, us, rfl, hq, hd _ _ e2 fun N' H' i hn k => ?_⟩
        obtain ⟨a', vs, e, _, sq, _, rb⟩ := sqt_kp k r
        cases e
        refine ⟨fun d hd => ?_, fun e => ⟨vs, sq, by rw [e, numbered_len, rb.length]⟩⟩
        obtain ⟨x, hx, rfl⟩ := numbered_get hd
        obtain ⟨v, hv, rv⟩ := rb.get hx
        refine ⟨⟨vs, v, sq, hv⟩, fun y H3 z => ?_⟩
        obtain ⟨T, x', rfl, hT, rfl, all⟩ := z
        have e3 := all vs sq
        rw [hv] at e3
        cases e3
        have en := Ex.new (o := .tup [V.int (i : Nat), v]) hn.pot hT
        refine ⟨en, .tup (hide_new (hn.new hT)) (hn.pot.ne hT) (.cons ?_ (.cons (rv.mono en.kp.hide) .nil))⟩
        rw [Nat.zero_add]
        exact .int _
    · exact False.elim hd) (T.all_bind.mp h))⟩
end
end Pd

/-! sorted of lists of data, of the keys of a dict. -/
namespace Pd
open PySem L2 PySem.W PySem.Calls PyProof.Rows

def ins {α : Type} (le : α → α → Bool) (a : α) : List α → List α
  | [] => [a]
  | b :: bs => cond (le a b) (a :: b :: bs) (b :: ins le a bs)
def isort {α : Type} (le : α → α → Bool) : List α → List α
  | [] => []
  | a :: as => ins le a (isort le as)
theorem ins_at {α : Type} {le : α → α → Bool} {a : α} : ∀ {l₁ l₂ : List α}, (∀ b ∈ l₁, (!le a b) = true) → (∀ b ∈ l₂, le a b = true) → ins le a (l₁ ++ l₂) = l₁ ++ a :: l₂
  | [], [], _, _ => rfl
  | [], b :: bs, _, h => by
    show cond (le a b) _ _ = _
    rw [h b (List.mem_cons_self ..)]
    rfl
  | c :: cs, l₂, h1, h2 => by
    have hc : le a c = false := by have := h1 c (List.mem_cons_self ..); simpa using this
    show cond (le a c) _ _ = _
    rw [hc]
    show c :: ins le a (cs ++ l₂) = _
    rw [ins_at (fun b hb => h1 b (List.mem_cons_of_mem _ hb)) h2]
    rfl
theorem merge_isort {α : Type} {le : α → α → Bool} (h : TotalLe le) : ∀ l : List α, l.mergeSort le = isort le l
  | [] => by simp [isort]
  | a :: l => by
    have tr : ∀ a b c, le a b = true → le b c = true → le a c = true := h.trans
    have to : ∀ a b, (le a b || le b a) = true := fun a b => Bool.or_eq_true_iff.mpr (h.total a b)
    obtain ⟨l₁, l₂, e1, e2, e3⟩ := List.mergeSort_cons tr to a l
    have hp := sort_pairwise h (a :: l)
    rw [e1] at hp
    have h2 : ∀ b ∈ l₂, le a b = true := (List.pairwise_cons.mp (List.pairwise_append.mp hp).2.1).1
    rw [e1]
    unfold isort
    rw [← merge_isort h l, e2]
    exact (ins_at (fun b hb => e3 b hb) h2).symm

/-- data as PyData (what has none: None) -/
def pyOf (d : D) : PyData := d.py.getD .none
def alikeB (ps : List PyData) : Bool := ps.all fun p => ps.all fun q => alike p q
def headed : PyData → Bool
  | .tuple (_ :: _) => true
  | _ => false
def unheaded : PyData → Bool
  | .none => false
  | .tuple _ => false
  | _ => true
def dLe (x y : D) : Bool := dataLe false pyOf x y
def okSort (ds : List D) : Bool := ds.all (fun d => d.py.isSome && decide ((pyOf d).depth ≤ 32)) && alikeB (ds.map pyOf) && ((ds.map pyOf).all headed || (ds.map pyOf).all unheaded) && small ds
def isEmptyTup : List D → Bool
  | [.tup []] => true
  | _ => false
def sortD (ds : List D) : T (List D) := cond (isEmptyTup ds) (.ret ds) (cond (okSort ds) (.ret (isort dLe ds)) .fail)
theorem alike_of {ps : List PyData} (h : alikeB ps = true) : AllAlike ps := fun d hd d' hd' => List.all_eq_true.mp (List.all_eq_true.mp h d hd) d' hd'
theorem headed_of {p : PyData} (h : headed p = true) : ∃ x r, p = .tuple (x :: r) := by
  unfold headed at h
  split at h
  · exact ⟨_, _, rfl⟩
  · cases h
theorem unheaded_of {p : PyData} (h : unheaded p = true) : p ≠ .none ∧ ∀ xs, p ≠ .tuple xs := by
  unfold unheaded at h
  split at h
  · cases h
  · cases h
  · exact ⟨by assumption, by assumption⟩
theorem sortable_of {ps : List PyData} (h : (ps.all headed || ps.all unheaded) = true) : Sortable ps := by
  rcases Bool.or_eq_true_iff.mp h with h | h
  · exact .inl fun d hd => headed_of (List.all_eq_true.mp h d hd)
  · exact .inr fun d hd => unheaded_of (List.all_eq_true.mp h d hd)

section
variable {X : Cx} {π : Addr} {N : Addr → Bool} {H : Hp} {pins : List (Addr × Obj)} {σ : L2.St} {s : Shared}
theorem each_of {h' : Heap} (I : Inv X pins σ H s) (k : ∀ b o, s.heap.get? b = some o → h'.get? b = some o) : ∀ {ds : List D} {us : List V} {vs : List Value}, RvL X.K X.prog X.w π (Hide N H) us ds → Vals us vs → (∀ d ∈ ds, d.py.isSome = true) →
    ∃ bs : List (V × D), bs.map (·.1) = us ∧ bs.map (·.2) = ds ∧ EachIs (fun (v : Value) (b : V × D) => RelV b.1 v ∧ Rv X.K X.prog X.w π (Hide N H) b.1 b.2) vs bs ∧ EachIs (fun (v : Value) (b : V × D) => ∃ as, Reads h' v (pyOf b.2) as) vs bs
  | _, _, _, .nil, .nil, _ => ⟨[], rfl, rfl, .nil, .nil⟩
  | d :: ds, u :: us, v :: vs, .cons r t, .cons rv rt, hp => by
    obtain ⟨bs, e1, e2, e3, e4⟩ := each_of I k t rt fun d hd => hp d (List.mem_cons_of_mem _ hd)
    have hd := hp d (List.mem_cons_self ..)
    obtain ⟨p, hpy⟩ := Option.isSome_iff_exists.mp hd
    obtain ⟨as, q⟩ := Dp.reads I p u v (r.dp hpy) rv
    refine ⟨(u, d) :: bs, by rw [List.map_cons, e1], by rw [List.map_cons, e2], .cons ⟨rv, r⟩ e3, .cons ⟨as, ?_⟩ e4⟩
    show Reads h' v (d.py.getD .none) as
    rw [hpy]
    exact PyProof.Rows.Reads.keeps k q
theorem each_back : ∀ {vs : List Value} {bs : List (V × D)}, EachIs (fun (v : Value) (b : V × D) => RelV b.1 v ∧ Rv X.K X.prog X.w π (Hide N H) b.1 b.2) vs bs → Vals (bs.map (·.1)) vs ∧ RvL X.K X.prog X.w π (Hide N H) (bs.map (·.1)) (bs.map (·.2))
  | _, _, .nil => ⟨.nil, .nil⟩
  | _, _, .cons h t => ⟨.cons h.1 (each_back t).1, .cons h.2 (each_back t).2⟩
theorem sorts_of {A : Around} {h' : Heap} {tk : Nat} {us : List V} {vs : List Value} {ds : List D} (hu : A.units + 60 < cLine) (I : Inv X pins σ H s) (k : ∀ b o, s.heap.get? b = some o → h'.get? b = some o) (r : RvL X.K X.prog X.w π (Hide N H) us ds) (rv : Vals us vs) {P : List D → Prop} (h : (sortD ds).all P) :
    ∃ κ, SortsAt X.prog X.w A { s with heap := h', toks := tk } κ vs ∧ vs.length ≤ sizeLine ∧ ∃ us' es, P es ∧ RvL X.K X.prog X.w π (Hide N H) us' es ∧ Vals us' (sortVals κ false vs vs) ∧ us'.length ≤ sizeLine := by
  unfold sortD at h
  cases c : isEmptyTup ds with
  | true =>
    rw [c] at h
    have ed : ds = [.tup []] := by
      unfold isEmptyTup at c
      split at c
      · rfl
      · cases c
    subst ed
    cases r with
    | @cons u d us' ds' r t =>
    cases t
    cases rv with
    | @cons _ v _ vs' q t =>
    cases t
    obtain ⟨as, q1⟩ := Dp.reads I (.tuple []) u v (r.dp rfl) q
    have q2 : Reads h' v (.tuple []) as := PyProof.Rows.Reads.keeps k q1
    refine ⟨dataKind h' [.tuple []], ⟨fun x hx => ?_, tuples' true, fun E x y a b Q ha hb hq => ?_, fun h2 => absurd h2 (by simp)⟩, (show 1 ≤ sizeLine by decide), [u], [.tup []], h, .cons r .nil, ?_, (show 1 ≤ sizeLine by decide)⟩
    · have ex : x = v := by simpa using hx
      subst ex
      exact ⟨_, dataKind_some (ds := [.tuple []]) (fun d hd d' hd' => by
        have e1 : d = .tuple [] := by simpa using hd
        have e2 : d' = .tuple [] := by simpa using hd'
        rw [e1, e2]; rfl) (List.mem_cons_self ..) q2⟩
    · obtain ⟨d, as, hd, ra, rfl⟩ := dataKind_inv ha
      obtain ⟨d', as', hd', rb, rfl⟩ := dataKind_inv hb
      have e1 : d = .tuple [] := by simpa using hd
      have e2 : d' = .tuple [] := by simpa using hd'
      subst e1 e2
      have hq' : Q (PyProof.Rows.lexLt itemOrd (keyToksAll []) (keyToksAll [])) { s with heap := h', toks := tk } := hq
      cases ra with
      | @tuple l o xs n _ _ h1 h2 h3 h4 =>
        cases rb with
        | @tuple l' o' xs' n' _ _ k1 k2 k3 k4 =>
          have n1 : xs.size = 0 := by simpa using SeqAt.ReadsAll.length _ _ _ h4
          have n2 : xs'.size = 0 := by simpa using SeqAt.ReadsAll.length _ _ _ k4
          exact kat_lt (s := { s with heap := h', toks := tk }) h1 h3 k1 k3 (katLex_alike (s := { s with heap := h', toks := tk }) [] [] 0 _ _ _ _ h4 k4 rfl (by show A.units + min 0 0 < cLine; omega) (fun _ _ x r t ex => nomatch ex) (by rw [n1, n2]; rfl) hq')
    · unfold sortVals
      rw [show ([v] : List Value).zip [v] = [(v, v)] from rfl, List.mergeSort_singleton]
      exact .cons q .nil
  | false =>
    rw [c] at h
    obtain ⟨ok, h⟩ := cond_all (show (cond (okSort ds) (T.ret (isort dLe ds)) .fail).all P from h)
    unfold okSort at ok
    simp only [Bool.and_eq_true] at ok
    obtain ⟨⟨⟨o1, o2⟩, o3⟩, o4⟩ := ok
    have o1' : ∀ d ∈ ds, d.py.isSome = true ∧ (pyOf d).depth ≤ 32 := fun d hd => by
      have := List.all_eq_true.mp o1 d hd
      simpa using this
    obtain ⟨bs, e1, e2, e3, e4⟩ := each_of (h' := h') I k r rv fun d hd => (o1' d hd).1
    have em : bs.map (fun b => pyOf b.2) = ds.map pyOf := by rw [← e2, List.map_map]; rfl
    have hal : AllAlike (bs.map fun b => pyOf b.2) := by rw [em]; exact alike_of o2
    have hk : Sortable (bs.map fun b => pyOf b.2) := by rw [em]; exact sortable_of o3
    have e5 := sortVals_data (enc := fun b : V × D => pyOf b.2) false e3 e4 hal
    obtain ⟨z1, z2⟩ := each_back e5
    have lz := small_ok r o4
    have lv : vs.length ≤ sizeLine := by rw [← rv.length]; exact lz
    have hu2 : ∀ d, d ∈ (bs.map fun b : V × D => pyOf b.2) → A.units + d.depth < cLine := fun p hp => by
      rw [em] at hp
      obtain ⟨d, hd, rfl⟩ := List.mem_map.mp hp
      have := (o1' d hd).2
      omega
    have es : (bs.mergeSort (dataLe false fun b : V × D => pyOf b.2)).map (·.2) = isort dLe ds := by
      rw [List.map_mergeSort (r := dataLe false fun b : V × D => pyOf b.2) (s := dLe) (f := fun b : V × D => b.2) (l := bs) (fun a _ b _ => rfl), e2]
      exact merge_isort (sortLe_total (listOrd itemOrd) false fun d => keyToks (pyOf d)) ds
    refine ⟨_, SortsAt.data (s := { s with heap := h', toks := tk }) (each_map (R := fun v d => ∃ as, Reads h' v d as) (fun b : V × D => pyOf b.2) e4) hal hk hu2, lv, _, _, h, by rw [← es]; exact z2, z1, ?_⟩
    rw [List.length_map, List.length_mergeSort]
    have := congrArg List.length e1
    rw [List.length_map] at this
    omega
def bSorted : List D → T (List D)
  | [.lst ds] => sortD ds
  | _ => .fail
theorem cs_sorted (hu : X.A.units + 64 < cLine) : CaSndL X (.builtin "sorted") bSorted := fun {π N H xs ds Q} hn r h => by
  unfold bSorted at h
  split at h
  · rename_i ds
    cases r with
    | cons r t =>
    cases t
    refine ⟨fun xs H Q => ∃ a us, xs = [.ref a] ∧ H a = some (.lst us) ∧ RvL X.K X.prog X.w π (Hide N H) us ds ∧ (sortD ds).all (Kl X π N H Q) ∧ HN π N H, ?_, ?_⟩
    · intro pins s σ H xs vs Q I r q
      obtain ⟨a, us, rfl, ha, ru, hq, hn⟩ := q
      obtain ⟨v, rfl, rx⟩ := vals1 r
      cases rx
      obtain ⟨its, rv, p, _⟩ := I.list (.inl (.inl ha))
      obtain ⟨κ, S, lz, us', es, hp, r2, rv2, l2⟩ := sorts_of (A := X.A.in1.in1) (h' := sortingHeap (copyHeap s.heap its) (s.heap.objs.size + 1) its) (tk := s.toks) (by rw [Around.in1_units, Around.in1_units]; omega) I (fun _ _ => sorting_copy_old) ru rv hq
      refine sorted_vals p.isList S lz ?_
      obtain ⟨c, hc⟩ := sortedAll_at s.heap its (sortVals κ false its its).toArray
      have hf : H (s.heap.objs.size + 1) = none := I.hok.fresh (Nat.le_succ _)
      exact ⟨.ref (s.heap.objs.size + 1), upd H (s.heap.objs.size + 1) (.lst us'), I.laid (t' := s.toks) (fun b u e => sortedAll_old e) (Nat.le_succ _) ⟨l2, _, c, rv2, hc⟩, rfl, Kl.new hp hn r2 hf⟩
    · obtain ⟨a, us, rfl, ha, _, _, ra⟩ := r.lstE
      exact ⟨a, us, rfl, ha, ra, h, hn⟩
  · exact False.elim h
theorem kdl_raw {prog : Program} {w : World} {d : Addr} {es : Array DictEntry} {ep : Nat} (lo : (d == sysModules) = false) : KdlSrc prog w "dict" d d es.size (fun i v => ∃ hi : i < es.size, v = es[i].key) (fun h => h.DictRaw d es ep) where
  type := fun _ hm => hm.typeIs
  there := fun _ hm => let ⟨_, ho, _⟩ := hm; ⟨Heap.lt_size ho, Heap.lt_size ho⟩
  keep := fun _ _ hm hk => hm.at fun o e => hk d (.inl rfl) o e
  notList := by decide
  notTuple := by decide
  hint := fun _ _ _ _ hm hq => kdl_hint_dict hm.typeIs hq
  iter := fun _ s hh hm => ⟨_, _, (fun _ _ hq => wpAny_pyIter_dict_raw lo hm hq), Walks.rawKeys hh _ d (let ⟨_, ho, _⟩ := hm; Nat.ne_of_lt (Heap.lt_size ho)) es ep, ⟨⟨_, Heap.get?_push_size _ rfl, rfl, rfl⟩, hm.at fun _ q => Heap.get?_push_of_some _ q⟩⟩
theorem vals_keys : ∀ {xs : List (NestedKey × Addr × V)} {us : List Value}, us.length = xs.length → (∀ (i : Nat) (x : NestedKey × Addr × V) (u : Value), xs[i]? = some x → us[i]? = some u → u = .ref x.2.1) → Vals (xs.map fun x => V.ref x.2.1) us
  | [], [], _, _ => .nil
  | x :: xs, u :: us, hl, h => by
    have e := h 0 x u rfl rfl
    subst e
    exact .cons rfl (vals_keys (by simpa using hl) fun i x u e1 e2 => h (i + 1) x u (by simpa using e1) (by simpa using e2))
  | [], _ :: _, hl, _ => by simp at hl
  | _ :: _, [], hl, _ => by simp at hl
theorem RvD.keysL {K : PySem.W.Frag} {P : Program} {w : World} {H : Hp} : ∀ {kvs : List (D × D)} {xs : List (NestedKey × Addr × V)}, RvD K P w π H xs kvs → RvL K P w π H (xs.map fun x => V.ref x.2.1) (kvs.map (·.1))
  | _, _, .nil => .nil
  | _, _, .cons _ _ rk _ t => .cons rk (RvD.keysL t)
def bSortedD : List D → T (List D)
  | [.dic kvs] => sortD (kvs.map (·.1))
  | _ => .fail
theorem cs_sortedD (hc : X.calm = true) (hu : X.A.units + 64 < cLine) : CaSndL X (.builtin "sorted") bSortedD := fun {π N H xs ds Q} hn r h => by
  unfold bSortedD at h
  split at h
  · rename_i kvs
    cases r with
    | cons r t =>
    cases t
    refine ⟨fun ys H Q => ∃ a od xs, ys = [.ref a] ∧ H a = some (.frz od (DN X.prog X.w a xs)) ∧ RvD X.K X.prog X.w π (Hide N H) xs kvs ∧ (sortD (kvs.map (·.1))).all (Kl X π N H Q) ∧ HN π N H, ?_, ?_⟩
    · intro pins s σ H ys vs Q I r q
      obtain ⟨a, od, xs, rfl, ha, rd, hq, hn⟩ := q
      obtain ⟨v, rfl, rx⟩ := vals1 r
      cases rx
      obtain ⟨lo, lz, zs, pr, dd⟩ := dn_of I (.inr ⟨od, ha⟩) ⟨_, _, _, rd⟩
      obtain ⟨es, ep, raw, hsz, ent⟩ := dd.raw
      have hl : xs.length = zs.length := Paired.length pr
      refine Calls.call_function_entry PyProof.Rows.kind_sorted PyProof.Rows.plain_sorted PyProof.Rows.entry_sorted (PyProof.Rows.args_sorted1 _) ?_
      unfold Builtin.«sorted»
      refine wpAny_bind (m := checkCount "sorted" 1 1 _) (wpAny_pure ?_)
      refine wpAny_bind (kdu_collect (A := X.A.in1) (kdl_raw lo) (I.ok.hd hc) raw (by omega) fun h' tk acc hk hacc => ?_)
      have hal : acc.toList.length = xs.length := by rw [Array.length_toList, hacc.1, hsz, hl]
      have rv : Vals (xs.map fun x => V.ref x.2.1) acc.toList := vals_keys hal fun i x u hx hu2 => by
        obtain ⟨y, hy, e1, e2, _⟩ := PX.get pr hx
        obtain ⟨hi, ek⟩ := hacc.2 i u (by rw [← Array.getElem?_toList]; exact hu2)
        obtain ⟨y', hy', k1, _, _⟩ := ent i hi
        rw [hy] at hy'
        cases hy'
        rw [ek, k1, e2]
      have I1 : Inv X pins σ H { s with heap := h', toks := tk } := I.kept hk
      refine wpAny_bind (wpAny_newList ?_ (by rw [hal]; exact lz))
      have hoL : (h'.push (seqObj "list" acc.toList.toArray 0)).get? h'.objs.size = some (seqObj "list" acc.toList.toArray 0) := Heap.get?_push_size _ rfl
      obtain ⟨κ, S, lz2, us', es', hp, r2, rv2, l2⟩ := sorts_of (A := X.A.in1.in1) (h' := sortingHeap (h'.push (seqObj "list" acc.toList.toArray 0)) h'.objs.size acc.toList) (tk := tk) (by rw [Around.in1_units, Around.in1_units]; omega) I
        (fun b o e => sortingHeap_old (Nat.ne_of_lt (Heap.lt_size (hk b o e))) (Heap.get?_push_of_some _ (hk b o e))) (RvD.keysL rd) rv hq
      show wpAny _ _ _ _ _ { s with heap := h'.push (seqObj "list" acc.toList.toArray 0), toks := tk }
      refine wpAny_bind (wpAny_holding (wpAny_call_entry PyProof.Rows.slot_list_sort ⟨_, hoL, rfl⟩ PyProof.Rows.entry_list_sort
        (list_sort_vals (s := { s with heap := h'.push (seqObj "list" acc.toList.toArray 0), toks := tk }) hoL S lz2 ⟨_, rfl, ?_⟩) (PyProof.Rows.args_list_sort _)))
      obtain ⟨e', he'⟩ := PyProof.Rows.sortedHeap_at (vs := acc.toList) (out := (sortVals κ false acc.toList acc.toList).toArray) hoL
      have hf : H h'.objs.size = none := I1.hok.fresh (Nat.le_refl _)
      refine wpAny_pure ⟨_, rfl, .ref h'.objs.size, upd H h'.objs.size (.lst us'), I1.laid (t' := tk) (fun b u e => ?_) (Nat.le_refl _)
        (show ObjOk X.prog X.w _ _ _ (.lst us') from ⟨l2, _, e', rv2, he'⟩), rfl, Kl.new hp hn r2 hf⟩
      have hb : b < h'.objs.size := Heap.lt_size e
      rw [PyProof.Rows.sortedHeap_old (Nat.ne_of_lt hb) (by rw [size_push']; exact Nat.lt_succ_of_lt hb)]
      exact Heap.get?_push_of_some _ e
    · obtain ⟨a, od, xs, rfl, ha, _, _, ra⟩ := r.dicE
      exact ⟨a, od, xs, rfl, ha, ra, h, hn⟩
  · exact False.elim h
end
end Pd

/-! tuple * 0, tuple * 1, () * n; calls by keywords alone; repr. -/
namespace Pd
open PySem L2 PySem.Spec PyProof.Rows

theorem mul_same (l : Addr) (items : Array Value) (n : Nat) (dd : Option Addr) (sl : Array (Option Value)) (x : Int) (u : Tok) (c0 : (decide (x < -(2 ^ 63)) || decide (x ≥ 2 ^ 63)) = false) (c1 : (items.isEmpty || x == 1) = true) :
    Meets (Builtin.«tuple.__mul__» ⟨[.ref l, .int x u], []⟩) (fun _ R s => s.heap.get? l = some { cls := .type "tuple", dict := dd, data := .seq items n, slots := sl } ∧ R (.ok (.ret (.ref l))) s) :=
  .of_wp fun prog w A R s h => by
    obtain ⟨hp, g, d, tk, os⟩ := s
    obtain ⟨hl, h⟩ := h
    have f1 := AutoSeq1.idx_int
    wp_walk using wpAny_loadPart' hl
    repeat (first
      | (refine wpAny_ite_false (decide_eq_false (by rw [c0]; exact Bool.false_ne_true)) ?_; wp_walk using wpAny_loadPart' hl)
      | (refine wpAny_ite_true (decide_eq_true c1) ?_; wp_walk using wpAny_loadPart' hl))
    exact ⟨_, rfl, h⟩
theorem mul_zero (l : Addr) (items : Array Value) (n : Nat) (dd : Option Addr) (sl : Array (Option Value)) (x : Int) (u : Tok) (c0 : (decide (x < -(2 ^ 63)) || decide (x ≥ 2 ^ 63)) = false) (c1 : (items.isEmpty || x == 1) = false) (c2 : (decide (x ≤ 0) || items.isEmpty) = true) :
    Meets (Builtin.«tuple.__mul__» ⟨[.ref l, .int x u], []⟩) (fun _ R s => s.heap.get? l = some { cls := .type "tuple", dict := dd, data := .seq items n, slots := sl } ∧
      R (.ok (.ret (.ref s.heap.objs.size))) { s with heap := s.heap.push { cls := .type "tuple", data := .seq #[] }, toks := s.toks }) :=
  .of_wp fun prog w A R s h => by
    obtain ⟨hp, g, d, tk, os⟩ := s
    obtain ⟨hl, h⟩ := h
    have f1 := AutoSeq1.idx_int
    wp_walk using wpAny_loadPart' hl
    repeat (first
      | (refine wpAny_ite_false (decide_eq_false (by rw [c0]; exact Bool.false_ne_true)) ?_; wp_walk using wpAny_loadPart' hl)
      | (refine wpAny_ite_false (decide_eq_false (by rw [c1]; exact Bool.false_ne_true)) ?_; wp_walk using wpAny_loadPart' hl)
      | (refine wpAny_ite_true (decide_eq_true c2) ?_; wp_walk using wpAny_loadPart' hl))
    exact ⟨_, rfl, h⟩
section
variable {X : Cx}
theorem op_repS : OpR X (binaryOp .Mult) (fun x y H Q => ∃ l k xs, x = .ref l ∧ y = .int k ∧ SqT X.K H l xs ∧ -1000 ≤ k ∧ k ≤ 1000 ∧ (((xs = [] ∨ k = 1) ∧ Q (.ref l) H) ∨ (xs ≠ [] ∧ k ≤ 0 ∧ ∀ p, H p = none → Q (.ref p) (upd H p (.tup []))))) := by
  intro pins s σ H x y v u Q I rx ry h
  obtain ⟨l, k, xs, rfl, rfl, hT, h1, h2, hq⟩ := h
  cases rx
  obtain ⟨t, rfl⟩ := ry
  obtain ⟨its, r, ⟨⟨cls, dd, data, sl⟩, ho, hc, n, hd⟩, hs⟩ := I.tuple hT
  simp only at hc hd
  subst hc hd
  have hle : its.length = xs.length := r.length.symm
  have c0 : (decide (k < -(2 ^ 63)) || decide (k ≥ 2 ^ 63)) = false := by
    rw [decide_eq_false (by omega), decide_eq_false (by omega)] <;> rfl
  have nilI : xs = [] → its = [] := fun e => List.eq_nil_of_length_eq_zero (by rw [hle, e]; rfl)
  rcases hq with ⟨e, q⟩ | ⟨e, k0, q⟩
  · have c1 : (its.toArray.isEmpty || k == 1) = true := by
      rcases e with e | e
      · rw [nilI e]; rfl
      · rw [e, beq_self_eq_true, Bool.or_true]
    exact wpAny_binaryOp_repeat_ref (T := "tuple") (U := "int") (by decide) ⟨_, ho, rfl⟩ (fun s' => typeIs_int s' k t) noFill_tuple_mul F.fills_int_mul F.slot_int_rmul repeat_tuple F.slot_int_index.lookup
      (call_meets F.slot_int_rmul (typeIs_int s k t) F.entry_int_rmul (F.args_int_rmul_2 _ _) (int_rmul_tuple k t l its.toArray n dd sl)
        ⟨ho, rfl, ⟨_, ho, rfl⟩, call_meets F.slot_tuple_mul ⟨_, ho, rfl⟩ F.entry_tuple_mul (F.args_tuple_mul_2 _ _) (mul_same l its.toArray n dd sl k t c0 c1) ⟨ho, .ref l, H, I, rfl, q⟩⟩)
  · have hn : its ≠ [] := fun z => e (List.eq_nil_of_length_eq_zero (by rw [← hle, z]; rfl))
    have hi : its.toArray.isEmpty = false := by
      cases its with
      | nil => exact absurd rfl hn
      | cons a b => rfl
    have c1 : (its.toArray.isEmpty || k == 1) = false := by
      rw [hi, Bool.false_or]
      exact beq_eq_false_iff_ne.mpr (by omega)
    have c2 : (decide (k ≤ 0) || its.toArray.isEmpty) = true := by
      rw [decide_eq_true k0, Bool.true_or]
    exact wpAny_binaryOp_repeat_ref (T := "tuple") (U := "int") (by decide) ⟨_, ho, rfl⟩ (fun s' => typeIs_int s' k t) noFill_tuple_mul F.fills_int_mul F.slot_int_rmul repeat_tuple F.slot_int_index.lookup
      (call_meets F.slot_int_rmul (typeIs_int s k t) F.entry_int_rmul (F.args_int_rmul_2 _ _) (int_rmul_tuple k t l its.toArray n dd sl)
        ⟨ho, rfl, ⟨_, ho, rfl⟩, call_meets F.slot_tuple_mul ⟨_, ho, rfl⟩ F.entry_tuple_mul (F.args_tuple_mul_2 _ _) (mul_zero l its.toArray n dd sl k t c0 c1 c2)
          ⟨ho, .ref s.heap.objs.size, _, I.laid (t' := s.toks) (o := .tup []) (fun b ob q => Heap.get?_push_of_some _ q) (Nat.le_refl _) ⟨Nat.zero_le _, [], .nil, IsTup.new _ _⟩, rfl, q _ (I.hok.fresh (Nat.le_refl _))⟩⟩)
/-- tuple * int, any -/
def opMulT : D → D → T D
  | .tup a, .int k => cond (a.isEmpty || decide (k = 1)) (cond (decide (-1000 ≤ k) && decide (k ≤ 1000)) (.ret (.tup a)) .fail) (cond (decide (k ≤ 0)) (cond (decide (-1000 ≤ k)) (.ret (.tup [])) .fail) (opMul (.tup a) (.int k)))
  | x, y => opMul x y
theorem os_mulT : OpSnd X (binaryOp .Mult) opMulT := fun {π N H x y dx dy Q} hn rx ry h => by
  unfold opMulT at h
  split at h
  · rename_i ds k
    cases c : (ds.isEmpty || decide (k = 1)) with
    | true =>
      rw [c] at h
      obtain ⟨hb, h⟩ := cond_all (show (cond (decide (-1000 ≤ k) && decide (k ≤ 1000)) (T.ret (D.tup ds)) .fail).all _ from h)
      simp only [Bool.and_eq_true, decide_eq_true_eq] at hb
      obtain ⟨a, vs, rfl, ha, ra⟩ := id rx.tupE
      cases ry
      refine ⟨_, op_repS, a, k, vs, rfl, rfl, ha, hb.1, hb.2, .inl ⟨?_, h _ _ (Ex.refl hn.pot) rx⟩⟩
      rcases Bool.or_eq_true_iff.mp c with z | z
      · exact .inl (ra.nil_of.mpr (by simpa using z))
      · exact .inr (of_decide_eq_true z)
    | false =>
      rw [c] at h
      cases c2 : decide (k ≤ 0) with
      | true =>
        rw [c2] at h
        obtain ⟨hb, h⟩ := cond_all (show (cond (decide (-1000 ≤ k)) (T.ret (D.tup [])) .fail).all _ from h)
        have k0 := of_decide_eq_true c2
        obtain ⟨a, vs, rfl, ha, ra⟩ := id rx.tupE
        cases ry
        refine ⟨_, op_repS, a, k, vs, rfl, rfl, ha, of_decide_eq_true hb, by omega, .inr ⟨fun e => ?_, k0, fun p hp => Kd.new h hn .nil hp⟩⟩
        rw [ra.nil_of.mp e] at c
        cases c
      | false =>
        rw [c2] at h
        exact os_mul hn rx ry h
  · exact os_mul hn rx ry h
end

/-! ### calls by keywords alone -/
def pickD (perm : List Nat) (ds : List D) : List D := perm.map fun i => ds.getD i .non
def KBind (K : PySem.W.Frag) (fd : FuncData) (ps ks : List Str) (perm : List Nat) : Prop := ∀ (s : Shared) (us : List Value), K.In s.heap → us.length = ks.length → BindsTo s fd ⟨[], ks.zip us⟩ (ps.zip (perm.map fun i => us.getD i .none))
def eCallK (n : Nat) (perm : List Nat) (F : List D → T D) (ms : Rho → T (List D)) : Rho → T D := fun ρ => (ms ρ).bind fun ds => cond (ds.length == n) (F (pickD perm ds)) .fail
theorem vals_pick {vs : List V} {us : List Value} (r : Vals vs us) : ∀ perm : List Nat, Vals (perm.map fun i => vs.getD i .non) (perm.map fun i => us.getD i .none)
  | [] => .nil
  | i :: perm => by
    refine .cons ?_ (vals_pick r perm)
    show RelV (vs.getD i .non) (us.getD i .none)
    rw [List.getD_eq_getElem?_getD, List.getD_eq_getElem?_getD]
    cases q : vs[i]? with
    | none =>
      have : us[i]? = none := List.getElem?_eq_none (by have := List.getElem?_eq_none_iff.mp q; rw [← r.length]; exact this)
      rw [this]
      rfl
    | some v =>
      obtain ⟨u, hu, ru⟩ := r.get q
      rw [hu]
      exact ru
theorem rvl_pick {K : PySem.W.Frag} {P : Program} {w : World} {π : Addr} {H : Hp} {vs : List V} {ds : List D} (r : RvL K P w π H vs ds) : ∀ perm : List Nat, RvL K P w π H (perm.map fun i => vs.getD i .non) (pickD perm ds)
  | [] => .nil
  | i :: perm => by
    refine .cons ?_ (rvl_pick r perm)
    show Rv K P w π H (vs.getD i .non) (ds.getD i .non)
    rw [List.getD_eq_getElem?_getD, List.getD_eq_getElem?_getD]
    cases q : ds[i]? with
    | none =>
      have : vs[i]? = none := List.getElem?_eq_none (by have := List.getElem?_eq_none_iff.mp q; rw [r.length]; exact this)
      rw [this]
      exact .non
    | some d =>
      obtain ⟨v, hv, rv⟩ := r.get q
      rw [hv]
      exact rv
section
variable {X : Cx} {pos : Pos}
theorem s_callK {k n : Nat} {f : Addr} {fd : FuncData} {ps ks : List Str} {perm : List Nat} {F : List D → T D} {x : Str} {p : Pos} {kws : List Keyword} {ms : Rho → T (List D)} (G : FnOk X.prog X.w X.K X.mg X.base CX0 k f fd ps (spD X.K X.prog X.w n F)) (hr : Room k X.A) (hm : X.mg x = some (.ref f)) (hk : PySem.W.keepIn X.K (.ref f) = true)
    (hb : KBind X.K fd ps ks perm) (hp : perm.length = n) (hkn : ks.length = n) (ha : SndK X kws ms) (hg : Gl X x := by rfl) (hall : (backToKw pos (keywordEach kws X.env)).all (·.1.isSome) = true := by rfl) (hks : (backToKw pos (keywordEach kws X.env)).filterMap (·.1) = ks := by rfl)
    (hdb : (x == ("__debug__" : Str)) = false := by decide) (hpl : ((backTo pos (starEach [] X.env)).any (·.1) || (backToKw pos (keywordEach kws X.env)).any (·.1.isNone)) = false := by rfl) : Snd X (.Call (.Name x p) [] kws pos) (eCallK n perm F ms) := fun {π N0 H0 N H σ ρ Q} I h => by
  refine ⟨fun σ H Q => wpK X kws σ H fun zs H2 => zs.length = n ∧ spD X.K X.prog X.w n F (perm.map fun i => zs.getD i .non) H2 Q E0, ⟨fun pins s σ H Q J q => ?_⟩, ?_⟩
  · refine wpAny_Call_Name_kw (ld_glob J hg hm ?_ hdb)
    refine PySem.W.callWith_KW0 (h₀ := X.base) J.ok.mod.kin hk hall (thn (pk_wp.run pos pins s σ H _ J q) fun ws s2 ⟨zs, H2, I2, rz, hz, q2⟩ => ⟨I2.kIn, ?_⟩) hpl
    rw [hks]
    show wpAny _ _ (call (.ref f) [] (ks.zip ws)) _ _ _
    have r2 := vals_pick rz perm
    refine wpAny_call (codeAny_mono (G.run X.A X.stack s2 H2 ⟨[], ks.zip ws⟩ _ _ Q E0 hr I2.env0 (hb s2 ws I2.kIn (by rw [← rz.length, hz, hkn])) r2 q2) fun r s' hq => ?_)
    cases r with
    | error e => exact pass0 pins σ H2 s2 e s' I2 hq
    | ok fl =>
      cases fl with
      | ret u => exact I2.after hq
      | next => exact False.elim hq
      | brk => exact False.elim hq
      | cont => exact False.elim hq
  · refine ha I (T.all_mono (fun ds hd => ?_) (T.all_bind.mp h))
    intro vs H2 e1 r
    obtain ⟨hn, hd⟩ := cond_all hd
    have hn : ds.length = n := by simpa using hn
    exact ⟨by rw [r.length]; exact hn, π, N, pickD perm ds, I.hn.ext e1, rvl_pick r perm, by rw [List.length_map]; exact hp, T.all_mono (fun d q v H3 e3 r3 => q v H3 (e1.trans e3) r3) hd⟩
/-! ### repr of lists of data -/
def bRepr : List D → T D
  | [.lst ds] => match D.py (.lst ds) with
    | some p => cond (p.showable && !p.hasDict && decide (p.depth ≤ 32) && decide (p.shown.length ≤ 100000)) (.ret (.str p.shown)) .fail
    | none => .fail
  | _ => .fail
theorem cs_repr (hg : X.A.guards = some []) (hu : X.A.units + 64 < cLine) : CaSnd X (.builtin "repr") bRepr := fun {π N H xs ds Q} hn r h => by
  unfold bRepr at h
  split at h
  · rename_i ds
    split at h
    · rename_i p hp
      obtain ⟨hb, h⟩ := cond_all h
      simp only [Bool.and_eq_true, Bool.not_eq_true', decide_eq_true_eq] at hb
      obtain ⟨⟨⟨b1, b2⟩, b3⟩, b4⟩ := hb
      cases r with
      | cons r t =>
      cases t
      refine ⟨fun ys H Q => ∃ a, ys = [.ref a] ∧ Dp X.K H (.ref a) p ∧ Q (.str p.shown) H, ?_, ?_⟩
      · intro pins s σ H ys vs Q I r q
        obtain ⟨a, rfl, hd, hq⟩ := q
        obtain ⟨v, rfl, rx⟩ := vals1 r
        cases rx
        obtain ⟨as, rd⟩ := Dp.reads I p (.ref a) (.ref a) hd rfl
        exact repr_of_reads' rd b1 (PyData.noDict_hsm b2) hg (by omega) (fun _ _ q => q) (fun h' u tk hk => ⟨.str p.shown, H, I.kept (t' := tk) hk, ⟨u, rfl⟩, hq⟩) (Nat.le_trans b4 (by decide))
      · obtain ⟨a, vs, rfl, ha, _, _, ra⟩ := id r.lstE
        exact ⟨a, rfl, r.dp hp, h _ _ (Ex.refl hn.pot) (.str _)⟩
    · exact False.elim h
  · exact False.elim h
end
end Pd

/-! Promises of defs that are called where no object's repr is under way. -/
namespace Pd
open PySem L2 PySem.Spec PyProof.Rows

structure FnG (P : Program) (w : World) (K : PySem.W.Frag) (mg : Str → Option Value) (base : Heap) (CX : CXT) (k : Nat) (f : Addr) (fd : FuncData) (ps : List Str) (sp : Sp) : Prop where
  len : ∀ zs Hx Qx Ex, sp zs Hx Qx Ex → zs.length = ps.length
  run : ∀ (A : Around) (out : List Env) (s : Shared) (H : Hp) (as : Args) (us : List Value) (vs : List V) (Q : VK) (E : XK), Room k A → A.guards = some [] → Env0 P w K mg base A out s H → BindsTo s fd as (ps.zip us) → Vals vs us → sp vs H Q E →
    codeAny (model P w) A (.call (.ref f) as) (CR CX out P w H s Q E) s
theorem fnG_of {CX : CXT} {P : Program} {w : World} {K : PySem.W.Frag} {mg : Str → Option Value} {base : Heap} {k : Nat} {f : Addr} {name qual : Str} {params : Arguments} {body : List Stmt} {scope : Scope} {dV kV doc pm cdv ct oc : Value} {an od : Option Addr}
    {osl : Array (Option Value)} {Nm ps : List Str} {sp : Sp} (lk : K.lookup f = some ⟨oc, od, .func (PySem.W.fnOf name qual params body scope dV kV doc pm an cdv ct), osl⟩) (hcd : PySem.W.codeIn K cdv qual = true) (S : FnScope Nm ps scope)
    (len : ∀ zs Hx Qx Ex, sp zs Hx Qx Ex → zs.length = ps.length)
    (hb : ∀ (A : Around) (out : List Env) (s : Shared) (H : Hp) (vs : List V) (Q : VK) (E : XK), Room k (A.deeper (envOfC qual scope s.heap.objs.size f cdv)) → A.guards = some [] → sp vs H Q E →
      ∃ t, PSs (cxOf CX P w K mg base Nm qual scope f cdv A out s H E) body t ∧ t { nx := fun _ H1 => Q .non H1, rt := Q } (start Nm vs) H) :
    FnG P w K mg base CX (k + 1) f (PySem.W.fnOf name qual params body scope dV kV doc pm an cdv ct) ps sp := by
  refine ⟨len, fun A out s H as us vs Q E hr hgd e0 hbd r hsp => ?_⟩
  have hl := len _ _ _ _ hsp
  have hK : K.In s.heap := e0.mod.kin.keeps fun b o e => (e0.bs b o e).1
  have hnl : s.heap.NoLimit := e0.mod.nolimit.keeps fun b o e => (e0.bs b o e).1
  have hkd : ∀ y ∈ ps.zip us, scope.names.lookup y.1 = some .local ∨ (scope.names.lookup y.1 = some .cell ∧ ((cellsFrom (s.heap.objs.size + 1) scope.names []).lookup y.1).isSome = true) := by
    intro ⟨n, v⟩ hy
    rcases S.par n (List.of_mem_zip hy).1 with q | q
    · exact Or.inl q
    · exact Or.inr ⟨q, PySem.W.cellsFrom_some _ _ _ (.inl q)⟩
  refine codeAny_call_function hr.depth (hK _ _ lk) rfl S.co S.gen rfl (PySem.W.codeRec_of hK hcd) (hbd _ _ _ _ (wpAny_newFunctionEnv_cells S.kind hkd fun env he s1 x => ?_))
  subst he
  refine ⟨hnl.keeps x.toInCall.keep, codeAny_func ?_⟩
  obtain ⟨t, ht, hq⟩ := hb A out s H vs Q E (hr.deeper _) hgd hsp
  have J0 := inv_start (E := E) (CX := CX) S hr.hd e0 hl r x
  refine wpAny_mono (ht.run [] s1 (start Nm vs) H _ J0 hq) (fun fl s2 hs => ?_) fun _ _ z => z
  cases fl with
  | ret u =>
    obtain ⟨v, σ2, H2, J, rv, q⟩ := hs
    exact ⟨v, H2, J.os, J.bare, J.base, J.hok, rv, q⟩
  | next =>
    obtain ⟨σ2, H2, J, q⟩ := hs
    exact ⟨V.non, H2, J.os, J.bare, J.base, J.hok, rfl, q⟩
  | brk =>
    obtain ⟨_, _, _, q⟩ := hs
    exact q.elim
  | cont =>
    obtain ⟨_, _, _, q⟩ := hs
    exact q.elim
section
variable {P : Program} {w : World} {K : PySem.W.Frag} {mg : Str → Option Value} {base : Heap}
theorem okG {x qual : Str} {st : Stmt} {f : Addr} {fd : FuncData} {Nm ps : List Str} {k : Nat} {sp : Sp} (F : Fun K x qual st f fd) (S : FnScope Nm ps (defScope st)) (len : ∀ zs Hx Qx Ex, sp zs Hx Qx Ex → zs.length = ps.length)
    (hb : ∀ (cdv : Value) (A : Around) (outer : List Env) (s : Shared) (H : Hp) (vs : List V) (Q : VK) (E : XK), Room k (A.deeper (PyProof.Rows.envOfC qual (defScope st) s.heap.objs.size f cdv)) → A.guards = some [] → sp vs H Q E →
      ∃ t, PSs (cxOf CX0 P w K mg base Nm qual (defScope st) f cdv A outer s H E).nox (defBody st) t ∧ t { nx := fun _ H1 => Q .non H1, rt := Q } (start Nm vs) H) : FnG P w K mg base CX0 (k + 1) f fd ps sp := by
  obtain ⟨oc, od, kV, doc, pm, an, cdv, ct, osl, rfl, lk, hcd⟩ := F.ex
  refine fnG_of lk hcd S len fun A outer s H vs Q E hr hgd h => ?_
  obtain ⟨t, ht, hq⟩ := hb cdv A outer s H vs Q E hr hgd h
  exact ⟨t, ht.nox, hq⟩
theorem fnG_ok {x qual : Str} {st : Stmt} {f : Addr} {fd : FuncData} {Nm ps : List Str} {k n p : Nat} {m : Rho → T Out} {G : List D → T D} (F : Fun K x qual st f fd) (S : FnScope Nm ps (defScope st)) (hn : Nm.length = n) (hp : ps.length = p) (hG : G = runB n m)
    (hb : ∀ (cdv : Value) (A : Around) (outer : List Env) (s : Shared) (H : Hp) (E : XK), Room k (A.deeper (PyProof.Rows.envOfC qual (defScope st) s.heap.objs.size f cdv)) → A.guards = some [] → SndB (cxOf CX0 P w K mg base Nm qual (defScope st) f cdv A outer s H E).nox (defBody st) m) :
    FnG P w K mg base CX0 (k + 1) f fd ps (spD K P w p G) := by
  subst hn hp hG
  obtain ⟨oc, od, kV, doc, pm, an, cdv, ct, osl, rfl, lk, hcd⟩ := F.ex
  refine fnG_of lk hcd S (fun vs H Q E h => ?_) (fun A outer s H vs Q E hr hgd h => ?_)
  · obtain ⟨π, N, ds, hn, r, hl, _⟩ := h
    exact hl
  · obtain ⟨π, N, ds, hn, r, hl, hall⟩ := h
    have z := hb cdv A outer s H E hr hgd (De := { nx := fun _ H' => Q .non H', rt := Q }) (env_start hn r) (T.all_mono (fun o ho => by
      cases o with
      | nx ρ => exact fun N' H' σ' I => ho .non H' ⟨I.ex, I.hn.pot⟩ .non
      | rt d => exact fun v H' e r => ho v H' e r
      | bk ρ => exact False.elim ho
      | ct ρ => exact False.elim ho) (T.all_bind.mp hall))
    obtain ⟨t, ht, hq⟩ := z
    exact ⟨t, ht.nox, hq⟩
end
section
variable {X : Cx} {e : Expr} {es : List Expr} {pos : Pos}
theorem pe_callG {k : Nat} {f : Addr} {fd : FuncData} {ps : List Str} {sp : Sp} {x : Str} {p : Pos} {t : TA} (G : FnG X.prog X.w X.K X.mg X.base CX0 k f fd ps sp) (hr : Room k X.A) (hgd : X.A.guards = some []) (hm : X.mg x = some (.ref f)) (hk : PySem.W.keepIn X.K (.ref f) = true) (hb : Binds X.K fd ps [])
    (ha : PA X (e :: es) t) (hg : Gl X x := by rfl) (hdb : (x == ("__debug__" : Str)) = false := by decide) (he : starEach (e :: es) X.env = (false, eval e X.env) :: starEach es X.env := by rfl) (hpl : (backTo pos (starEach es X.env)).any (·.1) = false := by rfl) :
    PE X (.Call (.Name x p) (e :: es) [] pos) (fun σ H Q => t σ H fun zs H2 => sp zs H2 Q E0) := by
  refine ⟨fun pins s σ H Q J q => ?_⟩
  refine wpAny_Call_Name_kw (ld_glob J hg hm ?_ hdb)
  refine PySem.W.callWith_K (h₀ := X.base) J.ok.mod.kin hk (thn (ha.run pos pins s σ H _ J q) fun us s1 ⟨vs, H1, I1, r, q⟩ => ⟨I1.kIn, ?_⟩) he hpl
  have hl : us.length = ps.length := by rw [← r.length]; exact G.len _ _ _ _ q
  have b0 := hb s1 us I1.kIn (by rw [List.append_nil]; exact hl)
  rw [List.append_nil] at b0
  show wpAny _ _ (call (.ref f) us) _ _ _
  refine wpAny_call (codeAny_mono (G.run X.A X.stack s1 H1 ⟨us, []⟩ us vs Q E0 hr hgd I1.env0 b0 r q) fun r s' hq => ?_)
  cases r with
  | error e => exact pass0 pins σ H1 s1 e s' I1 hq
  | ok fl =>
    cases fl with
    | ret u => exact I1.after hq
    | next => exact False.elim hq
    | brk => exact False.elim hq
    | cont => exact False.elim hq
theorem s_callG {k n : Nat} {f : Addr} {fd : FuncData} {ps : List Str} {F : List D → T D} {x : Str} {p : Pos} {ms : Rho → T (List D)} (G : FnG X.prog X.w X.K X.mg X.base CX0 k f fd ps (spD X.K X.prog X.w n F)) (hr : Room k X.A) (hgd : X.A.guards = some []) (hm : X.mg x = some (.ref f)) (hk : PySem.W.keepIn X.K (.ref f) = true) (hb : Binds X.K fd ps [])
    (ha : SndA X (e :: es) ms) (hg : Gl X x := by rfl) (hdb : (x == ("__debug__" : Str)) = false := by decide) (he : starEach (e :: es) X.env = (false, eval e X.env) :: starEach es X.env := by rfl) (hpl : (backTo pos (starEach es X.env)).any (·.1) = false := by rfl) :
    Snd X (.Call (.Name x p) (e :: es) [] pos) (eCall n F ms) := fun {π N0 H0 N H σ ρ Q} I h =>
  ⟨_, pe_callG G hr hgd hm hk hb pa_wp hg hdb he hpl, ha I (T.all_mono (fun ds hd vs H2 e1 r => by
    obtain ⟨hn, hd⟩ := cond_all hd
    exact ⟨π, N, ds, I.hn.ext e1, r, by rw [r.length]; exact by simpa using hn, T.all_mono (fun d q v H3 e3 r3 => q v H3 (e1.trans e3) r3) hd⟩) (T.all_bind.mp h))⟩
end
/-! ### the law is called -/
theorem law_callG {P : Program} {w : World} {K : PySem.W.Frag} {mg mb : Str → Option Value} {k : Nat} {fa a : Addr} {fd : FuncData} {x : Str} {sp : Sp} {s0 : Shared} {vs : List Value} {ns : List Int}
    (hK : K.In s0.heap) (hns : s0.heap.Ns mainGlobals mg) (hb : s0.heap.Ns builtinsNs mb) (hbb : ∀ x : Str, x ≠ "__name__" → mb x = bootBuiltins x) (hlim : s0.heap.NoLimit) (hg : s0.gens = #[])
    (ha : s0.heap.get? a = some { cls := .type "list", data := .seq vs.toArray }) (hi : IntsAre vs ns) (hl : ns.length ≤ sizeLine) (hr : Room k callerA)
    (F : ∀ base : Heap, K.In base → base.Ns mainGlobals mg → FnG P w K mg base CX0 k fa fd [x] sp) (hbind : ∀ (s : Shared) (u : Value), BindsTo s fd ⟨[u], []⟩ [(x, u)])
    (hsp : ∀ H : Hp, Only H → SqL K H a (ns.map V.int) → sp [.ref a] H (fun v _ => v = .bl true) fun _ _ _ => False) :
    codeAny (model P w) callerA (.call (.ref fa) ⟨[.ref a], []⟩) (fun r s2 => r = .ok (.ret (.bool true)) ∧ OldK s0.heap s2.heap ∧ s2.os = s0.os ∧ AllBare s2.gens) s0 := by
  have rv := vals_ints hi
  have hvl := hi.length
  -- H tracks the script at most
  have main : ∀ H : Hp, Only H → SqL K H a (ns.map V.int) → HOk P w H s0.heap → (∀ b, H b ≠ none → b = a) → (H a ≠ none → K.lookup a = none) →
      codeAny (model P w) callerA (.call (.ref fa) ⟨[.ref a], []⟩) (fun r s2 => r = .ok (.ret (.bool true)) ∧ OldK s0.heap s2.heap ∧ s2.os = s0.os ∧ AllBare s2.gens) s0 := by
    intro H hO hS hok hA hn
    have old : ∀ {b : Addr} {o : Obj}, s0.heap.get? b = some o → H b = none → (hidT s0.heap H).get? b = some o := fun e n => hidT_get e n
    have dicts : ∀ {b : Addr} {o : Obj} {es : Array DictEntry} {ep : Nat}, s0.heap.get? b = some o → o.data = .dict es ep → H b = none := by
      intro b o es ep e d
      cases q : H b with
      | none => rfl
      | some u =>
        have eb := hA b (by rw [q]; simp)
        rw [eb, ha] at e
        cases e
        exact absurd d (fun z => by cases z)
    have spaces : ∀ {b : Addr} {m : Str → Option Value}, s0.heap.Ns b m → (hidT s0.heap H).Ns b m := fun ⟨o, es, ep, e, d, r⟩ => ⟨o, es, ep, old e (dicts e d), d, r⟩
    have kin : K.In (hidT s0.heap H) := fun b o e => old (hK b o e) (by
      cases q : H b with
      | none => rfl
      | some u =>
        have eb := hA b (by rw [q]; simp)
        rw [eb] at q e
        rw [hn (by rw [q]; simp)] at e
        cases e)
    have md : Mod K mg (hidT s0.heap H) := ⟨kin, spaces hns, ⟨mb, spaces hb, hbb⟩, let ⟨mc, h1, h2⟩ := hlim; ⟨mc, spaces h1, h2⟩⟩
    have e0 : Env0 P w K mg (hidT s0.heap H) callerA [] s0 H := ⟨rfl, md, fun b o e => of_hidT e, Nat.le_of_eq (hidT_size _ _), trivial, fun b hb => absurd (show b ∈ ([] : List Addr) from hb) (by simp), hok, .of_eq hg⟩
    refine codeAny_mono ((F _ kin (spaces hns)).run callerA [] s0 H ⟨[.ref a], []⟩ [.ref a] [.ref a] _ _ hr rfl e0 (hbind s0 (.ref a)) (.cons rfl .nil) (hsp H hO hS)) fun r s2 h => ?_
    cases r with
    | error e => exact False.elim h
    | ok fl =>
      cases fl with
      | ret u =>
        obtain ⟨v, H2, os, bare, un, hok2, rr, q⟩ := h
        cases (show v = .bl true from q)
        cases (show u = Value.bool true from rr)
        refine ⟨rfl, OldK.of_keep fun b o e => ?_, os, bare⟩
        cases q : H b with
        | none => exact un.keep b o e q (by simp [frs]) (by simp)
        | some u =>
          rcases hO b with z | ⟨ob, xs, z⟩
          · rw [q] at z; cases z
          · obtain ⟨g1, _⟩ := hok b _ z
            obtain ⟨g2, _⟩ := hok2 b _ (un.frzs b ob _ z)
            rw [e] at g1
            cases g1
            exact g2
      | next => exact False.elim h
      | brk => exact False.elim h
      | cont => exact False.elim h
  cases hk : K.lookup a with
  | some o =>
    have e := hK a o hk
    rw [ha] at e
    cases e
    exact main (fun _ => none) (fun _ => .inl rfl) (.inr ⟨_, vs.toArray, _, hk, rfl, rfl, rfl, by rw [List.size_toArray, hvl]; exact hl, by simpa using rv⟩) (fun b u z => nomatch (show (none : Option HO) = some u from z)) (fun b z => absurd rfl z) fun z => absurd rfl z
  | none =>
    let H : Hp := fun b => if b = a then some (.frz { cls := .type "list", data := .seq vs.toArray } (.lst (ns.map V.int))) else none
    have at_a : H a = some (.frz { cls := .type "list", data := .seq vs.toArray } (.lst (ns.map V.int))) := if_pos rfl
    have off : ∀ b, b ≠ a → H b = none := fun b nb => if_neg nb
    refine main H (fun b => ?_) (.inl (.inr ⟨_, at_a⟩)) (fun b u z => ?_) (fun b z => ?_) fun _ => hk
    · by_cases q : b = a
      · exact .inr ⟨_, _, by rw [q]; exact at_a⟩
      · exact .inl (off b q)
    · by_cases q : b = a
      · subst q
        rw [at_a] at z
        cases z
        exact ⟨ha, by rw [List.length_map]; exact hl, vs, _, rv, ha⟩
      · rw [off b q] at z; cases z
    · by_cases q : b = a
      · exact q
      · exact absurd (off b q) z
theorem walkG {l : PySem.W.OpenLaw} {n k : Nat} {q : Program} {loose : List Str} {XP : (Str → Option Value) → Heap → Prop} {YP : World → Heap → Prop} {d : DefRec} {K : Params → PySem.W.Frag} {sp : World → Sp} {x : Str}
    (hn : l.most = some n) (hn2 : n ≤ sizeLine) (hdf : d.params.defaults = []) (hr : Room k callerA) (hY : ∀ (w : World) (h : Heap), YP w h → (K w.params).In h)
    (F : ∀ (w : World) (mg : Str → Option Value) (fa : Addr) (h : Heap), (K w.params).In h → h.Ns mainGlobals mg → mg d.name = some (.ref fa) →
      ∃ fd : FuncData, (∀ (s : Shared) (u : Value), BindsTo s fd ⟨[u], []⟩ [(x, u)]) ∧ ∀ base : Heap, (K w.params).In base → base.Ns mainGlobals mg → FnG l.prog w (K w.params) mg base CX0 k fa fd [x] (sp w))
    (hsp : ∀ (w : World) (H : Hp) (a : Addr) (ns : List Int), ns.length ≤ n → Only H → SqL (K w.params) H a (ns.map V.int) → sp w [.ref a] H (fun v _ => v = .bl true) fun _ _ _ => False) :
    PySem.W.WalkO q loose XP YP l.row.toRowW d [] (fun f vs => PySem.call f vs) := by
  refine Att.attach_call hn hdf fun w s₀ s₁ mg mb fa o pm cd doc a vs ns G Y ho hd hcd hmg hobj hints hlen hg => ?_
  have kx := hY w _ Y
  obtain ⟨fd, hb, hF⟩ := F w mg fa _ kx G.T.g hmg
  exact law_callG kx G.T.g G.T.b G.T.builtins G.T.nolimit hg hobj hints (Nat.le_trans hlen hn2) hr hF hb fun H hO hS => hsp w H a ns hlen hO hS
/-! draws -/
def f__law_draw : List D → T D
  | [.pot, .int n] => cond (decide (0 < n) && decide (n ≤ 1000000)) (.draw n.toNat fun i => .ret (.int i)) .fail
  | _ => .fail
end Pd

/-! Instances of the program's own classes as values: made, their attributes, methods, properties read. -/
namespace Pd
open PySem L2 PySem.Spec PyProof.Rows

/-- the class of that name -/
def ClsAt (K : PySem.W.Frag) (c : Str) (C : Addr) : Prop := PySem.W.nsIn K mainGlobals c = some (some (.ref C))
theorem ClsAt.one {K : PySem.W.Frag} {c : Str} {C C2 : Addr} (h : ClsAt K c C) (h2 : PySem.W.nsIn K mainGlobals c = some (some (.ref C2))) : C2 = C := by
  have e := h.symm.trans h2
  cases e
  rfl
/-- __init__'s promise: the new object's attributes from the arguments; all else stays -/
def spI (K : PySem.W.Frag) (P : Program) (w : World) (c : Str) (n : Nat) (F : List D → T (List (Str × D))) : Sp := fun vs H Q _ => ∃ (π : Addr) (N : Addr → Bool) (x dx C : Addr) (args : List V) (ds : List D), vs = .ref x :: args ∧ args.length = n ∧ HN π N H ∧ N x = true ∧ H x = some (.ins C dx []) ∧ ClsAt K c C ∧ RvL K P w π (Hide N H) args ds ∧
  (F ds).all fun fs => ∀ (H' : Hp) (fv : List (Str × V)), (∀ a o, a ≠ π → a ≠ x → H a = some o → H' a = some o) → PotOk H' π → H' x = some (.ins C dx fv) → RvF K P w π (Hide N H') fv fs → Q .non H'
def eMake (c : Str) (n : Nat) (dds : List D) (F : List D → T (List (Str × D))) (ms : Rho → T (List D)) : Rho → T D := fun ρ => (ms ρ).bind fun ds => cond (ds.length == n) ((F (ds ++ dds)).bind fun fs => .ret (.ins c fs)) .fail
section
variable {X : Cx} {e : Expr} {es : List Expr} {pos : Pos} {m : Rho → T D} {ms : Rho → T (List D)}
theorem made_env {π x dx C : Addr} {N : Addr → Bool} {H : Hp} (hn : HN π N H) (hx : H x = none) (hd : H dx = none) (ne : dx ≠ x) : HN π (plus N x) (upd (upd H dx (.own x)) x (.ins C dx [])) ∧ Kp π (Hide N H) (Hide (plus N x) (upd (upd H dx (.own x)) x (.ins C dx []))) ∧ (∀ a o, H a = some o → (upd (upd H dx (.own x)) x (.ins C dx [])) a = some o) := by
  have keep : ∀ a o, H a = some o → (upd (upd H dx (.own x)) x (.ins C dx [])) a = some o := fun a o h => by
    rw [upd_ne (ne_of_none h hx), upd_ne (ne_of_none h hd)]
    exact h
  refine ⟨⟨?_, ?_, fun a h => ?_⟩, fun a o n h => ?_, keep⟩
  · obtain ⟨p, q, h, r⟩ := hn.pot
    exact ⟨p, q, keep _ _ h, r⟩
  · have := hn.pot.ne hx
    simp [plus, hn.npi, this.symm]
  · rcases plus_or h with h | h
    · have q := hn.isS a h
      cases c : H a with
      | none => exact absurd c q
      | some o => rw [keep a o c]; exact fun z => by cases z
    · rw [h, upd_same]; exact fun z => by cases z
  · obtain ⟨na, ha⟩ := hide_some h
    have nx : a ≠ x := ne_of_none ha hx
    rw [hide_in (by simp [plus, na, nx])]
    exact keep a o ha
theorem s_make {k n : Nat} {C f : Addr} {fd : FuncData} {ps : List Str} {c x : Str} {p : Pos} {dvs : List V} {dv : List Value} {dds : List D} {F : List D → T (List (Str × D))} (M : Mk X.K C f) (G : FnOk X.prog X.w X.K X.mg X.base CX0 k f fd ps (spI X.K X.prog X.w c (n + dvs.length) F)) (hr : Room (k + 1) X.A) (hm : X.mg x = some (.ref C)) (at_ : ClsAt X.K c C)
    (hb : Binds X.K fd ps dv) (hd : Vals dvs dv) (hdd : ∀ π H, RvL X.K X.prog X.w π H dvs dds) (ha : SndA X (e :: es) ms) (hg : Gl X x := by rfl) (hdb : (x == ("__debug__" : Str)) = false := by decide) (he : starEach (e :: es) X.env = (false, eval e X.env) :: starEach es X.env := by rfl) (hpl : (backTo pos (starEach es X.env)).any (·.1) = false := by rfl) :
    Snd X (.Call (.Name x p) (e :: es) [] pos) (eMake c n dds F ms) := fun {π N0 H0 N H σ ρ Q} I h =>
  ⟨_, pe_make M G hr hg hm hb hd pass0 pa_wp hdb he hpl, ha I (T.all_mono (fun ds hds vs H1 e1 r x dx hx hdx ne => by
    obtain ⟨hl, hds⟩ := cond_all hds
    have hn := I.hn.ext e1
    obtain ⟨a1, a2, a3⟩ := made_env (C := C) hn hx hdx ne
    have hl : ds.length = n := by simpa using hl
    have Nx : N x = false := hn.new hx
    refine ⟨π, plus N x, x, dx, C, vs ++ dvs, ds ++ dds, rfl, by rw [List.length_append, r.length, hl], a1, plus_self, upd_same, at_, (r.mono a2).append (hdd _ _), T.all_mono (fun fs q H' fv keep pot hx2 rf => ⟨rfl, ?_⟩) (T.all_bind.mp hds)⟩
    have k2 : Kp π (Hide (plus N x) H') (Hide N H') := Kp.less fun a h => plus_old h
    refine q (.ref x) H' ⟨fun a o n h => ?_, pot⟩ (.ins at_ (by rw [hide_in Nx]; exact hx2) (hn.pot.ne hx) (RvF.mono k2 rf))
    have h1 := e1.kp a o n h
    exact keep a o n (ne_of_none h1 hx) (a3 a o h1)) (T.all_bind.mp h))⟩
/-! attributes -/
def fieldD (f : Str) : List (Str × D) → Option D
  | [] => none
  | (g, d) :: r => cond (f == g) (some d) (fieldD f r)
theorem RvF.get {K : PySem.W.Frag} {P : Program} {w : World} {π : Addr} {H : Hp} {f : Str} : ∀ {ds : List (Str × D)} {vs : List (Str × V)} {d : D}, RvF K P w π H vs ds → fieldD f ds = some d → ∃ v, vs.lookup f = some v ∧ Rv K P w π H v d
  | _, _, _, .nil, e => by cases e
  | (g, dg) :: ds, _, d, .cons (v := v) r t, e => by
    unfold fieldD at e
    cases q : f == g with
    | true =>
      rw [q] at e
      cases e
      exact ⟨v, by simp [List.lookup, q], r⟩
    | false =>
      rw [q] at e
      obtain ⟨v', h1, h2⟩ := RvF.get t e
      exact ⟨v', by simp [List.lookup, q, h1], h2⟩
theorem RvF.none_of {K : PySem.W.Frag} {P : Program} {w : World} {π : Addr} {H : Hp} {f : Str} : ∀ {ds : List (Str × D)} {vs : List (Str × V)}, RvF K P w π H vs ds → fieldD f ds = none → vs.lookup f = none
  | _, _, .nil, _ => rfl
  | (g, dg) :: ds, _, .cons r t, e => by
    unfold fieldD at e
    cases q : f == g with
    | true => rw [q] at e; cases e
    | false =>
      rw [q] at e
      simp [List.lookup, q, RvF.none_of t e]
def optT {α : Type} : Option α → T α
  | some d => .ret d
  | none => .fail
theorem optT_all {α : Type} {P : α → Prop} {o : Option α} (h : (optT o).all P) : ∃ d, o = some d ∧ P d := by
  cases o with
  | some d => exact ⟨d, rfl, h⟩
  | none => exact False.elim h
def attrD (c f : Str) : D → T D
  | .ins c2 fs => cond (c2 == c) (optT (fieldD f fs)) .fail
  | _ => .fail
theorem attrD_all {c f : Str} {d : D} {P : D → Prop} (h : (attrD c f d).all P) : ∃ fs d2, d = .ins c fs ∧ fieldD f fs = some d2 ∧ P d2 := by
  unfold attrD at h
  split at h
  · rename_i c2 fs
    obtain ⟨ec, h⟩ := cond_all h
    obtain ⟨d2, q, h⟩ := optT_all h
    exact ⟨fs, d2, by rw [eq_of_beq ec], q, h⟩
  · exact False.elim h
theorem Rv.insE {K : PySem.W.Frag} {P : Program} {w : World} {π : Addr} {N : Addr → Bool} {H : Hp} {v : V} {c : Str} {fs : List (Str × D)} (r : Rv K P w π (Hide N H) v (.ins c fs)) : ∃ a dx C fv, v = .ref a ∧ PySem.W.nsIn K mainGlobals c = some (some (.ref C)) ∧ H a = some (.ins C dx fv) ∧ RvF K P w π (Hide N H) fv fs := by
  cases r with
  | ins hc h n r => exact ⟨_, _, _, _, rfl, hc, (hide_some h).2, r⟩
theorem s_attr {c f : Str} {C : Addr} (at_ : ClsAt X.K c C) (cl : Cls X.K C) (no : NoAttr X.K C f) (ha : Snd X e m) (hb : attributeBase e f X.env (eval e X.env) = eval e X.env := by rfl) : Snd X (.Attribute e f pos) (eUn (attrD c f) m) := fun {π N0 H0 N H σ ρ Q} I h =>
  ⟨_, pe_fld pe_wp hb, ha I (T.all_mono (fun d hd v H2 e2 r => by
    obtain ⟨fs, d2, rfl, q, hd⟩ := attrD_all hd
    obtain ⟨a, dx, C2, fv, rfl, hc, hx, rf⟩ := r.insE
    have e3 := at_.one hc
    subst e3
    obtain ⟨v2, hl, rv⟩ := rf.get q
    exact ⟨a, _, dx, fv, v2, rfl, hx, cl, no, hl, hd v2 H2 e2 rv⟩) (T.all_bind.mp h))⟩

/-! methods, properties -/
def insD (c m : Str) (d : D) : T Unit := match d with
  | .ins c2 fs => cond (c2 == c && (fieldD m fs).isNone) (.ret ()) .fail
  | _ => .fail
theorem insD_all {c m : Str} {d : D} {P : Unit → Prop} (h : (insD c m d).all P) : ∃ fs, d = .ins c fs ∧ fieldD m fs = none ∧ P () := by
  unfold insD at h
  split at h
  · rename_i c2 fs
    obtain ⟨ec, h⟩ := cond_all h
    have ec := Bool.and_eq_true_iff.mp ec
    exact ⟨fs, by rw [eq_of_beq ec.1], by simpa using ec.2, h⟩
  · exact False.elim h
def eMeth (c m : Str) (n : Nat) (F : List D → T D) (ma : Rho → T D) (ms : Rho → T (List D)) : Rho → T D := fun ρ => (ma ρ).bind fun d => (insD c m d).bind fun _ => (ms ρ).bind fun ds => cond (ds.length == n) (F (d :: ds)) .fail
theorem meth_spec {π : Addr} {N : Addr → Bool} {H H1 H2 : Hp} {Q : VK} {n : Nat} {F : List D → T D} {x : V} {d : D} {vs : List V} {ds : List D} (hn : HN π N H) (e12 : Ex π H1 H2) (e : Ex π H H2) (rx : Rv X.K X.prog X.w π (Hide N H1) x d) (r : RvL X.K X.prog X.w π (Hide N H2) vs ds) (hl : ds.length = n) (h : (F (d :: ds)).all (Kd X π N H Q)) :
    spD X.K X.prog X.w (n + 1) F (x :: (vs ++ [])) H2 Q E0 := by
  rw [List.append_nil]
  exact ⟨π, N, d :: ds, hn.ext e, .cons (rx.mono e12.kp.hide) r, by rw [List.length_cons, r.length, hl], T.all_mono (fun _ q v H3 e3 r3 => q v H3 (e.trans e3) r3) h⟩
theorem s_meth {k n : Nat} {C f : Addr} {fd : FuncData} {ps : List Str} {c m : Str} {F : List D → T D} {o : Expr} {mo : Rho → T D} {apos : Pos} {pl : Sem Bool} (at_ : ClsAt X.K c C) (cl : Cls X.K C) (hm : Meth X.K C m f) (G : FnOk X.prog X.w X.K X.mg X.base CX0 k f fd ps (spD X.K X.prog X.w (n + 1) F)) (hr : Room k X.A) (hb : Binds X.K fd ps [])
    (ho : Snd X o mo) (ha : SndA X (e :: es) ms) (hst : starEach (e :: es) X.env = (false, eval e X.env) :: starEach es X.env := by rfl) (hpl : (backTo pos (starEach es X.env)).any (·.1) = false := by rfl)
    (ht : eval (.Call (.Attribute o m apos) (e :: es) [] pos) X.env = (do
      let ov ← eval o X.env
      standAt apos.atName
      let (f, first) ← holding [ov] (getMethod ov m pl)
      callWith pos f first (backTo pos (starEach (e :: es) X.env)) (backToKw pos (keywordEach [] X.env))) := by rfl) :
    Snd X (.Call (.Attribute o m apos) (e :: es) [] pos) (eMeth c m n F mo ms) := fun {π N0 H0 N H σ ρ Q} I h =>
  ⟨_, pe_meth (pl := pl) pe_wp cl hm G hr hb .nil pass0 pa_wp hst hpl ht, ho I (T.all_mono (fun d hd => by
    intro x H1 e1 rx
    obtain ⟨fs, rfl, nf, hd⟩ := insD_all (T.all_bind.mp hd)
    obtain ⟨a, dx, C2, fv, rfl, hc, hx, rf⟩ := rx.insE
    have e3 := at_.one hc
    subst e3
    refine ⟨a, dx, fv, rfl, hx, rf.none_of nf, ha (I.ext e1) (T.all_mono (fun ds hd => ?_) (T.all_bind.mp hd))⟩
    intro vs H2 e2 r
    obtain ⟨hl, hd⟩ := cond_all hd
    exact meth_spec I.hn e2 (e1.trans e2) rx r (by simpa using hl) hd) (T.all_bind.mp h))⟩
theorem s_meth0 {k : Nat} {C f : Addr} {fd : FuncData} {ps : List Str} {c m : Str} {F : List D → T D} {o : Expr} {mo : Rho → T D} {apos : Pos} {pl : Sem Bool} (at_ : ClsAt X.K c C) (cl : Cls X.K C) (hm : Meth X.K C m f) (G : FnOk X.prog X.w X.K X.mg X.base CX0 k f fd ps (spD X.K X.prog X.w 1 F)) (hr : Room k X.A) (hb : Binds X.K fd ps [])
    (ho : Snd X o mo)
    (ht : eval (.Call (.Attribute o m apos) [] [] pos) X.env = (do
      let ov ← eval o X.env
      standAt apos.atName
      let (f, first) ← holding [ov] (getMethod ov m pl)
      callWith pos f first (backTo pos (starEach [] X.env)) (backToKw pos (keywordEach [] X.env))) := by rfl) :
    Snd X (.Call (.Attribute o m apos) [] [] pos) (eMeth c m 0 F mo aNil) := fun {π N0 H0 N H σ ρ Q} I h =>
  ⟨_, pe_meth0 (pl := pl) pe_wp cl hm G hr hb .nil pass0 ht, ho I (T.all_mono (fun d hd => by
    intro x H1 e1 rx
    obtain ⟨fs, rfl, nf, hd⟩ := insD_all (T.all_bind.mp hd)
    obtain ⟨a, dx, C2, fv, rfl, hc, hx, rf⟩ := rx.insE
    have e3 := at_.one hc
    subst e3
    exact ⟨a, dx, fv, rfl, hx, rf.none_of nf, meth_spec (n := 0) I.hn (Ex.refl e1.pot) e1 rx .nil rfl hd⟩) (T.all_bind.mp h))⟩
def isC (c : Str) (d : D) : T Unit := match d with
  | .ins c2 _ => cond (c2 == c) (.ret ()) .fail
  | _ => .fail
theorem isC_all {c : Str} {d : D} {P : Unit → Prop} (h : (isC c d).all P) : ∃ fs, d = .ins c fs ∧ P () := by
  unfold isC at h
  split at h
  · rename_i c2 fs
    obtain ⟨ec, h⟩ := cond_all h
    exact ⟨fs, by rw [eq_of_beq ec], h⟩
  · exact False.elim h
def eProp (c : Str) (F : List D → T D) (mo : Rho → T D) : Rho → T D := fun ρ => (mo ρ).bind fun d => (isC c d).bind fun _ => F [d]
theorem s_prop {k : Nat} {C p g : Addr} {fd : FuncData} {ps : List Str} {c f : Str} {F : List D → T D} (at_ : ClsAt X.K c C) (cl : Cls X.K C) (hp : PropOf X.K C f p g) (G : FnOk X.prog X.w X.K X.mg X.base CX0 k g fd ps (spD X.K X.prog X.w 1 F)) (hr : Room (k + 1) X.A) (hb : Binds X.K fd ps []) (ho : Snd X e m)
    (hab : attributeBase e f X.env (eval e X.env) = eval e X.env := by rfl) : Snd X (.Attribute e f pos) (eProp c F m) := fun {π N0 H0 N H σ ρ Q} I h =>
  ⟨_, pe_prop pe_wp cl hp G hr hb .nil pass0 hab, ho I (T.all_mono (fun d hd => by
    intro x H1 e1 rx
    obtain ⟨fs, rfl, hd⟩ := isC_all (T.all_bind.mp hd)
    obtain ⟨a, dx, C2, fv, rfl, hc, hx, rf⟩ := id rx.insE
    have e3 := at_.one hc
    subst e3
    exact ⟨a, dx, fv, rfl, hx, meth_spec (n := 0) (vs := []) I.hn (Ex.refl e1.pot) e1 rx .nil rfl hd⟩) (T.all_bind.mp h))⟩
end
end Pd

/-! Operators of the program's own classes. -/
namespace Pd
open PySem L2 PySem.Spec PyProof.Rows

structure OwnOp (K : PySem.W.Frag) (C : Addr) (op : Operator) (f : Addr) : Prop where
  first : PySem.W.selfFirst K C = true
  at_ : PySem.W.findIn K (.ref C) (PySem.dunder op.info.2) = some (some (.ref f))
  fn : PySem.W.isFn K (.ref f) = true
  back : ∃ rc, PySem.W.findIn K (.ref C) (PySem.dunderR op.info.2) = some rc ∧ (rc = none ∨ ∃ g : Addr, rc = some (.ref g))
  nums : ∃ fo ro, PySem.W.findIn K (.type "int") (PySem.dunder op.info.2) = some fo ∧ PySem.W.findIn K (.type "int") (PySem.dunderR op.info.2) = some ro
  sub : PySem.W.subIn K (.type "int") (.ref C) = some false
theorem back_of {Q : Value → Shared → Prop} {v : V} {u : Value} {s : Shared} (r : RelV v u) (h : Q u s) : PySem.W.CmpBack Q u s := by
  cases v with
  | non => cases r; exact h
  | bl b => cases r; exact h
  | int i => obtain ⟨t, rfl⟩ := r; exact h
  | str x => obtain ⟨t, rfl⟩ := r; exact h
  | byt b => obtain ⟨t, rfl⟩ := r; exact h
  | flt b => obtain ⟨t, rfl⟩ := r; exact h
  | ref a => cases r; exact h
  | ty n => cases r; exact h
section
variable {X : Cx} {a : Expr} {pos : Pos} {ma : Rho → T D}
theorem op_own {op : Operator} {k : Nat} {C f : Addr} {fd : FuncData} {ps : List Str} {F : List D → T D} (O : OwnOp X.K C op f) (G : FnOk X.prog X.w X.K X.mg X.base CX0 k f fd ps (spD X.K X.prog X.w 2 F)) (hr : Room k X.A) (hb : Binds X.K fd ps []) :
    OpR X (binaryOp op) (fun x y H Q => ∃ a dx fv, x = .ref a ∧ H a = some (.ins C dx fv) ∧ ((∃ i, y = .int i) ∨ ∃ b dx2 fw, y = .ref b ∧ H b = some (.ins C dx2 fw)) ∧ spD X.K X.prog X.w 2 F [x, y] H Q E0) := by
  intro pins s σ H x y v u Q I rx ry h
  obtain ⟨a, dx, fv, rfl, ha, hy, h⟩ := h
  cases rx
  obtain ⟨mA, M, _, _, _, _⟩ := ins_get I.hok ha
  obtain ⟨od, J, _⟩ := M.look
  obtain ⟨m, Fr0⟩ := I.fr
  have call1 := run_fn (dvs := []) (ds := []) G hr hb .nil pass0 I (vs := [.ref a, y]) (us := [.ref a, u]) (.cons rfl (.cons ry .nil)) h
  have call2 := wpAny_mono call1 (fun r s2 hs => by
    obtain ⟨v2, H2, I2, rv, q⟩ := hs
    exact back_of (Q := EP X pins σ Q) rv ⟨v2, H2, I2, rv, q⟩) fun _ _ z => z
  rcases hy with ⟨i, rfl⟩ | ⟨b, dx2, fw, rfl, hb2⟩
  · obtain ⟨t, rfl⟩ := ry
    obtain ⟨rc, r1, r2⟩ := O.back
    obtain ⟨fo, ro, i1, i2⟩ := O.nums
    exact PySem.W.ksp_binT (T := "int") Fr0 I.ok.mod.kin J rfl O.first O.at_ O.fn r1 r2 i1 i2 O.sub call2
  · cases ry
    obtain ⟨mB, M2, _, _, _, _⟩ := ins_get I.hok hb2
    obtain ⟨od2, J2, _⟩ := M2.look
    exact PySem.W.binop_K Fr0 I.ok.mod.kin J J2.type O.first O.at_ O.fn call2
def right2 (c : Str) (F : List D → T D) (x : D) : D → T D
  | .int i => F [x, .int i]
  | y => (isC c y).bind fun _ => F [x, y]
theorem right2_all {c : Str} {F : List D → T D} {x y : D} {P : D → Prop} (h : (right2 c F x y).all P) : ((∃ i, y = .int i) ∨ ∃ gs, y = .ins c gs) ∧ (F [x, y]).all P := by
  cases y with
  | int i => exact ⟨.inl ⟨i, rfl⟩, h⟩
  | ins c2 gs =>
    obtain ⟨gs2, e, h⟩ := isC_all (T.all_bind.mp (show ((isC c (.ins c2 gs)).bind fun _ => F [x, .ins c2 gs]).all P from h))
    exact ⟨.inr ⟨gs2, e⟩, h⟩
  | _ => exact False.elim h
def opOwn (c : Str) (F : List D → T D) : D → D → T D := fun x y => (isC c x).bind fun _ => right2 c F x y
theorem os_own {op : Operator} {k : Nat} {c : Str} {C f : Addr} {fd : FuncData} {ps : List Str} {F : List D → T D} (at_ : ClsAt X.K c C) (O : OwnOp X.K C op f) (G : FnOk X.prog X.w X.K X.mg X.base CX0 k f fd ps (spD X.K X.prog X.w 2 F)) (hr : Room k X.A) (hb : Binds X.K fd ps []) : OpSnd X (binaryOp op) (opOwn c F) := fun {π N H x y dx dy Q} hn rx ry h => by
  unfold opOwn at h
  obtain ⟨fs, rfl, h⟩ := isC_all (T.all_bind.mp h)
  obtain ⟨a, d1, C2, fv, rfl, hc, hx, rf⟩ := id rx.insE
  have e3 := at_.one hc
  subst e3
  refine ⟨_, op_own O G hr hb, a, d1, fv, rfl, hx, ?_⟩
  obtain ⟨hy, h⟩ := right2_all h
  refine ⟨?_, π, N, _, hn, .cons rx (.cons ry .nil), rfl, h⟩
  rcases hy with ⟨i, rfl⟩ | ⟨gs, rfl⟩
  · exact .inl ⟨i, ry.intE⟩
  · obtain ⟨b, d2, C3, fw, rfl, hc3, hy, _⟩ := id ry.insE
    have e4 := at_.one hc3
    subst e4
    exact .inr ⟨b, d2, fw, rfl, hy⟩
/-! -x -/
theorem un_own {k : Nat} {C f : Addr} {fd : FuncData} {ps : List Str} {F : List D → T D} (hs : PySem.W.findIn X.K (.ref C) "__neg__" = some (some (.ref f))) (hf : PySem.W.isFn X.K (.ref f) = true) (G : FnOk X.prog X.w X.K X.mg X.base CX0 k f fd ps (spD X.K X.prog X.w 1 F)) (hr : Room k X.A) (hb : Binds X.K fd ps []) :
    UnR X (unaryOp .USub) (fun x H Q => ∃ a dx fv, x = .ref a ∧ H a = some (.ins C dx fv) ∧ spD X.K X.prog X.w 1 F [x] H Q E0) := by
  intro pins s σ H x v Q I rx h
  obtain ⟨a, dx, fv, rfl, ha, h⟩ := h
  cases rx
  obtain ⟨mA, M, _, _, _, _⟩ := ins_get I.hok ha
  obtain ⟨od, J, _⟩ := M.look
  obtain ⟨m, Fr0⟩ := I.fr
  exact PySem.W.ksp_neg Fr0 I.ok.mod.kin J hs hf (run_fn (dvs := []) (ds := []) G hr hb .nil pass0 I (vs := [.ref a]) (us := [.ref a]) (.cons rfl .nil) h)
def uNegC (c : Str) (F : List D → T D) : D → T D := fun d => match d with
  | .int i => .ret (.int (-i))
  | d => (isC c d).bind fun _ => F [d]
theorem s_negC {k : Nat} {c : Str} {C f : Addr} {fd : FuncData} {ps : List Str} {F : List D → T D} (at_ : ClsAt X.K c C) (hs : PySem.W.findIn X.K (.ref C) "__neg__" = some (some (.ref f))) (hf : PySem.W.isFn X.K (.ref f) = true) (G : FnOk X.prog X.w X.K X.mg X.base CX0 k f fd ps (spD X.K X.prog X.w 1 F)) (hr : Room k X.A) (hb : Binds X.K fd ps [])
    (ha : Snd X a ma) : Snd X (.UnaryOp .USub a pos) (eUn (uNegC c F) ma) := fun {π N0 H0 N H σ ρ Q} I h =>
  ⟨_, pe_un un_wp pe_wp, ha I (T.all_mono (fun d hd => by
    intro v H2 e2 r
    unfold uNegC at hd
    split at hd
    · cases r
      exact ⟨_, un_neg, _, rfl, hd _ _ e2 (.int _)⟩
    · obtain ⟨fs, rfl, hd⟩ := isC_all (T.all_bind.mp hd)
      obtain ⟨a, dx, C2, fv, rfl, hc, hx, rf⟩ := id r.insE
      have e3 := at_.one hc
      subst e3
      refine ⟨_, un_own hs hf G hr hb, a, dx, fv, rfl, hx, π, N, _, I.hn.ext e2, .cons r .nil, rfl, T.all_mono (fun _ q v H3 e3 r3 => q v H3 (e2.trans e3) r3) hd⟩) (T.all_bind.mp h))⟩
end
end Pd

/-! int op instance: the class's reflected method. -/
namespace Pd
open PySem L2 PySem.Spec PyProof.Rows PySem.W

theorem back_try {prog : Program} {w : World} {A : Around} {E : Value → Shared → Prop} {s : Shared} {K : PySem.W.Frag} {x C f0 f : Addr} {ox : Obj} {od : Option Obj} {nm id : String} {i : Int} {t : Tok} {fo ro : Option Value} {Q : Option Value → Shared → Prop}
    (X : K.In s.heap) (I : InstAt s.heap x ox C od) (hc : selfFirst K C = true) (h0 : findIn K (.ref C) (PySem.dunder nm) = some (some (.ref f0))) (hs : findIn K (.ref C) (dunderR nm) = some (some (.ref f))) (hf : isFn K (.ref f) = true)
    (h1 : findIn K (.type "int") (PySem.dunder nm) = some fo) (h2 : findIn K (.type "int") (dunderR nm) = some ro) (hleft : ((fo.isSome && !isSeqSlot fo) || (ro.isSome && !isSeqSlot ro)) = true) (hsub : subIn K (.ref C) (.type "int") = some false)
    (hsl : Slot "int" (PySem.dunder nm) id) (hdec : wpAny (model prog w) A (call (.builtin id) [.int i t, .ref x]) (fun v s' => v = .notImplemented ∧ s' = s) E s)
    (h : wpAny (model prog w) A (call (.ref f) [.ref x, .int i t]) (PySem.W.CmpBack fun v s' => Q (some v) s') E s) : wpAny (model prog w) A (binaryOp1 nm (.int i t) (.ref x)) Q E s := by
  obtain ⟨cd, rest, hcd, hm⟩ := ksp_first hc
  have two := ksp_try (Q := fun v s' => Q (some v) s') X I hs hf h
  have one : wpAny (model prog w) A (tryMethod (.int i t) (PySem.dunder nm) (.ref x)) (fun r s' => r = none ∧ s' = s) E s := wpAny_tryMethod_declines (typeIs_int s i t) hsl (wpAny_mono hdec (fun v s' z => ⟨z.1, rfl, z.2⟩) fun _ _ z => z)
  have L2 : Looks (model prog w) s.heap (typeOf (.ref x)) (.ref C) := I.type
  have L3 : Looks (model prog w) s.heap (fillsNumberSlot (.ref C) nm) true := fills_K X hcd hm h0
  have L4 := ksp_fillsT (M := model prog w) X h1 h2
  rw [hleft] at L4
  have L5 : Looks (model prog w) s.heap (isSubtype (.ref C) (.type "int")) false := looks_subIn X hsub
  have hne : (Value.type "int" == Value.ref C) = false := Bool.eq_false_iff.mpr fun q => by cases beq_iff_eq.mp q
  unfold binaryOp1
  refine wpAny_bind (wpAny_pure ?_)
  refine wpAny_bind (L2.here (wpAny_bind (L4.here ?_)))
  simp only [hne, Bool.false_eq_true, if_false]
  refine wpAny_bind (L3.here ?_)
  simp only [Bool.and_self, if_true]
  refine wpAny_bind (L5.here ?_)
  simp only [Bool.false_eq_true, if_false, Bool.not_false, Bool.and_self, if_true]
  refine wpAny_bind (m := numberSlotInPython (.type "int") nm) (wpAny_pure ?_)
  simp only [Bool.false_eq_true, if_false]
  refine wpAny_bind (wpAny_mono one (fun r s2 hr => ?_) fun _ _ z => z)
  obtain ⟨rfl, rfl⟩ := hr
  dsimp only
  refine wpAny_bind (wpAny_mono two (fun r s3 hr => ?_) fun _ _ z => z)
  obtain ⟨v, rfl, hq⟩ := hr
  dsimp only
  exact wpAny_bind (wpAny_rule (wpAny_pure hq))
theorem dec_add (i : Int) (t : Tok) (x : Addr) (C dx : Addr) : Meets (Builtin.«int.__add__» ⟨[.int i t, .ref x], []⟩) (fun _ R s => s.heap.get? x = some (instObj C dx) ∧ R (.ok (.ret Value.notImplemented)) s) :=
  .of_wp fun prog w A R s h => by obtain ⟨hp, g, d, tk, os⟩ := s; obtain ⟨hl, h⟩ := h; unfold instObj at hl; wp_walk using wpAny_loadPart' hl; exact ⟨_, rfl, h⟩
theorem dec_sub (i : Int) (t : Tok) (x : Addr) (C dx : Addr) : Meets (Builtin.«int.__sub__» ⟨[.int i t, .ref x], []⟩) (fun _ R s => s.heap.get? x = some (instObj C dx) ∧ R (.ok (.ret Value.notImplemented)) s) :=
  .of_wp fun prog w A R s h => by obtain ⟨hp, g, d, tk, os⟩ := s; obtain ⟨hl, h⟩ := h; unfold instObj at hl; wp_walk using wpAny_loadPart' hl; exact ⟨_, rfl, h⟩
theorem dec_mul (i : Int) (t : Tok) (x : Addr) (C dx : Addr) : Meets (Builtin.«int.__mul__» ⟨[.int i t, .ref x], []⟩) (fun _ R s => s.heap.get? x = some (instObj C dx) ∧ R (.ok (.ret Value.notImplemented)) s) :=
  .of_wp fun prog w A R s h => by obtain ⟨hp, g, d, tk, os⟩ := s; obtain ⟨hl, h⟩ := h; unfold instObj at hl; wp_walk using wpAny_loadPart' hl; exact ⟨_, rfl, h⟩
/-- int op instance -/
structure BackOp (K : PySem.W.Frag) (C : Addr) (op : Operator) (f : Addr) : Prop where
  first : selfFirst K C = true
  own : ∃ f0 : Addr, findIn K (.ref C) (PySem.dunder op.info.2) = some (some (.ref f0))
  at_ : findIn K (.ref C) (dunderR op.info.2) = some (some (.ref f))
  fn : isFn K (.ref f) = true
  nums : ∃ fo ro, findIn K (.type "int") (PySem.dunder op.info.2) = some fo ∧ findIn K (.type "int") (dunderR op.info.2) = some ro ∧ ((fo.isSome && !isSeqSlot fo) || (ro.isSome && !isSeqSlot ro)) = true
  sub : subIn K (.ref C) (.type "int") = some false
/-- what int's own slot says to an instance -/
def Declines (op : Operator) : Prop := ∃ id, Slot "int" (PySem.dunder op.info.2) id ∧ ∀ (prog : Program) (w : World) (A : Around) (E : Value → Shared → Prop) (s : Shared) (i : Int) (t : Tok) (x C dx : Addr), s.heap.get? x = some (instObj C dx) → wpAny (model prog w) A (call (.builtin id) [.int i t, .ref x]) (fun v s' => v = .notImplemented ∧ s' = s) E s
theorem declines_add : Declines .Add := ⟨_, F.slot_int_add, fun prog w A E s i t x C dx h => call_meets F.slot_int_add (typeIs_int s i t) F.entry_int_add (F.args_int_add_2 _ _) (dec_add i t x C dx) ⟨h, rfl, rfl⟩⟩
theorem declines_sub : Declines .Sub := ⟨_, F.slot_int_sub, fun prog w A E s i t x C dx h => call_meets F.slot_int_sub (typeIs_int s i t) F.entry_int_sub (F.args_int_sub_2 _ _) (dec_sub i t x C dx) ⟨h, rfl, rfl⟩⟩
theorem declines_mul : Declines .Mult := ⟨_, F.slot_int_mul, fun prog w A E s i t x C dx h => call_meets F.slot_int_mul (typeIs_int s i t) F.entry_int_mul (F.args_int_mul_2 _ _) (dec_mul i t x C dx) ⟨h, rfl, rfl⟩⟩
section
variable {X : Cx}
theorem op_back {op : Operator} {k : Nat} {C f : Addr} {fd : FuncData} {ps : List Str} {F : List D → T D} (B : BackOp X.K C op f) (dc : Declines op) (G : FnOk X.prog X.w X.K X.mg X.base CX0 k f fd ps (spD X.K X.prog X.w 2 F)) (hr : Room k X.A) (hb : Binds X.K fd ps []) :
    OpR X (binaryOp op) (fun x y H Q => ∃ i a dx fv, x = .int i ∧ y = .ref a ∧ H a = some (.ins C dx fv) ∧ spD X.K X.prog X.w 2 F [y, x] H Q E0) := by
  intro pins s σ H x y v u Q I rx ry h
  obtain ⟨i, a, dx, fv, rfl, rfl, ha, h⟩ := h
  cases ry
  have rx0 := rx
  obtain ⟨t, rfl⟩ := rx
  obtain ⟨mA, M, _, _, _, _⟩ := ins_get I.hok ha
  obtain ⟨od, J, _⟩ := M.look
  have call1 := run_fn (dvs := []) (ds := []) G hr hb .nil pass0 I (vs := [.ref a, .int i]) (us := [.ref a, .int i t]) (.cons rfl (.cons rx0 .nil)) h
  have call2 := wpAny_mono call1 (fun r s2 hs => by
    obtain ⟨v2, H2, I2, rv, q⟩ := hs
    exact back_of (Q := EP X pins σ Q) rv ⟨v2, H2, I2, rv, q⟩) fun _ _ z => z
  obtain ⟨f0, own⟩ := B.own
  obtain ⟨fo, ro, i1, i2, i3⟩ := B.nums
  obtain ⟨id, hsl, hdec⟩ := dc
  have one := back_try (Q := fun r s2 => ∃ v, r = some v ∧ EP X pins σ Q v s2) I.kIn J B.first own B.at_ B.fn i1 i2 i3 B.sub hsl (hdec X.prog X.w X.A X.xe s i t a C dx M.obj) (wpAny_mono call2 (fun v s2 hv => by
    cases v <;> first | exact hv.elim | exact ⟨_, rfl, hv⟩) fun _ _ z => z)
  unfold binaryOp
  refine wpAny_holding (wpAny_bind (wpAny_mono one (fun r s2 hr => ?_) fun _ _ z => z))
  obtain ⟨v, rfl, hq⟩ := hr
  exact wpAny_pure hq
/-- an operator of ints and of instances on either side -/
def opAny (c : Str) (f : D → D → T D) (F R : List D → T D) : D → D → T D
  | .int i, .ins c2 gs => (isC c (.ins c2 gs)).bind fun _ => R [.ins c2 gs, .int i]
  | .ins c2 fs, y => opOwn c F (.ins c2 fs) y
  | x, y => f x y
theorem os_any {op : Operator} {k j : Nat} {c : Str} {C f r : Addr} {fd rd : FuncData} {ps qs : List Str} {g : D → D → T D} {F R : List D → T D} (h0 : OpSnd X (binaryOp op) g) (at_ : ClsAt X.K c C) (O : OwnOp X.K C op f) (G : FnOk X.prog X.w X.K X.mg X.base CX0 k f fd ps (spD X.K X.prog X.w 2 F)) (hr : Room k X.A) (hb : Binds X.K fd ps [])
    (B : BackOp X.K C op r) (dc : Declines op) (GR : FnOk X.prog X.w X.K X.mg X.base CX0 j r rd qs (spD X.K X.prog X.w 2 R)) (hr2 : Room j X.A) (hb2 : Binds X.K rd qs []) : OpSnd X (binaryOp op) (opAny c g F R) := fun {π N H x y dx dy Q} hn rx ry h => by
  unfold opAny at h
  split at h
  · rename_i i c2 gs
    obtain ⟨fs, e, h⟩ := isC_all (T.all_bind.mp h)
    cases e
    obtain ⟨b, d2, C3, fw, rfl, hc3, hy, _⟩ := id ry.insE
    have e4 := at_.one hc3
    subst e4
    have ex := rx.intE
    subst ex
    exact ⟨_, op_back B dc GR hr2 hb2, i, b, d2, fw, rfl, rfl, hy, π, N, _, hn, .cons ry (.cons rx .nil), rfl, h⟩
  · exact os_own at_ O G hr hb hn rx ry h
  · exact h0 hn rx ry h
end
end Pd

/-! isinstance with instances about. -/
namespace Pd
open PySem L2 PySem.Spec PyProof.Rows

/-- the class is one whose instances isinstance may be asked of -/
structure ClsTy (K : PySem.W.Frag) (C : Addr) : Prop where
  ty : ∀ (H : Hp) (a dx : Addr) (fs : List (Str × V)), H a = some (.ins C dx fs) → TyOf K H (.ref a) (.ref C)
  no : ∀ t : Ty5, PySem.W.kitOne K (.ref C) (.type t.nm) = some false
  is : ∀ t : Ty5, PySem.W.kitOne K (.type t.nm) (.ref C) = some false
def KnownC (K : PySem.W.Frag) (cs : List Str) : Prop := ∀ c, cs.contains c = true → ∃ C, ClsAt K c C ∧ ClsTy K C
/-- isinstance(d, a built-in type) -/
def isDC (cs : List Str) (k : Ty5) (d : D) : T D := match d with
  | .ins c _ => cond (cs.contains c) (.ret (.bl false)) .fail
  | d => isD k d
/-- isinstance(d, the class of that name) -/
def isOC (cs : List Str) (c0 : Str) (d : D) : T D := match d with
  | .ins c _ => cond (c == c0) (.ret (.bl true)) (cond (cs.contains c) (.ret (.bl false)) .fail)
  | d => (optT (tyD d)).bind fun _ => .ret (.bl false)
section
variable {X : Cx} {pos : Pos} {e : Expr} {m : Rho → T D}
theorem isi_ins {π : Addr} {N : Addr → Bool} {H : Hp} {v : V} {c : Str} {fs : List (Str × D)} {cs : List Str} (kn : KnownC X.K cs) (hc : cs.contains c = true) (r : Rv X.K X.prog X.w π (Hide N H) v (.ins c fs)) : ∃ C, ClsAt X.K c C ∧ ClsTy X.K C ∧ TyX X.K H v (.ref C) := by
  obtain ⟨C, at_, ct⟩ := kn c hc
  obtain ⟨a, dx, C2, fv, rfl, h2, hx, _⟩ := r.insE
  have e3 := at_.one h2
  subst e3
  exact ⟨C2, at_, ct, .base (ct.ty H a dx fv hx)⟩
theorem isD_all {k : Ty5} {d : D} {P : D → Prop} (h : (isD k d).all P) : ∃ t, tyD d = some t ∧ P (.bl (Ty5.sub t k)) := by
  unfold isD at h
  split at h
  · exact ⟨_, by assumption, h⟩
  · exact False.elim h
theorem s_isinstC (cs : List Str) {k : Ty5} {ty : Str} {p p2 : Pos} (kn : KnownC X.K cs) (hm : X.mg "isinstance" = none) (hmt : X.mg ty = none) (hb : bootBuiltins ty = some (.type k.nm)) (ha : Snd X e m) (hg : Gl X "isinstance" := by rfl) (hgt : Gl X ty := by rfl) (hbi : bootBuiltins "isinstance" = some (.builtin "isinstance") := by decide +kernel) (hn : ty ≠ "__name__" := by decide) (hd : (ty == ("__debug__" : Str)) = false := by decide)
    (he : starEach [e, .Name ty p] X.env = (false, eval e X.env) :: starEach [.Name ty p] X.env := by rfl) (he2 : starEach [.Name ty p] X.env = (false, eval (.Name ty p) X.env) :: starEach [] X.env := by rfl) (hpl : (backTo pos (starEach [.Name ty p] X.env)).any (·.1) = false := by rfl) :
    Snd X (.Call (.Name "isinstance" p2) [e, .Name ty p] [] pos) (eUn (isDC cs k) m) := fun {π N0 H0 N H σ ρ Q} I h =>
  ⟨_, pe_callB call_isi hg hm hbi (pa_cons pe_wp (pa_cons (pe_bltn (v := .ty k.nm) hgt hmt hb rfl hn hd) pa_nil he2) he) (by decide) (by decide) he hpl, ha I (T.all_mono (fun d hd => by
    intro v H2 e2 r
    unfold isDC at hd
    split at hd
    · obtain ⟨hc, hd⟩ := cond_all hd
      obtain ⟨C, at_, ct, tx⟩ := isi_ins kn hc r
      exact ⟨v, .ty k.nm, .ref C, .type k.nm, false, rfl, .ty _, tx, ct.no k, hd _ _ e2 (.bl _)⟩
    · obtain ⟨t, c, hd⟩ := isD_all hd
      exact ⟨v, .ty k.nm, .type t.nm, .type k.nm, Ty5.sub t k, rfl, .ty _, ty_of r c, kit_ty (kitB_sub t k), hd _ _ e2 (.bl _)⟩) (T.all_bind.mp h))⟩
theorem s_isinstO (cs : List Str) {c0 : Str} {C0 : Addr} {p p2 : Pos} (kn : KnownC X.K cs) (at0 : ClsAt X.K c0 C0) (ct0 : ClsTy X.K C0) (df : ∀ c C, cs.contains c = true → (c == c0) = false → ClsAt X.K c C → PySem.W.kitOne X.K (.ref C) (.ref C0) = some false) (hm : X.mg "isinstance" = none) (hmt : X.mg c0 = some (.ref C0)) (ha : Snd X e m) (hg : Gl X "isinstance" := by rfl) (hgt : Gl X c0 := by rfl)
    (hbi : bootBuiltins "isinstance" = some (.builtin "isinstance") := by decide +kernel) (hd : (c0 == ("__debug__" : Str)) = false := by decide)
    (he : starEach [e, .Name c0 p] X.env = (false, eval e X.env) :: starEach [.Name c0 p] X.env := by rfl) (he2 : starEach [.Name c0 p] X.env = (false, eval (.Name c0 p) X.env) :: starEach [] X.env := by rfl) (hpl : (backTo pos (starEach [.Name c0 p] X.env)).any (·.1) = false := by rfl) :
    Snd X (.Call (.Name "isinstance" p2) [e, .Name c0 p] [] pos) (eUn (isOC cs c0) m) := fun {π N0 H0 N H σ ρ Q} I h =>
  ⟨_, pe_callB call_isi hg hm hbi (pa_cons pe_wp (pa_cons (pe_glob hgt hmt (v := .ref C0) rfl hd) pa_nil he2) he) (by decide) (by decide) he hpl, ha I (T.all_mono (fun d hz => by
    intro v H2 e2 r
    unfold isOC at hz
    split at hz
    · rename_i c fs
      cases q : (c == c0) with
      | true =>
        rw [q] at hz
        have ec := eq_of_beq q
        subst ec
        obtain ⟨a, dx, C2, fv, rfl, h2, hx, _⟩ := r.insE
        have e3 := at0.one h2
        subst e3
        refine ⟨.ref a, .ref C2, .ref C2, .ref C2, true, rfl, .own _, .base (ct0.ty _ a dx fv hx), ?_, hz _ _ e2 (.bl _)⟩
        unfold PySem.W.kitOne
        rw [if_pos (beq_self_eq_true _)]
      | false =>
        rw [q] at hz
        obtain ⟨hc, hz⟩ := cond_all (show (cond (cs.contains c) (T.ret (D.bl false)) .fail).all _ from hz)
        obtain ⟨C, at_, ct, tx⟩ := isi_ins kn hc r
        exact ⟨v, .ref C0, .ref C, .ref C0, false, rfl, .own _, tx, df c C hc q at_, hz _ _ e2 (.bl _)⟩
    · obtain ⟨t, c, hz⟩ := optT_all (T.all_bind.mp hz)
      exact ⟨v, .ref C0, .type t.nm, .ref C0, false, rfl, .own _, ty_of r c, ct0.is t, hz _ _ e2 (.bl _)⟩) (T.all_bind.mp h))⟩
end
end Pd

/-! Comparisons by a class's own method. -/
namespace Pd
open PySem L2 PySem.Spec PyProof.Rows

structure CmpOwn (K : PySem.W.Frag) (C : Addr) (op : CmpOp) (f : Addr) : Prop where
  at_ : PySem.W.findIn K (.ref C) (cmpInfo op).2.1 = some (some (.ref f))
  fn : PySem.W.isFn K (.ref f) = true
  num : PySem.W.notFirst K C (.type "int") = true
  self : PySem.W.notFirst K C (.ref C) = true
section
variable {X : Cx}
theorem op_cmpOwn {op : CmpOp} {k : Nat} {C f : Addr} {fd : FuncData} {ps : List Str} {F : List D → T D} (hop : op ≠ .Is ∧ op ≠ .IsNot ∧ op ≠ .In ∧ op ≠ .NotIn) (O : CmpOwn X.K C op f) (G : FnOk X.prog X.w X.K X.mg X.base CX0 k f fd ps (spD X.K X.prog X.w 2 F)) (hr : Room k X.A) (hb : Binds X.K fd ps []) :
    OpR X (compareOp op) (fun x y H Q => ∃ a dx fv, x = .ref a ∧ H a = some (.ins C dx fv) ∧ ((∃ i, y = .int i) ∨ ∃ b dx2 fw, y = .ref b ∧ H b = some (.ins C dx2 fw)) ∧ spD X.K X.prog X.w 2 F [x, y] H Q E0) := by
  intro pins s σ H x y v u Q I rx ry h
  obtain ⟨a, dx, fv, rfl, ha, hy, h⟩ := h
  cases rx
  obtain ⟨mA, M, _, _, _, _⟩ := ins_get I.hok ha
  obtain ⟨od, J, _⟩ := M.look
  obtain ⟨m, Fr0⟩ := I.fr
  have hu : X.A.units < cLine := by have := hr.un; omega
  have call1 := run_fn (dvs := []) (ds := []) G hr hb .nil pass0 I (vs := [.ref a, y]) (us := [.ref a, u]) (.cons rfl (.cons ry .nil)) h
  have call2 := wpAny_mono call1 (fun r s2 hs => by
    obtain ⟨v2, H2, I2, rv, q⟩ := hs
    exact back_of (Q := EP X pins σ Q) rv ⟨v2, H2, I2, rv, q⟩) fun _ _ z => z
  have rich : ∀ (tb : Value), PySem.W.Looks (model X.prog X.w) s.heap (typeOf u) tb → PySem.W.notFirst X.K C tb = true → wpAny (model X.prog X.w) X.A (compareOp op (.ref a) u) (EP X pins σ Q) X.xe s := fun tb hl hn => by
    have z := PySem.W.cmp_K hu Fr0 I.ok.mod.kin J hl hn O.at_ O.fn call2
    cases op with
    | Is => exact absurd rfl hop.1
    | IsNot => exact absurd rfl hop.2.1
    | In => exact absurd rfl hop.2.2.1
    | NotIn => exact absurd rfl hop.2.2.2
    | _ => exact z
  rcases hy with ⟨i, rfl⟩ | ⟨b, dx2, fw, rfl, hb2⟩
  · obtain ⟨t, rfl⟩ := ry
    exact rich (.type "int") (PySem.W.Looks.of_pure rfl) O.num
  · cases ry
    obtain ⟨mB, M2, _, _, _, _⟩ := ins_get I.hok hb2
    obtain ⟨od2, J2, _⟩ := M2.look
    exact rich (.ref C) J2.type O.self
theorem os_cmpOwn {op : CmpOp} {k : Nat} {c : Str} {C f : Addr} {fd : FuncData} {ps : List Str} {F : List D → T D} (hop : op ≠ .Is ∧ op ≠ .IsNot ∧ op ≠ .In ∧ op ≠ .NotIn) (at_ : ClsAt X.K c C) (O : CmpOwn X.K C op f) (G : FnOk X.prog X.w X.K X.mg X.base CX0 k f fd ps (spD X.K X.prog X.w 2 F)) (hr : Room k X.A) (hb : Binds X.K fd ps []) : OpSnd X (compareOp op) (opOwn c F) := fun {π N H x y dx dy Q} hn rx ry h => by
  unfold opOwn at h
  obtain ⟨fs, rfl, h⟩ := isC_all (T.all_bind.mp h)
  obtain ⟨a, d1, C2, fv, rfl, hc, hx, rf⟩ := id rx.insE
  have e3 := at_.one hc
  subst e3
  refine ⟨_, op_cmpOwn hop O G hr hb, a, d1, fv, rfl, hx, ?_⟩
  obtain ⟨hy, h⟩ := right2_all h
  refine ⟨?_, π, N, _, hn, .cons rx (.cons ry .nil), rfl, h⟩
  rcases hy with ⟨i, rfl⟩ | ⟨gs, rfl⟩
  · exact .inl ⟨i, ry.intE⟩
  · obtain ⟨b, d2, C3, fw, rfl, hc3, hy, _⟩ := id ry.insE
    have e4 := at_.one hc3
    subst e4
    exact .inr ⟨b, d2, fw, rfl, hy⟩
/-- an own comparison, or that of plain data -/
def cmpAny (c : Str) (f : D → D → T D) (F : List D → T D) : D → D → T D
  | .ins c2 fs, y => opOwn c F (.ins c2 fs) y
  | x, y => f x y
theorem os_cmpAny {op : CmpOp} {k : Nat} {c : Str} {C f : Addr} {fd : FuncData} {ps : List Str} {g : D → D → T D} {F : List D → T D} (h0 : OpSnd X (compareOp op) g) (hop : op ≠ .Is ∧ op ≠ .IsNot ∧ op ≠ .In ∧ op ≠ .NotIn) (at_ : ClsAt X.K c C) (O : CmpOwn X.K C op f) (G : FnOk X.prog X.w X.K X.mg X.base CX0 k f fd ps (spD X.K X.prog X.w 2 F)) (hr : Room k X.A) (hb : Binds X.K fd ps []) : OpSnd X (compareOp op) (cmpAny c g F) := fun {π N H x y dx dy Q} hn rx ry h => by
  unfold cmpAny at h
  split at h
  · exact os_cmpOwn hop at_ O G hr hb hn rx ry h
  · exact h0 hn rx ry h
end
end Pd

/-! Whole numbers of any size, texts of numbers, f-strings, identity of bools and None. -/
namespace Pd
open PySem L2 PySem.Spec PyProof.Rows

def bitsOk (i : Int) : Bool := decide (Builtin.Int.intBits i ≤ 2 ^ 20)
/-- products of numbers of up to 2 ** 20 bits -/
def opMulG : D → D → T D
  | .int i, .int j => cond (bitsOk i && bitsOk j) (.ret (.int (i * j))) .fail
  | x, y => opMulT x y
def opFDivG : D → D → T D
  | .int i, .int j => cond (decide (j ≠ 0) && !Builtin.divisionGoesByPylong i j) (.ret (.int (i.fdiv j))) .fail
  | _, _ => .fail
def opModG : D → D → T D
  | .int i, .int j => cond (decide (j ≠ 0)) (.ret (.int (i.fmod j))) .fail
  | _, _ => .fail
section
variable {X : Cx} {e a b : Expr} {pos : Pos} {m ma mb : Rho → T D}
theorem op_mulG : OpR X (binaryOp .Mult) (rI IntMulOk fun i j => .int (i * j)) := L2.opI fun _ _ _ _ _ _ _ hc q => mul_int q hc
theorem os_mulG : OpSnd X (binaryOp .Mult) opMulG := fun {π N H x y dx dy Q} hn rx ry h => by
  unfold opMulG at h
  split at h
  · obtain ⟨hb, h⟩ := cond_all h
    unfold bitsOk at hb
    simp only [Bool.and_eq_true, decide_eq_true_eq] at hb
    cases rx; cases ry
    exact ⟨_, op_mulG, _, _, rfl, rfl, IntMulOk.of_bits hb.1 hb.2, h _ _ (Ex.refl hn.pot) (.int _)⟩
  · exact os_mulT hn rx ry h
theorem op_fdG : OpR X (binaryOp .FloorDiv) (rI (fun i j => j ≠ 0 ∧ Builtin.divisionGoesByPylong i j = false) fun i j => .int (i.fdiv j)) := L2.opI fun _ _ _ _ _ _ _ hc q => floordiv_int hc.1 q (.inl hc.2)
theorem os_fdivG : OpSnd X (binaryOp .FloorDiv) opFDivG := fun {π N H x y dx dy Q} hn rx ry h => by
  unfold opFDivG at h
  split at h
  · obtain ⟨hb, h⟩ := cond_all h
    simp only [Bool.and_eq_true, decide_eq_true_eq, Bool.not_eq_true'] at hb
    cases rx; cases ry
    exact ⟨_, op_fdG, _, _, rfl, rfl, hb, h _ _ (Ex.refl hn.pot) (.int _)⟩
  · exact False.elim h
theorem os_modG : OpSnd X (binaryOp .Mod) opModG := fun {π N H x y dx dy Q} hn rx ry h => by
  unfold opModG at h
  split at h
  · obtain ⟨hb, h⟩ := cond_all h
    cases rx; cases ry
    exact ⟨_, op_modN, _, _, rfl, rfl, of_decide_eq_true hb, h _ _ (Ex.refl hn.pot) (.int _)⟩
  · exact False.elim h
/-! str(..) of whole numbers and texts -/
def strD : D → Option Str
  | .int i => cond (decide (i.natAbs.log2 < 1920)) (some (toString i)) none
  | .str x => cond (decide (x.length ≤ 100000)) (some x) none
  | _ => none
def bStr : List D → T D
  | [d] => (optT (strD d)).bind fun x => .ret (.str x)
  | _ => .fail
theorem strD_some {d : D} {x : Str} (h : strD d = some x) : (∃ i : Int, d = .int i ∧ i.natAbs.log2 < 1920 ∧ x = toString i) ∨ (d = .str x ∧ x.length ≤ sizeLine) := by
  unfold strD at h
  split at h
  · rename_i i
    cases c : decide (i.natAbs.log2 < 1920) with
    | true => rw [c] at h; cases h; exact .inl ⟨i, rfl, of_decide_eq_true c, rfl⟩
    | false => rw [c] at h; cases h
  · rename_i y
    cases c : decide (y.length ≤ 100000) with
    | true => rw [c] at h; cases h; exact .inr ⟨rfl, Nat.le_trans (of_decide_eq_true c) (by decide)⟩
    | false => rw [c] at h; cases h
  · cases h
theorem cs_str : CaSnd X (.type "str") bStr := fun {π N H xs ds Q} hn r h => by
  unfold bStr at h
  split at h
  · obtain ⟨x, eq1, g1⟩ := optT_all (T.all_bind.mp h)
    cases r with
    | cons r t =>
    cases t
    rcases strD_some eq1 with ⟨i, rfl, hi, rfl⟩ | ⟨rfl, hx⟩
    · cases r
      exact ⟨_, call_str_int, i, rfl, hi, g1 _ _ (Ex.refl hn.pot) (.str _)⟩
    · cases r
      exact ⟨_, SkE.call_str_str, x, rfl, g1 _ _ (Ex.refl hn.pot) (.str _)⟩
  · exact False.elim h
/-! f'..{x}..' -/
def eFmt (m : Rho → T D) : Rho → T D := fun ρ => (m ρ).bind fun d => (optT (strD d)).bind fun x => .ret (.str x)
theorem s_fmt (ha : Snd X e m) : Snd X (.FormattedValue e (-1) none pos) (eFmt m) := fun {π N0 H0 N H σ ρ Q} I h =>
  ⟨_, pe_fmt pe_wp, ha I (T.all_mono (fun d hd => by
    intro v H2 e2 r
    obtain ⟨x, eq1, g1⟩ := optT_all (T.all_bind.mp hd)
    rcases strD_some eq1 with ⟨i, rfl, hi, rfl⟩ | ⟨rfl, hx⟩
    · cases r
      exact .inr ⟨i, rfl, hi, g1 _ _ e2 (.str _)⟩
    · cases r
      exact .inl ⟨x, rfl, hx, g1 _ _ e2 (.str _)⟩) (T.all_bind.mp h))⟩
inductive SndJ (X : Cx) : List Expr → List (Rho → T D) → Prop where
  | nil : SndJ X [] []
  | cons {e : Expr} {m : Rho → T D} {es : List Expr} {ms : List (Rho → T D)} : Snd X e m → SndJ X es ms → SndJ X (e :: es) (m :: ms)
def joinT : List (Rho → T D) → Str → Rho → T D
  | [], acc, _ => .ret (.str acc)
  | m :: ms, acc, ρ => (m ρ).bind fun d => match d with
    | .str y => cond (decide ((acc ++ y).length ≤ 100000)) (joinT ms (acc ++ y) ρ) .fail
    | _ => .fail
theorem sndJ_wp : ∀ {es : List Expr} {ms : List (Rho → T D)}, SndJ X es ms → PJ X es (es.map (wpE X))
  | _, _, .nil => .nil
  | _, _, .cons _ r => .cons pe_wp (sndJ_wp r)
theorem join_run {π : Addr} {N0 : Addr → Bool} {H0 : Hp} {N : Addr → Bool} {σ : L2.St} {ρ : Rho} : ∀ {es : List Expr} {ms : List (Rho → T D)} {acc : Str} {H : Hp} {Q : VK}, SndJ X es ms → EnvOk X.K X.prog X.w π N0 H0 N H σ ρ → (joinT ms acc ρ).all (Kd X π N H Q) → tJs (es.map (wpE X)) acc σ H fun out H1 => Q (.str out) H1
  | _, _, _, H, _, .nil, I, h => h _ H (Ex.refl I.hn.pot) (.str _)
  | _, _, acc, H, Q, .cons he hr, I, h => by
    refine he I (T.all_mono (fun d hd => ?_) (T.all_bind.mp h))
    intro v H2 e2 r
    split at hd
    · obtain ⟨hl, hd⟩ := cond_all hd
      cases r
      exact ⟨_, rfl, Nat.le_trans (of_decide_eq_true hl) (by decide), join_run hr (I.ext e2) (T.all_mono (fun _ q => q.up e2) hd)⟩
    · exact False.elim hd
theorem s_join {v1 v2 : Expr} {rest : List Expr} {ms : List (Rho → T D)} (h : SndJ X (v1 :: v2 :: rest) ms) : Snd X (.JoinedStr (v1 :: v2 :: rest) pos) (joinT ms Str.empty) := fun {π N0 H0 N H σ ρ Q} I q => ⟨_, pe_joined (sndJ_wp h), join_run h I q⟩
theorem s_join1 (h : Snd X e m) : Snd X (.JoinedStr [e] pos) m := fun {π N0 H0 N H σ ρ Q} I q => ⟨_, pe_joined1 pe_wp, h I q⟩
/-! is, of bools -/
theorem op_isB : OpR X (compareOp .Is) (fun x y H Q => ∃ i j, x = .bl i ∧ y = .bl j ∧ Q (.bl (i == j)) H) := by
  intro pins s σ H x y v u Q I rx ry h
  obtain ⟨i, j, rfl, rfl, q⟩ := h
  cases rx; cases ry
  show wpAny _ _ (do return Value.bool (← isSame (Value.bool i) (Value.bool j))) _ _ _
  have e : isSame (Value.bool i) (Value.bool j) = pure (i == j) := by cases i <;> cases j <;> rfl
  rw [e]
  exact wpAny_bind (wpAny_pure (wpAny_pure ⟨.bl (i == j), H, I, rfl, q⟩))
def opIs : D → D → T D
  | .bl i, .bl j => .ret (.bl (i == j))
  | _, _ => .fail
theorem os_is : OpSnd X (compareOp .Is) opIs := fun {π N H x y dx dy Q} hn rx ry h => by
  unfold opIs at h
  split at h
  · rename_i i j
    have e1 := rx.bool
    have e2 := ry.bool
    subst e1 e2
    exact ⟨_, op_isB, i, j, rfl, rfl, h _ _ (Ex.refl hn.pot) (.bl _)⟩
  · exact False.elim h
end
end Pd

/-! str(o), repr(o) by o's own methods; C(k = v, ..), o.m(k = v, ..). -/
namespace Pd
open PySem L2 PySem.Spec PyProof.Rows

structure OwnTxt (K : PySem.W.Frag) (C : Addr) (nm : Str) (f : Addr) : Prop where
  at_ : PySem.W.findIn K (.ref C) nm = some (some (.ref f))
  fn : PySem.W.isFn K (.ref f) = true
def asStr : D → T D
  | .str x => .ret (.str x)
  | _ => .fail
theorem asStr_all {d : D} {P : D → Prop} (h : (asStr d).all P) : ∃ x, d = .str x ∧ P (.str x) := by
  unfold asStr at h
  split at h
  · exact ⟨_, rfl, h⟩
  · exact False.elim h
/-- a text by the own method for instances of c, by g for all else -/
def txtC (c : Str) (F g : List D → T D) : List D → T D
  | [.ins c2 fs] => (isC c (.ins c2 fs)).bind fun _ => (F [.ins c2 fs]).bind asStr
  | ds => g ds
section
variable {X : Cx} {e : Expr} {es : List Expr} {pos : Pos} {m : Rho → T D}
theorem call_strC {k : Nat} {C f : Addr} {fd : FuncData} {ps : List Str} {F : List D → T D} (O : OwnTxt X.K C "__str__" f) (G : FnOk X.prog X.w X.K X.mg X.base CX0 k f fd ps (spD X.K X.prog X.w 1 F)) (hr : Room (k + 2) X.A) (hb : Binds X.K fd ps []) :
    CallR X (.type "str") (fun xs H Q => ∃ a dx fv, xs = [.ref a] ∧ H a = some (.ins C dx fv) ∧ spD X.K X.prog X.w 1 F [.ref a] H (fun v H2 => ∃ x, v = .str x ∧ Q v H2) E0) := by
  intro pins s σ H xs us Q I r h
  obtain ⟨a, dx, fv, rfl, ha, h⟩ := h
  obtain ⟨u, rfl, ru⟩ := vals1 r
  cases ru
  obtain ⟨mA, M, _, _, _, _⟩ := ins_get I.hok ha
  obtain ⟨od, J, _⟩ := M.look
  have hl := G.len _ _ _ _ h
  refine PySem.W.kso_call (by have := hr.un; show X.A.units + 1 + 1 < cLine; omega) I.kIn J O.at_ O.fn (wpAny_call (codeAny_mono (G.run X.A.in1.in1 X.stack s H ⟨[.ref a], []⟩ [.ref a] [.ref a] _ E0 hr.in1.in1 I.env0.in1.in1 (hb s [.ref a] I.kIn hl) (.cons rfl .nil) h) fun r s' hq => ?_))
  cases r with
  | error er => exact pass0 pins σ H s er s' I hq
  | ok fl =>
    cases fl with
    | ret u =>
      obtain ⟨v, H', I3, rv, x, ex, q⟩ := I.after hq
      subst ex
      obtain ⟨t, rfl⟩ := rv
      exact ⟨.str x, H', I3, ⟨t, rfl⟩, q⟩
    | next => exact False.elim hq
    | brk => exact False.elim hq
    | cont => exact False.elim hq
theorem call_reprC {k : Nat} {C f : Addr} {fd : FuncData} {ps : List Str} {F : List D → T D} (O : OwnTxt X.K C "__repr__" f) (G : FnOk X.prog X.w X.K X.mg X.base CX0 k f fd ps (spD X.K X.prog X.w 1 F)) (hr : Room (k + 1) X.A) (hb : Binds X.K fd ps []) :
    CallR X (.builtin "repr") (fun xs H Q => ∃ a dx fv, xs = [.ref a] ∧ H a = some (.ins C dx fv) ∧ spD X.K X.prog X.w 1 F [.ref a] H (fun v H2 => ∃ x, v = .str x ∧ Q v H2) E0) := by
  intro pins s σ H xs us Q I r h
  obtain ⟨a, dx, fv, rfl, ha, h⟩ := h
  obtain ⟨u, rfl, ru⟩ := vals1 r
  cases ru
  obtain ⟨mA, M, _, _, _, _⟩ := ins_get I.hok ha
  obtain ⟨od, J, _⟩ := M.look
  obtain ⟨m, Fr0⟩ := I.fr
  have hl := G.len _ _ _ _ h
  refine PySem.W.repr_K (by have := hr.un; show X.A.units + 1 < cLine; omega) Fr0 I.ok.mod.kin J O.at_ O.fn (wpAny_call (codeAny_mono (G.run X.A.in1 X.stack s H ⟨[.ref a], []⟩ [.ref a] [.ref a] _ E0 hr.in1 I.env0.in1 (hb s [.ref a] I.kIn hl) (.cons rfl .nil) h) fun r s' hq => ?_))
  cases r with
  | error er => exact pass0 pins σ H s er s' I hq
  | ok fl =>
    cases fl with
    | ret u =>
      obtain ⟨v, H', I3, rv, x, ex, q⟩ := I.after hq
      subst ex
      obtain ⟨t, rfl⟩ := rv
      exact ⟨.str x, H', I3, ⟨t, rfl⟩, q⟩
    | next => exact False.elim hq
    | brk => exact False.elim hq
    | cont => exact False.elim hq
theorem txt_of {c : Str} {C : Addr} {f : Value} {F g : List D → T D} (at_ : ClsAt X.K c C) (h0 : CaSnd X f g) (h1 : CallR X f (fun xs H Q => ∃ a dx fv, xs = [.ref a] ∧ H a = some (.ins C dx fv) ∧ spD X.K X.prog X.w 1 F [.ref a] H (fun v H2 => ∃ x, v = .str x ∧ Q v H2) E0)) : CaSnd X f (txtC c F g) := fun {π N H xs ds Q} hn r h => by
  unfold txtC at h
  split at h
  · rename_i c2 fs
    obtain ⟨fs, e, h⟩ := isC_all (T.all_bind.mp h)
    cases e
    cases r with
    | cons r t =>
    cases t
    obtain ⟨a, d1, C2, fv, rfl, hc, hx, rf⟩ := id r.insE
    have e3 := at_.one hc
    subst e3
    refine ⟨_, h1, a, d1, fv, rfl, hx, π, N, _, hn, .cons r .nil, rfl, T.all_mono (fun d hd v H2 e r => ?_) (T.all_bind.mp h)⟩
    obtain ⟨x, rfl, hd⟩ := asStr_all hd
    cases r
    exact ⟨x, rfl, hd _ _ e (.str x)⟩
  · exact h0 hn r h
/-! by keywords alone -/
def KBind1 (K : PySem.W.Frag) (fd : FuncData) (ps ks : List Str) (perm : List Nat) : Prop := ∀ (s : Shared) (r : Value) (us : List Value), K.In s.heap → us.length = ks.length → BindsTo s fd ⟨[r], ks.zip us⟩ (ps.zip (r :: perm.map fun i => us.getD i .none))
def eMakeK (c : Str) (n : Nat) (perm : List Nat) (F : List D → T (List (Str × D))) (ms : Rho → T (List D)) : Rho → T D := fun ρ => (ms ρ).bind fun ds => cond (ds.length == n) ((F (pickD perm ds)).bind fun fs => .ret (.ins c fs)) .fail
theorem KBind1.kbn {K : PySem.W.Frag} {fd : FuncData} {ps ks : List Str} {perm : List Nat} (h : KBind1 K fd ps ks perm) : KBn K fd ps 1 ks (fun us ws => us ++ perm.map fun i => ws.getD i .none) (fun vs zs => vs ++ perm.map fun i => zs.getD i .non) :=
  ⟨fun s us ws X l1 l2 => match us, l1 with | [r], _ => h s r ws X l2, fun r rz => r.append (vals_pick rz perm)⟩
theorem s_makeK {k n : Nat} {C f : Addr} {fd : FuncData} {ps ks : List Str} {perm : List Nat} {c x : Str} {p : Pos} {F : List D → T (List (Str × D))} {kws : List Keyword} {ms : Rho → T (List D)} (M : Mk X.K C f) (G : FnOk X.prog X.w X.K X.mg X.base CX0 k f fd ps (spI X.K X.prog X.w c n F)) (hr : Room (k + 1) X.A) (hm : X.mg x = some (.ref C)) (at_ : ClsAt X.K c C)
    (hb : KBind1 X.K fd ps ks perm) (hp : perm.length = n) (hkn : ks.length = n) (ha : SndK X kws ms) (hg : Gl X x := by rfl) (hall : (backToKw pos (keywordEach kws X.env)).all (·.1.isSome) = true := by rfl) (hks : (backToKw pos (keywordEach kws X.env)).filterMap (·.1) = ks := by rfl)
    (hdb : (x == ("__debug__" : Str)) = false := by decide) (hpl : ((backTo pos (starEach [] X.env)).any (·.1) || (backToKw pos (keywordEach kws X.env)).any (·.1.isNone)) = false := by rfl) : Snd X (.Call (.Name x p) [] kws pos) (eMakeK c n perm F ms) := fun {π N0 H0 N H σ ρ Q} I h =>
  ⟨_, pe_makeK0 M G hr hg hm hb.kbn pass0 pk_wp hall hks hdb hpl, ha I (T.all_mono (fun ds hds vs H1 e1 r => by
    obtain ⟨hl, hds⟩ := cond_all hds
    have hl : ds.length = n := by simpa using hl
    refine ⟨rfl, by rw [r.length, hl, hkn], fun x dx hx hdx ne => ?_⟩
    have hn := I.hn.ext e1
    obtain ⟨a1, a2, a3⟩ := made_env (C := C) hn hx hdx ne
    have Nx : N x = false := hn.new hx
    refine ⟨π, plus N x, x, dx, C, perm.map fun i => vs.getD i .non, pickD perm ds, rfl, by rw [List.length_map, hp], a1, plus_self, upd_same, at_, rvl_pick (r.mono a2) perm, T.all_mono (fun fs q H' fv keep pot hx2 rf => ⟨rfl, ?_⟩) (T.all_bind.mp hds)⟩
    have k2 : Kp π (Hide (plus N x) H') (Hide N H') := Kp.less fun a h => plus_old h
    refine q (.ref x) H' ⟨fun a o n h => ?_, pot⟩ (.ins at_ (by rw [hide_in Nx]; exact hx2) (hn.pot.ne hx) (RvF.mono k2 rf))
    have h1 := e1.kp a o n h
    exact keep a o n (ne_of_none h1 hx) (a3 a o h1)) (T.all_bind.mp h))⟩
/-- o.m(k = v, ..) -/
def eMethK (c m : Str) (n : Nat) (perm : List Nat) (F : List D → T D) (ma : Rho → T D) (ms : Rho → T (List D)) : Rho → T D := fun ρ => (ma ρ).bind fun d => (insD c m d).bind fun _ => (ms ρ).bind fun ds => cond (ds.length == n) (F (d :: pickD perm ds)) .fail
theorem s_methK {k n : Nat} {C f : Addr} {fd : FuncData} {ps ks : List Str} {perm : List Nat} {c m : Str} {F : List D → T D} {o : Expr} {mo : Rho → T D} {apos : Pos} {pl : Sem Bool} {kws : List Keyword} {ms : Rho → T (List D)} (at_ : ClsAt X.K c C) (cl : Cls X.K C) (hm : Meth X.K C m f) (G : FnOk X.prog X.w X.K X.mg X.base CX0 k f fd ps (spD X.K X.prog X.w (n + 1) F)) (hr : Room k X.A)
    (hb : KBind1 X.K fd ps ks perm) (hp : perm.length = n) (hkn : ks.length = n)
    (ho : Snd X o mo) (ha : SndK X kws ms) (hall : (backToKw pos (keywordEach kws X.env)).all (·.1.isSome) = true := by rfl) (hks : (backToKw pos (keywordEach kws X.env)).filterMap (·.1) = ks := by rfl)
    (hpl : ((backTo pos (starEach [] X.env)).any (·.1) || (backToKw pos (keywordEach kws X.env)).any (·.1.isNone)) = false := by rfl)
    (ht : eval (.Call (.Attribute o m apos) [] kws pos) X.env = (do
      let ov ← eval o X.env
      standAt apos.atName
      let (f, first) ← holding [ov] (getMethod ov m pl)
      callWith pos f first (backTo pos (starEach [] X.env)) (backToKw pos (keywordEach kws X.env))) := by rfl) :
    Snd X (.Call (.Attribute o m apos) [] kws pos) (eMethK c m n perm F mo ms) := fun {π N0 H0 N H σ ρ Q} I h => by
  refine ⟨fun σ H Q => wpE X o σ H fun x H1 => ∃ a dx fv, x = .ref a ∧ H1 a = some (.ins C dx fv) ∧ fv.lookup m = none ∧ wpK X kws σ H1 fun zs H2 => zs.length = n ∧ spD X.K X.prog X.w (n + 1) F (.ref a :: perm.map fun i => zs.getD i .non) H2 Q E0, ⟨fun pins s σ H Q J q => ?_⟩, ?_⟩
  · refine PySem.W.methodCall_KW (pl := pl) (thn (pe_wp.run pins s σ H _ J q) fun u s1 ⟨x, H1, I1, rx, a, dx, fs, ex, ea, l, q⟩ => ?_) ht
    subst ex
    obtain rfl : u = Value.ref a := rx
    refine getmeth_ok I1 ea cl hm l ?_
    refine PySem.W.callWith_KW0 (first := [.ref a]) (h₀ := X.base) I1.ok.mod.kin hm.kp hall (thn (pk_wp.run pos pins s1 σ H1 _ I1 q) fun ws s2 ⟨zs, H2, I2, rz, hz, q2⟩ => ⟨I2.kIn, ?_⟩) hpl
    rw [hks]
    show wpAny _ _ (call (.ref f) [.ref a] (ks.zip ws)) _ _ _
    have r2 := vals_pick rz perm
    refine wpAny_call (codeAny_mono (G.run X.A X.stack s2 H2 ⟨[.ref a], ks.zip ws⟩ (.ref a :: perm.map fun i => ws.getD i .none) (.ref a :: perm.map fun i => zs.getD i .non) Q E0 hr I2.env0 (hb s2 (.ref a) ws I2.kIn (by rw [← rz.length, hz, hkn])) (.cons rfl r2) q2) fun r s' hq => ?_)
    cases r with
    | error e => exact pass0 pins σ H2 s2 e s' I2 hq
    | ok fl =>
      cases fl with
      | ret u => exact I2.after hq
      | next => exact False.elim hq
      | brk => exact False.elim hq
      | cont => exact False.elim hq
  · refine ho I (T.all_mono (fun d hd => ?_) (T.all_bind.mp h))
    intro x H1 e1 rx
    obtain ⟨fs, rfl, nf, hd⟩ := insD_all (T.all_bind.mp hd)
    obtain ⟨a, dx, C2, fv, rfl, hc, hx, rf⟩ := id rx.insE
    have e3 := at_.one hc
    subst e3
    refine ⟨a, dx, fv, rfl, hx, rf.none_of nf, ha (I.ext e1) (T.all_mono (fun ds hd => ?_) (T.all_bind.mp hd))⟩
    intro vs H2 e2 r
    obtain ⟨hl, hd⟩ := cond_all hd
    have hl : ds.length = n := by simpa using hl
    refine ⟨by rw [r.length]; exact hl, π, N, _, I.hn.ext (e1.trans e2), .cons (rx.mono e2.kp.hide) (rvl_pick r perm), by rw [List.length_cons, List.length_map, hp], T.all_mono (fun _ q v H3 e3 r3 => q v H3 ((e1.trans e2).trans e3) r3) hd⟩
end
end Pd

/-! xs[::-1], list * n, a class's own method called on the class. -/
namespace Pd
open PySem L2 PySem.Spec PyProof.Rows
section
variable {X : Cx} {a b e : Expr} {es : List Expr} {ma mb m : Rho → T D} {pos : Pos}
theorem RvL.reverse {K : PySem.W.Frag} {P : Program} {w : World} {π : Addr} {H : Hp} : ∀ {ds : List D} {vs : List V}, RvL K P w π H vs ds → RvL K P w π H vs.reverse ds.reverse
  | _, _, .nil => .nil
  | _, _, .cons r t => by
    rw [List.reverse_cons, List.reverse_cons]
    exact (RvL.reverse t).append (.cons r .nil)
def lRev (m : Rho → T D) : Rho → T (List D) := fun ρ => (m ρ).bind fun d => (asL d).bind fun ds => .ret ds.reverse
theorem asL_all {d : D} {P : List D → Prop} (h : (asL d).all P) : ∃ ds, d = .lst ds ∧ P ds := by
  unfold asL at h
  split at h
  · exact ⟨_, rfl, h⟩
  · exact False.elim h
theorem Kl.made {π : Addr} {N : Addr → Bool} {H H1 : Hp} {Q : VK} {ds : List D} {vs : List V} {p : Addr} (h : Kl X π N H Q ds) (pt : PotOk H π) (e : Ex π H H1) (r : RvL X.K X.prog X.w π (Hide N H1) vs ds) (hp : H1 p = none) : Q (.ref p) (upd H1 p (.lst vs)) := by
  have hp0 : H p = none := by
    cases c : H p with
    | none => rfl
    | some o => rw [e.kp p o (e.pot.ne hp) c] at hp; cases hp
  exact h p vs _ (e.trans (Ex.new e.pot hp)) hp0 upd_same (r.mono ((Ex.new e.pot hp).hidden hp))
theorem sl_rev {k : Nat} {p1 p2 p3 : Pos} (ha : Snd X a ma) : SndL X (.Subscript a (.Slice none none (some (.UnaryOp .USub (.Constant (.int 1) k p1) p2)) p3) pos) (lRev ma) := fun {π N0 H0 N H σ ρ Q} I h =>
  ⟨_, pe_revL pe_wp, ha I (T.all_mono (fun d hd v H1 e r => by
    obtain ⟨ds, rfl, hd⟩ := asL_all (T.all_bind.mp hd)
    obtain ⟨l, vs, rfl, hl, _, _, rl⟩ := id r.lstE
    exact ⟨l, vs, rfl, .inl (.inl hl), fun p hp => Kl.made hd I.hn.pot e rl.reverse hp⟩) (T.all_bind.mp h))⟩
def lRep (ma mb : Rho → T D) : Rho → T (List D) := fun ρ => (ma ρ).bind fun d => (asL d).bind fun ds => (mb ρ).bind fun k => match k with
  | .int k => cond (decide (0 ≤ k) && decide (k ≤ 1000) && decide (ds.length ≤ 100)) (.ret (rep k.toNat ds)) .fail
  | _ => .fail
theorem sl_rep (ha : Snd X a ma) (hb : Snd X b mb) : SndL X (.BinOp a .Mult b pos) (lRep ma mb) := fun {π N0 H0 N H σ ρ Q} I h =>
  ⟨_, pe_op op_rep pe_wp pe_wp, ha I (T.all_mono (fun d hd v H1 e r => by
    obtain ⟨ds, rfl, hd⟩ := asL_all (T.all_bind.mp hd)
    refine hb (I.ext e) (T.all_mono (fun k hk v2 H2 e2 r2 => ?_) (T.all_bind.mp hd))
    split at hk
    · rename_i k
      obtain ⟨hc, hk⟩ := cond_all hk
      simp only [Bool.and_eq_true, decide_eq_true_eq] at hc
      obtain ⟨⟨c0, c1⟩, c2⟩ := hc
      cases r2
      obtain ⟨l, vs, rfl, hl, n1, n2, rl⟩ := id r.lstE
      have hl2 := e2.kp l _ n2 hl
      refine ⟨l, k, vs, rfl, rfl, hl2, by omega, by omega, ?_, fun p hp => Kl.made hk I.hn.pot (e.trans e2) (rep_rv (rl.mono e2.kp.hide) _) hp⟩
      rw [rl.length]
      have : ds.length * k.toNat ≤ 100 * 1000 := Nat.mul_le_mul c2 (by omega)
      exact Nat.le_trans this (by decide)
    · exact False.elim hk) (T.all_bind.mp h))⟩
/-! C.m(..), m a classmethod -/
def spC (K : PySem.W.Frag) (P : Program) (w : World) (C : Addr) (n : Nat) (F : List D → T D) : Sp := fun vs H Q E => ∃ args, vs = .ref C :: args ∧ spD K P w n F args H Q E
theorem s_cmeth {k n : Nat} {C p g : Addr} {mc : Value} {c m : Str} {F : List D → T D} {np apos : Pos} {pl : Sem Bool} {ms : Rho → T (List D)} (at_ : X.mg c = some (.ref C)) (r : ClX.CRead X.K C mc) (cm : ClX.CMet X.K C mc m p g) (G : FnR X.prog X.w X.K X.mg X.base CX0 k g (spC X.K X.prog X.w C n F)) (hr : Room k X.A)
    (ha : SndA X (e :: es) ms) (hg : Gl X c := by rfl) (hdb : (c == ("__debug__" : Str)) = false := by decide) (hst : starEach (e :: es) X.env = (false, eval e X.env) :: starEach es X.env := by rfl) (hpl : (backTo pos (starEach es X.env)).any (·.1) = false := by rfl)
    (ht : eval (.Call (.Attribute (.Name c np) m apos) (e :: es) [] pos) X.env = (do
      let ov ← eval (.Name c np) X.env
      standAt apos.atName
      let (f, first) ← holding [ov] (getMethod ov m pl)
      callWith pos f first (backTo pos (starEach (e :: es) X.env)) (backToKw pos (keywordEach [] X.env))) := by rfl) :
    Snd X (.Call (.Attribute (.Name c np) m apos) (e :: es) [] pos) (eCall n F ms) := fun {π N0 H0 N H σ ρ Q} I h =>
  ⟨_, ClX.pe_cmeth (pe_glob (v := .ref C) hg at_ rfl hdb) r cm G hr pass0 pa_wp hst hpl ht, rfl, ha I (T.all_mono (fun ds hd vs H1 e1 r => by
    obtain ⟨hl, hd⟩ := cond_all hd
    exact ⟨vs, rfl, π, N, ds, I.hn.ext e1, r, by rw [r.length]; exact by simpa using hl, T.all_mono (fun d q v H3 e3 r3 => q v H3 (e1.trans e3) r3) hd⟩) (T.all_bind.mp h))⟩
/-- .. by keywords alone -/
theorem s_cmethK {k n : Nat} {C p g : Addr} {fd : FuncData} {ps ks : List Str} {perm : List Nat} {mc : Value} {c m : Str} {F : List D → T D} {np apos : Pos} {pl : Sem Bool} {kws : List Keyword} {ms : Rho → T (List D)} (at_ : X.mg c = some (.ref C)) (r : ClX.CRead X.K C mc) (cm : ClX.CMet X.K C mc m p g) (G : FnOk X.prog X.w X.K X.mg X.base CX0 k g fd ps (spC X.K X.prog X.w C n F)) (hr : Room k X.A)
    (hb : KBind1 X.K fd ps ks perm) (hp : perm.length = n) (hkn : ks.length = n)
    (ha : SndK X kws ms) (hg : Gl X c := by rfl) (hdb : (c == ("__debug__" : Str)) = false := by decide) (hall : (backToKw pos (keywordEach kws X.env)).all (·.1.isSome) = true := by rfl) (hks : (backToKw pos (keywordEach kws X.env)).filterMap (·.1) = ks := by rfl)
    (hpl : ((backTo pos (starEach [] X.env)).any (·.1) || (backToKw pos (keywordEach kws X.env)).any (·.1.isNone)) = false := by rfl)
    (ht : eval (.Call (.Attribute (.Name c np) m apos) [] kws pos) X.env = (do
      let ov ← eval (.Name c np) X.env
      standAt apos.atName
      let (f, first) ← holding [ov] (getMethod ov m pl)
      callWith pos f first (backTo pos (starEach [] X.env)) (backToKw pos (keywordEach kws X.env))) := by rfl) :
    Snd X (.Call (.Attribute (.Name c np) m apos) [] kws pos) (eCallK n perm F ms) := fun {π N0 H0 N H σ ρ Q} I h => by
  refine ⟨fun σ H Q => wpK X kws σ H fun zs H2 => zs.length = n ∧ spD X.K X.prog X.w n F (perm.map fun i => zs.getD i .non) H2 Q E0, ⟨fun pins s σ H Q J q => ?_⟩, ?_⟩
  · refine PySem.W.methodCall_KW (pl := pl) (thn ((pe_glob (v := .ref C) (pos := np) hg at_ rfl hdb).run pins s σ H (fun v H1 => v = .ref C ∧ H1 = H) J ⟨rfl, rfl⟩) fun u s1 ⟨x, H1, I1, rx, ex, eh⟩ => ?_) ht
    subst ex eh
    obtain rfl : u = Value.ref C := rx
    refine ClX.getmethcm_ok I1 r cm fun s2 I2 => ?_
    refine PySem.W.callWith_of (P := PySem.W.MethP X.K s1.heap.objs.size g (.ref C)) hpl (PySem.W.keeps_M cm.fi) (evalArgs_kw2_nil hall (thn (pk_wp.run pos _ s2 σ H1 _ I2 q) fun ws s3 ⟨zs, H2, I3, rz, hz, q2⟩ => ⟨⟨ClX.pin_at I3, I3.kIn⟩, ?_⟩))
    rw [hks]
    show wpAny _ _ (call (.ref s1.heap.objs.size) [] (ks.zip ws)) _ _ _
    have r2 := vals_pick rz perm
    have z : wpAny (model X.prog X.w) X.A (call (.ref s1.heap.objs.size) [] (ks.zip ws)) (EP X ((s1.heap.objs.size, PySem.W.methodObj (.ref g) (.ref C)) :: pins) σ Q) X.xe s3 := by
      refine wpAny_call (PySem.W.method_call (ClX.pin_at I3) (codeAny_mono (G.run X.A X.stack s3 H2 ⟨[.ref C], ks.zip ws⟩ (.ref C :: perm.map fun i => ws.getD i .none) (.ref C :: perm.map fun i => zs.getD i .non) Q E0 hr I3.env0 (hb s3 (.ref C) ws I3.kIn (by rw [← rz.length, hz, hkn])) (.cons rfl r2) ⟨_, rfl, q2⟩) fun r s' hq => ?_))
      cases r with
      | error e => exact pass0 _ σ H2 s3 e s' I3 hq
      | ok fl =>
        cases fl with
        | ret u => exact I3.after hq
        | next => exact False.elim hq
        | brk => exact False.elim hq
        | cont => exact False.elim hq
    exact thn z fun _ _ y => ClX.unpinE y
  · refine ha I (T.all_mono (fun ds hd => ?_) (T.all_bind.mp h))
    intro vs H2 e1 r
    obtain ⟨hn, hd⟩ := cond_all hd
    have hn : ds.length = n := by simpa using hn
    exact ⟨by rw [r.length]; exact hn, π, N, pickD perm ds, I.hn.ext e1, rvl_pick r perm, by rw [List.length_map]; exact hp, T.all_mono (fun d q v H3 e3 r3 => q v H3 (e1.trans e3) r3) hd⟩
end
end Pd

/-! {} as a value, isinstance with dicts about, isinstance(x, (T1, T2)); a name ahead of the known ones. -/
namespace Pd
open PySem L2 PySem.Spec PyProof.Rows
section
variable {X : Cx} {π : Addr} {N0 N : Addr → Bool} {H0 H : Hp} {pins : List (Addr × Obj)} {σ : L2.St} {ρ : Rho} {s : Shared} {pos : Pos} {e : Expr} {m : Rho → T D}
theorem pe_dict0 : PE X (.Dict [] [] pos) (fun _ H Q => ∀ p od, H p = none → Q (.ref p) (upd H p (.frz od (DN X.prog X.w p [])))) := ⟨fun pins s σ H Q I h => by
  have hn := I.hok.fresh (Nat.le_refl s.heap.objs.size)
  have I1 := I.laid (a := s.heap.objs.size) (o := DN X.prog X.w s.heap.objs.size []) (h' := s.heap.push { cls := .type "dict", data := .dict #[] }) (t' := s.toks) (fun _ _ q => Heap.get?_push_of_some _ q) (Nat.le_refl _) (dn_empty s.heap I.big)
  obtain ⟨od, I2⟩ := I1.lock upd_same True.intro
  rw [upd_upd] at I2
  exact wpAny_Dict_empty ⟨.ref s.heap.objs.size, _, I2, rfl, h _ od hn⟩⟩
theorem s_dict0 : Snd X (.Dict [] [] pos) (eC (.dic [])) := fun {π N0 H0 N H σ ρ Q} I h => ⟨_, pe_dict0, fun p od hp => by
  have Np := I.hn.new hp
  exact h (.ref p) _ (Ex.new I.hn.pot hp) (.dic (by rw [hide_in Np]; exact upd_same) (I.hn.pot.ne hp) .nil)⟩
/-! isinstance -/
theorem call_isiD : CallR X (.builtin "isinstance") (fun xs H Q => ∃ (a : Addr) (ys : List (NestedKey × Addr × V)) (c : V) (u : Value) (b : Bool), xs = [.ref a, c] ∧ ClsV c u ∧ Rd H a (DN X.prog X.w a ys) ∧ EntAt X H ys ∧ PySem.W.kitOne X.K (.type "dict") u = some b ∧ Q (.bl b) H) := by
  intro pins s σ H xs us Q I r h
  obtain ⟨a, ys, c, u, b, rfl, k, hr, en, e, q⟩ := h
  obtain ⟨u1, u2, rfl, r1, r2⟩ := vals2 r
  cases (show u1 = Value.ref a from r1)
  have e2 := k.eq r2
  subst e2
  obtain ⟨_, _, zs, _, o, es, ep, h1, h2, _⟩ := dn_of I hr en
  exact PySem.W.kia_one PySem.W.kitx_dict I.kIn ⟨o, h1, h2.1⟩ e (fun z => nomatch z) fun tk => ⟨.bl b, H, I.tok tk, rfl, q⟩
def isDY (cs : List Str) (k : Ty5) (d : D) : T D := match d with
  | .dic _ => .ret (.bl false)
  | d => isDC cs k d
def isOY (cs : List Str) (c0 : Str) (d : D) : T D := match d with
  | .dic _ => .ret (.bl false)
  | d => isOC cs c0 d
theorem kit_dict (k : Ty5) : kitB "dict" k.nm = some false := by cases k <;> decide +kernel
theorem Rv.dicR {K : PySem.W.Frag} {P : Program} {w : World} {π : Addr} {N : Addr → Bool} {H : Hp} {v : V} {kvs : List (D × D)} (r : Rv K P w π (Hide N H) v (.dic kvs)) : ∃ a xs, v = .ref a ∧ Rd H a (DN P w a xs) ∧ ∃ kvs', RvD K P w π (Hide N H) xs kvs' := by
  obtain ⟨a, od, xs, rfl, h, _, _, rd⟩ := r.dicE
  exact ⟨a, xs, rfl, .inr ⟨od, h⟩, _, rd⟩
theorem s_isinstY (cs : List Str) {k : Ty5} {ty : Str} {p p2 : Pos} (kn : KnownC X.K cs) (hm : X.mg "isinstance" = none) (hmt : X.mg ty = none) (hb : bootBuiltins ty = some (.type k.nm)) (ha : Snd X e m) (hg : Gl X "isinstance" := by rfl) (hgt : Gl X ty := by rfl) (hbi : bootBuiltins "isinstance" = some (.builtin "isinstance") := by decide +kernel) (hn : ty ≠ "__name__" := by decide) (hd : (ty == ("__debug__" : Str)) = false := by decide)
    (he : starEach [e, .Name ty p] X.env = (false, eval e X.env) :: starEach [.Name ty p] X.env := by rfl) (he2 : starEach [.Name ty p] X.env = (false, eval (.Name ty p) X.env) :: starEach [] X.env := by rfl) (hpl : (backTo pos (starEach [.Name ty p] X.env)).any (·.1) = false := by rfl) :
    Snd X (.Call (.Name "isinstance" p2) [e, .Name ty p] [] pos) (eUn (isDY cs k) m) := fun {π N0 H0 N H σ ρ Q} I h =>
  ⟨_, pe_callB ca_wp hg hm hbi (pa_cons pe_wp (pa_cons (pe_bltn (v := .ty k.nm) hgt hmt hb rfl hn hd) pa_nil he2) he) (by decide) (by decide) he hpl, ha I (T.all_mono (fun d hd => by
    intro v H2 e2 r
    unfold isDY at hd
    split at hd
    · obtain ⟨a, xs, rfl, rd, kvs, rk⟩ := r.dicR
      exact ⟨_, call_isiD, a, xs, .ty k.nm, .type k.nm, false, rfl, .ty _, rd, ⟨_, _, _, rk⟩, kit_ty (kit_dict k), hd _ _ e2 (.bl _)⟩
    · unfold isDC at hd
      split at hd
      · obtain ⟨hc, hd⟩ := cond_all hd
        obtain ⟨C, at_, ct, tx⟩ := isi_ins kn hc r
        exact ⟨_, call_isi, v, .ty k.nm, .ref C, .type k.nm, false, rfl, .ty _, tx, ct.no k, hd _ _ e2 (.bl _)⟩
      · obtain ⟨t, c, hd⟩ := isD_all hd
        exact ⟨_, call_isi, v, .ty k.nm, .type t.nm, .type k.nm, Ty5.sub t k, rfl, .ty _, ty_of r c, kit_ty (kitB_sub t k), hd _ _ e2 (.bl _)⟩) (T.all_bind.mp h))⟩
theorem s_isinstOY (cs : List Str) {c0 : Str} {C0 : Addr} {p p2 : Pos} (kn : KnownC X.K cs) (at0 : ClsAt X.K c0 C0) (ct0 : ClsTy X.K C0) (cd0 : PySem.W.kitOne X.K (.type "dict") (.ref C0) = some false) (df : ∀ c C, cs.contains c = true → (c == c0) = false → ClsAt X.K c C → PySem.W.kitOne X.K (.ref C) (.ref C0) = some false) (hm : X.mg "isinstance" = none) (hmt : X.mg c0 = some (.ref C0)) (ha : Snd X e m) (hg : Gl X "isinstance" := by rfl) (hgt : Gl X c0 := by rfl) (hbi : bootBuiltins "isinstance" = some (.builtin "isinstance") := by decide +kernel) (hd : (c0 == ("__debug__" : Str)) = false := by decide)
    (he : starEach [e, .Name c0 p] X.env = (false, eval e X.env) :: starEach [.Name c0 p] X.env := by rfl) (he2 : starEach [.Name c0 p] X.env = (false, eval (.Name c0 p) X.env) :: starEach [] X.env := by rfl) (hpl : (backTo pos (starEach [.Name c0 p] X.env)).any (·.1) = false := by rfl) :
    Snd X (.Call (.Name "isinstance" p2) [e, .Name c0 p] [] pos) (eUn (isOY cs c0) m) := fun {π N0 H0 N H σ ρ Q} I h =>
  ⟨_, pe_callB ca_wp hg hm hbi (pa_cons pe_wp (pa_cons (pe_glob (v := .ref C0) hgt hmt rfl hd) pa_nil he2) he) (by decide) (by decide) he hpl, ha I (T.all_mono (fun d hq => by
    intro v H2 e2 r
    unfold isOY at hq
    split at hq
    · obtain ⟨a, xs, rfl, rd, kvs, rk⟩ := r.dicR
      exact ⟨_, call_isiD, a, xs, .ref C0, .ref C0, false, rfl, .own _, rd, ⟨_, _, _, rk⟩, cd0, hq _ _ e2 (.bl _)⟩
    · unfold isOC at hq
      split at hq
      · rename_i c fs nn
        cases q : c == c0 with
        | true =>
          rw [q] at hq
          have ec := eq_of_beq q
          subst ec
          obtain ⟨a, dx, C2, fv, rfl, h2, hx, _⟩ := r.insE
          have e3 := at0.one h2
          subst e3
          exact ⟨_, call_isi, .ref a, .ref C2, .ref C2, .ref C2, true, rfl, .own _, .base (ct0.ty H2 a dx fv hx), by unfold PySem.W.kitOne; rw [if_pos (by simp)], hq _ _ e2 (.bl _)⟩
        | false =>
          rw [q] at hq
          obtain ⟨hc, hq⟩ := cond_all hq
          obtain ⟨C, at_, ct, tx⟩ := isi_ins kn hc r
          exact ⟨_, call_isi, v, .ref C0, .ref C, .ref C0, false, rfl, .own _, tx, df c C hc q at_, hq _ _ e2 (.bl _)⟩
      · obtain ⟨t, c, hq⟩ := optT_all (T.all_bind.mp hq)
        exact ⟨_, call_isi, v, .ref C0, .type t.nm, .ref C0, false, rfl, .own _, ty_of r c, ct0.is t, hq _ _ e2 (.bl _)⟩) (T.all_bind.mp h))⟩
/-- isinstance(x, (T1, T2)) -/
def isD2 (cs : List Str) (k1 k2 : Ty5) (d : D) : T D := match d with
  | .ins c _ => cond (cs.contains c) (.ret (.bl false)) .fail
  | d => match tyD d with
    | some t => .ret (.bl (Ty5.sub t k1 || Ty5.sub t k2))
    | none => .fail
theorem kit2 {K : PySem.W.Frag} {t : Value} {a b : String} {x y : Bool} (h1 : PySem.W.kitOne K t (.type a) = some x) (h2 : PySem.W.kitOne K t (.type b) = some y) : PySem.W.kitAny K t [.type a, .type b] = some (x || y) := by
  cases x with
  | true => exact kitAny_cons h1 (fun z => nomatch z) fun _ => rfl
  | false =>
    refine kitAny_cons h1 (fun _ => ?_) fun z => nomatch z
    cases y with
    | true => exact kitAny_cons h2 (fun z => nomatch z) fun _ => rfl
    | false => exact kitAny_cons h2 (fun _ => rfl) fun z => nomatch z
theorem s_isinst2 (cs : List Str) {k1 k2 : Ty5} {t1 t2 : Str} {p p2 p3 p4 : Pos} {kk : Nat} (kn : KnownC X.K cs) (hm : X.mg "isinstance" = none) (hm1 : X.mg t1 = none) (hm2 : X.mg t2 = none) (hb1 : bootBuiltins t1 = some (.type k1.nm)) (hb2 : bootBuiltins t2 = some (.type k2.nm)) (ha : Snd X e m) (hg : Gl X "isinstance" := by rfl) (hg1 : Gl X t1 := by rfl) (hg2 : Gl X t2 := by rfl) (hbi : bootBuiltins "isinstance" = some (.builtin "isinstance") := by decide +kernel)
    (hn1 : t1 ≠ "__name__" := by decide) (hd1 : (t1 == ("__debug__" : Str)) = false := by decide) (hn2 : t2 ≠ "__name__" := by decide) (hd2 : (t2 == ("__debug__" : Str)) = false := by decide)
    (he : starEach [e, .Tuple [.Name t1 p, .Name t2 p3] kk p4] X.env = (false, eval e X.env) :: starEach [.Tuple [.Name t1 p, .Name t2 p3] kk p4] X.env := by rfl) (he2 : starEach [.Tuple [.Name t1 p, .Name t2 p3] kk p4] X.env = (false, eval (.Tuple [.Name t1 p, .Name t2 p3] kk p4) X.env) :: starEach [] X.env := by rfl)
    (he3 : starEach [.Name t1 p, .Name t2 p3] X.env = (false, eval (.Name t1 p) X.env) :: starEach [.Name t2 p3] X.env := by rfl) (he4 : starEach [.Name t2 p3] X.env = (false, eval (.Name t2 p3) X.env) :: starEach [] X.env := by rfl) (hpl : (backTo pos (starEach [.Tuple [.Name t1 p, .Name t2 p3] kk p4] X.env)).any (·.1) = false := by rfl) :
    Snd X (.Call (.Name "isinstance" p2) [e, .Tuple [.Name t1 p, .Name t2 p3] kk p4] [] pos) (eUn (isD2 cs k1 k2) m) := fun {π N0 H0 N H σ ρ Q} I h =>
  ⟨_, pe_callB ca_wp hg hm hbi (pa_cons pe_wp (pa_cons (pe_tup (pa_cons (pe_bltn (v := .ty k1.nm) hg1 hm1 hb1 rfl hn1 hd1) (pa_cons (pe_bltn (v := .ty k2.nm) hg2 hm2 hb2 rfl hn2 hd2) pa_nil he4) he3)) pa_nil he2) he) (by decide) (by decide) he hpl, ha I (T.all_mono (fun d hd => by
    intro v H2 e2 r
    refine ⟨show 2 ≤ sizeLine by decide, fun T hT => ?_⟩
    have e3 := e2.trans (Ex.new (o := .tup [.ty k1.nm, .ty k2.nm]) e2.pot hT)
    have r3 := r.mono (Ex.new (o := .tup [.ty k1.nm, .ty k2.nm]) e2.pot hT).kp.hide
    unfold isD2 at hd
    split at hd
    · obtain ⟨hc, hd⟩ := cond_all hd
      obtain ⟨C, at_, ct, tx⟩ := isi_ins kn hc r3
      exact ⟨_, call_isiT, v, T, _, .ref C, [.type k1.nm, .type k2.nm], false, rfl, upd_same, .cons (.ty _) (.cons (.ty _) .nil), tx, kit2 (ct.no k1) (ct.no k2), hd _ _ e3 (.bl _)⟩
    · split at hd
      · rename_i t c
        exact ⟨_, call_isiT, v, T, _, .type t.nm, [.type k1.nm, .type k2.nm], _, rfl, upd_same, .cons (.ty _) (.cons (.ty _) .nil), ty_of r3 c, kit2 (kit_ty (kitB_sub t k1)) (kit_ty (kitB_sub t k2)), hd _ _ e3 (.bl _)⟩
      · exact False.elim hd) (T.all_bind.mp h))⟩
end
/-! a name ahead -/
theorem EnvOk.consUn {K : PySem.W.Frag} {P : Program} {w : World} {π : Addr} {N0 N : Addr → Bool} {H0 H : Hp} {σ : L2.St} {ρ : Rho} (I : EnvOk K P w π N0 H0 N H σ ρ) (x : Option V) : EnvOk K P w π N0 H0 N H (x :: σ) (.un :: ρ) where
  hn := I.hn
  ex := I.ex
  sub := I.sub
  own0 := I.own0
  len := by rw [List.length_cons, List.length_cons, I.len]
  val := fun i d h => match i, h with
    | 0, h => by cases h
    | i + 1, h => I.val i d h
  own := fun i y h ho => match i, h with
    | 0, h => by cases h; cases ho
    | i + 1, h => I.own i y h ho
  inj := fun i j e f l h1 h2 o1 o2 s1 s2 => match i, j, h1, h2, s1, s2 with
    | 0, _, h1, _, _, _ => by cases h1; cases o1
    | _ + 1, 0, _, h2, _, _ => by cases h2; cases o2
    | i + 1, j + 1, h1, h2, s1, s2 => congrArg Nat.succ (I.inj i j e f l h1 h2 o1 o2 s1 s2)
end Pd

/-! What a text's defs, methods, properties, classes promise, each in one word; the rules that use such a word. -/
namespace Pd
open PySem L2 PySem.Spec PyProof.Rows
section
variable (P : Program) (w : World) (K : PySem.W.Frag) (mg : Str → Option Value) (base : Heap)
/-- the def of that name -/
def Pm (x : Str) (k n : Nat) (ps : List Str) (F : List D → T D) : Prop := ∃ (a : Addr) (fd : FuncData), mg x = some (.ref a) ∧ PySem.W.keepIn K (.ref a) = true ∧ FnOk P w K mg base CX0 k a fd ps (spD K P w n F) ∧ Binds K fd ps []
/-- .. where no repr is under way -/
def PmG (x : Str) (k n : Nat) (ps : List Str) (F : List D → T D) : Prop := ∃ (a : Addr) (fd : FuncData), mg x = some (.ref a) ∧ PySem.W.keepIn K (.ref a) = true ∧ FnG P w K mg base CX0 k a fd ps (spD K P w n F) ∧ Binds K fd ps []
/-- the def, by keywords -/
def PmK (x : Str) (k n : Nat) (ps ks : List Str) (perm : List Nat) (F : List D → T D) : Prop := ∃ (a : Addr) (fd : FuncData), mg x = some (.ref a) ∧ PySem.W.keepIn K (.ref a) = true ∧ FnOk P w K mg base CX0 k a fd ps (spD K P w n F) ∧ KBind K fd ps ks perm
/-- the method -/
def PmM (c m : Str) (k n : Nat) (ps : List Str) (F : List D → T D) : Prop := ∃ (C a : Addr) (fd : FuncData), ClsAt K c C ∧ Cls K C ∧ Meth K C m a ∧ FnOk P w K mg base CX0 k a fd ps (spD K P w (n + 1) F) ∧ Binds K fd ps []
def PmMK (c m : Str) (k n : Nat) (ps ks : List Str) (perm : List Nat) (F : List D → T D) : Prop := ∃ (C a : Addr) (fd : FuncData), ClsAt K c C ∧ Cls K C ∧ Meth K C m a ∧ FnOk P w K mg base CX0 k a fd ps (spD K P w (n + 1) F) ∧ KBind1 K fd ps ks perm
/-- the property -/
def PmP (c f : Str) (k : Nat) (F : List D → T D) : Prop := ∃ (C p g : Addr) (fd : FuncData) (ps : List Str), ClsAt K c C ∧ Cls K C ∧ PropOf K C f p g ∧ FnOk P w K mg base CX0 k g fd ps (spD K P w 1 F) ∧ Binds K fd ps []
/-- the class is made by n values, dds behind them -/
def PmC (c : Str) (k n : Nat) (dds : List D) (F : List D → T (List (Str × D))) : Prop := ∃ (C a : Addr) (fd : FuncData) (ps : List Str) (dvs : List V) (dv : List Value), Mk K C a ∧ ClsAt K c C ∧ mg c = some (.ref C) ∧ FnOk P w K mg base CX0 k a fd ps (spI K P w c (n + dvs.length) F) ∧ Binds K fd ps dv ∧ Vals dvs dv ∧ ∀ π H, RvL K P w π H dvs dds
def PmCK (c : Str) (k n : Nat) (ks : List Str) (perm : List Nat) (F : List D → T (List (Str × D))) : Prop := ∃ (C a : Addr) (fd : FuncData) (ps : List Str), Mk K C a ∧ ClsAt K c C ∧ mg c = some (.ref C) ∧ FnOk P w K mg base CX0 k a fd ps (spI K P w c n F) ∧ KBind1 K fd ps ks perm
/-- the text of an instance -/
def PmT (c nm : Str) (k : Nat) (F : List D → T D) : Prop := ∃ (C a : Addr) (fd : FuncData) (ps : List Str), ClsAt K c C ∧ OwnTxt K C nm a ∧ FnOk P w K mg base CX0 k a fd ps (spD K P w 1 F) ∧ Binds K fd ps []
end
section
variable {X : Cx} {e : Expr} {es : List Expr} {pos : Pos} {m : Rho → T D} {ms : Rho → T (List D)} {k n : Nat} {ps ks : List Str} {perm : List Nat} {F : List D → T D}
theorem s_callP {x : Str} {p : Pos} (h : Pm X.prog X.w X.K X.mg X.base x k n ps F) (hr : Room k X.A) (ha : SndA X (e :: es) ms) (hg : Gl X x := by rfl) (hdb : (x == ("__debug__" : Str)) = false := by decide) (he : starEach (e :: es) X.env = (false, eval e X.env) :: starEach es X.env := by rfl) (hpl : (backTo pos (starEach es X.env)).any (·.1) = false := by rfl) :
    Snd X (.Call (.Name x p) (e :: es) [] pos) (eCall n F ms) := let ⟨_, _, hm, hk, G, B⟩ := h; s_call G hr hm hk B ha hg hdb he hpl
theorem s_callPG {x : Str} {p : Pos} (h : PmG X.prog X.w X.K X.mg X.base x k n ps F) (hr : Room k X.A) (hgd : X.A.guards = some []) (ha : SndA X (e :: es) ms) (hg : Gl X x := by rfl) (hdb : (x == ("__debug__" : Str)) = false := by decide) (he : starEach (e :: es) X.env = (false, eval e X.env) :: starEach es X.env := by rfl) (hpl : (backTo pos (starEach es X.env)).any (·.1) = false := by rfl) :
    Snd X (.Call (.Name x p) (e :: es) [] pos) (eCall n F ms) := let ⟨_, _, hm, hk, G, B⟩ := h; s_callG G hr hgd hm hk B ha hg hdb he hpl
theorem s_callPK {x : Str} {p : Pos} {kws : List Keyword} (h : PmK X.prog X.w X.K X.mg X.base x k n ps ks perm F) (hr : Room k X.A) (hp : perm.length = n) (hkn : ks.length = n) (ha : SndK X kws ms) (hg : Gl X x := by rfl) (hall : (backToKw pos (keywordEach kws X.env)).all (·.1.isSome) = true := by rfl) (hks : (backToKw pos (keywordEach kws X.env)).filterMap (·.1) = ks := by rfl)
    (hdb : (x == ("__debug__" : Str)) = false := by decide) (hpl : ((backTo pos (starEach [] X.env)).any (·.1) || (backToKw pos (keywordEach kws X.env)).any (·.1.isNone)) = false := by rfl) : Snd X (.Call (.Name x p) [] kws pos) (eCallK n perm F ms) := let ⟨_, _, hm, hk, G, B⟩ := h; s_callK G hr hm hk B hp hkn ha hg hall hks hdb hpl
theorem s_methP {c me : Str} {o : Expr} {mo : Rho → T D} {apos : Pos} {pl : Sem Bool} (h : PmM X.prog X.w X.K X.mg X.base c me k n ps F) (hr : Room k X.A) (ho : Snd X o mo) (ha : SndA X (e :: es) ms) (hst : starEach (e :: es) X.env = (false, eval e X.env) :: starEach es X.env := by rfl) (hpl : (backTo pos (starEach es X.env)).any (·.1) = false := by rfl)
    (ht : eval (.Call (.Attribute o me apos) (e :: es) [] pos) X.env = (do
      let ov ← eval o X.env
      standAt apos.atName
      let (f, first) ← holding [ov] (getMethod ov me pl)
      callWith pos f first (backTo pos (starEach (e :: es) X.env)) (backToKw pos (keywordEach [] X.env))) := by rfl) :
    Snd X (.Call (.Attribute o me apos) (e :: es) [] pos) (eMeth c me n F mo ms) := let ⟨_, _, _, at_, cl, hm, G, B⟩ := h; s_meth at_ cl hm G hr B ho ha hst hpl ht
theorem s_methP0 {c me : Str} {o : Expr} {mo : Rho → T D} {apos : Pos} {pl : Sem Bool} (h : PmM X.prog X.w X.K X.mg X.base c me k 0 ps F) (hr : Room k X.A) (ho : Snd X o mo)
    (ht : eval (.Call (.Attribute o me apos) [] [] pos) X.env = (do
      let ov ← eval o X.env
      standAt apos.atName
      let (f, first) ← holding [ov] (getMethod ov me pl)
      callWith pos f first (backTo pos (starEach [] X.env)) (backToKw pos (keywordEach [] X.env))) := by rfl) :
    Snd X (.Call (.Attribute o me apos) [] [] pos) (eMeth c me 0 F mo aNil) := let ⟨_, _, _, at_, cl, hm, G, B⟩ := h; s_meth0 at_ cl hm G hr B ho ht
theorem s_methPK {c me : Str} {o : Expr} {mo : Rho → T D} {apos : Pos} {pl : Sem Bool} {kws : List Keyword} (h : PmMK X.prog X.w X.K X.mg X.base c me k n ps ks perm F) (hr : Room k X.A) (hp : perm.length = n) (hkn : ks.length = n) (ho : Snd X o mo) (ha : SndK X kws ms) (hall : (backToKw pos (keywordEach kws X.env)).all (·.1.isSome) = true := by rfl) (hks : (backToKw pos (keywordEach kws X.env)).filterMap (·.1) = ks := by rfl)
    (hpl : ((backTo pos (starEach [] X.env)).any (·.1) || (backToKw pos (keywordEach kws X.env)).any (·.1.isNone)) = false := by rfl)
    (ht : eval (.Call (.Attribute o me apos) [] kws pos) X.env = (do
      let ov ← eval o X.env
      standAt apos.atName
      let (f, first) ← holding [ov] (getMethod ov me pl)
      callWith pos f first (backTo pos (starEach [] X.env)) (backToKw pos (keywordEach kws X.env))) := by rfl) :
    Snd X (.Call (.Attribute o me apos) [] kws pos) (eMethK c me n perm F mo ms) := let ⟨_, _, _, at_, cl, hm, G, B⟩ := h; s_methK at_ cl hm G hr B hp hkn ho ha hall hks hpl ht
theorem s_propP {c f : Str} (h : PmP X.prog X.w X.K X.mg X.base c f k F) (hr : Room (k + 1) X.A) (ho : Snd X e m) (hab : attributeBase e f X.env (eval e X.env) = eval e X.env := by rfl) : Snd X (.Attribute e f pos) (eProp c F m) :=
  let ⟨_, _, _, _, _, at_, cl, hp, G, B⟩ := h; s_prop at_ cl hp G hr B ho hab
theorem s_makeP {c : Str} {dds : List D} {F : List D → T (List (Str × D))} {p : Pos} (h : PmC X.prog X.w X.K X.mg X.base c k n dds F) (hr : Room (k + 1) X.A) (ha : SndA X (e :: es) ms) (hg : Gl X c := by rfl) (hdb : (c == ("__debug__" : Str)) = false := by decide) (he : starEach (e :: es) X.env = (false, eval e X.env) :: starEach es X.env := by rfl) (hpl : (backTo pos (starEach es X.env)).any (·.1) = false := by rfl) :
    Snd X (.Call (.Name c p) (e :: es) [] pos) (eMake c n dds F ms) := let ⟨_, _, _, _, _, _, M, at_, hm, G, B, hd, hdd⟩ := h; s_make M G hr hm at_ B hd hdd ha hg hdb he hpl
theorem s_makePK {c : Str} {F : List D → T (List (Str × D))} {p : Pos} {kws : List Keyword} (h : PmCK X.prog X.w X.K X.mg X.base c k n ks perm F) (hr : Room (k + 1) X.A) (hp : perm.length = n) (hkn : ks.length = n) (ha : SndK X kws ms) (hg : Gl X c := by rfl) (hall : (backToKw pos (keywordEach kws X.env)).all (·.1.isSome) = true := by rfl) (hks : (backToKw pos (keywordEach kws X.env)).filterMap (·.1) = ks := by rfl)
    (hdb : (c == ("__debug__" : Str)) = false := by decide) (hpl : ((backTo pos (starEach [] X.env)).any (·.1) || (backToKw pos (keywordEach kws X.env)).any (·.1.isNone)) = false := by rfl) : Snd X (.Call (.Name c p) [] kws pos) (eMakeK c n perm F ms) := let ⟨_, _, _, _, M, at_, hm, G, B⟩ := h; s_makeK M G hr hm at_ B hp hkn ha hg hall hks hdb hpl
theorem cs_strP {c : Str} {g : List D → T D} (h : PmT X.prog X.w X.K X.mg X.base c "__str__" k F) (hr : Room (k + 2) X.A) (h0 : CaSnd X (.type "str") g) : CaSnd X (.type "str") (txtC c F g) := let ⟨_, _, _, _, at_, O, G, B⟩ := h; txt_of at_ h0 (call_strC O G hr B)
theorem cs_reprP {c : Str} {g : List D → T D} (h : PmT X.prog X.w X.K X.mg X.base c "__repr__" k F) (hr : Room (k + 1) X.A) (h0 : CaSnd X (.builtin "repr") g) : CaSnd X (.builtin "repr") (txtC c F g) := let ⟨_, _, _, _, at_, O, G, B⟩ := h; txt_of at_ h0 (call_reprC O G hr B)
end
section
variable (P : Program) (w : World) (K : PySem.W.Frag) (mg : Str → Option Value) (base : Heap)
/-- the operator of the class, the instance on the left -/
def PmO (c : Str) (op : Operator) (k : Nat) (F : List D → T D) : Prop := ∃ (C a : Addr) (fd : FuncData) (ps : List Str), ClsAt K c C ∧ OwnOp K C op a ∧ FnOk P w K mg base CX0 k a fd ps (spD K P w 2 F) ∧ Binds K fd ps []
/-- .. on the right, an int on the left -/
def PmB (c : Str) (op : Operator) (k : Nat) (F : List D → T D) : Prop := ∃ (C a : Addr) (fd : FuncData) (ps : List Str), ClsAt K c C ∧ BackOp K C op a ∧ FnOk P w K mg base CX0 k a fd ps (spD K P w 2 F) ∧ Binds K fd ps []
def PmE (c : Str) (op : CmpOp) (k : Nat) (F : List D → T D) : Prop := ∃ (C a : Addr) (fd : FuncData) (ps : List Str), ClsAt K c C ∧ CmpOwn K C op a ∧ FnOk P w K mg base CX0 k a fd ps (spD K P w 2 F) ∧ Binds K fd ps []
def PmN (c : Str) (k : Nat) (F : List D → T D) : Prop := ∃ (C a : Addr) (fd : FuncData) (ps : List Str), ClsAt K c C ∧ PySem.W.findIn K (.ref C) "__neg__" = some (some (.ref a)) ∧ PySem.W.isFn K (.ref a) = true ∧ FnOk P w K mg base CX0 k a fd ps (spD K P w 1 F) ∧ Binds K fd ps []
end
section
variable {X : Cx} {e : Expr} {pos : Pos} {m : Rho → T D} {j k : Nat} {F R : List D → T D} {g : D → D → T D} {c : Str}
theorem os_anyP {op : Operator} (h0 : OpSnd X (binaryOp op) g) (h : PmO X.prog X.w X.K X.mg X.base c op k F) (hr : Room k X.A) (hb : PmB X.prog X.w X.K X.mg X.base c op j R) (dc : Declines op) (hr2 : Room j X.A) : OpSnd X (binaryOp op) (opAny c g F R) := by
  obtain ⟨C, a, fd, ps, at_, O, G, B⟩ := h
  obtain ⟨C2, b, rd, qs, at2, O2, GR, BR⟩ := hb
  have e := at_.one at2
  subst e
  exact os_any h0 at_ O G hr B O2 dc GR hr2 BR
theorem os_ownP {op : Operator} (h : PmO X.prog X.w X.K X.mg X.base c op k F) (hr : Room k X.A) : OpSnd X (binaryOp op) (opOwn c F) := let ⟨_, _, _, _, at_, O, G, B⟩ := h; os_own at_ O G hr B
theorem os_cmpP {op : CmpOp} (h0 : OpSnd X (compareOp op) g) (hop : op ≠ .Is ∧ op ≠ .IsNot ∧ op ≠ .In ∧ op ≠ .NotIn) (h : PmE X.prog X.w X.K X.mg X.base c op k F) (hr : Room k X.A) : OpSnd X (compareOp op) (cmpAny c g F) := let ⟨_, _, _, _, at_, O, G, B⟩ := h; os_cmpAny h0 hop at_ O G hr B
theorem s_negP (h : PmN X.prog X.w X.K X.mg X.base c k F) (hr : Room k X.A) (ha : Snd X e m) : Snd X (.UnaryOp .USub e pos) (eUn (uNegC c F) m) := let ⟨_, _, _, _, at_, hs, hf, G, B⟩ := h; s_negC at_ hs hf G hr B ha
end
section
variable (P : Program) (w : World) (K : PySem.W.Frag) (mg : Str → Option Value) (base : Heap)
/-- the class's own method, called on the class -/
def PmL (c m : Str) (k n : Nat) (F : List D → T D) : Prop := ∃ (C p g : Addr) (mc : Value), mg c = some (.ref C) ∧ ClX.CRead K C mc ∧ ClX.CMet K C mc m p g ∧ FnR P w K mg base CX0 k g (spC K P w C n F)
def PmLK (c m : Str) (k n : Nat) (ks : List Str) (perm : List Nat) (F : List D → T D) : Prop := ∃ (C p g : Addr) (mc : Value) (fd : FuncData) (ps : List Str), mg c = some (.ref C) ∧ ClX.CRead K C mc ∧ ClX.CMet K C mc m p g ∧ FnOk P w K mg base CX0 k g fd ps (spC K P w C n F) ∧ KBind1 K fd ps ks perm
end
section
variable {X : Cx} {e : Expr} {es : List Expr} {pos : Pos} {ms : Rho → T (List D)} {k n : Nat} {ks : List Str} {perm : List Nat} {F : List D → T D}
theorem s_clsP {c m : Str} {np apos : Pos} {pl : Sem Bool} (h : PmL X.prog X.w X.K X.mg X.base c m k n F) (hr : Room k X.A) (ha : SndA X (e :: es) ms) (hg : Gl X c := by rfl) (hdb : (c == ("__debug__" : Str)) = false := by decide) (hst : starEach (e :: es) X.env = (false, eval e X.env) :: starEach es X.env := by rfl) (hpl : (backTo pos (starEach es X.env)).any (·.1) = false := by rfl)
    (ht : eval (.Call (.Attribute (.Name c np) m apos) (e :: es) [] pos) X.env = (do
      let ov ← eval (.Name c np) X.env
      standAt apos.atName
      let (f, first) ← holding [ov] (getMethod ov m pl)
      callWith pos f first (backTo pos (starEach (e :: es) X.env)) (backToKw pos (keywordEach [] X.env))) := by rfl) :
    Snd X (.Call (.Attribute (.Name c np) m apos) (e :: es) [] pos) (eCall n F ms) := let ⟨_, _, _, _, at_, r, cm, G⟩ := h; s_cmeth at_ r cm G hr ha hg hdb hst hpl ht
theorem s_clsPK {c m : Str} {np apos : Pos} {pl : Sem Bool} {kws : List Keyword} (h : PmLK X.prog X.w X.K X.mg X.base c m k n ks perm F) (hr : Room k X.A) (hp : perm.length = n) (hkn : ks.length = n)
    (ha : SndK X kws ms) (hg : Gl X c := by rfl) (hdb : (c == ("__debug__" : Str)) = false := by decide) (hall : (backToKw pos (keywordEach kws X.env)).all (·.1.isSome) = true := by rfl) (hks : (backToKw pos (keywordEach kws X.env)).filterMap (·.1) = ks := by rfl)
    (hpl : ((backTo pos (starEach [] X.env)).any (·.1) || (backToKw pos (keywordEach kws X.env)).any (·.1.isNone)) = false := by rfl)
    (ht : eval (.Call (.Attribute (.Name c np) m apos) [] kws pos) X.env = (do
      let ov ← eval (.Name c np) X.env
      standAt apos.atName
      let (f, first) ← holding [ov] (getMethod ov m pl)
      callWith pos f first (backTo pos (starEach [] X.env)) (backToKw pos (keywordEach kws X.env))) := by rfl) :
    Snd X (.Call (.Attribute (.Name c np) m apos) [] kws pos) (eCallK n perm F ms) := let ⟨_, _, _, _, _, _, at_, r, cm, G, B⟩ := h; s_cmethK at_ r cm G hr B hp hkn ha hg hdb hall hks hpl ht
/-- f(), where no repr is under way -/
theorem s_callPG0 {x : Str} {p : Pos} (h : PmG X.prog X.w X.K X.mg X.base x k 0 [] F) (hr : Room k X.A) (hgd : X.A.guards = some []) (hg : Gl X x := by rfl) (hdb : (x == ("__debug__" : Str)) = false := by decide) : Snd X (.Call (.Name x p) [] [] pos) (eCall 0 F aNil) := fun {π N0 H0 N H σ ρ Q} I q => by
  obtain ⟨f, fd, hm, hk, G, B⟩ := h
  refine ⟨fun σ H Q => spD X.K X.prog X.w 0 F [] H Q E0, ⟨fun pins s σ H Q J q => ?_⟩, π, N, [], I.hn, .nil, rfl, q⟩
  refine wpAny_Call_Name_kw (ld_glob J hg hm ?_ hdb)
  refine PySem.W.callWith_K0 J.kIn hk ?_
  have b0 := B s [] J.kIn rfl
  show wpAny _ _ (call (.ref f) []) _ _ _
  refine wpAny_call (codeAny_mono (G.run X.A X.stack s H ⟨[], []⟩ [] [] Q E0 hr hgd J.env0 b0 .nil q) fun r s' hq => ?_)
  cases r with
  | error e => exact pass0 pins σ H s e s' J hq
  | ok fl =>
    cases fl with
    | ret u => exact J.after hq
    | next => exact False.elim hq
    | brk => exact False.elim hq
    | cont => exact False.elim hq
end
/-- all names unknown -/
theorem env_un {K : PySem.W.Frag} {P : Program} {w : World} {π : Addr} {N : Addr → Bool} {H : Hp} {σ : L2.St} {n : Nat} (hn : HN π N H) (hl : σ.length = n) : EnvOk K P w π N H N H σ (List.replicate n .un) := by
  have un : ∀ (i : Nat) (e : Ent), (List.replicate n Ent.un)[i]? = some e → e = .un := fun i e h => by
    rw [List.getElem?_replicate] at h
    split at h
    · cases h; rfl
    · cases h
  refine ⟨hn, .refl, fun _ h => h, fun _ h => .inl h, by rw [hl, List.length_replicate], fun i d h => ?_, fun i x h xo => ?_, fun i j e f l h1 h2 o1 o2 => ?_⟩
  · cases un i _ h
  · cases un i _ h; cases xo
  · cases un i _ h1; cases o1
end Pd

namespace Pd
open PySem L2 PySem.Spec PyProof.Rows
/-! Ratio(top, bottom) -/
abbrev topR (i : Nat) : Stmt := PySem.Challenge.pw_aheadsums_k11_whole_numbers_reckoned.main.body.getD i (.Pass ⟨0, 0, 0, 0⟩)
theorem op_fdivG {X : Cx} : OpR X (binaryOp .FloorDiv) (rI (fun i j => j ≠ 0 ∧ Builtin.divisionGoesByPylong i j = false) fun i j => .int (i.fdiv j)) := L2.opI fun _ _ _ _ _ _ _ hc q => floordiv_int hc.1 q (.inl hc.2)
/-- what is divided by -/
def ratioBy (t b : Int) : Int := if b < 0 then -((Nat.gcd t.natAbs b.natAbs : Nat) : Int) else ((Nat.gcd t.natAbs b.natAbs : Nat) : Int)
def f_Ratio_init : List D → T (List (Str × D))
  | [.int t, .int b] => cond (decide (b ≠ 0) && !Builtin.divisionGoesByPylong t (ratioBy t b) && !Builtin.divisionGoesByPylong b (ratioBy t b)) (.ret [("_top", .int (t.fdiv (ratioBy t b))), ("_bottom", .int (b.fdiv (ratioBy t b)))]) .fail
  | _ => .fail
theorem iteT' {b : Bool} {p q : Prop} (h : b = true) (x : p) : if b = true then p else q := by rw [if_pos h]; exact x
theorem iteF' {b : Bool} {p q : Prop} (h : b = false) (x : q) : if b = true then p else q := by rw [if_neg (by rw [h]; exact Bool.false_ne_true)]; exact x
section
variable {P : Program} {w : World} {K : PySem.W.Frag} {mg : Str → Option Value} {base : Heap}
abbrev s_Rinit : Stmt := inClass (topR 10) 0
theorem sc_Rinit : FnScope ["self", "top", "bottom", "common"] ["self", "top", "bottom"] (defScope s_Rinit) := ⟨rfl, rfl, rfl, by decide +kernel, rfl, by decide +kernel, by decide +kernel⟩
theorem g_Rinit {a_i a_int : Addr} {d_i d_int : FuncData} {C : Addr} {dvs : List V} (F : FunD K "__init__" "Ratio.__init__" (defArgs s_Rinit) (defBody s_Rinit) (defScope s_Rinit) dvs [] a_i d_i) (cl : Cls K C) (at_ : ClsAt K "Ratio" C) (nt : NoAttr K C "_top") (nb : NoAttr K C "_bottom") (mi : mg "is_integer" = some (.ref a_int)) (ki : PySem.W.keepIn K (.ref a_int) = true)
    (GI : FnOk P w K mg base CX0 1 a_int d_int ["value"] (spD K P w 1 (fun ds => match ds with | [.int _] => .ret (.bl true) | _ => .fail))) (BI : Binds K d_int ["value"] []) (mG : mg "gcd" = some (.builtin "math.gcd")) : FnOk P w K mg base CX0 2 a_i d_i ["self", "top", "bottom"] (spI K P w "Ratio" 2 f_Ratio_init) := by
  have nd := sc_Rinit.nd
  refine F.ok (k := 1) sc_Rinit (fun vs H Q E h => ?_) (fun cdv A outer s H vs Q E hr h => ?_)
  · obtain ⟨π, N, x, dx, C, args, ds, rfl, hl, _⟩ := h
    rw [List.length_cons, hl]; rfl
  · suffices z : ∃ t, PSs (cxOf CX0 P w K mg base ["self", "top", "bottom", "common"] "Ratio.__init__" (defScope s_Rinit) a_i cdv A outer s H E).nox (defBody s_Rinit) t ∧ t { nx := fun _ H' => Q .non H', rt := Q } (start ["self", "top", "bottom", "common"] vs) H by
      obtain ⟨t, a, b⟩ := z
      exact ⟨t, a.nox, b⟩
    refine ⟨_, pss_cons (ps_if (pt_not (pt_val (pe_call GI (hr.mono (by decide)) rfl mi ki BI .nil pass0 (pa_cons (pv 1) pa_nil)) (by intro _; rfl))) pss_wp pss_nil)
      (pss_cons (ps_if (PW.pt (pw_or (pt_not (pt_val (pe_call GI (hr.mono (by decide)) rfl mi ki BI .nil pass0 (pa_cons (pv 2) pa_nil)) (by intro _; rfl))) (pw_or1 (pt_cmpR (op_eqD hr.units) (pv 2) pe_int (nomark _))))) pss_wp pss_nil)
      (pss_cons (ps_set (i := 3) nd rfl (.inl rfl) (pe_callBfun cr_gcd rfl mG (pa_cons (pv 1) (pa_cons (pv 2) pa_nil))))
      (pss_cons (ps_if (pt_cmpR op_lt (pv 2) pe_int (nomark _)) (pss_one (ps_set (i := 3) nd rfl (.inl rfl) (pe_un un_neg (pv 3)))) pss_nil)
      (pss_cons (ps_fld (pv 0) (pe_op op_fdivG (pv 1) (pv 3)) rfl)
      (pss_one (ps_fld (pv 0) (pe_op op_fdivG (pv 2) (pv 3)) rfl)))))), ?_⟩
    obtain ⟨π, N, x, dx, C2, args, ds, rfl, hl, hn, Nx, hx, hc, ra, hall⟩ := h
    have ec := at_.one hc
    subst ec
    unfold f_Ratio_init at hall
    split at hall
    · rename_i t b
      cases ra with
      | cons r1 ra =>
      cases ra with
      | cons r2 ra =>
      cases ra
      cases r1
      cases r2
      obtain ⟨hb, hall⟩ := cond_all hall
      simp only [Bool.and_eq_true, Bool.not_eq_true', decide_eq_true_eq] at hb
      obtain ⟨⟨b0, p1⟩, p2⟩ := hb
      have xpi : x ≠ π := N_ne hn Nx
      have ask : ∀ (i : Int) (H1 : Hp) (Q' : VK), Ex π H H1 → (∀ H2, Ex π H H2 → Q' (.bl true) H2) → spD K P w 1 (fun ds => match ds with | [.int _] => .ret (.bl true) | _ => .fail) [V.int i] H1 Q' E0 := fun i H1 Q' e k =>
        ⟨π, N, [.int i], hn.ext e, .cons (.int i) .nil, rfl, fun v H2 e2 r => by rw [r.bool]; exact k H2 (e.trans e2)⟩
      refine ⟨_, rfl, ask t H _ (Ex.refl hn.pot) fun H1 e1 => ⟨true, rfl, iteF' rfl ?_⟩⟩
      refine ⟨_, rfl, ask b H1 _ e1 fun H2 e2 => ⟨true, rfl, iteF' rfl ?_⟩⟩
      refine ⟨_, rfl, .int b, .int 0, .int b, .int 0, rfl, rfl, _, rfl, iteF' (by simp [PyData.eqv, b0]) ?_⟩
      have hx2 : H2 x = some (.ins C2 dx []) := e2.kp x _ xpi hx
      have bt : ¬ (("_top" : Str) = "_bottom") := by decide +kernel
      have fin : ∀ (c : Int), c = ratioBy t b → Q .non (upd (upd H2 x (.ins C2 dx (putF "_top" (.int (t.fdiv c)) []))) x (.ins C2 dx (putF "_bottom" (.int (b.fdiv c)) (putF "_top" (.int (t.fdiv c)) [])))) := fun c ec => by
        subst ec
        refine hall _ [("_top", .int (t.fdiv (ratioBy t b))), ("_bottom", .int (b.fdiv (ratioBy t b)))] (fun a o n1 n2 h => ?_) ?_ ?_ (.cons (.int _) (.cons (.int _) .nil))
        · rw [upd_ne n2, upd_ne n2]
          exact e2.kp a o n1 h
        · obtain ⟨p, q, h, r⟩ := e2.pot
          exact ⟨p, q, by rw [upd_ne xpi.symm, upd_ne xpi.symm]; exact h, r⟩
        · rw [upd_same]
          show some (HO.ins C2 dx (if ("_top" : Str) = "_bottom" then [("_top", V.int (b.fdiv (ratioBy t b)))] else ("_top", V.int (t.fdiv (ratioBy t b))) :: putF "_bottom" (V.int (b.fdiv (ratioBy t b))) [])) = _
          rw [if_neg bt]
          rfl
      have g0 : ratioBy t b ≠ 0 := by
        have : Nat.gcd t.natAbs b.natAbs ≠ 0 := fun z => b0 (Int.natAbs_eq_zero.mp (Nat.eq_zero_of_gcd_eq_zero_right z))
        unfold ratioBy
        split <;> omega
      refine ⟨_, rfl, _, rfl, t, b, rfl, ?_⟩
      refine ⟨_, rfl, _, _, rfl, rfl, _, rfl, ?_⟩
      by_cases c : b < 0
      · refine iteT' (decide_eq_true c) ⟨_, rfl, _, rfl, ?_⟩
        have eg : -((Nat.gcd t.natAbs b.natAbs : Nat) : Int) = ratioBy t b := by unfold ratioBy; rw [if_pos c]
        refine ⟨_, rfl, _, rfl, _, _, rfl, rfl, ⟨by rw [eg]; exact g0, by rw [eg]; exact p1⟩, _, rfl, x, C2, dx, [], rfl, hx2, cl, nt, by decide, ?_⟩
        refine ⟨_, rfl, _, rfl, _, _, rfl, rfl, ⟨by rw [eg]; exact g0, by rw [eg]; exact p2⟩, _, rfl, x, C2, dx, _, rfl, upd_same, cl, nb, (show 1 < 1000 by decide), ?_⟩
        exact fin _ eg
      · refine iteF' (decide_eq_false c) ?_
        have eg : ((Nat.gcd t.natAbs b.natAbs : Nat) : Int) = ratioBy t b := by unfold ratioBy; rw [if_neg c]
        refine ⟨_, rfl, _, rfl, _, _, rfl, rfl, ⟨by rw [eg]; exact g0, by rw [eg]; exact p1⟩, _, rfl, x, C2, dx, [], rfl, hx2, cl, nt, by decide, ?_⟩
        refine ⟨_, rfl, _, rfl, _, _, rfl, rfl, ⟨by rw [eg]; exact g0, by rw [eg]; exact p2⟩, _, rfl, x, C2, dx, _, rfl, upd_same, cl, nb, (show 1 < 1000 by decide), ?_⟩
        exact fin _ eg
    · exact False.elim hall
end
end Pd

namespace Pd
open PySem L2 PySem.Spec PyProof.Rows
section
variable {P : Program} {w : World} {K : PySem.W.Frag} {mg : Str → Option Value} {base : Heap}
abbrev s_Radd : Stmt := inClass (topR 10) 5
theorem sc_Radd : FnScope ["self", "other", "top", "bottom"] ["self", "other"] (defScope s_Radd) := ⟨rfl, rfl, rfl, by decide +kernel, rfl, by decide +kernel, by decide +kernel⟩
def m_Radd (ft : List D → T D) : Rho → T Out := bSeq (sAsg (gTp 2 (gsCons (gNm 2) (gsCons (gNm 3) gsNil))) (eCall 1 ft (aCons (eVar 1) aNil)))
  (sRet (eMake "Ratio" 2 [] f_Ratio_init (aCons (eBin opAdd (eBin opMulT (eUn (attrD "Ratio" "_top") (eVar 0)) (eVar 3)) (eBin opMulT (eVar 2) (eUn (attrD "Ratio" "_bottom") (eVar 0)))) (aCons (eBin opMulT (eUn (attrD "Ratio" "_bottom") (eVar 0)) (eVar 3)) aNil))))
def f_Radd (ft : List D → T D) : List D → T D := runB 4 (m_Radd ft)
theorem g_Radd {ft : List D → T D} {a_f a_i a_t C : Addr} {d_f d_i d_t : FuncData} (F : Fun K "__add__" "Ratio.__add__" s_Radd a_f d_f) (M : Mk K C a_i) (cl : Cls K C) (at_ : ClsAt K "Ratio" C) (nt : NoAttr K C "_top") (nb : NoAttr K C "_bottom") (mC : mg "Ratio" = some (.ref C)) (mt : mg "top_and_bottom" = some (.ref a_t)) (kt : PySem.W.keepIn K (.ref a_t) = true)
    (GI : FnOk P w K mg base CX0 2 a_i d_i ["self", "top", "bottom"] (spI K P w "Ratio" 2 f_Ratio_init)) (BI : Binds K d_i ["self", "top", "bottom"] []) (GT : FnOk P w K mg base CX0 4 a_t d_t ["number"] (spD K P w 1 ft)) (BT : Binds K d_t ["number"] []) :
    FnOk P w K mg base CX0 5 a_f d_f ["self", "other"] (spD K P w 2 (f_Radd ft)) := by
  have nd := sc_Radd.nd
  refine fn_ok (n := 4) (p := 2) (m := m_Radd ft) (k := 4) F sc_Radd rfl rfl rfl (fun cdv A outer s H E hr => ?_)
  exact b_cons (ss_asg (s_call GT (hr.mono (by decide)) mt kt BT (sa_cons (sv 1) sa_nil)) (g_tup rfl (gs_cons (g_name nd) (gs_cons (g_name nd) gs_nil))))
    (b_one (ss_ret (s_make (dvs := []) (dds := []) M GI (hr.mono (by decide)) mC at_ BI .nil (fun _ _ => .nil) (sa_cons (s_bin os_add (s_bin os_mulT (s_attr at_ cl nt (sv 0)) (sv 3)) (s_bin os_mulT (sv 2) (s_attr at_ cl nb (sv 0)))) (sa_cons (s_bin os_mulT (s_attr at_ cl nb (sv 0)) (sv 3)) sa_nil)))))
end
end Pd

/-! The other methods of Ratio that only reckon with its own two numbers. -/
namespace Pd
open PySem L2 PySem.Spec PyProof.Rows
/-- what Ratio's methods ask of what stands around them -/
structure RH (P : Program) (w : World) (K : PySem.W.Frag) (mg : Str → Option Value) (base : Heap) (ft : List D → T D) (C a_i a_t : Addr) (d_i d_t : FuncData) : Prop where
  M : Mk K C a_i
  cl : Cls K C
  at_ : ClsAt K "Ratio" C
  nt : NoAttr K C "_top"
  nb : NoAttr K C "_bottom"
  mC : mg "Ratio" = some (.ref C)
  mt : mg "top_and_bottom" = some (.ref a_t)
  kt : PySem.W.keepIn K (.ref a_t) = true
  GI : FnOk P w K mg base CX0 2 a_i d_i ["self", "top", "bottom"] (spI K P w "Ratio" 2 f_Ratio_init)
  BI : Binds K d_i ["self", "top", "bottom"] []
  GT : FnOk P w K mg base CX0 4 a_t d_t ["number"] (spD K P w 1 ft)
  BT : Binds K d_t ["number"] []
def aT : Rho → T D := eUn (attrD "Ratio" "_top") (eVar 0)
def aB : Rho → T D := eUn (attrD "Ratio" "_bottom") (eVar 0)
def mkR (x y : Rho → T D) : Rho → T D := eMake "Ratio" 2 [] f_Ratio_init (aCons x (aCons y aNil))
def tbR (ft : List D → T D) : Rho → T Out := sAsg (gTp 2 (gsCons (gNm 2) (gsCons (gNm 3) gsNil))) (eCall 1 ft (aCons (eVar 1) aNil))
section
variable {P : Program} {w : World} {K : PySem.W.Frag} {mg : Str → Option Value} {base : Heap} {ft : List D → T D} {C a_i a_t a_f : Addr} {d_i d_t d_f : FuncData}
/-! top, bottom -/
abbrev s_Rtop : Stmt := inClass (topR 10) 1
theorem sc_Rtop : FnScope ["self"] ["self"] (defScope s_Rtop) := ⟨rfl, rfl, rfl, by decide +kernel, rfl, by decide +kernel, by decide +kernel⟩
def f_Rtop : List D → T D := runB 1 (sRet aT)
theorem g_Rtop (F : Fun K "top" "Ratio.top" s_Rtop a_f d_f) (R : RH P w K mg base ft C a_i a_t d_i d_t) : FnOk P w K mg base CX0 1 a_f d_f ["self"] (spD K P w 1 f_Rtop) :=
  fn_ok (n := 1) (p := 1) (m := sRet aT) (k := 0) F sc_Rtop rfl rfl rfl (fun cdv A outer s H E hr => b_one (ss_ret (s_attr R.at_ R.cl R.nt (sv 0))))
abbrev s_Rbottom : Stmt := inClass (topR 10) 2
theorem sc_Rbottom : FnScope ["self"] ["self"] (defScope s_Rbottom) := ⟨rfl, rfl, rfl, by decide +kernel, rfl, by decide +kernel, by decide +kernel⟩
def f_Rbottom : List D → T D := runB 1 (sRet aB)
theorem g_Rbottom (F : Fun K "bottom" "Ratio.bottom" s_Rbottom a_f d_f) (R : RH P w K mg base ft C a_i a_t d_i d_t) : FnOk P w K mg base CX0 1 a_f d_f ["self"] (spD K P w 1 f_Rbottom) :=
  fn_ok (n := 1) (p := 1) (m := sRet aB) (k := 0) F sc_Rbottom rfl rfl rfl (fun cdv A outer s H E hr => b_one (ss_ret (s_attr R.at_ R.cl R.nb (sv 0))))
/-! sign -/
abbrev s_Rsign : Stmt := inClass (topR 10) 3
theorem sc_Rsign : FnScope ["self"] ["self"] (defScope s_Rsign) := ⟨rfl, rfl, rfl, by decide +kernel, rfl, by decide +kernel, by decide +kernel⟩
def m_Rsign : Rho → T Out := bSeq (sIf (eTest (eBin opLt aT (eC (.int 0)))) (sRet (eUn uNeg (eC (.int 1)))) bNil) (bSeq (sIf (eTest (eBin opGt aT (eC (.int 0)))) (sRet (eC (.int 1))) bNil) (sRet (eC (.int 0))))
def f_Rsign : List D → T D := runB 1 m_Rsign
theorem g_Rsign (F : Fun K "sign" "Ratio.sign" s_Rsign a_f d_f) (R : RH P w K mg base ft C a_i a_t d_i d_t) : FnOk P w K mg base CX0 1 a_f d_f ["self"] (spD K P w 1 f_Rsign) :=
  fn_ok (n := 1) (p := 1) (m := m_Rsign) (k := 0) F sc_Rsign rfl rfl rfl (fun cdv A outer s H E hr =>
    b_cons (ss_if (st_cmp os_lt (s_attr R.at_ R.cl R.nt (sv 0)) s_int (nomark _)) (b_one (ss_ret (s_neg s_int))) b_nil)
      (b_cons (ss_if (st_cmp os_gt (s_attr R.at_ R.cl R.nt (sv 0)) s_int (nomark _)) (b_one (ss_ret s_int)) b_nil) (b_one (ss_ret s_int))))
/-! is_whole -/
abbrev s_Rwhole : Stmt := inClass (topR 10) 4
theorem sc_Rwhole : FnScope ["self"] ["self"] (defScope s_Rwhole) := ⟨rfl, rfl, rfl, by decide +kernel, rfl, by decide +kernel, by decide +kernel⟩
def m_Rwhole : Rho → T Out := sRet (eBin opEq aB (eC (.int 1)))
def f_Rwhole : List D → T D := runB 1 m_Rwhole
theorem g_Rwhole (F : Fun K "is_whole" "Ratio.is_whole" s_Rwhole a_f d_f) (R : RH P w K mg base ft C a_i a_t d_i d_t) : FnOk P w K mg base CX0 1 a_f d_f ["self"] (spD K P w 1 f_Rwhole) :=
  fn_ok (n := 1) (p := 1) (m := m_Rwhole) (k := 0) F sc_Rwhole rfl rfl rfl (fun cdv A outer s H E hr => b_one (ss_ret (s_cmp (os_eq hr.units) (s_attr R.at_ R.cl R.nb (sv 0)) s_int (nomark _))))
/-! + - * by two numbers -/
def m_Rsum (f : D → D → T D) (ft : List D → T D) : Rho → T Out := bSeq (tbR ft) (sRet (mkR (eBin f (eBin opMulG aT (eVar 3)) (eBin opMulG (eVar 2) aB)) (eBin opMulG aB (eVar 3))))
def f_Radd' (ft : List D → T D) : List D → T D := runB 4 (m_Rsum opAdd ft)
theorem g_Radd' (F : Fun K "__add__" "Ratio.__add__" s_Radd a_f d_f) (R : RH P w K mg base ft C a_i a_t d_i d_t) : FnOk P w K mg base CX0 5 a_f d_f ["self", "other"] (spD K P w 2 (f_Radd' ft)) := by
  have nd := sc_Radd.nd
  refine fn_ok (n := 4) (p := 2) (m := m_Rsum opAdd ft) (k := 4) F sc_Radd rfl rfl rfl (fun cdv A outer s H E hr => ?_)
  exact b_cons (ss_asg (s_call R.GT (hr.mono (by decide)) R.mt R.kt R.BT (sa_cons (sv 1) sa_nil)) (g_tup rfl (gs_cons (g_name nd) (gs_cons (g_name nd) gs_nil))))
    (b_one (ss_ret (s_make (dvs := []) (dds := []) R.M R.GI (hr.mono (by decide)) R.mC R.at_ R.BI .nil (fun _ _ => .nil) (sa_cons (s_bin os_add (s_bin os_mulG (s_attr R.at_ R.cl R.nt (sv 0)) (sv 3)) (s_bin os_mulG (sv 2) (s_attr R.at_ R.cl R.nb (sv 0)))) (sa_cons (s_bin os_mulG (s_attr R.at_ R.cl R.nb (sv 0)) (sv 3)) sa_nil)))))
abbrev s_Rsub : Stmt := inClass (topR 10) 7
theorem sc_Rsub : FnScope ["self", "other", "top", "bottom"] ["self", "other"] (defScope s_Rsub) := ⟨rfl, rfl, rfl, by decide +kernel, rfl, by decide +kernel, by decide +kernel⟩
def f_Rsub (ft : List D → T D) : List D → T D := runB 4 (m_Rsum opSub ft)
theorem g_Rsub (F : Fun K "__sub__" "Ratio.__sub__" s_Rsub a_f d_f) (R : RH P w K mg base ft C a_i a_t d_i d_t) : FnOk P w K mg base CX0 5 a_f d_f ["self", "other"] (spD K P w 2 (f_Rsub ft)) := by
  have nd := sc_Rsub.nd
  refine fn_ok (n := 4) (p := 2) (m := m_Rsum opSub ft) (k := 4) F sc_Rsub rfl rfl rfl (fun cdv A outer s H E hr => ?_)
  exact b_cons (ss_asg (s_call R.GT (hr.mono (by decide)) R.mt R.kt R.BT (sa_cons (sv 1) sa_nil)) (g_tup rfl (gs_cons (g_name nd) (gs_cons (g_name nd) gs_nil))))
    (b_one (ss_ret (s_make (dvs := []) (dds := []) R.M R.GI (hr.mono (by decide)) R.mC R.at_ R.BI .nil (fun _ _ => .nil) (sa_cons (s_bin os_sub (s_bin os_mulG (s_attr R.at_ R.cl R.nt (sv 0)) (sv 3)) (s_bin os_mulG (sv 2) (s_attr R.at_ R.cl R.nb (sv 0)))) (sa_cons (s_bin os_mulG (s_attr R.at_ R.cl R.nb (sv 0)) (sv 3)) sa_nil)))))
abbrev s_Rmul : Stmt := inClass (topR 10) 9
theorem sc_Rmul : FnScope ["self", "other", "top", "bottom"] ["self", "other"] (defScope s_Rmul) := ⟨rfl, rfl, rfl, by decide +kernel, rfl, by decide +kernel, by decide +kernel⟩
def m_Rmul (ft : List D → T D) : Rho → T Out := bSeq (tbR ft) (sRet (mkR (eBin opMulG aT (eVar 2)) (eBin opMulG aB (eVar 3))))
def f_Rmul (ft : List D → T D) : List D → T D := runB 4 (m_Rmul ft)
theorem g_Rmul (F : Fun K "__mul__" "Ratio.__mul__" s_Rmul a_f d_f) (R : RH P w K mg base ft C a_i a_t d_i d_t) : FnOk P w K mg base CX0 5 a_f d_f ["self", "other"] (spD K P w 2 (f_Rmul ft)) := by
  have nd := sc_Rmul.nd
  refine fn_ok (n := 4) (p := 2) (m := m_Rmul ft) (k := 4) F sc_Rmul rfl rfl rfl (fun cdv A outer s H E hr => ?_)
  exact b_cons (ss_asg (s_call R.GT (hr.mono (by decide)) R.mt R.kt R.BT (sa_cons (sv 1) sa_nil)) (g_tup rfl (gs_cons (g_name nd) (gs_cons (g_name nd) gs_nil))))
    (b_one (ss_ret (s_make (dvs := []) (dds := []) R.M R.GI (hr.mono (by decide)) R.mC R.at_ R.BI .nil (fun _ _ => .nil) (sa_cons (s_bin os_mulG (s_attr R.at_ R.cl R.nt (sv 0)) (sv 2)) (sa_cons (s_bin os_mulG (s_attr R.at_ R.cl R.nb (sv 0)) (sv 3)) sa_nil)))))
/-! -self -/
abbrev s_Rneg : Stmt := inClass (topR 10) 11
theorem sc_Rneg : FnScope ["self"] ["self"] (defScope s_Rneg) := ⟨rfl, rfl, rfl, by decide +kernel, rfl, by decide +kernel, by decide +kernel⟩
def m_Rneg : Rho → T Out := sRet (mkR (eUn uNeg aT) aB)
def f_Rneg : List D → T D := runB 1 m_Rneg
theorem g_Rneg (F : Fun K "__neg__" "Ratio.__neg__" s_Rneg a_f d_f) (R : RH P w K mg base ft C a_i a_t d_i d_t) : FnOk P w K mg base CX0 5 a_f d_f ["self"] (spD K P w 1 f_Rneg) :=
  fn_ok (n := 1) (p := 1) (m := m_Rneg) (k := 4) F sc_Rneg rfl rfl rfl (fun cdv A outer s H E hr =>
    b_one (ss_ret (s_make (dvs := []) (dds := []) R.M R.GI (hr.mono (by decide)) R.mC R.at_ R.BI .nil (fun _ _ => .nil) (sa_cons (s_neg (s_attr R.at_ R.cl R.nt (sv 0))) (sa_cons (s_attr R.at_ R.cl R.nb (sv 0)) sa_nil)))))
/-! over -/
abbrev s_Rover : Stmt := inClass (topR 10) 12
theorem sc_Rover : FnScope ["self", "other", "top", "bottom"] ["self", "other"] (defScope s_Rover) := ⟨rfl, rfl, rfl, by decide +kernel, rfl, by decide +kernel, by decide +kernel⟩
def m_Rover (ft : List D → T D) : Rho → T Out := bSeq (tbR ft) (bSeq (sIf (eTest (eBin opEq (eVar 2) (eC (.int 0)))) sFail bNil) (sRet (mkR (eBin opMulG aT (eVar 3)) (eBin opMulG aB (eVar 2)))))
def f_Rover (ft : List D → T D) : List D → T D := runB 4 (m_Rover ft)
theorem g_Rover (F : Fun K "over" "Ratio.over" s_Rover a_f d_f) (R : RH P w K mg base ft C a_i a_t d_i d_t) : FnOk P w K mg base CX0 5 a_f d_f ["self", "other"] (spD K P w 2 (f_Rover ft)) := by
  have nd := sc_Rover.nd
  refine fn_ok (n := 4) (p := 2) (m := m_Rover ft) (k := 4) F sc_Rover rfl rfl rfl (fun cdv A outer s H E hr => ?_)
  exact b_cons (ss_asg (s_call R.GT (hr.mono (by decide)) R.mt R.kt R.BT (sa_cons (sv 1) sa_nil)) (g_tup rfl (gs_cons (g_name nd) (gs_cons (g_name nd) gs_nil))))
    (b_cons (ss_if (st_cmp (os_eq hr.units) (sv 2) s_int (nomark _)) (b_one ss_fail) b_nil)
    (b_one (ss_ret (s_make (dvs := []) (dds := []) R.M R.GI (hr.mono (by decide)) R.mC R.at_ R.BI .nil (fun _ _ => .nil) (sa_cons (s_bin os_mulG (s_attr R.at_ R.cl R.nt (sv 0)) (sv 3)) (sa_cons (s_bin os_mulG (s_attr R.at_ R.cl R.nb (sv 0)) (sv 2)) sa_nil))))))
/-! order -/
def m_Rord (f : D → D → T D) (ft : List D → T D) : Rho → T Out := bSeq (tbR ft) (sRet (eBin f (eBin opMulG aT (eVar 3)) (eBin opMulG (eVar 2) aB)))
abbrev s_Rbelow : Stmt := inClass (topR 10) 14
theorem sc_Rbelow : FnScope ["self", "other", "top", "bottom"] ["self", "other"] (defScope s_Rbelow) := ⟨rfl, rfl, rfl, by decide +kernel, rfl, by decide +kernel, by decide +kernel⟩
def f_Rbelow (ft : List D → T D) : List D → T D := runB 4 (m_Rord opLt ft)
theorem g_Rbelow (F : Fun K "is_below" "Ratio.is_below" s_Rbelow a_f d_f) (R : RH P w K mg base ft C a_i a_t d_i d_t) : FnOk P w K mg base CX0 5 a_f d_f ["self", "other"] (spD K P w 2 (f_Rbelow ft)) := by
  have nd := sc_Rbelow.nd
  refine fn_ok (n := 4) (p := 2) (m := m_Rord opLt ft) (k := 4) F sc_Rbelow rfl rfl rfl (fun cdv A outer s H E hr => ?_)
  exact b_cons (ss_asg (s_call R.GT (hr.mono (by decide)) R.mt R.kt R.BT (sa_cons (sv 1) sa_nil)) (g_tup rfl (gs_cons (g_name nd) (gs_cons (g_name nd) gs_nil))))
    (b_one (ss_ret (s_cmp os_lt (s_bin os_mulG (s_attr R.at_ R.cl R.nt (sv 0)) (sv 3)) (s_bin os_mulG (sv 2) (s_attr R.at_ R.cl R.nb (sv 0))) (nomark _))))
abbrev s_Ratmost : Stmt := inClass (topR 10) 15
theorem sc_Ratmost : FnScope ["self", "other", "top", "bottom"] ["self", "other"] (defScope s_Ratmost) := ⟨rfl, rfl, rfl, by decide +kernel, rfl, by decide +kernel, by decide +kernel⟩
def f_Ratmost (ft : List D → T D) : List D → T D := runB 4 (m_Rord opLe ft)
theorem g_Ratmost (F : Fun K "is_at_most" "Ratio.is_at_most" s_Ratmost a_f d_f) (R : RH P w K mg base ft C a_i a_t d_i d_t) : FnOk P w K mg base CX0 5 a_f d_f ["self", "other"] (spD K P w 2 (f_Ratmost ft)) := by
  have nd := sc_Ratmost.nd
  refine fn_ok (n := 4) (p := 2) (m := m_Rord opLe ft) (k := 4) F sc_Ratmost rfl rfl rfl (fun cdv A outer s H E hr => ?_)
  exact b_cons (ss_asg (s_call R.GT (hr.mono (by decide)) R.mt R.kt R.BT (sa_cons (sv 1) sa_nil)) (g_tup rfl (gs_cons (g_name nd) (gs_cons (g_name nd) gs_nil))))
    (b_one (ss_ret (s_cmp os_le (s_bin os_mulG (s_attr R.at_ R.cl R.nt (sv 0)) (sv 3)) (s_bin os_mulG (sv 2) (s_attr R.at_ R.cl R.nb (sv 0))) (nomark _))))
/-! its two texts -/
abbrev s_Rstr : Stmt := inClass (topR 10) 18
theorem sc_Rstr : FnScope ["self"] ["self"] (defScope s_Rstr) := ⟨rfl, rfl, rfl, by decide +kernel, rfl, by decide +kernel, by decide +kernel⟩
def m_Rstr : Rho → T Out := bSeq (sIf (eTest (eBin opEq aB (eC (.int 1)))) (sRet (eFmt aT)) bNil) (sRet (joinT [eFmt aT, eC (.str "/"), eFmt aB] Str.empty))
def f_Rstr : List D → T D := runB 1 m_Rstr
theorem g_Rstr (F : Fun K "__str__" "Ratio.__str__" s_Rstr a_f d_f) (R : RH P w K mg base ft C a_i a_t d_i d_t) : FnOk P w K mg base CX0 1 a_f d_f ["self"] (spD K P w 1 f_Rstr) :=
  fn_ok (n := 1) (p := 1) (m := m_Rstr) (k := 0) F sc_Rstr rfl rfl rfl (fun cdv A outer s H E hr =>
    b_cons (ss_if (st_cmp (os_eq hr.units) (s_attr R.at_ R.cl R.nb (sv 0)) s_int (nomark _)) (b_one (ss_ret (s_join1 (s_fmt (s_attr R.at_ R.cl R.nt (sv 0)))))) b_nil)
      (b_one (ss_ret (s_join (.cons (s_fmt (s_attr R.at_ R.cl R.nt (sv 0))) (.cons s_str (.cons (s_fmt (s_attr R.at_ R.cl R.nb (sv 0))) .nil)))))))
abbrev s_Rrepr : Stmt := inClass (topR 10) 19
theorem sc_Rrepr : FnScope ["self"] ["self"] (defScope s_Rrepr) := ⟨rfl, rfl, rfl, by decide +kernel, rfl, by decide +kernel, by decide +kernel⟩
def m_Rrepr : Rho → T Out := sRet (joinT [eC (.str "Ratio("), eFmt aT, eC (.str ", "), eFmt aB, eC (.str ")")] Str.empty)
def f_Rrepr : List D → T D := runB 1 m_Rrepr
theorem g_Rrepr (F : Fun K "__repr__" "Ratio.__repr__" s_Rrepr a_f d_f) (R : RH P w K mg base ft C a_i a_t d_i d_t) : FnOk P w K mg base CX0 1 a_f d_f ["self"] (spD K P w 1 f_Rrepr) :=
  fn_ok (n := 1) (p := 1) (m := m_Rrepr) (k := 0) F sc_Rrepr rfl rfl rfl (fun cdv A outer s H E hr =>
    b_one (ss_ret (s_join (.cons s_str (.cons (s_fmt (s_attr R.at_ R.cl R.nt (sv 0))) (.cons s_str (.cons (s_fmt (s_attr R.at_ R.cl R.nb (sv 0))) (.cons s_str .nil))))))))
end
end Pd

/-! What counts as a number; the two numbers of one. -/
namespace Pd
open PySem L2 PySem.Spec PyProof.Rows
/-- one promise from another: what F says wherever G says something -/
theorem spD_imp {K : PySem.W.Frag} {P : Program} {w : World} {n : Nat} {F G : List D → T D} (h : ∀ ds (R : D → Prop), (G ds).all R → (F ds).all R) : ∀ vs H Q E, spD K P w n G vs H Q E → spD K P w n F vs H Q E := fun vs H Q E q => by
  obtain ⟨π, N, ds, a, b, c, d⟩ := q
  exact ⟨π, N, ds, a, b, c, h _ _ d⟩
section
variable {P : Program} {w : World} {K : PySem.W.Frag} {mg : Str → Option Value} {base : Heap} {C a_f a_int a_num a_need a_p a_q g_p g_q : Addr} {d_f d_int d_num d_need d_p d_q : FuncData}
abbrev s_isInt : Stmt := topR 6
theorem sc_isInt : FnScope ["value"] ["value"] (defScope s_isInt) := ⟨rfl, rfl, rfl, by decide +kernel, rfl, by decide +kernel, by decide +kernel⟩
def m_isInt : Rho → T Out := sRet (eAnd (eUn (isDC ["Ratio"] .int) (eVar 0)) (eNot (eUn (isDC ["Ratio"] .bool) (eVar 0))))
def f_isInt : List D → T D := runB 1 m_isInt
theorem g_isInt (F : Fun K "is_integer" "is_integer" s_isInt a_f d_f) (kn : KnownC K ["Ratio"]) (mi : mg "isinstance" = none) (mn : mg "int" = none) (mb : mg "bool" = none) : FnOk P w K mg base CX0 1 a_f d_f ["value"] (spD K P w 1 f_isInt) :=
  fn_ok (n := 1) (p := 1) (m := m_isInt) (k := 0) F sc_isInt rfl rfl rfl (fun cdv A outer s H E hr =>
    b_one (ss_ret (s_and (s_isinstC ["Ratio"] (k := .int) kn mi mn (by decide +kernel) (sv 0)) (s_one (s_not (s_isinstC ["Ratio"] (k := .bool) kn mi mb (by decide +kernel) (sv 0)))))))
abbrev s_isNum : Stmt := topR 11
theorem sc_isNum : FnScope ["value"] ["value"] (defScope s_isNum) := ⟨rfl, rfl, rfl, by decide +kernel, rfl, by decide +kernel, by decide +kernel⟩
def m_isNum : Rho → T Out := sRet (eOr (eCall 1 f_isInt (aCons (eVar 0) aNil)) (eUn (isOC ["Ratio"] "Ratio") (eVar 0)))
def f_isNum : List D → T D := runB 1 m_isNum
theorem g_isNum (F : Fun K "is_number" "is_number" s_isNum a_f d_f) (kn : KnownC K ["Ratio"]) (at0 : ClsAt K "Ratio" C) (ct0 : ClsTy K C) (mi : mg "isinstance" = none) (mC : mg "Ratio" = some (.ref C)) (mg1 : mg "is_integer" = some (.ref a_int)) (k1 : PySem.W.keepIn K (.ref a_int) = true)
    (G1 : FnOk P w K mg base CX0 1 a_int d_int ["value"] (spD K P w 1 f_isInt)) (B1 : Binds K d_int ["value"] []) : FnOk P w K mg base CX0 2 a_f d_f ["value"] (spD K P w 1 f_isNum) :=
  fn_ok (n := 1) (p := 1) (m := m_isNum) (k := 1) F sc_isNum rfl rfl rfl (fun cdv A outer s H E hr =>
    b_one (ss_ret (s_or (s_call G1 (hr.mono (by decide)) mg1 k1 B1 (sa_cons (sv 0) sa_nil)) (s_one (s_isinstO ["Ratio"] kn at0 ct0 (fun c C' h1 h2 _ => by
      have e : c = "Ratio" := by simpa using h1
      subst e
      exact absurd h2 (by decide +kernel)) mi mC (sv 0))))))
abbrev s_need : Stmt := topR 12
theorem sc_need : FnScope ["number"] ["number"] (defScope s_need) := ⟨rfl, rfl, rfl, by decide +kernel, rfl, by decide +kernel, by decide +kernel⟩
def m_need : Rho → T Out := sIf (tNot' (eTest (eCall 1 f_isNum (aCons (eVar 0) aNil)))) sFail bNil
def f_need : List D → T D := runB 1 m_need
theorem g_need (F : Fun K "need_number" "need_number" s_need a_f d_f) (mg1 : mg "is_number" = some (.ref a_num)) (k1 : PySem.W.keepIn K (.ref a_num) = true)
    (G1 : FnOk P w K mg base CX0 2 a_num d_num ["value"] (spD K P w 1 f_isNum)) (B1 : Binds K d_num ["value"] []) : FnOk P w K mg base CX0 3 a_f d_f ["number"] (spD K P w 1 f_need) :=
  fn_ok (n := 1) (p := 1) (m := m_need) (k := 2) F sc_need rfl rfl rfl (fun cdv A outer s H E hr =>
    b_one (ss_if (st_not (st_val (s_call G1 (hr.mono (by decide)) mg1 k1 B1 (sa_cons (sv 0) sa_nil)))) (b_one ss_fail) b_nil))
abbrev s_tb : Stmt := topR 13
theorem sc_tb : FnScope ["number"] ["number"] (defScope s_tb) := ⟨rfl, rfl, rfl, by decide +kernel, rfl, by decide +kernel, by decide +kernel⟩
def m_tb : Rho → T Out := bSeq (sExpr (eCall 1 f_need (aCons (eVar 0) aNil))) (bSeq (sIf (eTest (eUn (isOC ["Ratio"] "Ratio") (eVar 0))) (sRet (eTup (aCons (eProp "Ratio" f_Rtop (eVar 0)) (aCons (eProp "Ratio" f_Rbottom (eVar 0)) aNil)))) bNil)
  (sRet (eTup (aCons (eVar 0) (aCons (eC (.int 1)) aNil)))))
def f_tb : List D → T D := runB 1 m_tb
theorem g_tb (F : Fun K "top_and_bottom" "top_and_bottom" s_tb a_f d_f) (kn : KnownC K ["Ratio"]) (at0 : ClsAt K "Ratio" C) (ct0 : ClsTy K C) (cl : Cls K C) (mi : mg "isinstance" = none) (mC : mg "Ratio" = some (.ref C)) (mg1 : mg "need_number" = some (.ref a_need)) (k1 : PySem.W.keepIn K (.ref a_need) = true)
    (G1 : FnOk P w K mg base CX0 3 a_need d_need ["number"] (spD K P w 1 f_need)) (B1 : Binds K d_need ["number"] [])
    (hp : PropOf K C "top" a_p g_p) (GP : FnOk P w K mg base CX0 1 g_p d_p ["self"] (spD K P w 1 f_Rtop)) (BP : Binds K d_p ["self"] [])
    (hq : PropOf K C "bottom" a_q g_q) (GQ : FnOk P w K mg base CX0 1 g_q d_q ["self"] (spD K P w 1 f_Rbottom)) (BQ : Binds K d_q ["self"] []) : FnOk P w K mg base CX0 4 a_f d_f ["number"] (spD K P w 1 f_tb) :=
  fn_ok (n := 1) (p := 1) (m := m_tb) (k := 3) F sc_tb rfl rfl rfl (fun cdv A outer s H E hr =>
    b_cons (ss_expr (s_call G1 (hr.mono (by decide)) mg1 k1 B1 (sa_cons (sv 0) sa_nil)))
    (b_cons (ss_if (st_val (s_isinstO ["Ratio"] kn at0 ct0 (fun c C' h1 h2 _ => by
      have e : c = "Ratio" := by simpa using h1
      subst e
      exact absurd h2 (by decide +kernel)) mi mC (sv 0)))
      (b_one (ss_ret (s_tup (sa_cons (s_prop at0 cl hp GP (hr.mono (by decide)) BP (sv 0)) (sa_cons (s_prop at0 cl hq GQ (hr.mono (by decide)) BQ (sv 0)) sa_nil))))) b_nil)
      (b_one (ss_ret (s_tup (sa_cons (sv 0) (sa_cons s_int sa_nil)))))))
end
/-! what they come to -/
def ratio (t b : Int) : D := .ins "Ratio" [("_top", .int t), ("_bottom", .int b)]
theorem sRR : (("Ratio" : Str) == "Ratio") = true := by decide +kernel
theorem sTT : (("_top" : Str) == "_top") = true := by decide +kernel
theorem sBB : (("_bottom" : Str) == "_bottom") = true := by decide +kernel
theorem sBT : (("_bottom" : Str) == "_top") = false := by decide +kernel
theorem sTB : (("_top" : Str) == "_bottom") = false := by decide +kernel
theorem isC_ratio (t b : Int) : isC "Ratio" (ratio t b) = .ret () := by unfold ratio isC; simp only [sRR, cond]
theorem top_ratio (t b : Int) : attrD "Ratio" "_top" (ratio t b) = .ret (.int t) := by unfold ratio attrD; simp only [sRR, cond, fieldD, sTT, optT]
theorem bottom_ratio (t b : Int) : attrD "Ratio" "_bottom" (ratio t b) = .ret (.int b) := by unfold ratio attrD; simp only [sRR, cond, fieldD, sBB, sBT, optT]
theorem isO_ratio (t b : Int) : isOC ["Ratio"] "Ratio" (ratio t b) = .ret (.bl true) := by unfold ratio isOC; simp only [sRR, cond]
theorem isDC_ratio (k : Ty5) (t b : Int) : isDC ["Ratio"] k (ratio t b) = .ret (.bl false) := by unfold ratio isDC; simp only [List.contains, List.elem, sRR, cond]
theorem isDC_int (k : Ty5) (i : Int) : isDC ["Ratio"] k (.int i) = .ret (.bl (Ty5.sub .int k)) := rfl
theorem isO_int (i : Int) : isOC ["Ratio"] "Ratio" (.int i) = .ret (.bl false) := rfl
theorem small2 (x y : D) : small [x, y] = true := by unfold small; simp
theorem isInt_int (i : Int) : f_isInt [.int i] = .ret (.bl true) := by
  simp [f_isInt, runB, m_isInt, sRet, eAnd, eUn, eNot, eVar, T.bind, isDC_int, asB, Ty5.sub]
theorem isInt_ratio (t b : Int) : f_isInt [ratio t b] = .ret (.bl false) := by
  simp [f_isInt, runB, m_isInt, sRet, eAnd, eUn, eNot, eVar, T.bind, isDC_ratio, asB, Ty5.sub]
theorem isNum_int (i : Int) : f_isNum [.int i] = .ret (.bl true) := by
  simp [f_isNum, runB, m_isNum, sRet, eOr, eCall, aCons, aNil, eVar, T.bind, isInt_int, asB]
theorem isNum_ratio (t b : Int) : f_isNum [ratio t b] = .ret (.bl true) := by
  simp [f_isNum, runB, m_isNum, sRet, eOr, eCall, aCons, aNil, eVar, eUn, T.bind, isInt_ratio, isO_ratio, asB]
theorem need_of {d : D} (h : f_isNum [d] = .ret (.bl true)) : f_need [d] = .ret .non := by
  simp [f_need, runB, m_need, sIf, tNot', eTest, eCall, aCons, aNil, eVar, T.bind, h, asB, bNil]
theorem tb_int (i : Int) : f_tb [.int i] = .ret (.tup [.int i, .int 1]) := by
  simp [f_tb, runB, m_tb, bSeq, sExpr, sIf, sRet, eTest, eUn, eCall, aCons, aNil, eVar, eC, eTup, T.bind, need_of (isNum_int i), isO_int, asB, bNil, small2]
theorem rtop_ratio (t b : Int) : f_Rtop [ratio t b] = .ret (.int t) := by
  simp [f_Rtop, runB, sRet, aT, eUn, eVar, T.bind, top_ratio]
theorem rbottom_ratio (t b : Int) : f_Rbottom [ratio t b] = .ret (.int b) := by
  simp [f_Rbottom, runB, sRet, aB, eUn, eVar, T.bind, bottom_ratio]
theorem tb_ratio (t b : Int) : f_tb [ratio t b] = .ret (.tup [.int t, .int b]) := by
  simp [f_tb, runB, m_tb, bSeq, sExpr, sIf, sRet, eTest, eUn, eCall, aCons, aNil, eVar, eC, eTup, eProp, isC_ratio, rtop_ratio, rbottom_ratio, T.bind, need_of (isNum_ratio t b), isO_ratio, asB, bNil, small2]
end Pd

/-! The operators with a Ratio on the right, the size; what Ratio's methods come to. -/
namespace Pd
open PySem L2 PySem.Spec PyProof.Rows
section
variable {P : Program} {w : World} {K : PySem.W.Frag} {mg : Str → Option Value} {base : Heap} {ft : List D → T D} {C a_i a_t a_f a_o a_n : Addr} {d_i d_t d_f d_o d_n : FuncData}
/-! other op self, by self op other -/
def m_Rback (F : List D → T D) : Rho → T Out := sRet (eBin (opOwn "Ratio" F) (eVar 0) (eVar 1))
abbrev s_Rradd : Stmt := inClass (topR 10) 6
theorem sc_Rradd : FnScope ["self", "other"] ["self", "other"] (defScope s_Rradd) := ⟨rfl, rfl, rfl, by decide +kernel, rfl, by decide +kernel, by decide +kernel⟩
def f_Rback (F : List D → T D) : List D → T D := runB 2 (m_Rback F)
theorem g_Rradd {G : List D → T D} (F : Fun K "__radd__" "Ratio.__radd__" s_Rradd a_f d_f) (at_ : ClsAt K "Ratio" C) (O : OwnOp K C .Add a_o) (GO : FnOk P w K mg base CX0 5 a_o d_o ["self", "other"] (spD K P w 2 G)) (BO : Binds K d_o ["self", "other"] []) : FnOk P w K mg base CX0 6 a_f d_f ["self", "other"] (spD K P w 2 (f_Rback G)) :=
  fn_ok (n := 2) (p := 2) (m := m_Rback G) (k := 5) F sc_Rradd rfl rfl rfl (fun cdv A outer s H E hr => b_one (ss_ret (s_bin (os_own at_ O GO hr BO) (sv 0) (sv 1))))
abbrev s_Rrmul : Stmt := inClass (topR 10) 10
theorem sc_Rrmul : FnScope ["self", "other"] ["self", "other"] (defScope s_Rrmul) := ⟨rfl, rfl, rfl, by decide +kernel, rfl, by decide +kernel, by decide +kernel⟩
theorem g_Rrmul {G : List D → T D} (F : Fun K "__rmul__" "Ratio.__rmul__" s_Rrmul a_f d_f) (at_ : ClsAt K "Ratio" C) (O : OwnOp K C .Mult a_o) (GO : FnOk P w K mg base CX0 5 a_o d_o ["self", "other"] (spD K P w 2 G)) (BO : Binds K d_o ["self", "other"] []) : FnOk P w K mg base CX0 6 a_f d_f ["self", "other"] (spD K P w 2 (f_Rback G)) :=
  fn_ok (n := 2) (p := 2) (m := m_Rback G) (k := 5) F sc_Rrmul rfl rfl rfl (fun cdv A outer s H E hr => b_one (ss_ret (s_bin (os_own at_ O GO hr BO) (sv 0) (sv 1))))
abbrev s_Rrsub : Stmt := inClass (topR 10) 8
theorem sc_Rrsub : FnScope ["self", "other"] ["self", "other"] (defScope s_Rrsub) := ⟨rfl, rfl, rfl, by decide +kernel, rfl, by decide +kernel, by decide +kernel⟩
def m_Rrsub (N G : List D → T D) : Rho → T Out := sRet (eBin (opOwn "Ratio" G) (eUn (uNegC "Ratio" N) (eVar 0)) (eVar 1))
def f_Rrsub (N G : List D → T D) : List D → T D := runB 2 (m_Rrsub N G)
theorem g_Rrsub {N G : List D → T D} (F : Fun K "__rsub__" "Ratio.__rsub__" s_Rrsub a_f d_f) (at_ : ClsAt K "Ratio" C) (O : OwnOp K C .Add a_o) (GO : FnOk P w K mg base CX0 5 a_o d_o ["self", "other"] (spD K P w 2 G)) (BO : Binds K d_o ["self", "other"] [])
    (hs : PySem.W.findIn K (.ref C) "__neg__" = some (some (.ref a_n))) (hf : PySem.W.isFn K (.ref a_n) = true) (GN : FnOk P w K mg base CX0 5 a_n d_n ["self"] (spD K P w 1 N)) (BN : Binds K d_n ["self"] []) : FnOk P w K mg base CX0 6 a_f d_f ["self", "other"] (spD K P w 2 (f_Rrsub N G)) :=
  fn_ok (n := 2) (p := 2) (m := m_Rrsub N G) (k := 5) F sc_Rrsub rfl rfl rfl (fun cdv A outer s H E hr => b_one (ss_ret (s_bin (os_own at_ O GO hr BO) (s_negC at_ hs hf GN hr BN (sv 0)) (sv 1))))
/-! size -/
abbrev s_Rsize : Stmt := inClass (topR 10) 13
theorem sc_Rsize : FnScope ["self"] ["self"] (defScope s_Rsize) := ⟨rfl, rfl, rfl, by decide +kernel, rfl, by decide +kernel, by decide +kernel⟩
def m_Rsize : Rho → T Out := sRet (mkR (eCa bAbs (aCons aT aNil)) aB)
def f_Rsize : List D → T D := runB 1 m_Rsize
theorem g_Rsize (F : Fun K "size" "Ratio.size" s_Rsize a_f d_f) (R : RH P w K mg base ft C a_i a_t d_i d_t) (ma : mg "abs" = none) : FnOk P w K mg base CX0 5 a_f d_f ["self"] (spD K P w 1 f_Rsize) :=
  fn_ok (n := 1) (p := 1) (m := m_Rsize) (k := 4) F sc_Rsize rfl rfl rfl (fun cdv A outer s H E hr =>
    b_one (ss_ret (s_make (dvs := []) (dds := []) R.M R.GI (hr.mono (by decide)) R.mC R.at_ R.BI .nil (fun _ _ => .nil) (sa_cons (s_callB cs_abs ma (by decide +kernel) (sa_cons (s_attr R.at_ R.cl R.nt (sv 0)) sa_nil)) (sa_cons (s_attr R.at_ R.cl R.nb (sv 0)) sa_nil)))))
end
/-! ## what they come to -/
theorem ratioBy_abs (t b : Int) : (ratioBy t b).natAbs = Nat.gcd t.natAbs b.natAbs := by
  unfold ratioBy; split <;> omega
theorem ratioBy_ne {t b : Int} (hb : b ≠ 0) : ratioBy t b ≠ 0 := fun z => by
  have h := ratioBy_abs t b
  rw [z] at h
  exact hb (Int.natAbs_eq_zero.mp (Nat.eq_zero_of_gcd_eq_zero_right h.symm))
theorem noPylong {x y : Int} (h : y.natAbs.log2 < 9000) : Builtin.divisionGoesByPylong x y = false := by
  unfold Builtin.divisionGoesByPylong
  have : ¬ ((if (y == 0) = true then 0 else y.natAbs.log2 / 30 + 1) > 300) := by
    split <;> omega
  show (decide _ && _) = false
  rw [decide_eq_false this]
  rfl
theorem ratioBy_log {t b : Int} (hb : b ≠ 0) (h : b.natAbs.log2 < 9000) : (ratioBy t b).natAbs.log2 < 9000 := by
  have b0 : b.natAbs ≠ 0 := fun z => hb (Int.natAbs_eq_zero.mp z)
  have r0 : (ratioBy t b).natAbs ≠ 0 := fun z => ratioBy_ne (t := t) hb (Int.natAbs_eq_zero.mp z)
  refine (Nat.log2_lt r0).mpr (Nat.lt_of_le_of_lt ?_ ((Nat.log2_lt b0).mp h))
  rw [ratioBy_abs]
  exact Nat.le_of_dvd (Nat.pos_of_ne_zero b0) (Nat.gcd_dvd_right _ _)
/-- t / b in lowest terms, as a Ratio -/
def lowR (t b : Int) : D := ratio (t.fdiv (ratioBy t b)) (b.fdiv (ratioBy t b))
theorem init_val {t b : Int} (hb : b ≠ 0) (h : b.natAbs.log2 < 9000) : f_Ratio_init [.int t, .int b] = .ret [("_top", .int (t.fdiv (ratioBy t b))), ("_bottom", .int (b.fdiv (ratioBy t b)))] := by
  have l := ratioBy_log (t := t) hb h
  simp [f_Ratio_init, hb, noPylong l]
theorem mk_val {ρ : Rho} {x y : Rho → T D} {t b : Int} (hx : x ρ = .ret (.int t)) (hy : y ρ = .ret (.int b)) (hb : b ≠ 0) (h : b.natAbs.log2 < 9000) : mkR x y ρ = .ret (lowR t b) := by
  simp [mkR, eMake, aCons, aNil, T.bind, hx, hy, init_val hb h, lowR, ratio]
theorem bits_of {i : Int} (h : i.natAbs.log2 < 9000) : bitsOk i = true := by
  unfold bitsOk Builtin.Int.intBits
  apply decide_eq_true
  have : (9001 : Nat) ≤ 2 ^ 20 := by decide
  split <;> omega
theorem mulG_val {i j : Int} (hi : i.natAbs.log2 < 9000) (hj : j.natAbs.log2 < 9000) : opMulG (.int i) (.int j) = .ret (.int (i * j)) := by
  unfold opMulG; simp [bits_of hi, bits_of hj]
theorem eqI (i j : Int) : opEq (.int i) (.int j) = .ret (.bl (i == j)) := by
  have q : ∀ k : Int, SeqAt.shaped (PyData.int k) = true := fun _ => rfl
  simp only [opEq, eqD, D.py, q, Bool.and_self, cond, PyData.eqv]
section
variable {a b c e : Int} {ft : List D → T D} {d : D}
/-- all numbers of fewer than 9000 bits -/
structure Sm (a b c e : Int) : Prop where
  a : a.natAbs.log2 < 9000
  b : b.natAbs.log2 < 9000
  c : c.natAbs.log2 < 9000
  e : e.natAbs.log2 < 9000
theorem add_val (ht : ft [d] = .ret (.tup [.int c, .int e])) (h : Sm a b c e) (h0 : b * e ≠ 0) (hbe : (b * e).natAbs.log2 < 9000) : f_Radd' ft [ratio a b, d] = .ret (lowR (a * e + c * b) (b * e)) := by
  have z := mk_val (ρ := [.val (ratio a b), .val d, .val (.int c), .val (.int e)]) (x := eBin opAdd (eBin opMulG aT (eVar 3)) (eBin opMulG (eVar 2) aB)) (y := eBin opMulG aB (eVar 3)) (t := a * e + c * b) (b := b * e)
    (by simp [eBin, aT, aB, eUn, eVar, T.bind, top_ratio, bottom_ratio, mulG_val h.a h.e, mulG_val h.c h.b, opAdd]) (by simp [eBin, aB, eUn, eVar, T.bind, bottom_ratio, mulG_val h.b h.e]) h0 hbe
  simp [f_Radd', runB, m_Rsum, tbR, bSeq, sAsg, gTp, gsCons, gsNil, gNm, eCall, aCons, aNil, eVar, T.bind, ht, sRet, z, List.replicate]
theorem sub_val (ht : ft [d] = .ret (.tup [.int c, .int e])) (h : Sm a b c e) (h0 : b * e ≠ 0) (hbe : (b * e).natAbs.log2 < 9000) : f_Rsub ft [ratio a b, d] = .ret (lowR (a * e - c * b) (b * e)) := by
  have z := mk_val (ρ := [.val (ratio a b), .val d, .val (.int c), .val (.int e)]) (x := eBin opSub (eBin opMulG aT (eVar 3)) (eBin opMulG (eVar 2) aB)) (y := eBin opMulG aB (eVar 3)) (t := a * e - c * b) (b := b * e)
    (by simp [eBin, aT, aB, eUn, eVar, T.bind, top_ratio, bottom_ratio, mulG_val h.a h.e, mulG_val h.c h.b, opSub]) (by simp [eBin, aB, eUn, eVar, T.bind, bottom_ratio, mulG_val h.b h.e]) h0 hbe
  simp [f_Rsub, runB, m_Rsum, tbR, bSeq, sAsg, gTp, gsCons, gsNil, gNm, eCall, aCons, aNil, eVar, T.bind, ht, sRet, z, List.replicate]
theorem mul_val (ht : ft [d] = .ret (.tup [.int c, .int e])) (h : Sm a b c e) (h0 : b * e ≠ 0) (hbe : (b * e).natAbs.log2 < 9000) : f_Rmul ft [ratio a b, d] = .ret (lowR (a * c) (b * e)) := by
  have z := mk_val (ρ := [.val (ratio a b), .val d, .val (.int c), .val (.int e)]) (x := eBin opMulG aT (eVar 2)) (y := eBin opMulG aB (eVar 3)) (t := a * c) (b := b * e)
    (by simp [eBin, aT, eUn, eVar, T.bind, top_ratio, mulG_val h.a h.c]) (by simp [eBin, aB, eUn, eVar, T.bind, bottom_ratio, mulG_val h.b h.e]) h0 hbe
  simp [f_Rmul, runB, m_Rmul, tbR, bSeq, sAsg, gTp, gsCons, gsNil, gNm, eCall, aCons, aNil, eVar, T.bind, ht, sRet, z, List.replicate]
theorem over_val (ht : ft [d] = .ret (.tup [.int c, .int e])) (h : Sm a b c e) (h0 : b * c ≠ 0) (hbc : (b * c).natAbs.log2 < 9000) : f_Rover ft [ratio a b, d] = .ret (lowR (a * e) (b * c)) := by
  have c0 : ¬ c = 0 := fun q => h0 (by rw [q, Int.mul_zero])
  have z := mk_val (ρ := [.val (ratio a b), .val d, .val (.int c), .val (.int e)]) (x := eBin opMulG aT (eVar 3)) (y := eBin opMulG aB (eVar 2)) (t := a * e) (b := b * c)
    (by simp [eBin, aT, eUn, eVar, T.bind, top_ratio, mulG_val h.a h.e]) (by simp [eBin, aB, eUn, eVar, T.bind, bottom_ratio, mulG_val h.b h.c]) h0 hbc
  have q : eTest (eBin opEq (eVar 2) (eC (.int 0))) [.val (ratio a b), .val d, .val (.int c), .val (.int e)] = .ret false := by
    simp [eTest, eBin, eVar, eC, T.bind, eqI, asB, c0]
  simp [f_Rover, runB, m_Rover, tbR, bSeq, sAsg, gTp, gsCons, gsNil, gNm, eCall, aCons, aNil, eVar, T.bind, ht, sRet, sIf, bNil, q, z, List.replicate]
theorem neg_val (hb : b ≠ 0) (h : b.natAbs.log2 < 9000) : f_Rneg [ratio a b] = .ret (lowR (-a) b) := by
  have z := mk_val (ρ := [.val (ratio a b)]) (x := eUn uNeg aT) (y := aB) (t := -a) (b := b) (by simp [aT, eUn, eVar, T.bind, top_ratio, uNeg]) (by simp [aB, eUn, eVar, T.bind, bottom_ratio]) hb h
  simp [f_Rneg, runB, m_Rneg, T.bind, sRet, z, List.replicate]
theorem size_val (hb : b ≠ 0) (h : b.natAbs.log2 < 9000) : f_Rsize [ratio a b] = .ret (lowR (if a < 0 then -a else a) b) := by
  have z := mk_val (ρ := [.val (ratio a b)]) (x := eCa bAbs (aCons aT aNil)) (y := aB) (t := if a < 0 then -a else a) (b := b) (by simp [aT, eCa, bAbs, aCons, aNil, eUn, eVar, T.bind, top_ratio]) (by simp [aB, eUn, eVar, T.bind, bottom_ratio]) hb h
  simp [f_Rsize, runB, m_Rsize, T.bind, sRet, z, List.replicate]
theorem below_val (ht : ft [d] = .ret (.tup [.int c, .int e])) (h : Sm a b c e) : f_Rbelow ft [ratio a b, d] = .ret (.bl (decide (a * e < c * b))) := by
  simp [f_Rbelow, runB, m_Rord, tbR, bSeq, sAsg, gTp, gsCons, gsNil, gNm, eCall, aCons, aNil, eVar, T.bind, ht, sRet, eBin, aT, aB, eUn, top_ratio, bottom_ratio, mulG_val h.a h.e, mulG_val h.c h.b, opLt, opI, List.replicate]
theorem atmost_val (ht : ft [d] = .ret (.tup [.int c, .int e])) (h : Sm a b c e) : f_Ratmost ft [ratio a b, d] = .ret (.bl (decide (a * e ≤ c * b))) := by
  simp [f_Ratmost, runB, m_Rord, tbR, bSeq, sAsg, gTp, gsCons, gsNil, gNm, eCall, aCons, aNil, eVar, T.bind, ht, sRet, eBin, aT, aB, eUn, top_ratio, bottom_ratio, mulG_val h.a h.e, mulG_val h.c h.b, opLe, opI, List.replicate]
theorem whole_val : f_Rwhole [ratio a b] = .ret (.bl (b == 1)) := by
  simp [f_Rwhole, runB, m_Rwhole, sRet, eBin, aB, eUn, eVar, eC, T.bind, bottom_ratio, eqI, List.replicate]
theorem sign_val : f_Rsign [ratio a b] = .ret (.int (if a < 0 then -1 else if a > 0 then 1 else 0)) := by
  have q1 : eTest (eBin opLt aT (eC (.int 0))) [.val (ratio a b)] = .ret (decide (a < 0)) := by simp [eTest, eBin, aT, eUn, eVar, eC, T.bind, top_ratio, opLt, opI, asB]
  have q2 : eTest (eBin opGt aT (eC (.int 0))) [.val (ratio a b)] = .ret (decide (a > 0)) := by simp [eTest, eBin, aT, eUn, eVar, eC, T.bind, top_ratio, opGt, opI, asB]
  by_cases c1 : a < 0
  · simp [f_Rsign, runB, m_Rsign, bSeq, sIf, sRet, eUn, uNeg, eC, T.bind, q1, c1, List.replicate]
  · by_cases c2 : a > 0
    · simp [f_Rsign, runB, m_Rsign, bSeq, sIf, sRet, eUn, uNeg, eC, T.bind, q1, q2, c1, c2, bNil, List.replicate]
    · simp [f_Rsign, runB, m_Rsign, bSeq, sIf, sRet, eUn, uNeg, eC, T.bind, q1, q2, c1, c2, bNil, List.replicate]
end
end Pd

/-! The law's own pairs in lowest terms: the same as a Ratio's two numbers. -/
namespace Pd
open PySem L2 PySem.Spec PyProof.Rows
section
variable {P : Program} {w : World} {K : PySem.W.Frag} {mg : Str → Option Value} {base : Heap} {a_f a_low : Addr} {d_f d_low : FuncData}
abbrev s_low : Stmt := topR 18
theorem sc_low : FnScope ["_law_top", "_law_bottom", "_law_near", "_law_far"] ["_law_top", "_law_bottom"] (defScope s_low) := ⟨rfl, rfl, rfl, by decide +kernel, rfl, by decide +kernel, by decide +kernel⟩
def lowStep : Rho → T Out := sPar 2 3 (eVar 3) (eBin opSub (eVar 2) (eBin opMulG (eBin opFDivG (eVar 2) (eVar 3)) (eVar 3)))
def lowTest : Rho → T Bool := eTest (eBin opNe (eVar 3) (eC (.int 0)))
def m_low : Rho → T Out := bSeq (sPar 2 3 (eCa bAbs (aCons (eVar 0) aNil)) (eCa bAbs (aCons (eVar 1) aNil))) (bSeq (whT lowTest lowStep 20000)
  (bSeq (sAsg (gNm 2) (eIf (eTest (eBin opGt (eVar 1) (eC (.int 0)))) (eVar 2) (eBin opSub (eC (.int 0)) (eVar 2)))) (sRet (eTup (aCons (eBin opFDivG (eVar 0) (eVar 2)) (aCons (eBin opFDivG (eVar 1) (eVar 2)) aNil))))))
def f_low : List D → T D := runB 4 m_low
theorem g_low (F : Fun K "_law_low" "_law_low" s_low a_f d_f) (ma : mg "abs" = none) : FnOk P w K mg base CX0 1 a_f d_f ["_law_top", "_law_bottom"] (spD K P w 2 f_low) := by
  have nd := sc_low.nd
  refine fn_ok (n := 4) (p := 2) (m := m_low) (k := 0) F sc_low rfl rfl rfl (fun cdv A outer s H E hr => ?_)
  exact b_cons (ss_par rfl nd (s_callB cs_abs ma (by decide +kernel) (sa_cons (sv 0) sa_nil)) (s_callB cs_abs ma (by decide +kernel) (sa_cons (sv 1) sa_nil)))
    (b_cons (ss_while 20000 PassesOwn.never (st_cmp (os_ne hr.units) (sv 3) s_int (nomark _)) (b_one (ss_par rfl nd (sv 3) (s_bin os_sub (sv 2) (s_bin os_mulG (s_bin os_fdivG (sv 2) (sv 3)) (sv 3))))))
    (b_cons (ss_set nd (s_if (st_cmp os_gt (sv 1) s_int (nomark _)) (sv 2) (s_bin os_sub s_int (sv 2)))) (b_one (ss_ret (s_tup (sa_cons (s_bin os_fdivG (sv 0) (sv 2)) (sa_cons (s_bin os_fdivG (sv 1) (sv 2)) sa_nil)))))))
end
theorem neI (i j : Int) : opNe (.int i) (.int j) = .ret (.bl (!(i == j))) := by
  have q : ∀ k : Int, SeqAt.shaped (PyData.int k) = true := fun _ => rfl
  simp only [opNe, eqD, D.py, q, Bool.and_self, cond, PyData.eqv]
theorem fdivG_val {i j : Int} (hj : j ≠ 0) (h : j.natAbs.log2 < 9000) : opFDivG (.int i) (.int j) = .ret (.int (i.fdiv j)) := by
  unfold opFDivG
  simp [hj, noPylong h]
theorem log2_le {x y n : Nat} (h : x ≤ y) (hy : y.log2 < n) (hn : 0 < n) : x.log2 < n := by
  by_cases hx : x = 0
  · subst hx; simpa using hn
  · exact (Nat.log2_lt hx).mpr (Nat.lt_of_le_of_lt h ((Nat.log2_lt (by omega)).mp hy))
section
variable {A B : Ent}
theorem low_test (x y : Nat) : lowTest [A, B, .val (.int x), .val (.int y)] = .ret (y != 0) := by
  have e : ((y : Int) == 0) = (y == 0) := by
    cases y with
    | zero => rfl
    | succ n => rfl
  simp only [lowTest, eTest, eBin, eVar, eC, T.bind, List.getElem?_cons_succ, List.getElem?_cons_zero, neI, asB, e]
  rfl
theorem low_step {x y : Nat} (hy : y ≠ 0) (hx : x.log2 < 9000) (hy2 : y.log2 < 9000) : lowStep [A, B, .val (.int x), .val (.int y)] = .ret (.nx [A, B, .val (.int y), .val (.int ((x % y : Nat) : Int))]) := by
  have e1 : opFDivG (.int x) (.int y) = .ret (.int ((x / y : Nat) : Int)) := by
    rw [fdivG_val (by omega) (by simpa using hy2)]
    have z : (x : Int).fdiv (y : Int) = ((x / y : Nat) : Int) := by
      rw [Int.fdiv_eq_ediv_of_nonneg _ (by omega)]
      rfl
    rw [z]
  have e2 : opMulG (.int ((x / y : Nat) : Int)) (.int y) = .ret (.int ((x / y * y : Nat) : Int)) := by
    have l := log2_le (Nat.div_le_self x y) hx (by decide)
    rw [mulG_val (by rw [Int.natAbs_natCast]; exact l) (by simpa using hy2)]
    rfl
  have e3 : ((x : Int) - ((x / y * y : Nat) : Int)) = ((x % y : Nat) : Int) := by
    have := Nat.div_add_mod x y
    have h2 : y * (x / y) = x / y * y := Nat.mul_comm _ _
    omega
  simp only [lowStep, sPar, eBin, eVar, T.bind, List.getElem?_cons_succ, List.getElem?_cons_zero, e1, e2, opSub, e3, List.set_cons_succ, List.set_cons_zero]
theorem low_run : ∀ (f x y : Nat), x * y < 2 ^ f → y ≤ x → x.log2 < 9000 → whT lowTest lowStep (f + 1) [A, B, .val (.int x), .val (.int y)] = .ret (.nx [A, B, .val (.int (Nat.gcd x y : Nat)), .val (.int 0)])
  | f, x, 0, _, _, _ => by
    rw [whT, low_test]
    simp [T.bind]
  | 0, x, y + 1, h, h1, _ => by
    have : 0 < x * (y + 1) := Nat.mul_pos (by omega) (by omega)
    simp at h
    omega
  | f + 1, x, y + 1, h, h1, h2 => by
    have hy2 := log2_le h1 h2 (by decide)
    have r := Nat.mod_lt x (show 0 < y + 1 by omega)
    have q : (y + 1) * (x % (y + 1)) < 2 ^ f := by
      have a := Nat.div_add_mod x (y + 1)
      have b : 1 ≤ x / (y + 1) := Nat.div_pos h1 (by omega)
      have c : (y + 1) * 1 ≤ (y + 1) * (x / (y + 1)) := Nat.mul_le_mul_left _ b
      have d : 2 * (x % (y + 1)) ≤ x := by omega
      have e : (2 * (x % (y + 1))) * (y + 1) ≤ x * (y + 1) := Nat.mul_le_mul_right _ d
      have g : (2 * (x % (y + 1))) * (y + 1) = 2 * ((y + 1) * (x % (y + 1))) := by rw [Nat.mul_assoc, Nat.mul_comm (x % (y + 1))]
      rw [g] at e
      rw [Nat.pow_succ] at h
      omega
    rw [whT, low_test, T.bind]
    have t : (y + 1 != 0) = true := rfl
    rw [t]
    show (lowStep _).bind _ = _
    rw [low_step (by omega) h2 hy2, T.bind]
    show whT lowTest lowStep (f + 1) _ = _
    rw [low_run f (y + 1) (x % (y + 1)) q (Nat.le_of_lt r) hy2]
    have z : Nat.gcd (y + 1) (x % (y + 1)) = Nat.gcd x (y + 1) := by
      rw [Nat.gcd_comm x, Nat.gcd_rec (y + 1) x, Nat.gcd_comm]
    rw [z]
/-- any two numbers: one turn more -/
theorem low_any {f x y : Nat} (h : x * y < 2 ^ f) (hx : x.log2 < 9000) (hy : y.log2 < 9000) : whT lowTest lowStep (f + 2) [A, B, .val (.int x), .val (.int y)] = .ret (.nx [A, B, .val (.int (Nat.gcd x y : Nat)), .val (.int 0)]) := by
  by_cases c : y ≤ x
  · exact low_run (f + 1) x y (by rw [Nat.pow_succ]; omega) c hx
  · have y0 : y ≠ 0 := by omega
    rw [whT, low_test, T.bind]
    have t : (y != 0) = true := by simp [y0]
    rw [t]
    show (lowStep _).bind _ = _
    have m : x % y = x := Nat.mod_eq_of_lt (by omega)
    rw [low_step y0 hx hy, T.bind, m]
    show whT lowTest lowStep (f + 1) _ = _
    rw [low_run f y x (by rw [Nat.mul_comm]; exact h) (by omega) hy, Nat.gcd_comm]
end
theorem abs_val (i : Int) : bAbs [.int i] = .ret (.int (i.natAbs : Nat)) := by
  unfold bAbs
  have e : (if i < 0 then -i else i) = (i.natAbs : Int) := by split <;> omega
  show T.ret (D.int (if i < 0 then -i else i)) = _
  rw [e]
/-- the law's pair is the Ratio's two numbers -/
theorem low_val {t b : Int} (hb : b ≠ 0) (h1 : t.natAbs.log2 < 9000) (h2 : b.natAbs.log2 < 9000) : f_low [.int t, .int b] = .ret (.tup [.int (t.fdiv (ratioBy t b)), .int (b.fdiv (ratioBy t b))]) := by
  have hp : t.natAbs * b.natAbs < 2 ^ 19998 := by
    have q : ∀ x : Nat, x.log2 < 9000 → x < 2 ^ 9000 := fun x h => by
      by_cases z : x = 0
      · rw [z]; exact Nat.two_pow_pos _
      · exact (Nat.log2_lt z).mp h
    refine Nat.lt_of_lt_of_le (Nat.mul_lt_mul'' (q _ h1) (q _ h2)) ?_
    rw [← Nat.pow_add]
    exact Nat.pow_le_pow_right (by decide) (by decide)
  have loop := low_any (A := .val (.int t)) (B := .val (.int b)) hp h1 h2
  have l := ratioBy_log (t := t) hb h2
  have n := ratioBy_ne (t := t) hb
  have near : eIf (eTest (eBin opGt (eVar 1) (eC (.int 0)))) (eVar 2) (eBin opSub (eC (.int 0)) (eVar 2)) [.val (.int t), .val (.int b), .val (.int (Nat.gcd t.natAbs b.natAbs : Nat)), .val (.int 0)] = .ret (.int (ratioBy t b)) := by
    unfold ratioBy
    by_cases c : b > 0
    · have c2 : ¬ b < 0 := by omega
      simp [eIf, eTest, eBin, eVar, eC, T.bind, opGt, opI, asB, c, c2]
    · have c2 : b < 0 := by omega
      simp [eIf, eTest, eBin, eVar, eC, T.bind, opGt, opI, opSub, asB, c, c2]
  have first : sPar 2 3 (eCa bAbs (aCons (eVar 0) aNil)) (eCa bAbs (aCons (eVar 1) aNil)) [.val (.int t), .val (.int b), .un, .un] = .ret (.nx [.val (.int t), .val (.int b), .val (.int (t.natAbs : Nat)), .val (.int (b.natAbs : Nat))]) := by
    simp [sPar, eCa, aCons, aNil, eVar, T.bind, abs_val]
  have last : eTup (aCons (eBin opFDivG (eVar 0) (eVar 2)) (aCons (eBin opFDivG (eVar 1) (eVar 2)) aNil)) [.val (.int t), .val (.int b), .val (.int (ratioBy t b)), .val (.int 0)] = .ret (.tup [.int (t.fdiv (ratioBy t b)), .int (b.fdiv (ratioBy t b))]) := by
    simp [eTup, aCons, aNil, eBin, eVar, T.bind, fdivG_val n l, small2]
  show (m_low [.val (.int t), .val (.int b), .un, .un]).bind _ = _
  simp only [m_low, bSeq, first, T.bind, loop, sAsg, near, gNm, List.set_cons_succ, List.set_cons_zero, sRet, last]
end Pd

/-! A Ratio is a rational number. -/
namespace Pd
open PySem L2 PySem.Spec PyProof.Rows
def qR (q : Rat) : D := ratio q.num q.den
theorem ratioBy_pos {t b : Int} (h : 0 < b) : ratioBy t b = (Int.gcd b t : Int) := by
  unfold ratioBy
  rw [if_neg (by omega), Nat.gcd_comm]
  rfl
theorem ratioBy_neg {t b : Int} (h : b < 0) : ratioBy t b = -(Int.gcd b t : Int) := by
  unfold ratioBy
  rw [if_pos h, Nat.gcd_comm]
  rfl
theorem low_num {t b : Int} (hb : b ≠ 0) : t.fdiv (ratioBy t b) = (Rat.divInt t b).num := by
  rw [Rat.num_divInt]
  rcases Int.lt_or_gt_of_ne hb with h | h
  · rw [ratioBy_neg h, Int.sign_eq_neg_one_of_neg h]
    have e : t.fdiv (-(Int.gcd b t : Int)) = (-t).fdiv (Int.gcd b t : Int) := by
      have := Int.neg_fdiv_neg (-t) (Int.gcd b t : Int)
      rw [Int.neg_neg] at this
      exact this
    rw [e, Int.fdiv_eq_ediv_of_nonneg _ (by omega)]
    simp
  · rw [ratioBy_pos h, Int.sign_eq_one_of_pos h, Int.fdiv_eq_ediv_of_nonneg _ (by omega), Int.one_mul]
theorem low_den {t b : Int} (hb : b ≠ 0) : b.fdiv (ratioBy t b) = ((Rat.divInt t b).den : Int) := by
  rw [Rat.den_divInt, if_neg hb]
  rcases Int.lt_or_gt_of_ne hb with h | h
  · rw [ratioBy_neg h]
    have e : b.fdiv (-(Int.gcd b t : Int)) = (-b).fdiv (Int.gcd b t : Int) := by
      have := Int.neg_fdiv_neg (-b) (Int.gcd b t : Int)
      rw [Int.neg_neg] at this
      exact this
    rw [e, Int.fdiv_eq_ediv_of_nonneg _ (by omega)]
    have z : -b = (b.natAbs : Int) := by omega
    rw [z]
    simp
  · rw [ratioBy_pos h, Int.fdiv_eq_ediv_of_nonneg _ (by omega)]
    have z : b = (b.natAbs : Int) := by omega
    rw [z]
    simp
theorem lowR_rat {t b : Int} (hb : b ≠ 0) : lowR t b = qR (Rat.divInt t b) := by
  unfold lowR qR
  rw [low_num hb, low_den hb]
/-- the law's pair -/
def qP (q : Rat) : D := .tup [.int q.num, .int q.den]
theorem low_rat {t b : Int} (hb : b ≠ 0) (h1 : t.natAbs.log2 < 9000) (h2 : b.natAbs.log2 < 9000) : f_low [.int t, .int b] = .ret (qP (Rat.divInt t b)) := by
  rw [low_val hb h1 h2, low_num hb, low_den hb]
  rfl
/-- both numbers below 2 ** n -/
structure Sz (n : Nat) (q : Rat) : Prop where
  num : q.num.natAbs < 2 ^ n
  den : q.den < 2 ^ n
theorem Sz.mono {m n : Nat} {q : Rat} (h : Sz m q) (l : m ≤ n) : Sz n q :=
  ⟨Nat.lt_of_lt_of_le h.num (Nat.pow_le_pow_right (by decide) l), Nat.lt_of_lt_of_le h.den (Nat.pow_le_pow_right (by decide) l)⟩
theorem log_of {x n k : Nat} (h : x < 2 ^ n) (l : n ≤ k) (hk : 0 < k) : x.log2 < k := by
  by_cases z : x = 0
  · subst z; simpa using hk
  · exact (Nat.log2_lt z).mpr (Nat.lt_of_lt_of_le h (Nat.pow_le_pow_right (by decide) l))
theorem sz_divInt {n : Nat} {t b : Int} (hb : b ≠ 0) (ht : t.natAbs < 2 ^ n) (h : b.natAbs < 2 ^ n) : Sz n (Rat.divInt t b) := by
  constructor
  · rw [Rat.num_divInt]
    refine Nat.lt_of_le_of_lt (Int.natAbs_ediv_le_natAbs _ _) ?_
    rw [Int.natAbs_mul]
    rcases Int.lt_or_gt_of_ne hb with h | h
    · rw [Int.sign_eq_neg_one_of_neg h]; simpa using ht
    · rw [Int.sign_eq_one_of_pos h]; simpa using ht
  · rw [Rat.den_divInt, if_neg hb]
    exact Nat.lt_of_le_of_lt (Nat.div_le_self _ _) h
theorem Sz.mulP {m n : Nat} {x y : Nat} (hx : x < 2 ^ m) (hy : y < 2 ^ n) : x * y < 2 ^ (m + n) := by
  rw [Nat.pow_add]
  exact Nat.mul_lt_mul'' hx hy
/-- a number of either kind: its top and bottom as top_and_bottom tells them -/
inductive Num : D → Rat → Prop where
  | q (p : Rat) : Num (qR p) p
  | i (i : Int) : Num (.int i) (i : Rat)
theorem Num.tb {d : D} {q : Rat} (h : Num d q) : f_tb [d] = .ret (.tup [.int q.num, .int q.den]) := by
  cases h with
  | q p => exact tb_ratio _ _
  | i i => exact tb_int i
section
variable {p q : Rat} {d : D} {m n : Nat}
theorem den_ne : (q.den : Int) ≠ 0 := by have := q.den_nz; omega
theorem den2_ne : (p.den : Int) * (q.den : Int) ≠ 0 := Int.mul_ne_zero den_ne den_ne
theorem sm_of (hp : Sz m p) (hq : Sz n q) (l : m ≤ 9000 ∧ n ≤ 9000) : Sm p.num p.den q.num q.den :=
  ⟨log_of hp.num l.1 (by decide), by simpa using log_of hp.den l.1 (by decide), log_of hq.num l.2 (by decide), by simpa using log_of hq.den l.2 (by decide)⟩
theorem den2_log (hp : Sz m p) (hq : Sz n q) (l : m + n ≤ 9000) : ((p.den : Int) * (q.den : Int)).natAbs.log2 < 9000 := by
  rw [Int.natAbs_mul]
  simpa using log_of (Sz.mulP hp.den hq.den) l (by decide)
theorem add_rat (hd : Num d q) (hp : Sz m p) (hq : Sz n q) (l : m + n ≤ 9000) : f_Radd' f_tb [qR p, d] = .ret (qR (p + q)) := by
  have e := add_val hd.tb (sm_of hp hq (by omega)) den2_ne (den2_log hp hq l)
  show f_Radd' f_tb [ratio p.num p.den, d] = _
  rw [e, lowR_rat den2_ne, ← Rat.divInt_add_divInt _ _ den_ne den_ne, Rat.num_divInt_den, Rat.num_divInt_den]
theorem sub_rat (hd : Num d q) (hp : Sz m p) (hq : Sz n q) (l : m + n ≤ 9000) : f_Rsub f_tb [qR p, d] = .ret (qR (p - q)) := by
  have e := sub_val hd.tb (sm_of hp hq (by omega)) den2_ne (den2_log hp hq l)
  show f_Rsub f_tb [ratio p.num p.den, d] = _
  rw [e, lowR_rat den2_ne, ← Rat.divInt_sub_divInt _ _ den_ne den_ne, Rat.num_divInt_den, Rat.num_divInt_den]
theorem mul_rat (hd : Num d q) (hp : Sz m p) (hq : Sz n q) (l : m + n ≤ 9000) : f_Rmul f_tb [qR p, d] = .ret (qR (p * q)) := by
  have e := mul_val hd.tb (sm_of hp hq (by omega)) den2_ne (den2_log hp hq l)
  show f_Rmul f_tb [ratio p.num p.den, d] = _
  rw [e, lowR_rat den2_ne, ← Rat.divInt_mul_divInt, Rat.num_divInt_den, Rat.num_divInt_den]
theorem neg_rat (hp : Sz m p) (l : m ≤ 9000) : f_Rneg [qR p] = .ret (qR (-p)) := by
  have e := neg_val (a := p.num) (den_ne (q := p)) (by simpa using log_of hp.den l (by decide))
  show f_Rneg [ratio p.num p.den] = _
  rw [e, lowR_rat den_ne, ← Rat.neg_divInt, Rat.num_divInt_den]
end
end Pd

/-! The law's own sums, differences, products of pairs; sizes; quotients; order. -/
namespace Pd
open PySem L2 PySem.Spec PyProof.Rows
section
variable {P : Program} {w : World} {K : PySem.W.Frag} {mg : Str → Option Value} {base : Heap} {a_f a_low : Addr} {d_f d_low : FuncData}
def at2 (i : Nat) (k : Int) : Rho → T D := eBin ixD (eVar i) (eC (.int k))
def m_pair2 (f : D → D → T D) : Rho → T Out := sRet (eCall 2 f_low (aCons (eBin f (eBin opMulG (at2 0 0) (at2 1 1)) (eBin opMulG (at2 1 0) (at2 0 1))) (aCons (eBin opMulG (at2 0 1) (at2 1 1)) aNil)))
abbrev s_lplus : Stmt := topR 19
theorem sc_lplus : FnScope ["_law_one", "_law_other"] ["_law_one", "_law_other"] (defScope s_lplus) := ⟨rfl, rfl, rfl, by decide +kernel, rfl, by decide +kernel, by decide +kernel⟩
def f_lplus : List D → T D := runB 2 (m_pair2 opAdd)
theorem g_lplus (F : Fun K "_law_plus" "_law_plus" s_lplus a_f d_f) (mg1 : mg "_law_low" = some (.ref a_low)) (k1 : PySem.W.keepIn K (.ref a_low) = true) (G1 : FnOk P w K mg base CX0 1 a_low d_low ["_law_top", "_law_bottom"] (spD K P w 2 f_low)) (B1 : Binds K d_low ["_law_top", "_law_bottom"] []) :
    FnOk P w K mg base CX0 2 a_f d_f ["_law_one", "_law_other"] (spD K P w 2 f_lplus) :=
  fn_ok (n := 2) (p := 2) (m := m_pair2 opAdd) (k := 1) F sc_lplus rfl rfl rfl (fun cdv A outer s H E hr =>
    b_one (ss_ret (s_call G1 (hr.mono (by decide)) mg1 k1 B1 (sa_cons (s_bin os_add (s_bin os_mulG (s_ix (sv 0) s_int (fun _ _ => rfl)) (s_ix (sv 1) s_int (fun _ _ => rfl))) (s_bin os_mulG (s_ix (sv 1) s_int (fun _ _ => rfl)) (s_ix (sv 0) s_int (fun _ _ => rfl)))) (sa_cons (s_bin os_mulG (s_ix (sv 0) s_int (fun _ _ => rfl)) (s_ix (sv 1) s_int (fun _ _ => rfl))) sa_nil)))))
abbrev s_lless : Stmt := topR 20
theorem sc_lless : FnScope ["_law_one", "_law_other"] ["_law_one", "_law_other"] (defScope s_lless) := ⟨rfl, rfl, rfl, by decide +kernel, rfl, by decide +kernel, by decide +kernel⟩
def f_lless : List D → T D := runB 2 (m_pair2 opSub)
theorem g_lless (F : Fun K "_law_less" "_law_less" s_lless a_f d_f) (mg1 : mg "_law_low" = some (.ref a_low)) (k1 : PySem.W.keepIn K (.ref a_low) = true) (G1 : FnOk P w K mg base CX0 1 a_low d_low ["_law_top", "_law_bottom"] (spD K P w 2 f_low)) (B1 : Binds K d_low ["_law_top", "_law_bottom"] []) :
    FnOk P w K mg base CX0 2 a_f d_f ["_law_one", "_law_other"] (spD K P w 2 f_lless) :=
  fn_ok (n := 2) (p := 2) (m := m_pair2 opSub) (k := 1) F sc_lless rfl rfl rfl (fun cdv A outer s H E hr =>
    b_one (ss_ret (s_call G1 (hr.mono (by decide)) mg1 k1 B1 (sa_cons (s_bin os_sub (s_bin os_mulG (s_ix (sv 0) s_int (fun _ _ => rfl)) (s_ix (sv 1) s_int (fun _ _ => rfl))) (s_bin os_mulG (s_ix (sv 1) s_int (fun _ _ => rfl)) (s_ix (sv 0) s_int (fun _ _ => rfl)))) (sa_cons (s_bin os_mulG (s_ix (sv 0) s_int (fun _ _ => rfl)) (s_ix (sv 1) s_int (fun _ _ => rfl))) sa_nil)))))
abbrev s_ltimes : Stmt := topR 21
theorem sc_ltimes : FnScope ["_law_one", "_law_other"] ["_law_one", "_law_other"] (defScope s_ltimes) := ⟨rfl, rfl, rfl, by decide +kernel, rfl, by decide +kernel, by decide +kernel⟩
def m_ltimes : Rho → T Out := sRet (eCall 2 f_low (aCons (eBin opMulG (at2 0 0) (at2 1 0)) (aCons (eBin opMulG (at2 0 1) (at2 1 1)) aNil)))
def f_ltimes : List D → T D := runB 2 m_ltimes
theorem g_ltimes (F : Fun K "_law_times" "_law_times" s_ltimes a_f d_f) (mg1 : mg "_law_low" = some (.ref a_low)) (k1 : PySem.W.keepIn K (.ref a_low) = true) (G1 : FnOk P w K mg base CX0 1 a_low d_low ["_law_top", "_law_bottom"] (spD K P w 2 f_low)) (B1 : Binds K d_low ["_law_top", "_law_bottom"] []) :
    FnOk P w K mg base CX0 2 a_f d_f ["_law_one", "_law_other"] (spD K P w 2 f_ltimes) :=
  fn_ok (n := 2) (p := 2) (m := m_ltimes) (k := 1) F sc_ltimes rfl rfl rfl (fun cdv A outer s H E hr =>
    b_one (ss_ret (s_call G1 (hr.mono (by decide)) mg1 k1 B1 (sa_cons (s_bin os_mulG (s_ix (sv 0) s_int (fun _ _ => rfl)) (s_ix (sv 1) s_int (fun _ _ => rfl))) (sa_cons (s_bin os_mulG (s_ix (sv 0) s_int (fun _ _ => rfl)) (s_ix (sv 1) s_int (fun _ _ => rfl))) sa_nil)))))
end
theorem at_0 (x y : D) : ixD (.tup [x, y]) (.int 0) = .ret x := rfl
theorem at_1 (x y : D) : ixD (.tup [x, y]) (.int 1) = .ret y := rfl
section
variable {p q : Rat} {d : D} {m n : Nat}
theorem two_pow_add (h : a < 2 ^ n) (h2 : b < 2 ^ n) : a + b < 2 ^ (n + 1) := by
  rw [Nat.pow_succ]; omega
theorem num_sz (hp : Sz m p) (hq : Sz n q) : (p.num * (q.den : Int)).natAbs < 2 ^ (m + n) := by
  rw [Int.natAbs_mul]
  simpa using Sz.mulP hp.num hq.den
theorem num_sz' (hp : Sz m p) (hq : Sz n q) : (q.num * (p.den : Int)).natAbs < 2 ^ (m + n) := by
  rw [Nat.add_comm]
  exact num_sz hq hp
theorem den_sz (hp : Sz m p) (hq : Sz n q) : ((p.den : Int) * (q.den : Int)).natAbs < 2 ^ (m + n) := by
  rw [Int.natAbs_mul]
  simpa using Sz.mulP hp.den hq.den
theorem sz_add (hp : Sz m p) (hq : Sz n q) : Sz (m + n + 1) (p + q) := by
  rw [← Rat.num_divInt_den p, ← Rat.num_divInt_den q, Rat.divInt_add_divInt _ _ den_ne den_ne]
  exact sz_divInt den2_ne (Nat.lt_of_le_of_lt (Int.natAbs_add_le _ _) (two_pow_add (num_sz hp hq) (num_sz' hp hq))) (Nat.lt_of_lt_of_le (den_sz hp hq) (Nat.pow_le_pow_right (by decide) (by omega)))
theorem sz_sub (hp : Sz m p) (hq : Sz n q) : Sz (m + n + 1) (p - q) := by
  rw [← Rat.num_divInt_den p, ← Rat.num_divInt_den q, Rat.divInt_sub_divInt _ _ den_ne den_ne]
  exact sz_divInt den2_ne (Nat.lt_of_le_of_lt (Int.natAbs_sub_le _ _) (two_pow_add (num_sz hp hq) (num_sz' hp hq))) (Nat.lt_of_lt_of_le (den_sz hp hq) (Nat.pow_le_pow_right (by decide) (by omega)))
theorem sz_mul (hp : Sz m p) (hq : Sz n q) : Sz (m + n) (p * q) := by
  rw [← Rat.num_divInt_den p, ← Rat.num_divInt_den q, Rat.divInt_mul_divInt]
  refine sz_divInt den2_ne ?_ (den_sz hp hq)
  rw [Int.natAbs_mul]
  exact Sz.mulP hp.num hq.num
theorem lplus_val (hp : Sz m p) (hq : Sz n q) (l : m + n < 9000) : f_lplus [qP p, qP q] = .ret (qP (p + q)) := by
  have s := sm_of hp hq (by omega)
  have lo := low_rat (t := p.num * q.den + q.num * p.den) (den2_ne (p := p) (q := q)) (log_of (Nat.lt_of_le_of_lt (Int.natAbs_add_le _ _) (two_pow_add (num_sz hp hq) (num_sz' hp hq))) (by omega) (by decide)) (den2_log hp hq (by omega))
  rw [← Rat.divInt_add_divInt _ _ den_ne den_ne, Rat.num_divInt_den, Rat.num_divInt_den] at lo
  simp [f_lplus, runB, m_pair2, sRet, eCall, aCons, aNil, eBin, at2, eVar, eC, T.bind, qP, at_0, at_1, mulG_val s.a s.e, mulG_val s.c s.b, mulG_val s.b s.e, opAdd, lo, List.replicate]
theorem lless_val (hp : Sz m p) (hq : Sz n q) (l : m + n < 9000) : f_lless [qP p, qP q] = .ret (qP (p - q)) := by
  have s := sm_of hp hq (by omega)
  have lo := low_rat (t := p.num * q.den - q.num * p.den) (den2_ne (p := p) (q := q)) (log_of (Nat.lt_of_le_of_lt (Int.natAbs_sub_le _ _) (two_pow_add (num_sz hp hq) (num_sz' hp hq))) (by omega) (by decide)) (den2_log hp hq (by omega))
  rw [← Rat.divInt_sub_divInt _ _ den_ne den_ne, Rat.num_divInt_den, Rat.num_divInt_den] at lo
  simp [f_lless, runB, m_pair2, sRet, eCall, aCons, aNil, eBin, at2, eVar, eC, T.bind, qP, at_0, at_1, mulG_val s.a s.e, mulG_val s.c s.b, mulG_val s.b s.e, opSub, lo, List.replicate]
theorem ltimes_val (hp : Sz m p) (hq : Sz n q) (l : m + n < 9000) : f_ltimes [qP p, qP q] = .ret (qP (p * q)) := by
  have s := sm_of hp hq (by omega)
  have lo := low_rat (t := p.num * q.num) (den2_ne (p := p) (q := q)) (log_of (by rw [Int.natAbs_mul]; exact Sz.mulP hp.num hq.num) (by omega) (by decide)) (den2_log hp hq (by omega))
  rw [← Rat.divInt_mul_divInt, Rat.num_divInt_den, Rat.num_divInt_den] at lo
  simp [f_ltimes, runB, m_ltimes, sRet, eCall, aCons, aNil, eBin, at2, eVar, eC, T.bind, qP, at_0, at_1, mulG_val s.a s.c, mulG_val s.b s.e, lo, List.replicate]
/-- p / q -/
theorem over_rat (hd : Num d q) (hp : Sz m p) (hq : Sz n q) (l : m + n ≤ 9000) (q0 : q.num ≠ 0) : f_Rover f_tb [qR p, d] = .ret (qR (p / q)) := by
  have b0 : (p.den : Int) * q.num ≠ 0 := Int.mul_ne_zero den_ne q0
  have e := over_val hd.tb (sm_of hp hq (by omega)) b0 (log_of (by rw [Int.natAbs_mul]; simpa using Sz.mulP hp.den hq.num) l (by decide))
  show f_Rover f_tb [ratio p.num p.den, d] = _
  rw [e, lowR_rat b0, ← Rat.divInt_mul_divInt, Rat.num_divInt_den, ← Rat.inv_def, ← Rat.div_def]
theorem below_rat (hd : Num d q) (hp : Sz m p) (hq : Sz n q) (l : m ≤ 9000 ∧ n ≤ 9000) : f_Rbelow f_tb [qR p, d] = .ret (.bl (decide (p < q))) := by
  have e := below_val hd.tb (sm_of hp hq l)
  show f_Rbelow f_tb [ratio p.num p.den, d] = _
  have z : decide (p.num * (q.den : Int) < q.num * (p.den : Int)) = decide (p < q) := decide_eq_decide.mpr (Rat.lt_iff p q).symm
  rw [e, z]
theorem atmost_rat (hd : Num d q) (hp : Sz m p) (hq : Sz n q) (l : m ≤ 9000 ∧ n ≤ 9000) : f_Ratmost f_tb [qR p, d] = .ret (.bl (decide (p ≤ q))) := by
  have e := atmost_val hd.tb (sm_of hp hq l)
  show f_Ratmost f_tb [ratio p.num p.den, d] = _
  have z : decide (p.num * (q.den : Int) ≤ q.num * (p.den : Int)) = decide (p ≤ q) := decide_eq_decide.mpr (Rat.le_iff p q).symm
  rw [e, z]
end
end Pd

/-! Ratio's ==. -/
namespace Pd
open PySem L2 PySem.Spec PyProof.Rows
section
variable {P : Program} {w : World} {K : PySem.W.Frag} {mg : Str → Option Value} {base : Heap} {ft : List D → T D} {C a_i a_t a_f : Addr} {d_i d_t d_f : FuncData}
abbrev s_Req : Stmt := inClass (topR 10) 17
theorem sc_Req : FnScope ["self", "other"] ["self", "other"] (defScope s_Req) := ⟨rfl, rfl, rfl, by decide +kernel, rfl, by decide +kernel, by decide +kernel⟩
def m_Req : Rho → T Out := sRet (eAnd (eUn (isOC ["Ratio"] "Ratio") (eVar 1)) (eAnd (eBin opEq aT (eUn (attrD "Ratio" "_top") (eVar 1))) (eBin opEq aB (eUn (attrD "Ratio" "_bottom") (eVar 1)))))
def f_Req : List D → T D := runB 2 m_Req
theorem g_Req (F : Fun K "__eq__" "Ratio.__eq__" s_Req a_f d_f) (R : RH P w K mg base ft C a_i a_t d_i d_t) (kn : KnownC K ["Ratio"]) (ct0 : ClsTy K C) (mi : mg "isinstance" = none) : FnOk P w K mg base CX0 1 a_f d_f ["self", "other"] (spD K P w 2 f_Req) :=
  fn_ok (n := 2) (p := 2) (m := m_Req) (k := 0) F sc_Req rfl rfl rfl (fun cdv A outer s H E hr =>
    b_one (ss_ret (s_and (s_isinstO ["Ratio"] kn R.at_ ct0 (fun c C' h1 h2 _ => by
      have e : c = "Ratio" := by simpa using h1
      subst e
      exact absurd h2 (by decide +kernel)) mi R.mC (sv 1))
      (s_and (s_cmp (os_eq hr.units) (s_attr R.at_ R.cl R.nt (sv 0)) (s_attr R.at_ R.cl R.nt (sv 1)) (nomark _)) (s_one (s_cmp (os_eq hr.units) (s_attr R.at_ R.cl R.nb (sv 0)) (s_attr R.at_ R.cl R.nb (sv 1)) (nomark _)))))))
end
theorem eq_int (p : Rat) (i : Int) : f_Req [qR p, .int i] = .ret (.bl false) := by
  simp [f_Req, runB, m_Req, sRet, eAnd, eUn, eVar, T.bind, isO_int, asB, List.replicate]
theorem eq_rat (p q : Rat) : f_Req [qR p, qR q] = .ret (.bl (decide (p = q))) := by
  have e1 : eUn (isOC ["Ratio"] "Ratio") (eVar 1) [.val (qR p), .val (qR q)] = .ret (.bl true) := by simp [eUn, eVar, T.bind, qR, isO_ratio]
  have e2 : eBin opEq aT (eUn (attrD "Ratio" "_top") (eVar 1)) [.val (qR p), .val (qR q)] = .ret (.bl (p.num == q.num)) := by simp only [eBin, aT, eUn, eVar, T.bind, qR, top_ratio, List.getElem?_cons_succ, List.getElem?_cons_zero, eqI]
  have e3 : eBin opEq aB (eUn (attrD "Ratio" "_bottom") (eVar 1)) [.val (qR p), .val (qR q)] = .ret (.bl ((p.den : Int) == (q.den : Int))) := by simp only [eBin, aB, eUn, eVar, T.bind, qR, bottom_ratio, List.getElem?_cons_succ, List.getElem?_cons_zero, eqI]
  by_cases c1 : p.num = q.num
  · by_cases c2 : p.den = q.den
    · have e : p = q := Rat.ext c1 c2
      subst e
      simp [f_Req, runB, m_Req, sRet, eAnd, T.bind, e1, e2, e3, asB, List.replicate]
    · have e : ¬ p = q := fun z => c2 (by rw [z])
      have c3 : ((p.den : Int) == (q.den : Int)) = false := beq_false_of_ne fun z => c2 (Int.ofNat.inj z)
      simp [f_Req, runB, m_Req, sRet, eAnd, T.bind, e1, e2, e3, c1, c3, e, asB, List.replicate]
  · have e : ¬ p = q := fun z => c1 (by rw [z])
    have c3 : (p.num == q.num) = false := by simpa using c1
    simp [f_Req, runB, m_Req, sRet, eAnd, T.bind, e1, e2, c3, e, asB, List.replicate]
end Pd

/-! Texts of numbers: their lengths, repr of two numbers in a list, Ratio's str and repr. -/
namespace Pd
open PySem L2 PySem.Spec PyProof.Rows
theorem nat_len {n : Nat} (h : n.log2 < 1920) : (Str.ofString (toString (n : Int))).length ≤ 1920 := by
  refine toString_length_le (by omega) (by decide) ?_
  have q : n < 2 ^ 1920 := by
    by_cases z : n = 0
    · rw [z]; exact Nat.two_pow_pos _
    · exact (Nat.log2_lt z).mp h
  have q2 : n < 10 ^ 1920 := Nat.lt_of_lt_of_le q (Nat.pow_le_pow_left (by decide) _)
  exact_mod_cast q2
theorem int_len {i : Int} (h : i.natAbs.log2 < 1920) : (Str.ofString (toString i)).length ≤ 1921 := by
  cases i with
  | ofNat n => exact Nat.le_succ_of_le (nat_len (n := n) h)
  | negSucc n =>
    have e : toString (Int.negSucc n) = "-" ++ toString ((n + 1 : Nat) : Int) := rfl
    have l := nat_len (n := n + 1) h
    rw [PyProof.Rows.ofString_length] at l ⊢
    rw [e, String.toList_append, List.length_append]
    have o : "-".toList.length = 1 := by decide
    omega
theorem str_val {i : Int} (h : i.natAbs.log2 < 1920) : strD (.int i) = some (Str.ofString (toString i)) := by
  show cond (decide (i.natAbs.log2 < 1920)) _ _ = _
  rw [decide_eq_true h]
  rfl
theorem two_len {i j : Int} (h : i.natAbs.log2 < 1920) (h2 : j.natAbs.log2 < 1920) : (PyData.shown (.list [.int i, .int j])).length ≤ 100000 := by
  have a := int_len h
  have b := int_len h2
  simp only [PyData.shown, PyData.shownAll, listText, textFrom, Str.length_append]
  have o1 : ("[" : Str).length = 1 := by decide +kernel
  have o2 : ("]" : Str).length = 1 := by decide +kernel
  have o3 : (", " : Str).length = 2 := by decide +kernel
  have o4 : (Str.ofString "").length = 0 := by decide +kernel
  simp only [o1, o2, o3, Nat.lt_irrefl, if_false, gt_iff_lt, Nat.zero_lt_succ, if_true, Nat.zero_add, o4]
  omega
theorem repr2 {i j : Int} (h : i.natAbs.log2 < 1920) (h2 : j.natAbs.log2 < 1920) : bRepr [.lst [.int i, .int j]] = .ret (.str (PyData.shown (.list [.int i, .int j]))) := by
  have s : PyData.showable (.list [.int i, .int j]) = true := by simp [PyData.showable, PyData.showableAll, h, h2]
  have d : PyData.hasDict (.list [.int i, .int j]) = false := by simp [PyData.hasDict, PyData.hasDictAll]
  have e : decide (PyData.depth (.list [.int i, .int j]) ≤ 32) = true := rfl
  show cond _ _ _ = _
  rw [s, d, e, decide_eq_true (two_len h h2)]
  rfl
/-! Ratio's own texts -/
section
variable {p : Rat}
theorem log_len {x : Nat} (h : x.log2 < 1920) : (Str.ofString (toString (x : Int))).length ≤ 1921 := int_len (i := x) h
theorem fmtT (h : p.num.natAbs.log2 < 1920) : eFmt aT [.val (qR p)] = .ret (.str (toString p.num)) := by
  simp only [eFmt, aT, eUn, eVar, T.bind, qR, top_ratio, List.getElem?_cons_zero, str_val h, optT]
theorem fmtB (h : p.den.log2 < 1920) : eFmt aB [.val (qR p)] = .ret (.str (toString (p.den : Int))) := by
  simp only [eFmt, aB, eUn, eVar, T.bind, qR, bottom_ratio, List.getElem?_cons_zero, str_val (i := (p.den : Int)) h, optT]
theorem join_nil (acc : Str) (ρ : Rho) : joinT [] acc ρ = .ret (.str acc) := rfl
theorem join_cons {m : Rho → T D} {ms : List (Rho → T D)} {acc y : Str} {ρ : Rho} (h : m ρ = .ret (.str y)) (l : (acc ++ y).length ≤ 100000) : joinT (m :: ms) acc ρ = joinT ms (acc ++ y) ρ := by
  show (m ρ).bind _ = _
  rw [h]
  show cond (decide ((acc ++ y).length ≤ 100000)) _ _ = _
  rw [decide_eq_true l]
  rfl
theorem rstr_val (h1 : p.num.natAbs.log2 < 1920) (h2 : p.den.log2 < 1920) : f_Rstr [qR p] = .ret (.str (if p.den = 1 then toString p.num else Str.empty ++ toString p.num ++ "/" ++ toString (p.den : Int))) := by
  have a := int_len h1
  have b := log_len h2
  have o1 : ("/" : Str).length = 1 := by decide +kernel
  have o2 : Str.empty.length = 0 := by decide +kernel
  have t : eTest (eBin opEq aB (eC (.int 1))) [.val (qR p)] = .ret (((p.den : Int)) == 1) := by
    simp only [eTest, eBin, aB, eUn, eVar, eC, T.bind, qR, bottom_ratio, List.getElem?_cons_zero, eqI, asB]
  have j : joinT [eFmt aT, eC (.str "/"), eFmt aB] Str.empty [.val (qR p)] = .ret (.str (Str.empty ++ toString p.num ++ "/" ++ toString (p.den : Int))) := by
    rw [join_cons (fmtT h1) (by simp only [Str.length_append, o2]; omega), join_cons (y := "/") rfl (by simp only [Str.length_append, o1, o2]; omega), join_cons (fmtB h2) (by simp only [Str.length_append, o1, o2]; omega), join_nil]
  by_cases c : p.den = 1
  · have c2 : ((p.den : Int) == 1) = true := by rw [c]; rfl
    rw [if_pos c]
    show (m_Rstr [.val (qR p)]).bind _ = _
    simp only [m_Rstr, bSeq, sIf, T.bind, t, c2, cond, sRet, fmtT h1]
  · have c2 : ((p.den : Int) == 1) = false := beq_false_of_ne fun z => c (Int.ofNat.inj z)
    rw [if_neg c]
    show (m_Rstr [.val (qR p)]).bind _ = _
    simp only [m_Rstr, bSeq, sIf, T.bind, t, c2, cond, sRet, bNil, j]
theorem rrepr_val (h1 : p.num.natAbs.log2 < 1920) (h2 : p.den.log2 < 1920) : f_Rrepr [qR p] = .ret (.str (Str.empty ++ "Ratio(" ++ toString p.num ++ ", " ++ toString (p.den : Int) ++ ")")) := by
  have a := int_len h1
  have b := log_len h2
  have o1 : ("Ratio(" : Str).length = 6 := by decide +kernel
  have o2 : Str.empty.length = 0 := by decide +kernel
  have o3 : (", " : Str).length = 2 := by decide +kernel
  have o4 : (")" : Str).length = 1 := by decide +kernel
  have j : joinT [eC (.str "Ratio("), eFmt aT, eC (.str ", "), eFmt aB, eC (.str ")")] Str.empty [.val (qR p)] = .ret (.str (Str.empty ++ "Ratio(" ++ toString p.num ++ ", " ++ toString (p.den : Int) ++ ")")) := by
    rw [join_cons (y := "Ratio(") rfl (by simp only [Str.length_append, o1, o2]; omega), join_cons (fmtT h1) (by simp only [Str.length_append, o1, o2]; omega), join_cons (y := ", ") rfl (by simp only [Str.length_append, o1, o2, o3]; omega), join_cons (fmtB h2) (by simp only [Str.length_append, o1, o2, o3]; omega), join_cons (y := ")") rfl (by simp only [Str.length_append, o1, o2, o3, o4]; omega), join_nil]
  show (m_Rrepr [.val (qR p)]).bind _ = _
  simp only [m_Rrepr, sRet, T.bind, j]
end
end Pd

/-! The law's own texts, and its own eye on a Ratio. -/
namespace Pd
open PySem L2 PySem.Spec PyProof.Rows
section
variable {P : Program} {w : World} {K : PySem.W.Frag} {mg : Str → Option Value} {base : Heap} {C a_f a_p g_p a_q g_q : Addr} {d_f d_p d_q : FuncData}
abbrev s_ltext : Stmt := topR 23
theorem sc_ltext : FnScope ["_law_pair"] ["_law_pair"] (defScope s_ltext) := ⟨rfl, rfl, rfl, by decide +kernel, rfl, by decide +kernel, by decide +kernel⟩
def strAt (k : Int) : Rho → T D := eCa bStr (aCons (at2 0 k) aNil)
def m_ltext : Rho → T Out := sRet (eIf (eTest (eBin opEq (at2 0 1) (eC (.int 1)))) (strAt 0) (eBin opAdd (eBin opAdd (strAt 0) (eC (.str "/"))) (strAt 1)))
def f_ltext : List D → T D := runB 1 m_ltext
theorem g_ltext (F : Fun K "_law_text" "_law_text" s_ltext a_f d_f) (ms : mg "str" = none) : FnOk P w K mg base CX0 1 a_f d_f ["_law_pair"] (spD K P w 1 f_ltext) :=
  fn_ok (n := 1) (p := 1) (m := m_ltext) (k := 0) F sc_ltext rfl rfl rfl (fun cdv A outer s H E hr =>
    b_one (ss_ret (s_if (st_cmp (os_eq hr.units) (s_ix (sv 0) s_int (fun _ _ => rfl)) s_int (nomark _)) (s_callTy cs_str ms (by decide +kernel) (sa_cons (s_ix (sv 0) s_int (fun _ _ => rfl)) sa_nil))
      (s_bin os_add (s_bin os_add (s_callTy cs_str ms (by decide +kernel) (sa_cons (s_ix (sv 0) s_int (fun _ _ => rfl)) sa_nil)) s_str) (s_callTy cs_str ms (by decide +kernel) (sa_cons (s_ix (sv 0) s_int (fun _ _ => rfl)) sa_nil))))))
abbrev s_lis : Stmt := topR 24
theorem sc_lis : FnScope ["_law_told", "_law_pair"] ["_law_told", "_law_pair"] (defScope s_lis) := ⟨rfl, rfl, rfl, by decide +kernel, rfl, by decide +kernel, by decide +kernel⟩
def m_lis : Rho → T Out := sRet (eAnd (eUn (isOC ["Ratio"] "Ratio") (eVar 0)) (eBin opEq (eCa bRepr (aCons (eL (lLst (aCons (eProp "Ratio" f_Rtop (eVar 0)) (aCons (eProp "Ratio" f_Rbottom (eVar 0)) aNil)))) aNil)) (eCa bRepr (aCons (eL (lLst (aCons (at2 1 0) (aCons (at2 1 1) aNil)))) aNil))))
def f_lis : List D → T D := runB 2 m_lis
theorem g_lis (F : Fun K "_law_is" "_law_is" s_lis a_f d_f) (kn : KnownC K ["Ratio"]) (at0 : ClsAt K "Ratio" C) (ct0 : ClsTy K C) (cl : Cls K C) (mi : mg "isinstance" = none) (mr : mg "repr" = none) (mC : mg "Ratio" = some (.ref C))
    (hp : PropOf K C "top" a_p g_p) (GP : FnOk P w K mg base CX0 1 g_p d_p ["self"] (spD K P w 1 f_Rtop)) (BP : Binds K d_p ["self"] [])
    (hq : PropOf K C "bottom" a_q g_q) (GQ : FnOk P w K mg base CX0 1 g_q d_q ["self"] (spD K P w 1 f_Rbottom)) (BQ : Binds K d_q ["self"] []) : FnG P w K mg base CX0 3 a_f d_f ["_law_told", "_law_pair"] (spD K P w 2 f_lis) :=
  fnG_ok (n := 2) (p := 2) (m := m_lis) (k := 2) F sc_lis rfl rfl rfl (fun cdv A outer s H E hr hgd =>
    b_one (ss_ret (s_and (s_isinstO ["Ratio"] kn at0 ct0 (fun c C' h1 h2 _ => by
      have e : c = "Ratio" := by simpa using h1
      subst e
      exact absurd h2 (by decide +kernel)) mi mC (sv 0))
      (s_one (s_cmp (os_eq hr.units) (s_callB (cs_repr hgd hr.units) mr (by decide +kernel) (sa_cons (s_ofL (sl_lst (sa_cons (s_prop at0 cl hp GP (hr.mono (by decide)) BP (sv 0)) (sa_cons (s_prop at0 cl hq GQ (hr.mono (by decide)) BQ (sv 0)) sa_nil)))) sa_nil))
        (s_callB (cs_repr hgd hr.units) mr (by decide +kernel) (sa_cons (s_ofL (sl_lst (sa_cons (s_ix (sv 1) s_int (fun _ _ => rfl)) (sa_cons (s_ix (sv 1) s_int (fun _ _ => rfl)) sa_nil)))) sa_nil)) (nomark _))))))
end
theorem ok_of (s : String) : PyData.strOk (Str.ofString s) = true := by
  simp only [PyData.strOk, Str.ofString_eq_toList, List.all_toArray, List.all_map]
  apply List.all_eq_true.mpr
  intro c _
  have v := c.valid
  apply decide_eq_true
  rcases v with v | v
  · exact Nat.lt_trans v (by decide)
  · exact v.2
theorem ok_app {x y : Str} (a : PyData.strOk x = true) (b : PyData.strOk y = true) : PyData.strOk (x ++ y) = true := by
  unfold PyData.strOk at *
  rw [Str.cps_append, Array.all_append, a, b]
  rfl
theorem ok_two (i j : Int) : PyData.strOk (PyData.shown (.list [.int i, .int j])) = true := by
  simp only [PyData.shown, PyData.shownAll, listText, textFrom]
  exact ok_app (ok_app (ok_app (ok_app (ok_app (ok_of _) (ok_of _)) (ok_of _)) (ok_of _)) (ok_of _)) (ok_of _)
theorem opEq_str {x : Str} (h : PyData.strOk x = true) : opEq (.str x) (.str x) = .ret (.bl true) := by
  have q : SeqAt.shaped (PyData.str x) = true := by simp [SeqAt.shaped, PyData.canLay0, PyData.depth, h]
  simp only [opEq, eqD, D.py, q, Bool.and_self, cond, PyData.eqv, beq_self_eq_true]
section
variable {p : Rat}
theorem lis_val (h1 : p.num.natAbs.log2 < 1920) (h2 : p.den.log2 < 1920) : f_lis [qR p, qP p] = .ret (.bl true) := by
  have r := repr2 (i := p.num) (j := (p.den : Int)) h1 h2
  have e1 : eUn (isOC ["Ratio"] "Ratio") (eVar 0) [.val (qR p), .val (qP p)] = .ret (.bl true) := by simp only [eUn, eVar, T.bind, qR, List.getElem?_cons_zero, isO_ratio]
  have e2 : eCa bRepr (aCons (eL (lLst (aCons (eProp "Ratio" f_Rtop (eVar 0)) (aCons (eProp "Ratio" f_Rbottom (eVar 0)) aNil)))) aNil) [.val (qR p), .val (qP p)] = .ret (.str (PyData.shown (.list [.int p.num, .int p.den]))) := by
    simp only [eCa, aCons, aNil, eL, lLst, eProp, eVar, T.bind, qR, List.getElem?_cons_zero, isC_ratio, rtop_ratio, rbottom_ratio, small2, cond, r]
  have e3 : eCa bRepr (aCons (eL (lLst (aCons (at2 1 0) (aCons (at2 1 1) aNil)))) aNil) [.val (qR p), .val (qP p)] = .ret (.str (PyData.shown (.list [.int p.num, .int p.den]))) := by
    simp only [eCa, aCons, aNil, eL, lLst, at2, eBin, eC, eVar, T.bind, qP, List.getElem?_cons_succ, List.getElem?_cons_zero, at_0, at_1, small2, cond, r]
  show (m_lis [.val (qR p), .val (qP p)]).bind _ = _
  simp only [m_lis, sRet, eAnd, T.bind, e1, asB, cond, eBin, e2, e3, opEq_str (ok_two p.num p.den)]
theorem empty_app (x : Str) : Str.empty ++ x = x := by
  cases x with
  | mk c =>
    show Str.mk (Str.empty.cps ++ c) = Str.mk c
    have e : Str.empty.cps = #[] := by decide +kernel
    rw [e, Array.empty_append]
theorem bStr_val {i : Int} (h : i.natAbs.log2 < 1920) : bStr [.int i] = .ret (.str (toString i)) := by
  show (optT (strD (.int i))).bind _ = _
  rw [str_val h]
  rfl
theorem add_str {x y : Str} (h : x.length + y.length ≤ 100000) : opAdd (.str x) (.str y) = .ret (.str (x ++ y)) := by
  show cond (decide (x.length + y.length ≤ 100000)) _ _ = _
  rw [decide_eq_true h]
  rfl
/-- the law's text is the Ratio's -/
theorem ltext_val (h1 : p.num.natAbs.log2 < 1920) (h2 : p.den.log2 < 1920) : f_ltext [qP p] = f_Rstr [qR p] := by
  rw [rstr_val h1 h2, empty_app]
  have a := int_len h1
  have b := log_len h2
  have o1 : ("/" : Str).length = 1 := by decide +kernel
  have t : eTest (eBin opEq (at2 0 1) (eC (.int 1))) [.val (qP p)] = .ret (((p.den : Int)) == 1) := by
    simp only [eTest, eBin, at2, eVar, eC, T.bind, qP, List.getElem?_cons_zero, at_1, eqI, asB]
  have s0 : strAt 0 [.val (qP p)] = .ret (.str (toString p.num)) := by
    simp only [strAt, eCa, aCons, aNil, at2, eBin, eVar, eC, T.bind, qP, List.getElem?_cons_zero, at_0, bStr_val h1]
  have s1 : strAt 1 [.val (qP p)] = .ret (.str (toString (p.den : Int))) := by
    simp only [strAt, eCa, aCons, aNil, at2, eBin, eVar, eC, T.bind, qP, List.getElem?_cons_zero, at_1, bStr_val (i := (p.den : Int)) h2]
  have j : eBin opAdd (eBin opAdd (strAt 0) (eC (.str "/"))) (strAt 1) [.val (qP p)] = .ret (.str (toString p.num ++ "/" ++ toString (p.den : Int))) := by
    have q1 := add_str (x := toString p.num) (y := "/") (by simp only [o1]; omega)
    have q2 := add_str (x := Str.ofString (toString p.num) ++ "/") (y := toString (p.den : Int)) (by simp only [Str.length_append, o1]; omega)
    simp only [eBin, s0, s1, eC, T.bind, q1, q2]
  by_cases c : p.den = 1
  · have c2 : ((p.den : Int) == 1) = true := by rw [c]; rfl
    rw [if_pos c]
    show (m_ltext [.val (qP p)]).bind _ = _
    simp only [m_ltext, sRet, eIf, T.bind, t, c2, cond, s0]
  · have c2 : ((p.den : Int) == 1) = false := beq_false_of_ne fun z => c (Int.ofNat.inj z)
    rw [if_neg c]
    show (m_ltext [.val (qP p)]).bind _ = _
    simp only [m_ltext, sRet, eIf, T.bind, t, c2, cond, j]
end
end Pd

/-! is_list, is_count, what is a number of any value; Ratio.total. -/
namespace Pd
open PySem L2 PySem.Spec PyProof.Rows
section
variable {X : Cx} {pos : Pos} {e : Expr} {es : List Expr} {ms : Rho → T (List D)}
/-- a class that a name of the def's own holds is made -/
theorem pe_makeL {k i : Nat} {C f : Addr} {fd : FuncData} {ps : List Str} {sp : Sp} {dvs : List V} {dv : List Value} {x : Str} {p : Pos} {t : TA} (M : Mk X.K C f) (F : FnOk X.prog X.w X.K X.mg X.base CX0 k f fd ps sp) (hr : Room (k + 1) X.A) (hN : X.N[i]? = some x) (hv : Vis X.env.scope x) (hb : Binds X.K fd ps dv) (hd : Vals dvs dv) (ha : PA X (e :: es) t)
    (hdb : (x == ("__debug__" : Str)) = false := by decide) (hcd : (x == ("__classdict__" : Str)) = false := by decide)
    (he : starEach (e :: es) X.env = (false, eval e X.env) :: starEach es X.env := by rfl) (hpl : (backTo pos (starEach es X.env)).any (·.1) = false := by rfl) :
    PE X (.Call (.Name x p) (e :: es) [] pos) (fun σ H Q => σ[i]? = some (some (.ref C)) ∧ t σ H fun vs H1 => ∀ x dx, H1 x = none → H1 dx = none → dx ≠ x → sp (.ref x :: (vs ++ dvs)) (upd (upd H1 dx (.own x)) x (.ins C dx [])) (fun v H2 => v = .non ∧ Q (.ref x) H2) E0) := by
  refine ⟨fun pins s σ H Q I h => ?_⟩
  obtain ⟨hs, ht⟩ := h
  refine wpAny_Call_Name_kw (thn ((pe_var (pos := p) hN hv hdb hcd).run pins s σ H (fun v H1 => v = .ref C ∧ H1 = H) I ⟨.ref C, hs, rfl, rfl⟩) fun u s1 ⟨v, H1, I1, r1, q1⟩ => ?_)
  obtain ⟨rfl, rfl⟩ := q1
  cases r1
  refine PySem.W.callWith_K (h₀ := X.base) I.ok.mod.kin M.kp (thn (ha.run pos pins s1 σ _ _ I1 ht) fun us s2 ⟨vs, H2, I2, r, q⟩ => ⟨I2.kIn, ?_⟩) he hpl
  exact run_make M F hr hb hd pass0 I2 r q
theorem makeL_wp {k n i : Nat} {C f : Addr} {fd : FuncData} {ps : List Str} {c x : Str} {p : Pos} {dvs : List V} {dv : List Value} {dds : List D} {F : List D → T (List (Str × D))} (M : Mk X.K C f) (G : FnOk X.prog X.w X.K X.mg X.base CX0 k f fd ps (spI X.K X.prog X.w c (n + dvs.length) F)) (hr : Room (k + 1) X.A) (at_ : ClsAt X.K c C)
    (hb : Binds X.K fd ps dv) (hd : Vals dvs dv) (hdd : ∀ π H, RvL X.K X.prog X.w π H dvs dds) (ha : SndA X (e :: es) ms) (hN : X.N[i]? = some x) (hv : Vis X.env.scope x) {π : Addr} {N0 : Addr → Bool} {H0 : Hp} {N : Addr → Bool} {H : Hp} {σ : L2.St} {ρ : Rho} {Q : VK} (I : EnvOk X.K X.prog X.w π N0 H0 N H σ ρ) (hi : σ[i]? = some (some (.ref C))) (h : (eMake c n dds F ms ρ).all (Kd X π N H Q))
    (hdb : (x == ("__debug__" : Str)) = false := by decide) (hcd : (x == ("__classdict__" : Str)) = false := by decide) (he : starEach (e :: es) X.env = (false, eval e X.env) :: starEach es X.env := by rfl) (hpl : (backTo pos (starEach es X.env)).any (·.1) = false := by rfl) :
    wpE X (.Call (.Name x p) (e :: es) [] pos) σ H Q :=
  ⟨_, pe_makeL M G hr hN hv hb hd pa_wp hdb hcd he hpl, hi, ha I (T.all_mono (fun ds hds vs H1 e1 r x dx hx hdx ne => by
    obtain ⟨hl, hds⟩ := cond_all hds
    have hn := I.hn.ext e1
    obtain ⟨a1, a2, a3⟩ := made_env (C := C) hn hx hdx ne
    have hl : ds.length = n := by simpa using hl
    have Nx : N x = false := hn.new hx
    refine ⟨π, plus N x, x, dx, C, vs ++ dvs, ds ++ dds, rfl, by rw [List.length_append, r.length, hl], a1, plus_self, upd_same, at_, (r.mono a2).append (hdd _ _), T.all_mono (fun fs q H' fv keep pot hx2 rf => ⟨rfl, ?_⟩) (T.all_bind.mp hds)⟩
    have k2 : Kp π (Hide (plus N x) H') (Hide N H') := Kp.less fun a h => plus_old h
    refine q (.ref x) H' ⟨fun a o n h => ?_, pot⟩ (.ins at_ (by rw [hide_in Nx]; exact hx2) (hn.pot.ne hx) (RvF.mono k2 rf))
    have h1 := e1.kp a o n h
    exact keep a o n (ne_of_none h1 hx) (a3 a o h1)) (T.all_bind.mp h))⟩
end
section
variable {P : Program} {w : World} {K : PySem.W.Frag} {mg : Str → Option Value} {base : Heap} {C a_f a_int a_num a_list a_i a_t a_o : Addr} {d_f d_int d_num d_list d_i d_t d_o : FuncData} {ft : List D → T D}
abbrev s_isList : Stmt := topR 8
theorem sc_isList : FnScope ["value"] ["value"] (defScope s_isList) := ⟨rfl, rfl, rfl, by decide +kernel, rfl, by decide +kernel, by decide +kernel⟩
def f_isList : List D → T D := runB 1 (sRet (eUn (isD2 ["Ratio"] .list .tuple) (eVar 0)))
theorem g_isList (F : Fun K "is_list" "is_list" s_isList a_f d_f) (kn : KnownC K ["Ratio"]) (mi : mg "isinstance" = none) (ml : mg "list" = none) (mt : mg "tuple" = none) : FnOk P w K mg base CX0 1 a_f d_f ["value"] (spD K P w 1 f_isList) :=
  fn_ok (n := 1) (p := 1) (k := 0) F sc_isList rfl rfl rfl (fun cdv A outer s H E hr => b_one (ss_ret (s_isinst2 ["Ratio"] (k1 := .list) (k2 := .tuple) kn mi ml mt (by decide +kernel) (by decide +kernel) (sv 0))))
def m_isIntY : Rho → T Out := sRet (eAnd (eUn (isDY ["Ratio"] .int) (eVar 0)) (eNot (eUn (isDY ["Ratio"] .bool) (eVar 0))))
def f_isIntY : List D → T D := runB 1 m_isIntY
theorem g_isIntY (F : Fun K "is_integer" "is_integer" s_isInt a_f d_f) (kn : KnownC K ["Ratio"]) (mi : mg "isinstance" = none) (mn : mg "int" = none) (mb : mg "bool" = none) : FnOk P w K mg base CX0 1 a_f d_f ["value"] (spD K P w 1 f_isIntY) :=
  fn_ok (n := 1) (p := 1) (m := m_isIntY) (k := 0) F sc_isInt rfl rfl rfl (fun cdv A outer s H E hr =>
    b_one (ss_ret (s_and (s_isinstY ["Ratio"] (k := .int) kn mi mn (by decide +kernel) (sv 0)) (s_one (s_not (s_isinstY ["Ratio"] (k := .bool) kn mi mb (by decide +kernel) (sv 0)))))))
def m_isNumY : Rho → T Out := sRet (eOr (eCall 1 f_isIntY (aCons (eVar 0) aNil)) (eUn (isOY ["Ratio"] "Ratio") (eVar 0)))
def f_isNumY : List D → T D := runB 1 m_isNumY
theorem g_isNumY (F : Fun K "is_number" "is_number" s_isNum a_f d_f) (kn : KnownC K ["Ratio"]) (at0 : ClsAt K "Ratio" C) (ct0 : ClsTy K C) (cd0 : PySem.W.kitOne K (.type "dict") (.ref C) = some false) (mi : mg "isinstance" = none) (mC : mg "Ratio" = some (.ref C)) (mg1 : mg "is_integer" = some (.ref a_int)) (k1 : PySem.W.keepIn K (.ref a_int) = true)
    (G1 : FnOk P w K mg base CX0 1 a_int d_int ["value"] (spD K P w 1 f_isIntY)) (B1 : Binds K d_int ["value"] []) : FnOk P w K mg base CX0 2 a_f d_f ["value"] (spD K P w 1 f_isNumY) :=
  fn_ok (n := 1) (p := 1) (m := m_isNumY) (k := 1) F sc_isNum rfl rfl rfl (fun cdv A outer s H E hr =>
    b_one (ss_ret (s_or (s_call G1 (hr.mono (by decide)) mg1 k1 B1 (sa_cons (sv 0) sa_nil)) (s_one (s_isinstOY ["Ratio"] kn at0 ct0 cd0 (fun c C' h1 h2 _ => by
      have e : c = "Ratio" := by simpa using h1
      subst e
      exact absurd h2 (by decide +kernel)) mi mC (sv 0))))))
abbrev s_isCount : Stmt := topR 7
theorem sc_isCount : FnScope ["value"] ["value"] (defScope s_isCount) := ⟨rfl, rfl, rfl, by decide +kernel, rfl, by decide +kernel, by decide +kernel⟩
def m_isCount : Rho → T Out := sRet (eAnd (eCall 1 f_isIntY (aCons (eVar 0) aNil)) (eBin opGe (eVar 0) (eC (.int 0))))
def f_isCount : List D → T D := runB 1 m_isCount
theorem g_isCount (F : Fun K "is_count" "is_count" s_isCount a_f d_f) (mg1 : mg "is_integer" = some (.ref a_int)) (k1 : PySem.W.keepIn K (.ref a_int) = true)
    (G1 : FnOk P w K mg base CX0 1 a_int d_int ["value"] (spD K P w 1 f_isIntY)) (B1 : Binds K d_int ["value"] []) : FnOk P w K mg base CX0 2 a_f d_f ["value"] (spD K P w 1 f_isCount) :=
  fn_ok (n := 1) (p := 1) (m := m_isCount) (k := 1) F sc_isCount rfl rfl rfl (fun cdv A outer s H E hr =>
    b_one (ss_ret (s_and (s_call G1 (hr.mono (by decide)) mg1 k1 B1 (sa_cons (sv 0) sa_nil)) (s_one (s_cmp os_ge (sv 0) s_int (nomark _))))))
/-! total -/
def outB : Out → T D
  | .nx _ => .ret .non
  | .rt d => .ret d
  | .bk _ => .fail
  | .ct _ => .fail
def totRest (fa : D → D → T D) (it : Rho → T (List D)) : Rho → T Out := bSeq (sFor it (gNm 3) (sSet 2 (eBin fa (eVar 2) (eVar 3)))) (sRet (eVar 2))
def totFrom (fa : D → D → T D) (it : Rho → T (List D)) (d : D) : T D := (f_isList [d]).bind fun b => (asB b).bind fun b => cond b ((eMake "Ratio" 1 [.int 1] f_Ratio_init (aCons (eC (.int 0)) aNil) [.un, .val d, .un, .un]).bind fun z => (totRest fa it [.un, .val d, .val z, .un]).bind outB) .fail
def f_total (fa : D → D → T D) : List D → T D
  | [.lst ds] => totFrom fa (iLst (eVar 1)) (.lst ds)
  | [.tup ds] => totFrom fa (iTp (eVar 1)) (.tup ds)
  | _ => .fail
abbrev s_total : Stmt := inClass (topR 10) 16
theorem sc_total : FnScope ["cls", "numbers", "answer", "number"] ["cls", "numbers"] (defScope s_total) := ⟨rfl, rfl, rfl, by decide +kernel, rfl, by decide +kernel, by decide +kernel⟩
theorem tot_run {Xc : Cx} {Q : VK} {π : Addr} {N : Addr → Bool} {H : Hp} {σ : L2.St} {d : D} {c1 : Expr} {xs rest : List Stmt} {fa : D → D → T D} {it : Rho → T (List D)} {e2 : Expr} {x2 : Str} {p0 p1 p2 : Pos}
    (h1 : SndT Xc c1 (tNot' (eTest (eCall 1 f_isList (aCons (eVar 1) aNil))))) (ps2 : PS Xc (.Assign [.Name x2 p1] e2 p2) (tAsg (wpE Xc e2) (gName 2)))
    (h2 : ∀ ⦃N' : Addr → Bool⦄ ⦃H' : Hp⦄ ⦃σ' : L2.St⦄ ⦃Q' : VK⦄, EnvOk Xc.K Xc.prog Xc.w π N H N' H' σ' [.un, .val d, .un, .un] → σ'[0]? = some (some (.ref C)) → (eMake "Ratio" 1 [.int 1] f_Ratio_init (aCons (eC (.int 0)) aNil) [.un, .val d, .un, .un]).all (Kd Xc π N' H' Q') → wpE Xc e2 σ' H' Q')
    (h3 : SndB Xc rest (totRest fa it)) (I : EnvOk Xc.K Xc.prog Xc.w π N H N H σ [.un, .val d, .un, .un]) (hs : σ[0]? = some (some (.ref C)))
    (h : (totFrom fa it d).all fun d => ∀ v H', Ex π H H' → Rv Xc.K Xc.prog Xc.w π (Hide N H') v d → Q v H') : wpSs Xc (.If c1 xs [] p0 :: .Assign [.Name x2 p1] e2 p2 :: rest) { nx := fun _ H' => Q .non H', rt := Q } σ H := by
  refine ⟨_, pss_cons (ps_if pt_wp pss_wp pss_nil) (pss_cons ps2 pss_wp), h1 I ?_⟩
  show (((f_isList [d]).bind asB).bind fun b => T.ret (!b)).all _
  refine T.all_bind.mpr (T.all_bind.mpr (T.all_mono (fun b hb => ?_) (T.all_bind.mp h)))
  refine T.all_mono (fun b hb => ?_) (T.all_bind.mp hb)
  obtain ⟨rfl, hb⟩ := cond_all hb
  intro H2 e2
  refine iteF ?_
  refine h2 (I.ext e2) hs (T.all_mono (fun z hz => ?_) (T.all_bind.mp (show ((eMake "Ratio" 1 [.int 1] f_Ratio_init (aCons (eC (.int 0)) aNil) [.un, .val d, .un, .un]).bind fun z => (totRest fa it [.un, .val d, .val z, .un]).bind outB).all _ from hb)))
  intro v H3 e3 r
  refine h3 (((I.ext e2).ext e3).set (i := 2) r) (T.all_mono (fun o ho => ?_) (T.all_bind.mp hz))
  cases o with
  | nx ρ => exact fun N' H' σ' I => ho .non H' ⟨I.ex, I.hn.pot⟩ .non
  | rt d => exact fun v H' e r => ho v H' e r
  | bk ρ => exact False.elim ho
  | ct ρ => exact False.elim ho
theorem g_total {fa : List D → T D} (F : Fun K "total" "Ratio.total" s_total a_f d_f) (M : Mk K C a_i) (at_ : ClsAt K "Ratio" C) (O : OwnOp K C .Add a_o) (GO : FnOk P w K mg base CX0 5 a_o d_o ["self", "other"] (spD K P w 2 fa)) (BO : Binds K d_o ["self", "other"] [])
    (GI : FnOk P w K mg base CX0 2 a_i d_i ["self", "top", "bottom"] (spI K P w "Ratio" 2 f_Ratio_init)) {dv1 : List Value} (BI1 : Binds K d_i ["self", "top", "bottom"] dv1) (hv1 : Vals [.int 1] dv1) (ml : mg "is_list" = some (.ref a_list)) (kl : PySem.W.keepIn K (.ref a_list) = true)
    (GL : FnOk P w K mg base CX0 1 a_list d_list ["value"] (spD K P w 1 f_isList)) (BL : Binds K d_list ["value"] []) : FnOk P w K mg base CX0 6 a_f d_f ["cls", "numbers"] (spC K P w C 1 (f_total (opOwn "Ratio" fa))) := by
  have nd := sc_total.nd
  refine F.ok (k := 5) sc_total (fun vs H Q E h => ?_) (fun cdv A outer s H vs Q E hr h => ?_)
  · obtain ⟨args, rfl, π, N, ds, hn, r, hl, _⟩ := h
    show args.length + 1 = 2
    rw [hl]
  · obtain ⟨args, rfl, π, N, ds, hn, r, hl, hall⟩ := h
    have hadd := os_own (X := (cxOf CX0 P w K mg base ["cls", "numbers", "answer", "number"] "Ratio.total" (defScope s_total) a_f cdv A outer s H E).nox) at_ O GO hr BO
    unfold f_total at hall
    split at hall
    · rename_i ds
      cases r with
      | cons r1 r =>
      cases r
      have I : EnvOk K P w π N H N H (L2.start ["cls", "numbers", "answer", "number"] [.ref C, _]) [.un, .val (.lst ds), .un, .un] := (env_start (Nm := ["numbers", "answer", "number"]) hn (.cons r1 .nil)).consUn (some (.ref C))
      exact tot_run (p0 := _) (st_not (st_val (s_call GL (hr.mono (by decide)) ml kl BL (sa_cons (sv 1) sa_nil)))) (ps_set nd rfl (.inl rfl) pe_wp)
        (fun N' H' σ' Q' I' hs hq => makeL_wp (n := 1) (i := 0) (dvs := [.int 1]) (dds := [.int 1]) M GI (hr.mono (by decide)) at_ BI1 hv1 (fun _ _ => .cons (.int 1) .nil) (sa_cons s_int sa_nil) rfl (.inl rfl) I' hs hq)
        (b_cons (ss_for PassesOwn.never rfl (si_list (sv 1)) (g_name nd) (b_one (ss_set nd (s_bin hadd (sv 2) (sv 3))))) (b_one (ss_ret (sv 2)))) I rfl hall
    · rename_i ds
      cases r with
      | cons r1 r =>
      cases r
      have I : EnvOk K P w π N H N H (L2.start ["cls", "numbers", "answer", "number"] [.ref C, _]) [.un, .val (.tup ds), .un, .un] := (env_start (Nm := ["numbers", "answer", "number"]) hn (.cons r1 .nil)).consUn (some (.ref C))
      exact tot_run (p0 := _) (st_not (st_val (s_call GL (hr.mono (by decide)) ml kl BL (sa_cons (sv 1) sa_nil)))) (ps_set nd rfl (.inl rfl) pe_wp)
        (fun N' H' σ' Q' I' hs hq => makeL_wp (n := 1) (i := 0) (dvs := [.int 1]) (dds := [.int 1]) M GI (hr.mono (by decide)) at_ BI1 hv1 (fun _ _ => .cons (.int 1) .nil) (sa_cons s_int sa_nil) rfl (.inl rfl) I' hs hq)
        (b_cons (ss_for PassesOwn.never rfl (si_tup (sv 1)) (g_name nd) (b_one (ss_set nd (s_bin hadd (sv 2) (sv 3))))) (b_one (ss_ret (sv 2)))) I rfl hall
    · exact False.elim hall
end
end Pd

/-! The law's pot and draws. -/
namespace Pd
open PySem L2 PySem.Spec PyProof.Rows
section
variable {P : Program} {w : World} {K : PySem.W.Frag} {mg : Str → Option Value} {base : Heap} {a_draw : Addr}
abbrev s_draw : Stmt := topR 16
theorem sc_draw : FnScope ["_law_pot_here", "_law_many", "_law_digit"] ["_law_pot_here", "_law_many"] (defScope s_draw) := ⟨rfl, rfl, rfl, by decide +kernel, rfl, by decide +kernel, by decide +kernel⟩
theorem g_draw {d_draw : FuncData} (F : Fun K "_law_draw" "_law_draw" s_draw a_draw d_draw) (zd : mg "divmod" = none) (zi : mg "int" = none) : FnOk P w K mg base CX0 1 a_draw d_draw ["_law_pot_here", "_law_many"] (spD K P w 2 f__law_draw) := by
  have nd := sc_draw.nd
  refine F.ok (k := 0) sc_draw (fun vs H Q E h => ?_) (fun cdv A outer s H vs Q E hr h => ⟨_, pss_cons (ps_if (pt_cmpR op_gt (pe_ix ix_list (pv 0) pe_int (fun _ _ => rfl)) pe_int (nomark _))
    (pss_cons (ps_asg (pe_callB call_divmod rfl zd (by decide +kernel) (pa_cons (pe_ix ix_list (pv 0) pe_int (fun _ _ => rfl)) (pa_cons (pv 1) pa_nil))) (pg_tup rfl (pgs_cons (pg_sub (pv 0) pe_int set_list) (pgs_cons (pg_name (i := 2) nd rfl (.inl rfl)) pgs_nil)))) (pss_one (ps_ret (pv 2)))) pss_nil)
    (pss_cons (ps_asg (pe_op op_mod (pe_callTy call_int1 rfl zi (by decide +kernel) (pa_cons (pe_op op_add (pe_op op_mul (pe_ix ix_list (pv 0) pe_int (fun _ _ => rfl)) pe_int) pe_int) pa_nil)) pe_int) (pg_sub (pv 0) pe_int set_list))
    (pss_one (ps_ret (pe_op op_mod (pe_callTy call_int1 rfl zi (by decide +kernel) (pa_cons (pe_op op_fdiv (pe_op op_mod (pe_callTy call_int1 rfl zi (by decide +kernel) (pa_cons (pe_op op_mul (pe_ix ix_list (pv 0) pe_int (fun _ _ => rfl)) (pe_ix ix_list (pv 0) pe_int (fun _ _ => rfl))) pa_nil)) pe_int) pe_int) pa_nil)) (pv 1))))), ?_⟩)
  · obtain ⟨π, N, ds, hn, r, hl, _⟩ := h
    exact hl
  · obtain ⟨π, N, ds, hn, r, hl, hall⟩ := h
    unfold f__law_draw at hall
    split at hall
    · rename_i n
      cases r with
      | cons r1 r =>
      cases r with
      | cons r2 r =>
      cases r
      cases r1
      cases r2
      obtain ⟨hb, hall⟩ := cond_all hall
      simp only [Bool.and_eq_true, decide_eq_true_eq] at hb
      obtain ⟨n0, n1⟩ := hb
      obtain ⟨x, y, hp, hx, hy, hy2⟩ := hn.pot
      have got : ∀ i : Int, 0 ≤ i → i < n → ∀ H', Ex π H H' → Q (.int i) H' := fun i i0 i1 H' e => by
        have q := hall i.toNat (by omega)
        have ei : ((i.toNat : Nat) : Int) = i := Int.toNat_of_nonneg i0
        have z := q (.int i) H' e
        rw [ei] at z
        exact z (.int i)
      refine ⟨_, rfl, π, _, 0, .int x, rfl, rfl, .inl (.inl hp), rfl, _, _, rfl, rfl, _, rfl, ?_⟩
      by_cases c : 0 < x
      · refine iteT' (decide_eq_true c) ?_
        refine ⟨_, rfl, π, _, 0, .int x, rfl, rfl, .inl (.inl hp), rfl, _, rfl, x, n, rfl, ⟨n0, by omega⟩, fun p pn => ?_⟩
        have ppi : p ≠ π := hn.pot.ne pn
        have h1 : upd H p (.tup [.int (x / n), .int (x % n)]) π = some (.lst [.int x, .int y]) := by rw [upd_ne ppi.symm]; exact hp
        refine ⟨p, _, rfl, .inl (.inl upd_same), rfl, _, _, rfl, ⟨_, rfl, π, _, 0, 0, rfl, rfl, h1, rfl, ?_⟩⟩
        refine ⟨_, _, rfl, ?_⟩
        show [] = [] ∧ _
        refine ⟨rfl, ?_⟩
        refine ⟨_, rfl, got (x % n) (Int.emod_nonneg x (by omega)) (Int.emod_lt_of_pos x n0) _ ⟨fun a o ne e => ?_, x / n, y, by rw [upd_same]; rfl, Int.ediv_nonneg hx (by omega), hy, hy2⟩⟩
        rw [upd_ne ne, upd_ne (ne_of_none e pn)]
        exact e
      · refine iteF' (decide_eq_false c) ?_
        have m1 : CMul y 44141 := .inl ⟨by omega, by omega⟩
        refine ⟨_, rfl, π, _, 1, .int y, rfl, rfl, .inl (.inl hp), rfl, _, _, rfl, rfl, m1, _, _, rfl, rfl, .inl ⟨_, rfl, _, _, rfl, rfl, (show (0 : Int) < 2147483629 by decide), _, rfl, π, _, 1, 1, rfl, rfl, hp, rfl, ?_⟩⟩
        have hy3 : 0 ≤ (y * 44141 + 997) % 2147483629 := Int.emod_nonneg _ (by decide)
        have hy4 : (y * 44141 + 997) % 2147483629 < 2147483629 := Int.emod_lt_of_pos _ (by decide)
        have h1 : upd H π (.lst ([.int x, .int y].set 1 (.int ((y * 44141 + 997) % 2147483629)))) π = some (.lst [.int x, .int ((y * 44141 + 997) % 2147483629)]) := upd_same
        have m2 : CMul ((y * 44141 + 997) % 2147483629) ((y * 44141 + 997) % 2147483629) := .inl ⟨by omega, by omega⟩
        refine ⟨_, rfl, π, _, 1, .int ((y * 44141 + 997) % 2147483629), rfl, rfl, .inl (.inl h1), rfl, _, rfl, π, _, 1, .int ((y * 44141 + 997) % 2147483629), rfl, rfl, .inl (.inl h1), rfl, _, _, rfl, rfl, m2, .inl ⟨_, rfl, _, _, rfl, rfl, (show (0 : Int) < 2147483587 by decide), _, _, rfl, rfl, (show CDiv _ 13 from ⟨by decide, by decide⟩), .inl ⟨_, rfl, _, rfl, _, _, rfl, rfl, n0, ?_⟩⟩⟩
        refine got _ (Int.emod_nonneg _ (by omega)) (Int.emod_lt_of_pos _ n0) _ ⟨fun a o ne e => ?_, x, ((y * 44141 + 997) % 2147483629), h1, hx, hy3, by omega⟩
        rw [upd_ne ne]
        exact e
    · exact False.elim hall
/-! the pot -/
def spPot (K : PySem.W.Frag) : Sp := fun vs H Q _ => ∃ (a : Addr) (ns : List Int) (k : Nat), vs = [.ref a, .int (k : Nat)] ∧ k < 1000 ∧ SqL K H a (ns.map V.int) ∧ ∀ (p : Addr) (x y : Int), H p = none → 0 ≤ x → 0 ≤ y → y < 2147483648 → Q (.ref p) (upd H p (.lst [.int x, .int y]))
abbrev s_pot : Stmt := topR 15
theorem sc_pot : FnScope ["_law_script", "_law_k", "_law_cell"] ["_law_script", "_law_k"] (defScope s_pot) := ⟨rfl, rfl, rfl, by decide +kernel, rfl, by decide +kernel, by decide +kernel⟩
abbrev rInt1 : List V → Hp → VK → Prop := fun xs H Q => (∃ i, xs = [V.int i] ∧ Q (V.int i) H) ∨ ∃ k, xs = [V.bl k] ∧ Q (V.int (if k = true then 1 else 0)) H
def potTe : TE := tLst (tCons (tCB (fun xs H Q => ∃ i j, xs = [V.int i, V.int j] ∧ Q (V.int (if j > i then j else i)) H) (tCons (tC (V.int 0)) (tCons (tOp (rI0 fun i j => V.int (i - j)) (tVar 2) (tOp (rI CPow fun i j => V.int (i ^ j.toNat)) (tC (V.int 10)) (tC (V.int 18)))) tNil)))
  (tCons (tOp (rI0 fun i j => V.int (i + j)) (tOp (rI (fun x j => 0 < j) fun i j => V.int (i % j)) (tCB rInt1 (tCons (tOp (rI0 fun i j => V.int (i + j)) (tOp (rI0 fun i j => V.int (i + j)) (tOp (rI CMul fun i j => V.int (i * j)) (tOp (rI (fun x j => 0 < j) fun i j => V.int (i % j)) (tCB rInt1 (tCons (tVar 2) tNil)) (tC (V.int 2147483549))) (tC (V.int 44141)))
    (tOp (rI CMul fun i j => V.int (i * j)) (tC (V.int 997)) (tVar 1))) (tC (V.int 23131))) tNil)) (tC (V.int 2147483579))) (tC (V.int 1))) tNil))
theorem potTail {De : Ends} {Q : VK} {a : Addr} {k : Nat} {H : Hp} {c : Int} {Nm : List Str} (hN : Nm.length = 3) (hQ : De.rt = Q) (q : ∀ (p : Addr) (x y : Int), H p = none → 0 ≤ x → 0 ≤ y → y < 2147483648 → Q (.ref p) (upd H p (.lst [.int x, .int y]))) (hk : k < 1000) (c0 : 0 ≤ c) :
    tRet potTe De ((L2.start Nm [.ref a, .int (k : Nat)]).set 2 (some (.int c))) H := by
  subst hQ
  have e2 : ((L2.start Nm [.ref a, .int (k : Nat)]).set 2 (some (.int c)))[2]? = some (some (.int c)) := by
    rw [List.getElem?_set_self]
    unfold L2.start
    rw [List.length_append, List.length_map, List.length_replicate, hN]
    exact (by decide : 2 < 2 + (3 - 2))
  have e1 : ((L2.start Nm [.ref a, .int (k : Nat)]).set 2 (some (.int c)))[1]? = some (some (.int (k : Nat))) := rfl
  have m1 : CMul (c % 2147483549) 44141 := .inr ⟨by decide, by decide⟩
  have m2 : CMul 997 ((k : Nat) : Int) := .inl ⟨by decide, by decide⟩
  have y0 := Int.emod_nonneg (c % 2147483549 * 44141 + 997 * ((k : Nat) : Int) + 23131) (show (2147483579 : Int) ≠ 0 by decide)
  have y1 := Int.emod_lt_of_pos (c % 2147483549 * 44141 + 997 * ((k : Nat) : Int) + 23131) (show (0 : Int) < 2147483579 by decide)
  refine ⟨_, e2, _, _, rfl, rfl, ⟨by decide, by decide, by decide⟩, _, _, rfl, rfl, _, _, rfl, _, e2, .inl ⟨_, rfl, _, _, rfl, rfl, (show (0 : Int) < 2147483549 by decide), _, _, rfl, rfl, m1, _, e1, _, _, rfl, rfl, m2, _, _, rfl, rfl, _, _, rfl, rfl, .inl ⟨_, rfl, _, _, rfl, rfl, (show (0 : Int) < 2147483579 by decide), _, _, rfl, rfl, by show 2 ≤ sizeLine; decide, fun p hp => q p _ _ hp ?_ (by omega) (by omega)⟩⟩⟩
  split <;> omega
theorem g_pot {a_pot : Addr} {d_pot : FuncData} (F : Fun K "_law_pot" "_law_pot" s_pot a_pot d_pot) (za : mg "abs" = none) (zl : mg "len" = none) (zm : mg "max" = none) (zi : mg "int" = none) : FnOk P w K mg base CX0 1 a_pot d_pot ["_law_script", "_law_k"] (spPot K) := by
  have nd := sc_pot.nd
  refine F.ok (k := 0) sc_pot (fun vs H Q E h => ?_) (fun cdv A outer s H vs Q E hr h => ⟨_, pss_cons (ps_set (i := 2) nd rfl (.inl rfl) (pe_ifExp (pt_cmpR op_lt (pv 1) (pe_callB call_len_seq rfl zl (by decide +kernel) (pa_cons (pv 0) pa_nil)) (nomark _))
    (pe_callB call_abs rfl za (by decide +kernel) (pa_cons (pe_ix ix_list (pv 0) (pv 1) (fun _ _ => rfl)) pa_nil)) (pe_op op_add (pe_op op_mul pe_int (pv 1)) pe_int)))
    (pss_one (ps_ret (pe_lst (pa_cons (pe_callB (call_max2 rfl) rfl zm (by decide +kernel) (pa_cons pe_int (pa_cons (pe_op op_sub (pv 2) (pe_op op_pow pe_int pe_int)) pa_nil)))
      (pa_cons (pe_op op_add (pe_op op_mod (pe_callTy call_int1 rfl zi (by decide +kernel) (pa_cons (pe_op op_add (pe_op op_add (pe_op op_mul (pe_op op_mod (pe_callTy call_int1 rfl zi (by decide +kernel) (pa_cons (pv 2) pa_nil)) pe_int) pe_int) (pe_op op_mul pe_int (pv 1))) pe_int) pa_nil)) pe_int) pe_int) pa_nil))))), ?_⟩)
  · obtain ⟨a, ns, k, rfl, _⟩ := h
    rfl
  · obtain ⟨a, ns, k, rfl, hk, hs, q⟩ := h
    refine ⟨_, rfl, _, rfl, a, _, rfl, .inl hs, _, _, rfl, rfl, _, rfl, ?_⟩
    have hlt : decide (((k : Nat) : Int) < ((ns.map V.int).length : Nat)) = decide (k < ns.length) := by
      rw [List.length_map]
      exact decide_eq_decide.mpr (by omega)
    rcases Nat.lt_or_ge k ns.length with c | c
    · refine iteT' (hlt.trans (decide_eq_true c)) ?_
      refine ⟨_, rfl, _, rfl, a, _, (k : Nat), _, rfl, rfl, hs, atI_cell c, _, rfl, ?_⟩
      have c0 : 0 ≤ (if cellOf ns k < 0 then -cellOf ns k else cellOf ns k) := by split <;> omega
      exact potTail (Nm := ["_law_script", "_law_k", "_law_cell"]) rfl rfl q hk c0
    · refine iteF' (hlt.trans (decide_eq_false (by omega))) ?_
      refine ⟨_, rfl, _, _, rfl, rfl, (.inl ⟨by decide, by decide⟩ : CMul 2333 ((k : Nat) : Int)), _, _, rfl, rfl, ?_⟩
      have c0 : 0 ≤ 2333 * ((k : Nat) : Int) + 1447 := by omega
      exact potTail (Nm := ["_law_script", "_law_k", "_law_cell"]) rfl rfl q hk c0
end

end Pd

/-! A drawn number. -/
namespace Pd
open PySem L2 PySem.Spec PyProof.Rows
section
variable {P : Program} {w : World} {K : PySem.W.Frag} {mg : Str → Option Value} {base : Heap} {a_f : Addr} {d_f : FuncData}
abbrev s_pick : Stmt := topR 17
theorem sc_pick : FnScope ["_law_pot_here", "_law_some"] ["_law_pot_here", "_law_some"] (defScope s_pick) := ⟨rfl, rfl, rfl, by decide +kernel, rfl, by decide +kernel, by decide +kernel⟩
def drawT (i : Nat) (n : Rho → T D) : Rho → T D := eCall 2 f__law_draw (aCons (eVar i) (aCons n aNil))
def m_pick : Rho → T Out := sRet (eBin ixD (eVar 1) (drawT 0 (eCa bLen (aCons (eVar 1) aNil))))
def f_pick : List D → T D := runB 2 m_pick
theorem g_pick (F : Fun K "_law_pick" "_law_pick" s_pick a_f d_f) (pd : Pm P w K mg base "_law_draw" 1 2 ["_law_pot_here", "_law_many"] f__law_draw) (ml : mg "len" = none) : FnOk P w K mg base CX0 2 a_f d_f ["_law_pot_here", "_law_some"] (spD K P w 2 f_pick) :=
  fn_ok (n := 2) (p := 2) (m := m_pick) (k := 1) F sc_pick rfl rfl rfl (fun cdv A outer s H E hr =>
    b_one (ss_ret (s_ix (sv 1) (s_callP pd (hr.mono (by decide)) (sa_cons (sv 0) (sa_cons (s_callB cs_len ml (by decide +kernel) (sa_cons (sv 1) sa_nil)) sa_nil))) (fun _ _ => rfl))))
abbrev s_number : Stmt := topR 22
theorem sc_number : FnScope ["_law_pot_here", "_law_top", "_law_bottom", "_law_pair"] ["_law_pot_here"] (defScope s_number) := ⟨rfl, rfl, rfl, by decide +kernel, rfl, by decide +kernel, by decide +kernel⟩
def neg1 (i : Int) : Rho → T D := eUn uNeg (eC (.int i))
def bots : Rho → T D := eL (lLst (aCons (eC (.int 1)) (aCons (eC (.int 1)) (aCons (eC (.int 2)) (aCons (neg1 2) (aCons (eC (.int 3)) (aCons (eC (.int 6)) (aCons (neg1 1) (aCons (eC (.int 35)) (aCons (eC (.int 250)) aNil))))))))))
def m_number : Rho → T Out := bSeq (sPar 1 2 (eBin opSub (drawT 0 (eC (.int 601))) (eC (.int 300))) (eCall 2 f_pick (aCons (eVar 0) (aCons bots aNil))))
  (bSeq (sSet 3 (eCall 2 f_low (aCons (eVar 1) (aCons (eVar 2) aNil))))
  (sRet (eTup (aCons (eIf (tAnd' (eTest (eBin opEq (at2 3 1) (eC (.int 1)))) (eTest (eBin opEq (drawT 0 (eC (.int 2))) (eC (.int 0))))) (at2 3 0) (mkR (eVar 1) (eVar 2))) (aCons (eVar 3) aNil)))))
def f_number : List D → T D := runB 4 m_number
theorem g_number (F : Fun K "_law_number" "_law_number" s_number a_f d_f) (pd : Pm P w K mg base "_law_draw" 1 2 ["_law_pot_here", "_law_many"] f__law_draw) (pp : Pm P w K mg base "_law_pick" 2 2 ["_law_pot_here", "_law_some"] f_pick) (pl : Pm P w K mg base "_law_low" 1 2 ["_law_top", "_law_bottom"] f_low) (pc : PmC P w K mg base "Ratio" 2 2 [] f_Ratio_init) :
    FnOk P w K mg base CX0 5 a_f d_f ["_law_pot_here"] (spD K P w 1 f_number) := by
  have nd := sc_number.nd
  refine fn_ok (n := 4) (p := 1) (m := m_number) (k := 4) F sc_number rfl rfl rfl (fun cdv A outer s H E hr => ?_)
  exact b_cons (ss_par rfl nd (s_bin os_sub (s_callP pd (hr.mono (by decide)) (sa_cons (sv 0) (sa_cons s_int sa_nil))) s_int) (s_callP pp (hr.mono (by decide)) (sa_cons (sv 0) (sa_cons (s_ofL (sl_lst (sa_cons s_int (sa_cons s_int (sa_cons s_int (sa_cons (s_neg s_int) (sa_cons s_int (sa_cons s_int (sa_cons (s_neg s_int) (sa_cons s_int (sa_cons s_int sa_nil))))))))))) sa_nil))))
    (b_cons (ss_set nd (s_callP pl (hr.mono (by decide)) (sa_cons (sv 1) (sa_cons (sv 2) sa_nil))))
    (b_one (ss_ret (s_tup (sa_cons (s_if (st_w (sw_and (st_cmp (os_eq hr.units) (s_ix (sv 3) s_int (fun _ _ => rfl)) s_int (nomark _)) (sw_and1 (st_cmp (os_eq hr.units) (s_callP pd (hr.mono (by decide)) (sa_cons (sv 0) (sa_cons s_int sa_nil))) s_int (nomark _)))))
      (s_ix (sv 3) s_int (fun _ _ => rfl)) (s_makeP pc (hr.mono (by decide)) (sa_cons (sv 1) (sa_cons (sv 2) sa_nil)))) (sa_cons (sv 3) sa_nil))))))
end
def botL : List Int := [1, 1, 2, -2, 3, 6, -1, 35, 250]
theorem bots_at (j : Nat) (hj : j < 9) : ∃ b : Int, ixD (.lst [.int 1, .int 1, .int 2, .int (-2), .int 3, .int 6, .int (-1), .int 35, .int 250]) (.int j) = .ret (.int b) ∧ b ≠ 0 ∧ b.natAbs < 2 ^ 9 := by
  have : j = 0 ∨ j = 1 ∨ j = 2 ∨ j = 3 ∨ j = 4 ∨ j = 5 ∨ j = 6 ∨ j = 7 ∨ j = 8 := by omega
  rcases this with rfl | rfl | rfl | rfl | rfl | rfl | rfl | rfl | rfl <;> exact ⟨_, rfl, by decide, by decide⟩
theorem all_draw {α : Type} {P : α → Prop} {t : T α} {n : Nat} {k : Nat → T α} (e : t = .draw n k) (h : ∀ i, i < n → (k i).all P) : t.all P := by subst e; exact h
def numIf : Rho → T D := eIf (tAnd' (eTest (eBin opEq (at2 3 1) (eC (.int 1)))) (eTest (eBin opEq (drawT 0 (eC (.int 2))) (eC (.int 0))))) (at2 3 0) (mkR (eVar 1) (eVar 2))
def numTail : Rho → T Out := bSeq (sSet 3 (eCall 2 f_low (aCons (eVar 1) (aCons (eVar 2) aNil)))) (sRet (eTup (aCons numIf (aCons (eVar 3) aNil))))
theorem num_if {t b : Int} {q : Rat} (mk : mkR (eVar 1) (eVar 2) [.val .pot, .val (.int t), .val (.int b), .val (qP q)] = .ret (qR q)) : (numIf [.val .pot, .val (.int t), .val (.int b), .val (qP q)]).all fun z => Num z q := by
  have t1 : eTest (eBin opEq (at2 3 1) (eC (.int 1))) [.val .pot, .val (.int t), .val (.int b), .val (qP q)] = .ret ((q.den : Int) == 1) := by
    simp only [eTest, eBin, at2, eVar, eC, T.bind, qP, List.getElem?_cons_succ, List.getElem?_cons_zero, at_1, eqI, asB]
  refine T.all_bind.mpr (T.all_bind.mpr ?_)
  rw [t1]
  show T.all _ (cond ((q.den : Int) == 1) (eTest (eBin opEq (drawT 0 (eC (.int 2))) (eC (.int 0))) [.val .pot, .val (.int t), .val (.int b), .val (qP q)]) (T.ret false))
  by_cases c : q.den = 1
  · have c2 : ((q.den : Int) == 1) = true := by rw [c]; rfl
    rw [c2]
    show T.all _ (eTest (eBin opEq (drawT 0 (eC (.int 2))) (eC (.int 0))) [.val .pot, .val (.int t), .val (.int b), .val (qP q)])
    refine all_draw (n := 2) (k := fun i => .ret ((i : Int) == 0)) ?_ fun i hi => ?_
    · show ((T.draw 2 fun i => (opEq (.int i) (.int 0))).bind asB) = _
      simp only [T.bind, eqI, asB]
    · show T.all _ (cond ((i : Int) == 0) (at2 3 0 [.val .pot, .val (.int t), .val (.int b), .val (qP q)]) (mkR (eVar 1) (eVar 2) [.val .pot, .val (.int t), .val (.int b), .val (qP q)]))
      have v0 : at2 3 0 [.val .pot, .val (.int t), .val (.int b), .val (qP q)] = .ret (.int q.num) := by
        simp only [at2, eBin, eVar, eC, T.bind, qP, List.getElem?_cons_succ, List.getElem?_cons_zero, at_0]
      cases (i : Int) == 0 with
      | true =>
        show T.all _ (at2 3 0 _)
        rw [v0]
        have : q = (q.num : Rat) := Rat.ext rfl c
        show Num (.int q.num) q
        rw [this]
        exact .i _
      | false =>
        show T.all _ (mkR (eVar 1) (eVar 2) _)
        rw [mk]
        exact .q q
  · have c2 : ((q.den : Int) == 1) = false := beq_false_of_ne fun z => c (Int.ofNat.inj z)
    rw [c2]
    show T.all _ (mkR (eVar 1) (eVar 2) _)
    rw [mk]
    exact .q q
theorem num_tail {t b : Int} (b0 : b ≠ 0) (h1 : t.natAbs < 2 ^ 9) (h2 : b.natAbs < 2 ^ 9) : (numTail [.val .pot, .val (.int t), .val (.int b), .un]).all fun o => ∃ z q, o = .rt (.tup [z, qP q]) ∧ Num z q ∧ Sz 9 q := by
  have lo := low_rat (t := t) b0 (log_of h1 (by decide) (by decide)) (log_of h2 (by decide) (by decide))
  have sz := sz_divInt b0 h1 h2
  have mk := mk_val (ρ := [.val .pot, .val (.int t), .val (.int b), .val (qP (Rat.divInt t b))]) (x := eVar 1) (y := eVar 2) rfl rfl b0 (log_of h2 (by decide) (by decide))
  rw [lowR_rat b0] at mk
  revert lo sz mk
  generalize Rat.divInt t b = q
  intro lo sz mk
  have s1 : sSet 3 (eCall 2 f_low (aCons (eVar 1) (aCons (eVar 2) aNil))) [.val .pot, .val (.int t), .val (.int b), .un] = .ret (.nx [.val .pot, .val (.int t), .val (.int b), .val (qP q)]) := by
    show ((cond (2 == 2) (f_low [.int t, .int b]) .fail).bind fun d => T.ret (Out.nx _)) = _
    show ((f_low [.int t, .int b]).bind fun d => T.ret (Out.nx _)) = _
    rw [lo]
    rfl
  refine T.all_bind.mpr ?_
  rw [s1]
  show T.all _ (sRet (eTup (aCons numIf (aCons (eVar 3) aNil))) [.val .pot, .val (.int t), .val (.int b), .val (qP q)])
  refine T.all_bind.mpr (T.all_bind.mpr (T.all_bind.mpr (T.all_mono (fun z hz => ?_) (num_if mk))))
  have c : small [z, qP q] = true := small2 _ _
  show T.all (fun a => T.all (fun o => ∃ z q, o = Out.rt (D.tup [z, qP q]) ∧ Num z q ∧ Sz 9 q) (T.ret (Out.rt a))) (cond (small [z, qP q]) (T.ret (D.tup [z, qP q])) T.fail)
  rw [c]
  exact ⟨z, q, rfl, hz, sz⟩
theorem drawT_val {ρ : Rho} {i : Nat} {n : Int} (h : ρ[i]? = some (.val .pot)) (n0 : 0 < n) (n1 : n ≤ 1000000) : drawT i (eC (.int n)) ρ = .draw n.toNat fun i => .ret (.int (i : Int)) := by
  simp only [drawT, eCall, aCons, aNil, eVar, eC, h, T.bind, f__law_draw, List.length_cons, List.length_nil, decide_eq_true n0, decide_eq_true n1, Bool.and_self, cond, BEq.rfl]
theorem top_draw : eBin opSub (drawT 0 (eC (.int 601))) (eC (.int 300)) [.val .pot, .un, .un, .un] = .draw 601 fun i => .ret (.int ((i : Int) - 300)) := by
  show ((drawT 0 (eC (.int 601)) [.val .pot, .un, .un, .un]).bind fun x => opSub x (.int 300)) = _
  rw [drawT_val rfl (by decide) (by decide)]
  rfl
def botD : D := .lst [.int 1, .int 1, .int 2, .int (-2), .int 3, .int 6, .int (-1), .int 35, .int 250]
theorem bot_len : eCa bLen (aCons (eVar 1) aNil) [.val .pot, .val botD] = .ret (.int 9) := rfl
theorem bot_draw : drawT 0 (eCa bLen (aCons (eVar 1) aNil)) [.val .pot, .val botD] = .draw 9 fun i => .ret (.int (i : Int)) := by
  simp only [drawT, eCall, aCons, aNil, eVar, T.bind, bot_len, List.getElem?_cons_zero, f__law_draw, List.length_cons, List.length_nil, BEq.rfl, cond]
  rfl
theorem bots_val (ρ : Rho) : bots ρ = .ret botD := by
  simp only [bots, eL, lLst, aCons, aNil, eC, neg1, eUn, uNeg, T.bind, small, List.length_cons, List.length_nil]
  rfl
theorem pick_bots : eCall 2 f_pick (aCons (eVar 0) (aCons bots aNil)) [.val .pot, .un, .un, .un] = f_pick [.pot, botD] := by
  simp only [eCall, aCons, aNil, eVar, bots_val, T.bind, List.getElem?_cons_zero, List.length_cons, List.length_nil, BEq.rfl, cond]
theorem pick_all {P : D → Prop} (h : ∀ b : Int, b ≠ 0 → b.natAbs < 2 ^ 9 → P (.int b)) : T.all P (f_pick [.pot, botD]) := by
  refine T.all_bind.mpr (T.all_bind.mpr ?_)
  show T.all _ ((drawT 0 (eCa bLen (aCons (eVar 1) aNil)) [.val .pot, .val botD]).bind fun y => ixD botD y)
  rw [bot_draw]
  refine T.all_bind.mpr (all_draw rfl fun j hj => ?_)
  obtain ⟨b, e, b0, b1⟩ := bots_at j hj
  show T.all _ (ixD botD (.int j))
  rw [show ixD botD (.int j) = .ret (.int b) from e]
  exact h b b0 b1
theorem number_split : m_number = bSeq (sPar 1 2 (eBin opSub (drawT 0 (eC (.int 601))) (eC (.int 300))) (eCall 2 f_pick (aCons (eVar 0) (aCons bots aNil)))) numTail := rfl
theorem number_all : (f_number [.pot]).all fun d => ∃ z q, d = .tup [z, qP q] ∧ Num z q ∧ Sz 9 q := by
  unfold f_number runB
  rw [number_split]
  refine T.all_bind.mpr (T.all_bind.mpr ?_)
  show T.all _ ((eBin opSub (drawT 0 (eC (.int 601))) (eC (.int 300)) [.val .pot, .un, .un, .un]).bind fun x => (eCall 2 f_pick (aCons (eVar 0) (aCons bots aNil)) [.val .pot, .un, .un, .un]).bind fun y => T.ret (Out.nx [.val .pot, .val x, .val y, .un]))
  rw [top_draw, pick_bots]
  refine T.all_bind.mpr (fun i hi => ?_)
  have t1 : ((i : Int) - 300).natAbs < 2 ^ 9 := by omega
  refine T.all_bind.mpr (pick_all fun b b0 b1 => ?_)
  show T.all _ (numTail [.val .pot, .val (.int ((i : Int) - 300)), .val (.int b), .un])
  refine T.all_mono (fun o ho => ?_) (num_tail b0 t1 b1)
  obtain ⟨z, q, rfl, hz, sz⟩ := ho
  exact ⟨z, q, rfl, hz, sz⟩
end Pd

/-! The law's looks at one number and at two: read. -/
namespace Pd
open PySem L2 PySem.Spec PyProof.Rows
/-- what Ratio promises -/
structure RWd (P : Program) (w : World) (K : PySem.W.Frag) (mg : Str → Option Value) (base : Heap) : Prop where
  mk2 : PmC P w K mg base "Ratio" 2 2 [] f_Ratio_init
  mk1 : PmC P w K mg base "Ratio" 2 1 [.int 1] f_Ratio_init
  mkK : PmCK P w K mg base "Ratio" 2 2 ["bottom", "top"] [1, 0] f_Ratio_init
  sign : PmP P w K mg base "Ratio" "sign" 1 f_Rsign
  whole : PmP P w K mg base "Ratio" "is_whole" 1 f_Rwhole
  str : PmT P w K mg base "Ratio" "__str__" 1 f_Rstr
  repr : PmT P w K mg base "Ratio" "__repr__" 1 f_Rrepr
  size : PmM P w K mg base "Ratio" "size" 5 0 ["self"] f_Rsize
  over : PmM P w K mg base "Ratio" "over" 5 1 ["self", "other"] (f_Rover f_tb)
  below : PmM P w K mg base "Ratio" "is_below" 5 1 ["self", "other"] (f_Rbelow f_tb)
  atmost : PmMK P w K mg base "Ratio" "is_at_most" 5 1 ["self", "other"] ["other"] [0] (f_Ratmost f_tb)
  neg : PmN P w K mg base "Ratio" 5 f_Rneg
  add : PmO P w K mg base "Ratio" .Add 5 (f_Radd' f_tb)
  sub : PmO P w K mg base "Ratio" .Sub 5 (f_Rsub f_tb)
  mul : PmO P w K mg base "Ratio" .Mult 5 (f_Rmul f_tb)
  radd : PmB P w K mg base "Ratio" .Add 6 (f_Rback (f_Radd' f_tb))
  rsub : PmB P w K mg base "Ratio" .Sub 6 (f_Rrsub f_Rneg (f_Radd' f_tb))
  rmul : PmB P w K mg base "Ratio" .Mult 6 (f_Rback (f_Rmul f_tb))
  eq : PmE P w K mg base "Ratio" .Eq 1 f_Req
  kn : KnownC K ["Ratio"]
/-- what the law's smaller defs promise, and the built-ins' names -/
structure LWd (P : Program) (w : World) (K : PySem.W.Frag) (mg : Str → Option Value) (base : Heap) : Prop extends RWd P w K mg base where
  lis : PmG P w K mg base "_law_is" 3 2 ["_law_told", "_law_pair"] f_lis
  text : Pm P w K mg base "_law_text" 1 1 ["_law_pair"] f_ltext
  low : Pm P w K mg base "_law_low" 1 2 ["_law_top", "_law_bottom"] f_low
  plus : Pm P w K mg base "_law_plus" 2 2 ["_law_one", "_law_other"] f_lplus
  less : Pm P w K mg base "_law_less" 2 2 ["_law_one", "_law_other"] f_lless
  times : Pm P w K mg base "_law_times" 2 2 ["_law_one", "_law_other"] f_ltimes
  zi : mg "isinstance" = none
  zn : mg "int" = none
  zr : mg "repr" = none
  zs : mg "str" = none
  za : mg "abs" = none
abbrev opE : D → D → T D := cmpAny "Ratio" opEq f_Req
abbrev opA : D → D → T D := opAny "Ratio" opAdd (f_Radd' f_tb) (f_Rback (f_Radd' f_tb))
abbrev opS : D → D → T D := opAny "Ratio" opSub (f_Rsub f_tb) (f_Rrsub f_Rneg (f_Radd' f_tb))
abbrev opM : D → D → T D := opAny "Ratio" opMulG (f_Rmul f_tb) (f_Rback (f_Rmul f_tb))
def lisT (x y : Rho → T D) : Rho → T D := eCall 2 f_lis (aCons x (aCons y aNil))
def notIs (x y : Rho → T D) : Rho → T Bool := tNot' (eTest (lisT x y))
def tup2 (x y : Rho → T D) : Rho → T D := eTup (aCons x (aCons y aNil))
def lst2 (x y : Rho → T D) : Rho → T D := eL (lLst (aCons x (aCons y aNil)))
def lst3 (x y z : Rho → T D) : Rho → T D := eL (lLst (aCons x (aCons y (aCons z aNil))))
def repL (x : Rho → T D) : Rho → T D := eCa bRepr (aCons x aNil)
def call2 (f : List D → T D) (x y : Rho → T D) : Rho → T D := eCall 2 f (aCons x (aCons y aNil))
def retF : Rho → T Out := sRet (eC (.bl false))
section
variable {P : Program} {w : World} {K : PySem.W.Frag} {mg : Str → Option Value} {base : Heap} {a_f : Addr} {d_f : FuncData}
abbrev s_lone : Stmt := topR 25
theorem sc_lone : FnScope ["_law_number_here", "_law_pair", "_law_told", "_law_sign"] ["_law_number_here", "_law_pair"] (defScope s_lone) := ⟨rfl, rfl, rfl, by decide +kernel, rfl, by decide +kernel, by decide +kernel⟩
def one1 : Rho → T Out := sSet 2 (eIf (eTest (eUn (isDC ["Ratio"] .int) (eVar 0))) (eMake "Ratio" 1 [.int 1] f_Ratio_init (aCons (eVar 0) aNil)) (eVar 0))
def one2 : Rho → T Out := sSet 3 (eIf (eTest (eBin opEq (at2 1 0) (eC (.int 0)))) (eC (.int 0)) (eIf (eTest (eBin opGt (at2 1 0) (eC (.int 0)))) (eC (.int 1)) (neg1 1)))
def one3 : Rho → T Out := sIf (tOr' (notIs (eVar 2) (eVar 1)) (eTest (eBin opNe (repL (lst2 (eProp "Ratio" f_Rsign (eVar 2)) (eProp "Ratio" f_Rwhole (eVar 2)))) (repL (lst2 (eVar 3) (eBin opEq (at2 1 1) (eC (.int 1)))))))) retF bNil
def one4 : Rho → T Out := sIf (tOr' (eTest (eBin opNe (eCa (txtC "Ratio" f_Rstr bStr) (aCons (eVar 2) aNil)) (eCall 1 f_ltext (aCons (eVar 1) aNil)))) (eTest (eBin opNe (eCa (txtC "Ratio" f_Rrepr bRepr) (aCons (eVar 2) aNil)) (eBin opAdd (eBin opAdd (eBin opAdd (eBin opAdd (eC (.str "Ratio(")) (strAt' 1 0)) (eC (.str ", "))) (strAt' 1 1)) (eC (.str ")")))))) retF bNil
where strAt' (i : Nat) (k : Int) : Rho → T D := eCa bStr (aCons (at2 i k) aNil)
def one5 : Rho → T Out := sIf (tOr' (notIs (eMeth "Ratio" "size" 0 f_Rsize (eVar 2) aNil) (tup2 (eCa bAbs (aCons (at2 1 0) aNil)) (at2 1 1))) (notIs (eUn (uNegC "Ratio" f_Rneg) (eVar 2)) (tup2 (eBin opSub (eC (.int 0)) (at2 1 0)) (at2 1 1)))) retF bNil
def one6 : Rho → T Out := sRet (eAnd (lisT (eMakeK "Ratio" 2 [1, 0] f_Ratio_init (aCons (eBin opMulG (neg1 7) (at2 1 1)) (aCons (eBin opMulG (neg1 7) (at2 1 0)) aNil))) (eVar 1)) (eAnd (eBin opIs (eBin opE (eVar 2) (at2 1 0)) (eC (.bl false))) (eBin opIs (eBin opE (eVar 2) (mkR (at2 1 0) (at2 1 1))) (eC (.bl true)))))
def m_one : Rho → T Out := bSeq one1 (bSeq one2 (bSeq one3 (bSeq one4 (bSeq one5 one6))))
def f_one : List D → T D := runB 4 m_one
theorem g_one (F : Fun K "_law_one_right" "_law_one_right" s_lone a_f d_f) (L : LWd P w K mg base) : FnG P w K mg base CX0 7 a_f d_f ["_law_number_here", "_law_pair"] (spD K P w 2 f_one) := by
  have nd := sc_lone.nd
  refine fnG_ok (n := 4) (p := 2) (m := m_one) (k := 6) F sc_lone rfl rfl rfl (fun cdv A outer s H E hr hgd => ?_)
  have hE := os_cmpP (X := (cxOf CX0 P w K mg base ["_law_number_here", "_law_pair", "_law_told", "_law_sign"] "_law_one_right" (defScope s_lone) a_f cdv A outer s H E).nox) (op := .Eq) (c := "Ratio") (os_eq hr.units) (by decide) L.eq (hr.mono (by decide))
  exact b_cons (ss_set nd (s_if (st_val (s_isinstC ["Ratio"] (k := .int) L.kn L.zi L.zn (by decide +kernel) (sv 0))) (s_makeP L.mk1 (hr.mono (by decide)) (sa_cons (sv 0) sa_nil)) (sv 0)))
    (b_cons (ss_set nd (s_if (st_cmp (os_eq hr.units) (s_ix (sv 1) s_int (fun _ _ => rfl)) s_int (nomark _)) s_int (s_if (st_cmp os_gt (s_ix (sv 1) s_int (fun _ _ => rfl)) s_int (nomark _)) s_int (s_neg s_int))))
    (b_cons (ss_if (st_w (sw_or (st_not (st_val (s_callPG L.lis (hr.mono (by decide)) hgd (sa_cons (sv 2) (sa_cons (sv 1) sa_nil))))) (sw_or1 (st_cmp (os_ne hr.units)
        (s_callB (cs_repr hgd hr.units) L.zr (by decide +kernel) (sa_cons (s_ofL (sl_lst (sa_cons (s_propP L.sign (hr.mono (by decide)) (sv 2)) (sa_cons (s_propP L.whole (hr.mono (by decide)) (sv 2)) sa_nil)))) sa_nil))
        (s_callB (cs_repr hgd hr.units) L.zr (by decide +kernel) (sa_cons (s_ofL (sl_lst (sa_cons (sv 3) (sa_cons (s_cmp (os_eq hr.units) (s_ix (sv 1) s_int (fun _ _ => rfl)) s_int (nomark _)) sa_nil)))) sa_nil)) (nomark _))))) (b_one (ss_ret s_bl)) b_nil)
    (b_cons (ss_if (st_w (sw_or (st_cmp (os_ne hr.units) (s_callTy (cs_strP L.str (hr.mono (by decide)) cs_str) L.zs (by decide +kernel) (sa_cons (sv 2) sa_nil)) (s_callP L.text (hr.mono (by decide)) (sa_cons (sv 1) sa_nil)) (nomark _)) (sw_or1 (st_cmp (os_ne hr.units)
        (s_callB (cs_reprP L.repr (hr.mono (by decide)) (cs_repr hgd hr.units)) L.zr (by decide +kernel) (sa_cons (sv 2) sa_nil))
        (s_bin os_add (s_bin os_add (s_bin os_add (s_bin os_add s_str (s_callTy cs_str L.zs (by decide +kernel) (sa_cons (s_ix (sv 1) s_int (fun _ _ => rfl)) sa_nil))) s_str) (s_callTy cs_str L.zs (by decide +kernel) (sa_cons (s_ix (sv 1) s_int (fun _ _ => rfl)) sa_nil))) s_str) (nomark _))))) (b_one (ss_ret s_bl)) b_nil)
    (b_cons (ss_if (st_w (sw_or (st_not (st_val (s_callPG L.lis (hr.mono (by decide)) hgd (sa_cons (s_methP0 L.size (hr.mono (by decide)) (sv 2)) (sa_cons (s_tup (sa_cons (s_callB cs_abs L.za (by decide +kernel) (sa_cons (s_ix (sv 1) s_int (fun _ _ => rfl)) sa_nil)) (sa_cons (s_ix (sv 1) s_int (fun _ _ => rfl)) sa_nil))) sa_nil)))))
        (sw_or1 (st_not (st_val (s_callPG L.lis (hr.mono (by decide)) hgd (sa_cons (s_negP L.neg (hr.mono (by decide)) (sv 2)) (sa_cons (s_tup (sa_cons (s_bin os_sub s_int (s_ix (sv 1) s_int (fun _ _ => rfl))) (sa_cons (s_ix (sv 1) s_int (fun _ _ => rfl)) sa_nil))) sa_nil)))))))) (b_one (ss_ret s_bl)) b_nil)
    (b_one (ss_ret (s_and (s_callPG L.lis (hr.mono (by decide)) hgd (sa_cons (s_makePK L.mkK (hr.mono (by decide)) rfl rfl (sk_cons (s_bin os_mulG (s_neg s_int) (s_ix (sv 1) s_int (fun _ _ => rfl))) (sk_cons (s_bin os_mulG (s_neg s_int) (s_ix (sv 1) s_int (fun _ _ => rfl))) sk_nil))) (sa_cons (sv 1) sa_nil)))
      (s_and (s_cmp os_is (s_cmp hE (sv 2) (s_ix (sv 1) s_int (fun _ _ => rfl)) (nomark _)) s_bl (nomark _)) (s_one (s_cmp os_is (s_cmp hE (sv 2) (s_makeP L.mk2 (hr.mono (by decide)) (sa_cons (s_ix (sv 1) s_int (fun _ _ => rfl)) (sa_cons (s_ix (sv 1) s_int (fun _ _ => rfl)) sa_nil))) (nomark _)) s_bl (nomark _)))))))))))
end
end Pd

/-! The law's looks at two numbers, at totals: read. -/
namespace Pd
open PySem L2 PySem.Spec PyProof.Rows
section
variable {P : Program} {w : World} {K : PySem.W.Frag} {mg : Str → Option Value} {base : Heap} {a_f : Addr} {d_f : FuncData}
abbrev s_lpair : Stmt := topR 26
abbrev n_lpair : List Str := ["_law_one", "_law_other", "_law_near", "_law_far", "_law_first", "_law_second", "_law_gap"]
theorem sc_lpair : FnScope n_lpair ["_law_one", "_law_other", "_law_near", "_law_far"] (defScope s_lpair) := ⟨rfl, rfl, rfl, by decide +kernel, rfl, by decide +kernel, by decide +kernel⟩
def pr1 : Rho → T Out := sPar 4 5 (mkR (at2 2 0) (at2 2 1)) (mkR (at2 3 0) (at2 3 1))
def pr2 (i j : Nat) : Rho → T Out := sIf (tOr' (notIs (eBin opA (eVar i) (eVar j)) (call2 f_lplus (eVar 2) (eVar 3))) (tOr' (notIs (eBin opS (eVar i) (eVar j)) (call2 f_lless (eVar 2) (eVar 3))) (notIs (eBin opM (eVar i) (eVar j)) (call2 f_ltimes (eVar 2) (eVar 3))))) retF bNil
def pr3 : Rho → T Out := sIf (eTest (eUn (isDC ["Ratio"] .int) (eVar 0))) (pr2 0 5) bNil
def overT (x y : Rho → T D) : Rho → T D := eMeth "Ratio" "over" 1 (f_Rover f_tb) x (aCons y aNil)
def pr4 : Rho → T Out := sIf (tAnd' (eTest (eBin opNe (at2 3 0) (eC (.int 0)))) (notIs (overT (eVar 4) (eVar 1)) (call2 f_low (eBin opMulG (at2 2 0) (at2 3 1)) (eBin opMulG (at2 2 1) (at2 3 0))))) retF bNil
def pr5 : Rho → T Out := sSet 6 (eBin opSub (eBin opMulG (at2 2 0) (at2 3 1)) (eBin opMulG (at2 3 0) (at2 2 1)))
def pr6 : Rho → T Out := sIf (eTest (eBin opNe (repL (lst3 (eMeth "Ratio" "is_below" 1 (f_Rbelow f_tb) (eVar 4) (aCons (eVar 1) aNil)) (eMethK "Ratio" "is_at_most" 1 [0] (f_Ratmost f_tb) (eVar 4) (aCons (eVar 1) aNil)) (eBin opE (eVar 4) (eVar 5)))) (repL (lst3 (eBin opLt (eVar 6) (eC (.int 0))) (eBin opLe (eVar 6) (eC (.int 0))) (eBin opEq (eVar 6) (eC (.int 0))))))) retF bNil
def pr7 : Rho → T Out := sRet (eAnd (lisT (eBin opS (eBin opA (eVar 4) (eVar 5)) (eVar 1)) (eVar 2)) (eOr (eBin opEq (at2 3 0) (eC (.int 0))) (lisT (overT (eBin opM (eVar 4) (eVar 1)) (eVar 1)) (eVar 2))))
def m_lpair : Rho → T Out := bSeq pr1 (bSeq (pr2 4 1) (bSeq pr3 (bSeq pr4 (bSeq pr5 (bSeq pr6 pr7)))))
def f_lpair : List D → T D := runB 7 m_lpair
theorem g_lpair (F : Fun K "_law_pair_right" "_law_pair_right" s_lpair a_f d_f) (L : LWd P w K mg base) : FnG P w K mg base CX0 8 a_f d_f ["_law_one", "_law_other", "_law_near", "_law_far"] (spD K P w 4 f_lpair) := by
  have nd := sc_lpair.nd
  refine fnG_ok (n := 7) (p := 4) (m := m_lpair) (k := 7) F sc_lpair rfl rfl rfl (fun cdv A outer s H E hr hgd => ?_)
  have hE := os_cmpP (X := (cxOf CX0 P w K mg base n_lpair "_law_pair_right" (defScope s_lpair) a_f cdv A outer s H E).nox) (op := .Eq) (c := "Ratio") (os_eq hr.units) (by decide) L.eq (hr.mono (by decide))
  have hA := os_anyP (X := (cxOf CX0 P w K mg base n_lpair "_law_pair_right" (defScope s_lpair) a_f cdv A outer s H E).nox) os_add L.add (hr.mono (by decide)) L.radd declines_add (hr.mono (by decide))
  have hS := os_anyP (X := (cxOf CX0 P w K mg base n_lpair "_law_pair_right" (defScope s_lpair) a_f cdv A outer s H E).nox) os_sub L.sub (hr.mono (by decide)) L.rsub declines_sub (hr.mono (by decide))
  have hM := os_anyP (X := (cxOf CX0 P w K mg base n_lpair "_law_pair_right" (defScope s_lpair) a_f cdv A outer s H E).nox) os_mulG L.mul (hr.mono (by decide)) L.rmul declines_mul (hr.mono (by decide))
  exact b_cons (ss_par rfl nd (s_makeP L.mk2 (hr.mono (by decide)) (sa_cons (s_ix (sv 2) s_int (fun _ _ => rfl)) (sa_cons (s_ix (sv 2) s_int (fun _ _ => rfl)) sa_nil))) (s_makeP L.mk2 (hr.mono (by decide)) (sa_cons (s_ix (sv 3) s_int (fun _ _ => rfl)) (sa_cons (s_ix (sv 3) s_int (fun _ _ => rfl)) sa_nil))))
    (b_cons (ss_if (st_w (sw_or (st_not (st_val (s_callPG L.lis (hr.mono (by decide)) hgd (sa_cons (s_bin hA (sv 4) (sv 1)) (sa_cons (s_callP L.plus (hr.mono (by decide)) (sa_cons (sv 2) (sa_cons (sv 3) sa_nil))) sa_nil)))))
        (sw_or (st_not (st_val (s_callPG L.lis (hr.mono (by decide)) hgd (sa_cons (s_bin hS (sv 4) (sv 1)) (sa_cons (s_callP L.less (hr.mono (by decide)) (sa_cons (sv 2) (sa_cons (sv 3) sa_nil))) sa_nil)))))
        (sw_or1 (st_not (st_val (s_callPG L.lis (hr.mono (by decide)) hgd (sa_cons (s_bin hM (sv 4) (sv 1)) (sa_cons (s_callP L.times (hr.mono (by decide)) (sa_cons (sv 2) (sa_cons (sv 3) sa_nil))) sa_nil))))))))) (b_one (ss_ret s_bl)) b_nil)
    (b_cons (ss_if (st_val (s_isinstC ["Ratio"] (k := .int) L.kn L.zi L.zn (by decide +kernel) (sv 0)))
      (b_one (ss_if (st_w (sw_or (st_not (st_val (s_callPG L.lis (hr.mono (by decide)) hgd (sa_cons (s_bin hA (sv 0) (sv 5)) (sa_cons (s_callP L.plus (hr.mono (by decide)) (sa_cons (sv 2) (sa_cons (sv 3) sa_nil))) sa_nil)))))
        (sw_or (st_not (st_val (s_callPG L.lis (hr.mono (by decide)) hgd (sa_cons (s_bin hS (sv 0) (sv 5)) (sa_cons (s_callP L.less (hr.mono (by decide)) (sa_cons (sv 2) (sa_cons (sv 3) sa_nil))) sa_nil)))))
        (sw_or1 (st_not (st_val (s_callPG L.lis (hr.mono (by decide)) hgd (sa_cons (s_bin hM (sv 0) (sv 5)) (sa_cons (s_callP L.times (hr.mono (by decide)) (sa_cons (sv 2) (sa_cons (sv 3) sa_nil))) sa_nil))))))))) (b_one (ss_ret s_bl)) b_nil)) b_nil)
    (b_cons (ss_if (st_w (sw_and (st_cmp (os_ne hr.units) (s_ix (sv 3) s_int (fun _ _ => rfl)) s_int (nomark _)) (sw_and1 (st_not (st_val (s_callPG L.lis (hr.mono (by decide)) hgd (sa_cons (s_methP L.over (hr.mono (by decide)) (sv 4) (sa_cons (sv 1) sa_nil))
        (sa_cons (s_callP L.low (hr.mono (by decide)) (sa_cons (s_bin os_mulG (s_ix (sv 2) s_int (fun _ _ => rfl)) (s_ix (sv 3) s_int (fun _ _ => rfl))) (sa_cons (s_bin os_mulG (s_ix (sv 2) s_int (fun _ _ => rfl)) (s_ix (sv 3) s_int (fun _ _ => rfl))) sa_nil))) sa_nil)))))))) (b_one (ss_ret s_bl)) b_nil)
    (b_cons (ss_set nd (s_bin os_sub (s_bin os_mulG (s_ix (sv 2) s_int (fun _ _ => rfl)) (s_ix (sv 3) s_int (fun _ _ => rfl))) (s_bin os_mulG (s_ix (sv 3) s_int (fun _ _ => rfl)) (s_ix (sv 2) s_int (fun _ _ => rfl)))))
    (b_cons (ss_if (st_cmp (os_ne hr.units) (s_callB (cs_repr hgd hr.units) L.zr (by decide +kernel) (sa_cons (s_ofL (sl_lst (sa_cons (s_methP L.below (hr.mono (by decide)) (sv 4) (sa_cons (sv 1) sa_nil)) (sa_cons (s_methPK L.atmost (hr.mono (by decide)) rfl rfl (sv 4) (sk_cons (sv 1) sk_nil)) (sa_cons (s_cmp hE (sv 4) (sv 5) (nomark _)) sa_nil))))) sa_nil))
        (s_callB (cs_repr hgd hr.units) L.zr (by decide +kernel) (sa_cons (s_ofL (sl_lst (sa_cons (s_cmp os_lt (sv 6) s_int (nomark _)) (sa_cons (s_cmp os_le (sv 6) s_int (nomark _)) (sa_cons (s_cmp (os_eq hr.units) (sv 6) s_int (nomark _)) sa_nil))))) sa_nil)) (nomark _)) (b_one (ss_ret s_bl)) b_nil)
    (b_one (ss_ret (s_and (s_callPG L.lis (hr.mono (by decide)) hgd (sa_cons (s_bin hS (s_bin hA (sv 4) (sv 5)) (sv 1)) (sa_cons (sv 2) sa_nil)))
      (s_one (s_or (s_cmp (os_eq hr.units) (s_ix (sv 3) s_int (fun _ _ => rfl)) s_int (nomark _)) (s_one (s_callPG L.lis (hr.mono (by decide)) hgd (sa_cons (s_methP L.over (hr.mono (by decide)) (s_bin hM (sv 4) (sv 1)) (sa_cons (sv 1) sa_nil)) (sa_cons (sv 2) sa_nil))))))))))))))
end
end Pd

/-! The law's looks at totals, at any value, the law itself: read. -/
namespace Pd
open PySem L2 PySem.Spec PyProof.Rows
abbrev f_tot : List D → T D := f_total (opOwn "Ratio" (f_Radd' f_tb))
def callL (x : Rho → T D) : Rho → T D := eCall 1 f_tot (aCons x aNil)
def lst0 : Rho → T D := eL (lLst aNil)
section
variable {P : Program} {w : World} {K : PySem.W.Frag} {mg : Str → Option Value} {base : Heap} {a_f : Addr} {d_f : FuncData}
abbrev s_ltot : Stmt := topR 27
abbrev n_ltot : List Str := ["_law_numbers", "_law_pairs", "_law_due", "_law_pair"]
theorem sc_ltot : FnScope n_ltot ["_law_numbers", "_law_pairs"] (defScope s_ltot) := ⟨rfl, rfl, rfl, by decide +kernel, rfl, by decide +kernel, by decide +kernel⟩
def tr1 : Rho → T Out := sSet 2 (tup2 (eC (.int 0)) (eC (.int 1)))
def tr2 : Rho → T Out := sFor (iLst (eVar 1)) (gNm 3) (sSet 2 (call2 f_lplus (eVar 2) (eVar 3)))
def tr3 : Rho → T Out := sIf (tOr' (notIs (callL (eVar 0)) (eVar 2)) (tOr' (notIs (callL (eCa bTuple (aCons (eL (lRev (eVar 0))) aNil))) (eVar 2)) (notIs (callL lst0) (tup2 (eC (.int 0)) (eC (.int 1)))))) retF bNil
def tr4 : Rho → T Out := sRet (lisT (eCallK 1 [0] f_tot (aCons (eL (lRep (eL (lLst (aCons (at2 0 0) aNil))) (eC (.int 4)))) aNil)) (call2 f_ltimes (at2 1 0) (tup2 (eC (.int 4)) (eC (.int 1)))))
def m_ltot : Rho → T Out := bSeq tr1 (bSeq tr2 (bSeq tr3 tr4))
def f_ltot : List D → T D := runB 4 m_ltot
theorem g_ltot (F : Fun K "_law_total_right" "_law_total_right" s_ltot a_f d_f) (L : LWd P w K mg base) (TL : PmL P w K mg base "Ratio" "total" 6 1 f_tot) (TK : PmLK P w K mg base "Ratio" "total" 6 1 ["numbers"] [0] f_tot) (zt : mg "tuple" = none) : FnG P w K mg base CX0 8 a_f d_f ["_law_numbers", "_law_pairs"] (spD K P w 2 f_ltot) := by
  have nd := sc_ltot.nd
  refine fnG_ok (n := 4) (p := 2) (m := m_ltot) (k := 7) F sc_ltot rfl rfl rfl (fun cdv A outer s H E hr hgd => ?_)
  exact b_cons (ss_set nd (s_tup (sa_cons s_int (sa_cons s_int sa_nil))))
    (b_cons (ss_for PassesOwn.never rfl (si_list (sv 1)) (g_name nd) (b_one (ss_set nd (s_callP L.plus (hr.mono (by decide)) (sa_cons (sv 2) (sa_cons (sv 3) sa_nil))))))
    (b_cons (ss_if (st_w (sw_or (st_not (st_val (s_callPG L.lis (hr.mono (by decide)) hgd (sa_cons (s_clsP TL (hr.mono (by decide)) (sa_cons (sv 0) sa_nil)) (sa_cons (sv 2) sa_nil)))))
        (sw_or (st_not (st_val (s_callPG L.lis (hr.mono (by decide)) hgd (sa_cons (s_clsP TL (hr.mono (by decide)) (sa_cons (s_callTy cs_tuple zt (by decide +kernel) (sa_cons (s_ofL (sl_rev (sv 0))) sa_nil)) sa_nil)) (sa_cons (sv 2) sa_nil)))))
        (sw_or1 (st_not (st_val (s_callPG L.lis (hr.mono (by decide)) hgd (sa_cons (s_clsP TL (hr.mono (by decide)) (sa_cons (s_ofL (sl_lst sa_nil)) sa_nil)) (sa_cons (s_tup (sa_cons s_int (sa_cons s_int sa_nil))) sa_nil))))))))) (b_one (ss_ret s_bl)) b_nil)
    (b_one (ss_ret (s_callPG L.lis (hr.mono (by decide)) hgd (sa_cons (s_clsPK TK (hr.mono (by decide)) rfl rfl (sk_cons (s_ofL (sl_rep (s_ofL (sl_lst (sa_cons (s_ix (sv 0) s_int (fun _ _ => rfl)) sa_nil))) s_int)) sk_nil))
      (sa_cons (s_callP L.times (hr.mono (by decide)) (sa_cons (s_ix (sv 1) s_int (fun _ _ => rfl)) (sa_cons (s_tup (sa_cons s_int (sa_cons s_int sa_nil))) sa_nil))) sa_nil)))))))
/-! any value -/
abbrev s_lany : Stmt := topR 28
abbrev n_lany : List Str := ["_law_value", "_law_is_so", "_law_due"]
theorem sc_lany : FnScope n_lany [] (defScope s_lany) := ⟨rfl, rfl, rfl, by decide +kernel, rfl, by decide +kernel, by decide +kernel⟩
def anyL : Rho → T D := eL (lLst (aCons (eC (.int 0)) (aCons (neg1 1) (aCons (eC (.int 5)) (aCons (eBin opPow (eC (.int 10)) (eC (.int 30))) (aCons (eC (.bl true)) (aCons (eC (.bl false)) (aCons (eC .non) (aCons (eC (.str "0")) (aCons lst0 (aCons (eTup (aCons (eC (.int 0)) aNil)) (aCons (eC (.dic []))
  (aCons (eMake "Ratio" 1 [.int 1] f_Ratio_init (aCons (eC (.int 3)) aNil)) (aCons (mkR (eC (.int 1)) (eC (.int 2))) aNil))))))))))))))
def any1 : Rho → T Out := sSet 1 (eAnd (eUn (isDY ["Ratio"] .int) (eVar 0)) (eNot (eUn (isDY ["Ratio"] .bool) (eVar 0))))
def any2 : Rho → T Out := sSet 2 (lst3 (eVar 1) (eAnd (eVar 1) (eBin opGe (eVar 0) (eC (.int 0)))) (eOr (eVar 1) (eUn (isOY ["Ratio"] "Ratio") (eVar 0))))
def any3 : Rho → T Out := sIf (eTest (eBin opNe (repL (lst3 (eCall 1 f_isIntY (aCons (eVar 0) aNil)) (eCallK 1 [0] f_isCount (aCons (eVar 0) aNil)) (eCall 1 f_isNumY (aCons (eVar 0) aNil)))) (repL (eVar 2)))) retF bNil
def m_lany : Rho → T Out := bSeq (sFor (iLst anyL) (gNm 0) (bSeq any1 (bSeq any2 any3))) (sRet (eC (.bl true)))
def f_lany : List D → T D := runB 3 m_lany
theorem g_lany {C : Addr} (F : Fun K "_law_any_right" "_law_any_right" s_lany a_f d_f) (L : LWd P w K mg base) (at0 : ClsAt K "Ratio" C) (mC : mg "Ratio" = some (.ref C)) (ct0 : ClsTy K C) (cd0 : PySem.W.kitOne K (.type "dict") (.ref C) = some false) (zb : mg "bool" = none)
    (pi : Pm P w K mg base "is_integer" 1 1 ["value"] f_isIntY) (pc : PmK P w K mg base "is_count" 2 1 ["value"] ["value"] [0] f_isCount) (pn : Pm P w K mg base "is_number" 2 1 ["value"] f_isNumY) : FnG P w K mg base CX0 4 a_f d_f [] (spD K P w 0 f_lany) := by
  have nd := sc_lany.nd
  refine fnG_ok (n := 3) (p := 0) (m := m_lany) (k := 3) F sc_lany rfl rfl rfl (fun cdv A outer s H E hr hgd => ?_)
  have df : ∀ (c : Str) (C' : Addr), (["Ratio"] : List Str).contains c = true → (c == ("Ratio" : Str)) = false → ClsAt K c C' → PySem.W.kitOne K (.ref C') (.ref C) = some false := fun c C' h1 h2 _ => by
    have e : c = "Ratio" := by simpa using h1
    subst e
    exact absurd h2 (by decide +kernel)
  exact b_cons (ss_for PassesOwn.never rfl (si_list (s_ofL (sl_lst (sa_cons s_int (sa_cons (s_neg s_int) (sa_cons s_int (sa_cons (s_bin os_pow s_int s_int) (sa_cons s_bl (sa_cons s_bl (sa_cons s_non (sa_cons s_str (sa_cons (s_ofL (sl_lst sa_nil)) (sa_cons (s_tup (sa_cons s_int sa_nil)) (sa_cons s_dict0
      (sa_cons (s_makeP L.mk1 (hr.mono (by decide)) (sa_cons s_int sa_nil)) (sa_cons (s_makeP L.mk2 (hr.mono (by decide)) (sa_cons s_int (sa_cons s_int sa_nil))) sa_nil)))))))))))))))) (g_name nd)
      (b_cons (ss_set nd (s_and (s_isinstY ["Ratio"] (k := .int) L.kn L.zi L.zn (by decide +kernel) (sv 0)) (s_one (s_not (s_isinstY ["Ratio"] (k := .bool) L.kn L.zi zb (by decide +kernel) (sv 0))))))
      (b_cons (ss_set nd (s_ofL (sl_lst (sa_cons (sv 1) (sa_cons (s_and (sv 1) (s_one (s_cmp os_ge (sv 0) s_int (nomark _)))) (sa_cons (s_or (sv 1) (s_one (s_isinstOY ["Ratio"] L.kn at0 ct0 cd0 df L.zi mC (sv 0)))) sa_nil))))))
      (b_one (ss_if (st_cmp (os_ne hr.units) (s_callB (cs_repr hgd hr.units) L.zr (by decide +kernel) (sa_cons (s_ofL (sl_lst (sa_cons (s_callP pi (hr.mono (by decide)) (sa_cons (sv 0) sa_nil)) (sa_cons (s_callPK pc (hr.mono (by decide)) rfl rfl (sk_cons (sv 0) sk_nil)) (sa_cons (s_callP pn (hr.mono (by decide)) (sa_cons (sv 0) sa_nil)) sa_nil))))) sa_nil))
        (s_callB (cs_repr hgd hr.units) L.zr (by decide +kernel) (sa_cons (sv 2) sa_nil)) (nomark _)) (b_one (ss_ret s_bl)) b_nil)))))
    (b_one (ss_ret s_bl))
/-! the law -/
abbrev s_law : Stmt := topR 29
abbrev n_law : List Str := ["_law_script", "_law_pot_here", "_law_numbers", "_law_pairs", "_law_turn", "_law_number_here", "_law_pair", "_law_at", "_law_long", "_law_due"]
theorem sc_law : FnScope n_law ["_law_script"] (defScope s_law) := ⟨rfl, rfl, rfl, by decide +kernel, rfl, by decide +kernel, by decide +kernel⟩
def la2 : Rho → T Out := sFor (iRg rng1 (aCons (eC (.int 3)) aNil)) (gNm 4) (bSeq (sAsg (gTp 2 (gsCons (gNm 5) (gsCons (gNm 6) gsNil))) (eCall 1 f_number (aCons (eVar 1) aNil))) (bSeq (sApp 2 (eVar 5)) (sApp 3 (eVar 6))))
def ixV (i j : Nat) : Rho → T D := eBin ixD (eVar i) (eVar j)
def ixP (i j : Nat) : Rho → T D := eBin ixD (eVar i) (eBin opSub (eVar j) (eC (.int 1)))
def notP (a b c d : Rho → T D) : Rho → T Bool := tNot' (eTest (eCall 4 f_lpair (aCons a (aCons b (aCons c (aCons d aNil))))))
def la3b : Rho → T Out := bSeq (sIf (tOr' (tNot' (eTest (call2 f_one (ixV 2 7) (ixV 3 7)))) (notP (ixV 2 7) (ixP 2 7) (ixV 3 7) (ixP 3 7))) retF bNil) (sIf (notP (ixV 2 7) (ixV 2 7) (ixV 3 7) (ixV 3 7)) retF bNil)
def la3 : Rho → T Out := sFor (iRg rng1 (aCons (eC (.int 3)) aNil)) (gNm 7) la3b
def la4 : Rho → T Out := sIf (tOr' (tNot' (eTest (call2 f_ltot (eVar 2) (eVar 3)))) (tNot' (eTest (eCall 0 f_lany aNil)))) retF bNil
def ix00 (k : Int) : Rho → T D := eBin ixD (at2 3 0) (eC (.int k))
def la5 : Rho → T Out := sPar 8 9 (mkR (ix00 0) (ix00 1)) (at2 3 0)
def la6 : Rho → T Out := sFor (iRg rng1 (aCons (eC (.int 5)) aNil)) (gNm 4) (sPar 8 9 (eBin opM (eVar 8) (eVar 8)) (call2 f_ltimes (eVar 9) (eVar 9)))
def la7 : Rho → T Out := sRet (eAnd (lisT (eVar 8) (eVar 9)) (eBin opEq (eCa (txtC "Ratio" f_Rstr bStr) (aCons (eVar 8) aNil)) (eCall 1 f_ltext (aCons (eVar 9) aNil))))
def laRest : Rho → T Out := bSeq la2 (bFreeze 2 (bFreeze 3 (bSeq la3 (bSeq la4 (bSeq la5 (bSeq la6 la7))))))
theorem rest_ok {cdv : Value} {A : Around} {outer : List Env} {s : Shared} {H : Hp} {E : XK} {st1 : Stmt} {rest : List Stmt} (hb : defBody s_law = st1 :: rest) (hr : Room 8 (A.deeper (PyProof.Rows.envOfC "law" (defScope s_law) s.heap.objs.size a_f cdv))) (hgd : A.guards = some []) (L : LWd P w K mg base) (pn : Pm P w K mg base "_law_number" 5 1 ["_law_pot_here"] f_number) (po : PmG P w K mg base "_law_one_right" 7 2 ["_law_number_here", "_law_pair"] f_one)
    (pp : PmG P w K mg base "_law_pair_right" 8 4 ["_law_one", "_law_other", "_law_near", "_law_far"] f_lpair) (pt : PmG P w K mg base "_law_total_right" 8 2 ["_law_numbers", "_law_pairs"] f_ltot) (pa : PmG P w K mg base "_law_any_right" 4 0 [] f_lany) (zr : mg "range" = none) :
    SndB (cxOf CX0 P w K mg base n_law "law" (defScope s_law) a_f cdv A outer s H E).nox rest laRest := by
  have nd := sc_law.nd
  have hM := os_anyP (X := (cxOf CX0 P w K mg base n_law "law" (defScope s_law) a_f cdv A outer s H E).nox) os_mulG L.mul (hr.mono (by decide)) L.rmul declines_mul (hr.mono (by decide))
  have er : rest = (defBody s_law).tail := by rw [hb]; rfl
  subst er
  refine b_cons (ss_for PassesOwn.never rfl (si_range1 zr (sa_cons s_int sa_nil)) (g_name nd) (b_cons (ss_asg (s_callP pn (hr.mono (by decide)) (sa_cons (sv 1) sa_nil)) (g_tup rfl (gs_cons (g_name nd) (gs_cons (g_name nd) gs_nil)))) (b_cons (ss_app (sv 5)) (b_one (ss_app (sv 6)))))) ?_
  refine b_freeze 2 (b_freeze 3 ?_)
  refine b_cons (ss_for PassesOwn.never rfl (si_range1 zr (sa_cons s_int sa_nil)) (g_name nd) (b_cons ?h1 (b_one ?h2))) ?_
  case h1 =>
    refine ss_if (st_w (sw_or (st_not (st_val (s_callPG po (hr.mono (by decide)) hgd (sa_cons (s_ix (sv 2) (sv 7) (fun _ _ => rfl)) (sa_cons (s_ix (sv 3) (sv 7) (fun _ _ => rfl)) sa_nil))))) (sw_or1 (st_not (st_val ?_))))) (b_one (ss_ret s_bl)) b_nil
    exact s_callPG pp (hr.mono (by decide)) hgd (sa_cons (s_ix (sv 2) (sv 7) (fun _ _ => rfl)) (sa_cons (s_ix (sv 2) (s_bin os_sub (sv 7) s_int) (fun _ _ => rfl)) (sa_cons (s_ix (sv 3) (sv 7) (fun _ _ => rfl)) (sa_cons (s_ix (sv 3) (s_bin os_sub (sv 7) s_int) (fun _ _ => rfl)) sa_nil))))
  case h2 =>
    refine ss_if (st_not (st_val ?_)) (b_one (ss_ret s_bl)) b_nil
    exact s_callPG pp (hr.mono (by decide)) hgd (sa_cons (s_ix (sv 2) (sv 7) (fun _ _ => rfl)) (sa_cons (s_ix (sv 2) (sv 7) (fun _ _ => rfl)) (sa_cons (s_ix (sv 3) (sv 7) (fun _ _ => rfl)) (sa_cons (s_ix (sv 3) (sv 7) (fun _ _ => rfl)) sa_nil))))
  refine b_cons (ss_if (st_w (sw_or (st_not (st_val (s_callPG pt (hr.mono (by decide)) hgd (sa_cons (sv 2) (sa_cons (sv 3) sa_nil))))) (sw_or1 (st_not (st_val (s_callPG0 pa (hr.mono (by decide)) hgd)))))) (b_one (ss_ret s_bl)) b_nil) ?_
  refine b_cons (ss_par rfl nd (s_makeP L.mk2 (hr.mono (by decide)) (sa_cons (s_ix (s_ix (sv 3) s_int (fun _ _ => rfl)) s_int (fun _ _ => rfl)) (sa_cons (s_ix (s_ix (sv 3) s_int (fun _ _ => rfl)) s_int (fun _ _ => rfl)) sa_nil))) (s_ix (sv 3) s_int (fun _ _ => rfl))) ?_
  refine b_cons (ss_for PassesOwn.never rfl (si_range1 zr (sa_cons s_int sa_nil)) (g_name nd) (b_one (ss_par rfl nd (s_bin hM (sv 8) (sv 8)) (s_callP L.times (hr.mono (by decide)) (sa_cons (sv 9) (sa_cons (sv 9) sa_nil)))))) ?_
  refine b_one (ss_ret (s_and (s_callPG L.lis (hr.mono (by decide)) hgd (sa_cons (sv 8) (sa_cons (sv 9) sa_nil))) (s_one (s_cmp (os_eq hr.units) ?_ ?_ (nomark _)))))
  · exact s_callTy (cs_strP L.str (hr.mono (by decide)) cs_str) L.zs (by decide +kernel) (sa_cons (sv 8) sa_nil)
  · exact s_callP L.text (hr.mono (by decide)) (sa_cons (sv 9) sa_nil)
end
end Pd

/-! The look at one number comes out true. -/
namespace Pd
open PySem L2 PySem.Spec PyProof.Rows
theorem opNe_str {x : Str} (h : PyData.strOk x = true) : opNe (.str x) (.str x) = .ret (.bl false) := by
  have q : SeqAt.shaped (PyData.str x) = true := by simp [SeqAt.shaped, PyData.canLay0, PyData.depth, h]
  simp only [opNe, eqD, D.py, q, Bool.and_self, cond, PyData.eqv, beq_self_eq_true, Bool.not_true]
def pyB (d : D) : Option PyData := match d with
  | .int i => cond (decide (i.natAbs.log2 < 1000)) (some (.int i)) none
  | .bl b => some (.bool b)
  | _ => none
/-- repr of a few small ints and bools: whatever it is, it is unlike itself nowhere -/
theorem repr_same {ds : List D} {ps : List PyData} (h1 : D.pys ds = some ps) (h2 : PyData.showable (.list ps) = true) (h3 : PyData.hasDict (.list ps) = false) (h4 : PyData.depth (.list ps) ≤ 32) (h5 : (PyData.shown (.list ps)).length ≤ 100000) (h6 : PyData.strOk (PyData.shown (.list ps)) = true) {ρ : Rho} {x y : Rho → T D} (hx : x ρ = .ret (.lst ds)) (hy : y ρ = .ret (.lst ds)) :
    eTest (eBin opNe (repL x) (repL y)) ρ = .ret false := by
  have r : bRepr [.lst ds] = .ret (.str (PyData.shown (.list ps))) := by
    unfold bRepr
    have e : D.py (.lst ds) = some (.list ps) := by simp only [D.py, h1]
    simp only [e, h2, h3, decide_eq_true h4, decide_eq_true h5, Bool.not_false, Bool.and_self, cond]
  have a : repL x ρ = .ret (.str (PyData.shown (.list ps))) := by simp only [repL, eCa, aCons, aNil, hx, T.bind, r]
  have b : repL y ρ = .ret (.str (PyData.shown (.list ps))) := by simp only [repL, eCa, aCons, aNil, hy, T.bind, r]
  simp only [eTest, eBin, a, b, T.bind, opNe_str h6, asB]
theorem bool_len (b : Bool) : (PyData.shown (.bool b)).length ≤ 5 := by cases b <;> decide +kernel
theorem bool_ok (b : Bool) : PyData.strOk (PyData.shown (.bool b)) = true := by cases b <;> decide +kernel
theorem int_ok (i : Int) : PyData.strOk (PyData.shown (.int i)) = true := by simp only [PyData.shown]; exact ok_of _
/-- lists of a few small ints and bools -/
inductive Flat : D → PyData → Prop where
  | int {i : Int} (h : i.natAbs.log2 < 1920) : Flat (.int i) (.int i)
  | bl (b : Bool) : Flat (.bl b) (.bool b)
inductive FlatL : List D → List PyData → Prop where
  | nil : FlatL [] []
  | cons {d : D} {p : PyData} {ds : List D} {ps : List PyData} : Flat d p → FlatL ds ps → FlatL (d :: ds) (p :: ps)
theorem Flat.py {d : D} {p : PyData} (h : Flat d p) : d.py = some p ∧ p.showable = true ∧ p.hasDict = false ∧ p.depth ≤ 1 ∧ p.shown.length ≤ 1921 ∧ PyData.strOk p.shown = true := by
  cases h with
  | int h => exact ⟨rfl, by simp [PyData.showable, h], rfl, by simp [PyData.depth], by simp only [PyData.shown]; exact int_len h, int_ok _⟩
  | bl b => exact ⟨rfl, rfl, rfl, by simp [PyData.depth], Nat.le_trans (bool_len b) (by decide), bool_ok b⟩
theorem FlatL.py {ds : List D} {ps : List PyData} (h : FlatL ds ps) : D.pys ds = some ps ∧ PyData.showableAll ps = true ∧ PyData.hasDictAll ps = false ∧ PyData.depthAll ps ≤ 1 ∧ (∀ t ∈ PyData.shownAll ps, t.length ≤ 1921 ∧ PyData.strOk t = true) ∧ (PyData.shownAll ps).length = ds.length := by
  induction h with
  | nil => exact ⟨rfl, rfl, rfl, by simp [PyData.depthAll], (by intro t ht; simp [PyData.shownAll] at ht), rfl⟩
  | cons h t ih =>
    obtain ⟨a1, a2, a3, a4, a5, a6⟩ := h.py
    obtain ⟨b1, b2, b3, b4, b5, b6⟩ := ih
    refine ⟨by simp only [D.pys, a1, b1], by simp [PyData.showableAll, a2, b2], by simp [PyData.hasDictAll, a3, b3], ?_, fun t ht => ?_, by simp only [PyData.shownAll, List.length_cons, b6]⟩
    · simp only [PyData.depthAll]; omega
    · rw [PyData.shownAll] at ht
      rcases List.mem_cons.mp ht with e | ht
      · subst e; exact ⟨a5, a6⟩
      · exact b5 t ht
theorem text_le : ∀ (ts : List Str) (k : Nat) (acc : Str), (∀ t ∈ ts, t.length ≤ 1921 ∧ PyData.strOk t = true) → PyData.strOk acc = true → (textFrom k acc ts).length ≤ acc.length + ts.length * 1923 ∧ PyData.strOk (textFrom k acc ts) = true
  | [], k, acc, _, h => ⟨by simp [textFrom], h⟩
  | t :: ts, k, acc, h, ha => by
    obtain ⟨t1, t2⟩ := h t (List.Mem.head _)
    have oc : ∀ k : Nat, (Str.ofString (if k > 0 then ", " else "")).length ≤ 2 := fun k => by split <;> decide +kernel
    obtain ⟨r1, r2⟩ := text_le ts (k + 1) (acc ++ (if k > 0 then ", " else "" : String) ++ t) (fun t ht => h t (List.Mem.tail _ ht)) (ok_app (ok_app ha (ok_of _)) t2)
    refine ⟨?_, r2⟩
    rw [textFrom]
    have o := oc k
    simp only [Str.length_append, List.length_cons] at r1 ⊢
    omega
theorem flat_same {ds : List D} {ps : List PyData} (h : FlatL ds ps) (hl : ds.length ≤ 10) {ρ : Rho} {x y : Rho → T D} (hx : x ρ = .ret (.lst ds)) (hy : y ρ = .ret (.lst ds)) : eTest (eBin opNe (repL x) (repL y)) ρ = .ret false := by
  obtain ⟨b1, b2, b3, b4, b5, b6⟩ := h.py
  have o1 : ("[" : Str).length = 1 := by decide +kernel
  have o2 : ("]" : Str).length = 1 := by decide +kernel
  obtain ⟨t1, t2⟩ := text_le (PyData.shownAll ps) 0 "[" b5 (ok_of _)
  refine repr_same b1 ?_ ?_ ?_ ?_ ?_ hx hy
  · rw [PyData.showable, b2]
  · rw [PyData.hasDict, b3]
  · rw [PyData.depth]; omega
  · rw [PyData.shown]
    simp only [listText, Str.length_append]
    rw [o1, b6] at t1
    omega
  · rw [PyData.shown]
    exact ok_app t2 (ok_of _)

/-! one number -/
section
variable {q : Rat} {z : D}
theorem sm_log {n : Nat} (h : q.num.natAbs < 2 ^ n ∧ q.den < 2 ^ n) (l : n ≤ 1920) (l0 : 0 < n) : q.num.natAbs.log2 < 1920 ∧ q.den.log2 < 1920 :=
  ⟨log_of h.1 l (by decide), log_of h.2 l (by decide)⟩
theorem Sz.log {n : Nat} (h : Sz n q) (l : n ≤ 1920) : q.num.natAbs.log2 < 1920 ∧ q.den.log2 < 1920 :=
  ⟨log_of h.num l (by decide), log_of h.den l (by decide)⟩
theorem lis_is {ρ : Rho} {x y : Rho → T D} {n : Nat} (h : Sz n q) (l : n ≤ 1920) (hx : x ρ = .ret (qR q)) (hy : y ρ = .ret (qP q)) : lisT x y ρ = .ret (.bl true) := by
  simp only [lisT, eCall, aCons, aNil, hx, hy, T.bind, List.length_cons, List.length_nil, BEq.rfl, cond, lis_val (h.log l).1 (h.log l).2]
theorem notIs_is {ρ : Rho} {x y : Rho → T D} {n : Nat} (h : Sz n q) (l : n ≤ 1920) (hx : x ρ = .ret (qR q)) (hy : y ρ = .ret (qP q)) : notIs x y ρ = .ret false := by
  simp only [notIs, tNot', eTest, lis_is h l hx hy, T.bind, asB, Bool.not_true]
theorem at2_0 {ρ : Rho} {i : Nat} (h : ρ[i]? = some (.val (qP q))) : at2 i 0 ρ = .ret (.int q.num) := by
  simp only [at2, eBin, eVar, eC, h, T.bind, qP, at_0]
theorem at2_1 {ρ : Rho} {i : Nat} (h : ρ[i]? = some (.val (qP q))) : at2 i 1 ρ = .ret (.int q.den) := by
  simp only [at2, eBin, eVar, eC, h, T.bind, qP, at_1]
theorem divInt_one (i : Int) : Rat.divInt i 1 = (i : Rat) := by
  rw [← Rat.num_divInt_den (i : Rat)]
  rfl
theorem one1_val (h : Num z q) : one1 [.val z, .val (qP q), .un, .un] = .ret (.nx [.val z, .val (qP q), .val (qR q), .un]) := by
  cases h with
  | q p => simp only [one1, sSet, eIf, eTest, eUn, eVar, List.getElem?_cons_zero, T.bind, qR, isDC_ratio, asB, cond, List.set_cons_succ, List.set_cons_zero]
  | i i =>
    have m : eMake "Ratio" 1 [.int 1] f_Ratio_init (aCons (eVar 0) aNil) [.val (.int i), .val (qP (i : Rat)), .un, .un] = .ret (qR (i : Rat)) := by
      have e := init_val (t := i) (b := 1) (by decide) (by decide)
      have l : lowR i 1 = qR (i : Rat) := by rw [lowR_rat (by decide), divInt_one]
      simp only [eMake, aCons, aNil, eVar, List.getElem?_cons_zero, T.bind, List.length_cons, List.length_nil, BEq.rfl, cond, List.cons_append, List.nil_append, e]
      rw [← l]
      rfl
    have t : eTest (eUn (isDC ["Ratio"] .int) (eVar 0)) [.val (.int i), .val (qP (i : Rat)), .un, .un] = .ret true := rfl
    simp only [one1, sSet, eIf, t, T.bind, cond, m, List.set_cons_succ, List.set_cons_zero]
def sgn (i : Int) : Int := if i < 0 then -1 else if i > 0 then 1 else 0
theorem one2_val {d : Ent} : one2 [.val z, .val (qP q), d, .un] = .ret (.nx [.val z, .val (qP q), d, .val (.int (sgn q.num))]) := by
  have a0 := at2_0 (ρ := [.val z, .val (qP q), d, .un]) (i := 1) rfl
  have t1 : eTest (eBin opEq (at2 1 0) (eC (.int 0))) [.val z, .val (qP q), d, .un] = .ret (q.num == 0) := by simp only [eTest, eBin, a0, eC, T.bind, eqI, asB]
  have t2 : eTest (eBin opGt (at2 1 0) (eC (.int 0))) [.val z, .val (qP q), d, .un] = .ret (decide (0 < q.num)) := by simp only [eTest, eBin, a0, eC, T.bind, opGt, opI, asB]
  have e : eIf (eTest (eBin opEq (at2 1 0) (eC (.int 0)))) (eC (.int 0)) (eIf (eTest (eBin opGt (at2 1 0) (eC (.int 0)))) (eC (.int 1)) (neg1 1)) [.val z, .val (qP q), d, .un] = .ret (.int (sgn q.num)) := by
    unfold sgn
    by_cases c : q.num = 0
    · have c2 : (q.num == 0) = true := by simp [c]
      simp only [eIf, t1, c2, T.bind, cond, eC, c]
      rfl
    · have c2 : (q.num == 0) = false := by simpa using c
      by_cases g : 0 < q.num
      · have g2 : ¬ q.num < 0 := by omega
        simp only [eIf, t1, c2, t2, decide_eq_true g, T.bind, cond, eC, if_neg g2, if_pos (show q.num > 0 from g)]
      · have g2 : q.num < 0 := by omega
        simp only [eIf, t1, c2, t2, decide_eq_false g, T.bind, cond, neg1, eUn, uNeg, eC, if_pos g2]
  simp only [one2, sSet, e, T.bind, List.set_cons_succ, List.set_cons_zero]
theorem sgn_log (i : Int) : (sgn i).natAbs.log2 < 1920 := by
  unfold sgn
  split
  · decide
  · split <;> decide
abbrev rho1 (z : D) (q : Rat) : Rho := [.val z, .val (qP q), .val (qR q), .val (.int (sgn q.num))]
theorem or_ff {ρ : Rho} {a b : Rho → T Bool} (h1 : a ρ = .ret false) (h2 : b ρ = .ret false) : tOr' a b ρ = .ret false := by simp only [tOr', h1, h2, T.bind, cond]
theorem if_f {ρ : Rho} {t : Rho → T Bool} (h : t ρ = .ret false) : sIf t retF bNil ρ = .ret (.nx ρ) := by simp only [sIf, h, T.bind, cond, bNil]
theorem one3_val (h : Sz 9 q) : one3 (rho1 z q) = .ret (.nx (rho1 z q)) := by
  refine if_f (or_ff (notIs_is h (by decide) rfl rfl) (flat_same (.cons (.int (sgn_log q.num)) (.cons (.bl ((q.den : Int) == 1)) .nil)) (by simp) ?_ ?_))
  · have s : eProp "Ratio" f_Rsign (eVar 2) (rho1 z q) = .ret (.int (sgn q.num)) := by
      simp only [eProp, eVar, rho1, List.getElem?_cons_succ, List.getElem?_cons_zero, T.bind, qR, isC_ratio, sign_val, sgn]
    have w : eProp "Ratio" f_Rwhole (eVar 2) (rho1 z q) = .ret (.bl ((q.den : Int) == 1)) := by
      simp only [eProp, eVar, rho1, List.getElem?_cons_succ, List.getElem?_cons_zero, T.bind, qR, isC_ratio, whole_val]
    simp only [lst2, eL, lLst, aCons, aNil, s, w, T.bind, small2, cond]
  · have a1 := at2_1 (ρ := rho1 z q) (i := 1) rfl
    have v3 : eVar 3 (rho1 z q) = .ret (.int (sgn q.num)) := rfl
    simp only [lst2, eL, lLst, aCons, aNil, v3, eBin, a1, eC, T.bind, eqI, small2, cond]
theorem txt_ins {c : Str} {F g : List D → T D} {fs : List (Str × D)} (h : (c == c) = true) : txtC c F g [.ins c fs] = (F [.ins c fs]).bind asStr := by
  simp only [txtC, isC, h, cond, T.bind]
theorem empty_ok : PyData.strOk Str.empty = true := by decide +kernel
theorem rstr_ok (q : Rat) : PyData.strOk (if q.den = 1 then Str.ofString (toString q.num) else Str.empty ++ Str.ofString (toString q.num) ++ "/" ++ Str.ofString (toString (q.den : Int))) = true := by
  split
  · exact ok_of _
  · exact ok_app (ok_app (ok_app empty_ok (ok_of _)) (ok_of _)) (ok_of _)
theorem ne_same {ρ : Rho} {a b : Rho → T D} {x : Str} (h : PyData.strOk x = true) (h1 : a ρ = .ret (.str x)) (h2 : b ρ = .ret (.str x)) : eTest (eBin opNe a b) ρ = .ret false := by
  simp only [eTest, eBin, h1, h2, T.bind, opNe_str h, asB]
theorem strOwn {ρ : Rho} {i : Nat} (hi : ρ[i]? = some (.val (qR q))) (h : q.num.natAbs.log2 < 1920 ∧ q.den.log2 < 1920) : eCa (txtC "Ratio" f_Rstr bStr) (aCons (eVar i) aNil) ρ = .ret (.str (if q.den = 1 then Str.ofString (toString q.num) else Str.empty ++ Str.ofString (toString q.num) ++ "/" ++ Str.ofString (toString (q.den : Int)))) := by
  have r := rstr_val h.1 h.2
  simp only [eCa, aCons, aNil, eVar, hi, T.bind]
  show txtC "Ratio" f_Rstr bStr [.ins "Ratio" _] = _
  rw [txt_ins sRR]
  show (f_Rstr [qR q]).bind asStr = _
  rw [r]
  rfl
theorem ltext_is {ρ : Rho} {i : Nat} (hi : ρ[i]? = some (.val (qP q))) (h : q.num.natAbs.log2 < 1920 ∧ q.den.log2 < 1920) : eCall 1 f_ltext (aCons (eVar i) aNil) ρ = .ret (.str (if q.den = 1 then Str.ofString (toString q.num) else Str.empty ++ Str.ofString (toString q.num) ++ "/" ++ Str.ofString (toString (q.den : Int)))) := by
  simp only [eCall, aCons, aNil, eVar, hi, T.bind, List.length_cons, List.length_nil, BEq.rfl, cond]
  rw [ltext_val h.1 h.2, rstr_val h.1 h.2]
theorem one4_val (h : Sz 9 q) : one4 (rho1 z q) = .ret (.nx (rho1 z q)) := by
  have l := h.log (by decide)
  refine if_f (or_ff (ne_same (rstr_ok q) (strOwn rfl l) (ltext_is rfl l)) (ne_same (x := Str.empty ++ "Ratio(" ++ Str.ofString (toString q.num) ++ ", " ++ Str.ofString (toString (q.den : Int)) ++ ")") ?_ ?_ ?_))
  · exact ok_app (ok_app (ok_app (ok_app (ok_app empty_ok (ok_of _)) (ok_of _)) (ok_of _)) (ok_of _)) (ok_of _)
  · have r := rrepr_val l.1 l.2
    have v : eVar 2 (rho1 z q) = .ret (qR q) := rfl
    simp only [eCa, aCons, aNil, v, T.bind]
    show txtC "Ratio" f_Rrepr bRepr [.ins "Ratio" _] = _
    rw [txt_ins sRR]
    show (f_Rrepr [qR q]).bind asStr = _
    rw [r]
    rfl
  · rw [empty_app]
    have a := int_len l.1
    have b := log_len l.2
    have o1 : ("Ratio(" : Str).length = 6 := by decide +kernel
    have o3 : (", " : Str).length = 2 := by decide +kernel
    have o4 : (")" : Str).length = 1 := by decide +kernel
    have s0 : one4.strAt' 1 0 (rho1 z q) = .ret (.str (Str.ofString (toString q.num))) := by
      simp only [one4.strAt', eCa, aCons, aNil, at2_0 (ρ := rho1 z q) (i := 1) rfl, T.bind, bStr_val l.1]
    have s1 : one4.strAt' 1 1 (rho1 z q) = .ret (.str (Str.ofString (toString (q.den : Int)))) := by
      simp only [one4.strAt', eCa, aCons, aNil, at2_1 (ρ := rho1 z q) (i := 1) rfl, T.bind, bStr_val (i := (q.den : Int)) l.2]
    have q1 := add_str (x := "Ratio(") (y := Str.ofString (toString q.num)) (by omega)
    have q2 := add_str (x := "Ratio(" ++ Str.ofString (toString q.num)) (y := ", ") (by simp only [Str.length_append]; omega)
    have q3 := add_str (x := "Ratio(" ++ Str.ofString (toString q.num) ++ ", ") (y := Str.ofString (toString (q.den : Int))) (by simp only [Str.length_append]; omega)
    have q4 := add_str (x := "Ratio(" ++ Str.ofString (toString q.num) ++ ", " ++ Str.ofString (toString (q.den : Int))) (y := ")") (by simp only [Str.length_append]; omega)
    simp only [eBin, s0, s1, eC, T.bind, q1, q2, q3, q4]
theorem den_pos : (0 : Int) < (q.den : Int) := by have := q.den_pos; omega
theorem size_rat (h : Sz 9 q) : f_Rsize [qR q] = .ret (qR (if q.num < 0 then -q else q)) := by
  have e := size_val (a := q.num) (b := (q.den : Int)) den_ne (by simpa using log_of h.den (show 9 ≤ 9000 by decide) (by decide))
  show f_Rsize [ratio q.num q.den] = _
  rw [e]
  by_cases c : q.num < 0
  · rw [if_pos c, if_pos c, lowR_rat den_ne, ← Rat.neg_divInt, Rat.num_divInt_den]
  · rw [if_neg c, if_neg c, lowR_rat den_ne, Rat.num_divInt_den]
theorem abs_rat : (if q.num < 0 then -q else q).num = (q.num.natAbs : Int) ∧ (if q.num < 0 then -q else q).den = q.den := by
  split
  · exact ⟨by rw [Rat.neg_num]; omega, Rat.neg_den _⟩
  · exact ⟨by omega, rfl⟩
theorem one5_val (h : Sz 9 q) : one5 (rho1 z q) = .ret (.nx (rho1 z q)) := by
  have a0 := at2_0 (ρ := rho1 z q) (i := 1) rfl
  have a1 := at2_1 (ρ := rho1 z q) (i := 1) rfl
  have v : eVar 2 (rho1 z q) = .ret (qR q) := rfl
  obtain ⟨b0, b1⟩ := abs_rat (q := q)
  have sa : Sz 9 (if q.num < 0 then -q else q) := ⟨by rw [b0]; simpa using h.num, by rw [b1]; exact h.den⟩
  have sn : Sz 9 (-q) := ⟨by rw [Rat.neg_num, Int.natAbs_neg]; exact h.num, by rw [Rat.neg_den]; exact h.den⟩
  refine if_f (or_ff (notIs_is sa (by decide) ?_ ?_) (notIs_is sn (by decide) ?_ ?_))
  · have i : insD "Ratio" "size" (qR q) = .ret () := by
      have f : fieldD "size" [("_top", D.int q.num), ("_bottom", D.int (q.den : Int))] = none := by
        have f1 : (("size" : Str) == "_top") = false := by decide +kernel
        have f2 : (("size" : Str) == "_bottom") = false := by decide +kernel
        simp only [fieldD, f1, f2, cond]
      simp only [insD, qR, ratio, sRR, f, Option.isNone_none, Bool.and_self, cond]
    simp only [eMeth, v, i, aNil, T.bind, List.length_nil, BEq.rfl, cond, size_rat h]
  · simp only [tup2, eTup, eCa, aCons, aNil, a0, a1, T.bind, abs_val, small2, cond, qP, b0, b1]
  · have n := neg_rat h (by decide)
    simp only [eUn, v, T.bind]
    show ((isC "Ratio" (qR q)).bind fun _ => f_Rneg [qR q]) = _
    simp only [qR, isC_ratio, T.bind]
    exact n
  · have e : (0 : Int) - q.num = (-q).num := by rw [Rat.neg_num]; omega
    simp only [tup2, eTup, eBin, eC, aCons, aNil, a0, a1, opSub, T.bind, small2, cond, qP, e, Rat.neg_den]
theorem mk_rat {ρ : Rho} {x y : Rho → T D} {n : Nat} (h : Sz n q) (l : n ≤ 9000) (hx : x ρ = .ret (.int q.num)) (hy : y ρ = .ret (.int q.den)) : mkR x y ρ = .ret (qR q) := by
  rw [mk_val hx hy den_ne (by simpa using log_of h.den l (by decide)), lowR_rat den_ne, Rat.num_divInt_den]
theorem opE_int (i : Int) : opE (qR q) (.int i) = .ret (.bl false) := by
  show ((isC "Ratio" (qR q)).bind fun _ => f_Req [qR q, .int i]) = _
  simp only [qR, isC_ratio, T.bind]
  exact eq_int q i
theorem opE_rat (p : Rat) : opE (qR q) (qR p) = .ret (.bl (decide (q = p))) := by
  show ((isC "Ratio" (qR q)).bind fun _ => (isC "Ratio" (qR p)).bind fun _ => f_Req [qR q, qR p]) = _
  simp only [qR, isC_ratio, T.bind]
  exact eq_rat q p
theorem one6_val (h : Sz 9 q) : one6 (rho1 z q) = .ret (.rt (.bl true)) := by
  have a0 := at2_0 (ρ := rho1 z q) (i := 1) rfl
  have a1 := at2_1 (ρ := rho1 z q) (i := 1) rfl
  have v : eVar 2 (rho1 z q) = .ret (qR q) := rfl
  have lg := h.log (by decide)
  have d1 : ((-7 : Int)).natAbs.log2 < 9000 := by decide
  have n1 := mulG_val (i := -7) (j := q.num) d1 (Nat.lt_trans lg.1 (by decide))
  have n2 := mulG_val (i := -7) (j := (q.den : Int)) d1 (by simpa using Nat.lt_trans lg.2 (by decide))
  have b0 : (-7 : Int) * (q.den : Int) ≠ 0 := Int.mul_ne_zero (by decide) den_ne
  have bl : ((-7 : Int) * (q.den : Int)).natAbs.log2 < 9000 := by
    have := Sz.mulP (m := 3) (n := 9) (x := (-7 : Int).natAbs) (y := q.den) (by decide) h.den
    rw [Int.natAbs_mul]
    exact log_of (by simpa using this) (show 3 + 9 ≤ 9000 by decide) (by decide)
  have iv := init_val (t := -7 * q.num) b0 bl
  have lr : lowR (-7 * q.num) (-7 * (q.den : Int)) = qR q := by
    rw [lowR_rat b0, Rat.divInt_mul_left (by decide), Rat.num_divInt_den]
  have mk : eMakeK "Ratio" 2 [1, 0] f_Ratio_init (aCons (eBin opMulG (neg1 7) (at2 1 1)) (aCons (eBin opMulG (neg1 7) (at2 1 0)) aNil)) (rho1 z q) = .ret (qR q) := by
    have m7 : neg1 7 (rho1 z q) = .ret (.int (-7)) := rfl
    have pk : pickD [1, 0] [D.int (-7 * (q.den : Int)), D.int (-7 * q.num)] = [D.int (-7 * q.num), D.int (-7 * (q.den : Int))] := rfl
    simp only [eMakeK, aCons, aNil, eBin, m7, a0, a1, T.bind, n1, n2, List.length_cons, List.length_nil, BEq.rfl, cond, pk, iv]
    rw [← lr]
    rfl
  have e1 : lisT (eMakeK "Ratio" 2 [1, 0] f_Ratio_init (aCons (eBin opMulG (neg1 7) (at2 1 1)) (aCons (eBin opMulG (neg1 7) (at2 1 0)) aNil))) (eVar 1) (rho1 z q) = .ret (.bl true) := lis_is h (by decide) mk rfl
  have e2 : eBin opIs (eBin opE (eVar 2) (at2 1 0)) (eC (.bl false)) (rho1 z q) = .ret (.bl true) := by
    simp only [eBin, v, a0, eC, T.bind, opE_int]
    rfl
  have e3 : eBin opIs (eBin opE (eVar 2) (mkR (at2 1 0) (at2 1 1))) (eC (.bl true)) (rho1 z q) = .ret (.bl true) := by
    have m := mk_rat (ρ := rho1 z q) (x := at2 1 0) (y := at2 1 1) h (by decide) a0 a1
    simp only [eBin, v, m, eC, T.bind, opE_rat, decide_true]
    rfl
  simp only [one6, sRet, eAnd, e1, e2, e3, T.bind, asB, cond]
theorem one_val (hz : Num z q) (h : Sz 9 q) : f_one [z, qP q] = .ret (.bl true) := by
  show (m_one [.val z, .val (qP q), .un, .un]).bind _ = _
  simp only [m_one, bSeq, one1_val hz, one2_val, T.bind]
  simp only [one3_val h, one4_val h, one5_val h, one6_val h, T.bind]
end
end Pd

/-! The look at two numbers comes out true. -/
namespace Pd
open PySem L2 PySem.Spec PyProof.Rows
section
variable {p q : Rat} {x z : D} {m n : Nat}
theorem opOwn_num {F : List D → T D} (h : Num z q) : opOwn "Ratio" F (qR p) z = F [qR p, z] := by
  cases h with
  | q r =>
    show ((isC "Ratio" (qR p)).bind fun _ => (isC "Ratio" (qR q)).bind fun _ => F [qR p, qR q]) = _
    simp only [qR, isC_ratio, T.bind]
  | i i =>
    show ((isC "Ratio" (qR p)).bind fun _ => F [qR p, .int i]) = _
    simp only [qR, isC_ratio, T.bind]
theorem opAny_num {g : D → D → T D} {F R : List D → T D} (h : Num z q) : opAny "Ratio" g F R (qR p) z = F [qR p, z] := opOwn_num h
theorem opAny_int {g : D → D → T D} {F R : List D → T D} (i : Int) : opAny "Ratio" g F R (.int i) (qR q) = R [qR q, .int i] := by
  show ((isC "Ratio" (qR q)).bind fun _ => R [qR q, .int i]) = _
  simp only [qR, isC_ratio, T.bind]
theorem back_val {F : List D → T D} {d : D} (h : Num z q) (e : F [qR p, z] = .ret d) : f_Rback F [qR p, z] = .ret d := by
  have v0 : eVar 0 [.val (qR p), .val z] = .ret (qR p) := rfl
  have v1 : eVar 1 [.val (qR p), .val z] = .ret z := rfl
  show (m_Rback F [.val (qR p), .val z]).bind _ = _
  simp only [m_Rback, sRet, eBin, v0, v1, T.bind, opOwn_num h, e]
theorem opA_num (h : Num z q) (hp : Sz m p) (hq : Sz n q) (l : m + n ≤ 9000) : opA (qR p) z = .ret (qR (p + q)) := by rw [show opA (qR p) z = _ from opAny_num h]; exact add_rat h hp hq l
theorem opS_num (h : Num z q) (hp : Sz m p) (hq : Sz n q) (l : m + n ≤ 9000) : opS (qR p) z = .ret (qR (p - q)) := by rw [show opS (qR p) z = _ from opAny_num h]; exact sub_rat h hp hq l
theorem opM_num (h : Num z q) (hp : Sz m p) (hq : Sz n q) (l : m + n ≤ 9000) : opM (qR p) z = .ret (qR (p * q)) := by rw [show opM (qR p) z = _ from opAny_num h]; exact mul_rat h hp hq l
theorem opA_int (i : Int) (hi : Sz m (i : Rat)) (hq : Sz n q) (l : m + n ≤ 9000) : opA (.int i) (qR q) = .ret (qR (i + q)) := by
  rw [show opA (.int i) (qR q) = _ from opAny_int i, back_val (.i i) (add_rat (.i i) hq hi (by omega)), Rat.add_comm]
theorem opM_int (i : Int) (hi : Sz m (i : Rat)) (hq : Sz n q) (l : m + n ≤ 9000) : opM (.int i) (qR q) = .ret (qR (i * q)) := by
  rw [show opM (.int i) (qR q) = _ from opAny_int i, back_val (.i i) (mul_rat (.i i) hq hi (by omega)), Rat.mul_comm]
theorem sz_neg (h : Sz n q) : Sz n (-q) := ⟨by rw [Rat.neg_num, Int.natAbs_neg]; exact h.num, by rw [Rat.neg_den]; exact h.den⟩
theorem opS_int (i : Int) (hi : Sz m (i : Rat)) (hq : Sz n q) (l : m + n ≤ 9000) : opS (.int i) (qR q) = .ret (qR (i - q)) := by
  rw [show opS (.int i) (qR q) = _ from opAny_int i]
  have v0 : eVar 0 [.val (qR q), .val (.int i)] = .ret (qR q) := rfl
  have v1 : eVar 1 [.val (qR q), .val (.int i)] = .ret (.int i) := rfl
  have ng : uNegC "Ratio" f_Rneg (qR q) = .ret (qR (-q)) := by
    show ((isC "Ratio" (qR q)).bind fun _ => f_Rneg [qR q]) = _
    simp only [qR, isC_ratio, T.bind]
    exact neg_rat hq (by omega)
  have ad := add_rat (.i i) (sz_neg hq) hi (by omega)
  show (m_Rrsub f_Rneg (f_Radd' f_tb) [.val (qR q), .val (.int i)]).bind _ = _
  have e : -q + (i : Rat) = i - q := by grind
  simp only [m_Rrsub, sRet, eBin, eUn, v0, v1, ng, T.bind, opOwn_num (.i i), ad, e]
theorem call2_of {f : List D → T D} {ρ : Rho} {a b : Rho → T D} {u v : D} (ha : a ρ = .ret u) (hb : b ρ = .ret v) : call2 f a b ρ = f [u, v] := by
  simp only [call2, eCall, aCons, aNil, ha, hb, T.bind, List.length_cons, List.length_nil, BEq.rfl, cond]
theorem bin_of {f : D → D → T D} {ρ : Rho} {a b : Rho → T D} {u v : D} (ha : a ρ = .ret u) (hb : b ρ = .ret v) : eBin f a b ρ = f u v := by simp only [eBin, ha, hb, T.bind]
abbrev rho2 (x z : D) (p q : Rat) (g : Ent) : Rho := [.val x, .val z, .val (qP p), .val (qP q), .val (qR p), .val (qR q), g]
theorem pr1_val (hp : Sz 9 p) (hq : Sz 9 q) : pr1 [.val x, .val z, .val (qP p), .val (qP q), .un, .un, .un] = .ret (.nx (rho2 x z p q .un)) := by
  have m1 := mk_rat (ρ := [.val x, .val z, .val (qP p), .val (qP q), .un, .un, .un]) (x := at2 2 0) (y := at2 2 1) hp (by decide) (at2_0 rfl) (at2_1 rfl)
  have m2 := mk_rat (ρ := [.val x, .val z, .val (qP p), .val (qP q), .un, .un, .un]) (x := at2 3 0) (y := at2 3 1) hq (by decide) (at2_0 rfl) (at2_1 rfl)
  simp only [pr1, sPar, m1, m2, T.bind, List.set_cons_succ, List.set_cons_zero]
theorem sums_val {i j : Nat} {u v : D} (hp : Sz 9 p) (hq : Sz 9 q) (hi : (rho2 x z p q .un)[i]? = some (.val u)) (hj : (rho2 x z p q .un)[j]? = some (.val v)) (ha : opA u v = .ret (qR (p + q))) (hs : opS u v = .ret (qR (p - q))) (hm : opM u v = .ret (qR (p * q))) : pr2 i j (rho2 x z p q .un) = .ret (.nx (rho2 x z p q .un)) := by
  have vi : eVar i (rho2 x z p q .un) = .ret u := by simp only [eVar, hi]
  have vj : eVar j (rho2 x z p q .un) = .ret v := by simp only [eVar, hj]
  have c2 : eVar 2 (rho2 x z p q .un) = .ret (qP p) := rfl
  have c3 : eVar 3 (rho2 x z p q .un) = .ret (qP q) := rfl
  refine if_f (or_ff (notIs_is (sz_add hp hq) (by decide) ?_ ?_) (or_ff (notIs_is (sz_sub hp hq) (by decide) ?_ ?_) (notIs_is (sz_mul hp hq) (by decide) ?_ ?_)))
  · rw [bin_of vi vj, ha]
  · rw [call2_of c2 c3, lplus_val hp hq (by decide)]
  · rw [bin_of vi vj, hs]
  · rw [call2_of c2 c3, lless_val hp hq (by decide)]
  · rw [bin_of vi vj, hm]
  · rw [call2_of c2 c3, ltimes_val hp hq (by decide)]
theorem pr2_val (hz : Num z q) (hp : Sz 9 p) (hq : Sz 9 q) : pr2 4 1 (rho2 x z p q .un) = .ret (.nx (rho2 x z p q .un)) :=
  sums_val hp hq rfl rfl (opA_num hz hp hq (by decide)) (opS_num hz hp hq (by decide)) (opM_num hz hp hq (by decide))
theorem pr3_val (hx : Num x p) (hp : Sz 9 p) (hq : Sz 9 q) : pr3 (rho2 x z p q .un) = .ret (.nx (rho2 x z p q .un)) := by
  cases hx with
  | q r =>
    have t : eTest (eUn (isDC ["Ratio"] .int) (eVar 0)) (rho2 (qR p) z p q .un) = .ret false := by
      have v : eVar 0 (rho2 (qR p) z p q .un) = .ret (qR p) := rfl
      simp only [eTest, eUn, v, T.bind]
      show ((isDC ["Ratio"] .int (ratio p.num p.den)).bind asB) = _
      rw [isDC_ratio]
      rfl
    simp only [pr3, sIf, t, T.bind, cond, bNil]
  | i i =>
    have t : eTest (eUn (isDC ["Ratio"] .int) (eVar 0)) (rho2 (.int i) z (i : Rat) q .un) = .ret true := rfl
    simp only [pr3, sIf, t, T.bind, cond]
    exact sums_val hp hq rfl rfl (opA_int i hp hq (by decide)) (opS_int i hp hq (by decide)) (opM_int i hp hq (by decide))
theorem insD_over : insD "Ratio" "over" (qR p) = .ret () := by
  have f1 : (("over" : Str) == "_top") = false := by decide +kernel
  have f2 : (("over" : Str) == "_bottom") = false := by decide +kernel
  simp only [insD, qR, ratio, sRR, fieldD, f1, f2, Option.isNone_none, Bool.and_self, cond]
theorem insD_below : insD "Ratio" "is_below" (qR p) = .ret () := by
  have f1 : (("is_below" : Str) == "_top") = false := by decide +kernel
  have f2 : (("is_below" : Str) == "_bottom") = false := by decide +kernel
  simp only [insD, qR, ratio, sRR, fieldD, f1, f2, Option.isNone_none, Bool.and_self, cond]
theorem insD_atmost : insD "Ratio" "is_at_most" (qR p) = .ret () := by
  have f1 : (("is_at_most" : Str) == "_top") = false := by decide +kernel
  have f2 : (("is_at_most" : Str) == "_bottom") = false := by decide +kernel
  simp only [insD, qR, ratio, sRR, fieldD, f1, f2, Option.isNone_none, Bool.and_self, cond]
theorem over_of {ρ : Rho} {a b : Rho → T D} (ha : a ρ = .ret (qR p)) (hb : b ρ = .ret z) (hz : Num z q) (hp : Sz m p) (hq : Sz n q) (l : m + n ≤ 9000) (q0 : q.num ≠ 0) : overT a b ρ = .ret (qR (p / q)) := by
  simp only [overT, eMeth, ha, insD_over, T.bind, aCons, aNil, hb, List.length_cons, List.length_nil, BEq.rfl, cond, over_rat hz hp hq l q0]
theorem div_rat (q0 : q.num ≠ 0) : Rat.divInt (p.num * q.den) (p.den * q.num) = p / q := by
  rw [← Rat.divInt_mul_divInt, Rat.num_divInt_den, ← Rat.inv_def, ← Rat.div_def]
theorem pr4_val (hz : Num z q) (hp : Sz 9 p) (hq : Sz 9 q) : pr4 (rho2 x z p q .un) = .ret (.nx (rho2 x z p q .un)) := by
  have a20 := at2_0 (ρ := rho2 x z p q .un) (i := 2) rfl
  have a21 := at2_1 (ρ := rho2 x z p q .un) (i := 2) rfl
  have a30 := at2_0 (ρ := rho2 x z p q .un) (i := 3) rfl
  have a31 := at2_1 (ρ := rho2 x z p q .un) (i := 3) rfl
  have t : eTest (eBin opNe (at2 3 0) (eC (.int 0))) (rho2 x z p q .un) = .ret (!(q.num == 0)) := by simp only [eTest, eBin, a30, eC, T.bind, neI, asB]
  refine if_f ?_
  by_cases c : q.num = 0
  · have c2 : (!(q.num == 0)) = false := by simp [c]
    simp only [tAnd', t, c2, T.bind, cond]
  · have c2 : (!(q.num == 0)) = true := by simp [c]
    have b0 : (p.den : Int) * q.num ≠ 0 := Int.mul_ne_zero den_ne c
    have s1 : (p.num * (q.den : Int)).natAbs < 2 ^ 18 := num_sz hp hq
    have s2 : ((p.den : Int) * q.num).natAbs < 2 ^ 18 := by rw [Int.natAbs_mul]; simpa using Sz.mulP hp.den hq.num
    have sd : Sz 18 (p / q) := by rw [← div_rat c]; exact sz_divInt b0 s1 s2
    have n : notIs (overT (eVar 4) (eVar 1)) (call2 f_low (eBin opMulG (at2 2 0) (at2 3 1)) (eBin opMulG (at2 2 1) (at2 3 0))) (rho2 x z p q .un) = .ret false := by
      refine notIs_is sd (by decide) (over_of rfl rfl hz hp hq (by decide) c) ?_
      have sm := sm_of hp hq (by decide)
      have m1 : eBin opMulG (at2 2 0) (at2 3 1) (rho2 x z p q .un) = .ret (.int (p.num * (q.den : Int))) := by rw [bin_of a20 a31, mulG_val sm.a sm.e]
      have m2 : eBin opMulG (at2 2 1) (at2 3 0) (rho2 x z p q .un) = .ret (.int ((p.den : Int) * q.num)) := by rw [bin_of a21 a30, mulG_val sm.b sm.c]
      rw [call2_of m1 m2, low_rat b0 (log_of s1 (by decide) (by decide)) (log_of s2 (by decide) (by decide)), div_rat c]
    simp only [tAnd', t, c2, T.bind, cond, n]
def gap (p q : Rat) : Int := p.num * q.den - q.num * p.den
theorem pr5_val (hp : Sz 9 p) (hq : Sz 9 q) : pr5 (rho2 x z p q .un) = .ret (.nx (rho2 x z p q (.val (.int (gap p q))))) := by
  have a20 := at2_0 (ρ := rho2 x z p q .un) (i := 2) rfl
  have a21 := at2_1 (ρ := rho2 x z p q .un) (i := 2) rfl
  have a30 := at2_0 (ρ := rho2 x z p q .un) (i := 3) rfl
  have a31 := at2_1 (ρ := rho2 x z p q .un) (i := 3) rfl
  have sm := sm_of hp hq (by decide)
  simp only [pr5, sSet, eBin, a20, a21, a30, a31, T.bind, mulG_val sm.a sm.e, mulG_val sm.c sm.b, opSub, gap, List.set_cons_succ, List.set_cons_zero]
theorem small3 (x y z : D) : small [x, y, z] = true := by unfold small; simp
theorem pr6_val (hz : Num z q) (hp : Sz 9 p) (hq : Sz 9 q) : pr6 (rho2 x z p q (.val (.int (gap p q)))) = .ret (.nx (rho2 x z p q (.val (.int (gap p q))))) := by
  have v4 : eVar 4 (rho2 x z p q (.val (.int (gap p q)))) = .ret (qR p) := rfl
  have v1 : eVar 1 (rho2 x z p q (.val (.int (gap p q)))) = .ret z := rfl
  have v5 : eVar 5 (rho2 x z p q (.val (.int (gap p q)))) = .ret (qR q) := rfl
  have v6 : eVar 6 (rho2 x z p q (.val (.int (gap p q)))) = .ret (.int (gap p q)) := rfl
  have e1 : decide (gap p q < 0) = decide (p < q) := decide_eq_decide.mpr (by rw [Rat.lt_iff]; unfold gap; omega)
  have e2 : decide (gap p q ≤ 0) = decide (p ≤ q) := decide_eq_decide.mpr (by rw [Rat.le_iff]; unfold gap; omega)
  have e3 : (gap p q == 0) = decide (p = q) := by
    have h : gap p q = 0 ↔ p = q := by rw [Rat.eq_iff_mul_eq_mul]; unfold gap; omega
    by_cases c : p = q
    · rw [decide_eq_true c, h.mpr c]; rfl
    · rw [decide_eq_false c]
      exact beq_false_of_ne fun z => c (h.mp z)
  refine if_f (flat_same (.cons (.bl (decide (p < q))) (.cons (.bl (decide (p ≤ q))) (.cons (.bl (decide (p = q))) .nil))) (by simp) ?_ ?_)
  · have b := below_rat hz hp hq (by decide)
    have a := atmost_rat hz hp hq (by decide)
    have pk : pickD [0] [z] = [z] := rfl
    simp only [lst3, eL, lLst, aCons, aNil, eMeth, eMethK, eBin, v4, v1, v5, insD_below, insD_atmost, T.bind, List.length_cons, List.length_nil, BEq.rfl, cond, pk, b, a, opE_rat, small3]
  · simp only [lst3, eL, lLst, aCons, aNil, eBin, v6, eC, T.bind, opLt, opLe, opI, eqI, e1, e2, e3, small3, cond]
theorem pr7_val (hz : Num z q) (hp : Sz 9 p) (hq : Sz 9 q) : pr7 (rho2 x z p q (.val (.int (gap p q)))) = .ret (.rt (.bl true)) := by
  have v4 : eVar 4 (rho2 x z p q (.val (.int (gap p q)))) = .ret (qR p) := rfl
  have v1 : eVar 1 (rho2 x z p q (.val (.int (gap p q)))) = .ret z := rfl
  have v5 : eVar 5 (rho2 x z p q (.val (.int (gap p q)))) = .ret (qR q) := rfl
  have v2 : eVar 2 (rho2 x z p q (.val (.int (gap p q)))) = .ret (qP p) := rfl
  have a30 := at2_0 (ρ := rho2 x z p q (.val (.int (gap p q)))) (i := 3) rfl
  have l1 : lisT (eBin opS (eBin opA (eVar 4) (eVar 5)) (eVar 1)) (eVar 2) (rho2 x z p q (.val (.int (gap p q)))) = .ret (.bl true) := by
    refine lis_is hp (by decide) ?_ v2
    rw [bin_of (by rw [bin_of v4 v5, opA_num (.q q) hp hq (by decide)]) v1, opS_num hz (sz_add hp hq) hq (by decide), Rat.add_sub_cancel]
  have t : eBin opEq (at2 3 0) (eC (.int 0)) (rho2 x z p q (.val (.int (gap p q)))) = .ret (.bl (q.num == 0)) := by simp only [eBin, a30, eC, T.bind, eqI]
  by_cases c : q.num = 0
  · have c2 : (q.num == 0) = true := by simp [c]
    simp only [pr7, sRet, eAnd, eOr, l1, t, c2, T.bind, asB, cond]
  · have c2 : (q.num == 0) = false := by simpa using c
    have q0 : q ≠ 0 := fun e => c (by rw [e]; rfl)
    have l2 : lisT (overT (eBin opM (eVar 4) (eVar 1)) (eVar 1)) (eVar 2) (rho2 x z p q (.val (.int (gap p q)))) = .ret (.bl true) := by
      refine lis_is hp (by decide) ?_ v2
      rw [over_of (by rw [bin_of v4 v1, opM_num hz hp hq (by decide)]) v1 hz (sz_mul hp hq) hq (by decide) c, Rat.mul_div_cancel q0]
    simp only [pr7, sRet, eAnd, eOr, l1, t, c2, l2, T.bind, asB, cond]
theorem pair_val (hx : Num x p) (hz : Num z q) (hp : Sz 9 p) (hq : Sz 9 q) : f_lpair [x, z, qP p, qP q] = .ret (.bl true) := by
  show (m_lpair [.val x, .val z, .val (qP p), .val (qP q), .un, .un, .un]).bind _ = _
  simp only [m_lpair, bSeq, pr1_val hp hq, T.bind]
  simp only [pr2_val hz hp hq, pr3_val hx hp hq, pr4_val hz hp hq, pr5_val hp hq, pr6_val hz hp hq, pr7_val hz hp hq, T.bind]
end
end Pd

/-! The looks at totals, at any value come out true. -/
namespace Pd
open PySem L2 PySem.Spec PyProof.Rows
/-- numbers and their worths -/
inductive NumL : List D → List Rat → Prop where
  | nil : NumL [] []
  | cons {z : D} {q : Rat} {zs : List D} {qs : List Rat} : Num z q → Sz 9 q → NumL zs qs → NumL (z :: zs) (q :: qs)
def totBody : D → Rho → T Out := fun d ρ => (gNm 3 d ρ).bind (sSet 2 (eBin (opOwn "Ratio" (f_Radd' f_tb)) (eVar 2) (eVar 3)))
theorem tot_loop {A : Ent} : ∀ {ds : List D} {qs : List Rat} {acc : Rat} {m : Nat} {B : Ent}, NumL ds qs → Sz m acc → m + 10 * ds.length ≤ 8000 → ∃ B', forT totBody ds [.un, A, .val (qR acc), B] = .ret (.nx [.un, A, .val (qR (qs.foldl (· + ·) acc)), B'])
  | [], _, _, _, B, .nil, _, _ => ⟨B, rfl⟩
  | z :: ds, q :: qs, acc, m, B, .cons hz hq t, hm, l => by
    have v2 : eVar 2 [.un, A, .val (qR acc), .val z] = .ret (qR acc) := rfl
    have v3 : eVar 3 [.un, A, .val (qR acc), .val z] = .ret z := rfl
    rw [List.length_cons] at l
    have e : totBody z [.un, A, .val (qR acc), B] = .ret (.nx [.un, A, .val (qR (acc + q)), .val z]) := by
      simp only [totBody, gNm, T.bind, List.set_cons_succ, List.set_cons_zero, sSet, eBin, v2, v3, opOwn_num hz, add_rat hz hm hq (by omega)]
    obtain ⟨B', r⟩ := tot_loop (A := A) (B := .val z) t (sz_add hm hq) (by omega)
    refine ⟨B', ?_⟩
    rw [forT, e]
    exact r
theorem sz0 : Sz 1 ((0 : Int) : Rat) := ⟨by decide, by decide⟩
theorem isList_lst (ds : List D) : f_isList [.lst ds] = .ret (.bl true) := rfl
theorem isList_tup (ds : List D) : f_isList [.tup ds] = .ret (.bl true) := rfl
theorem make0 (ρ : Rho) : eMake "Ratio" 1 [.int 1] f_Ratio_init (aCons (eC (.int 0)) aNil) ρ = .ret (qR ((0 : Int) : Rat)) := by
  have e := init_val (t := 0) (b := 1) (by decide) (by decide)
  have l : lowR 0 1 = qR ((0 : Int) : Rat) := by rw [lowR_rat (by decide), divInt_one]
  simp only [eMake, aCons, aNil, eC, T.bind, List.length_cons, List.length_nil, BEq.rfl, cond, List.cons_append, List.nil_append, e]
  rw [← l]
  rfl
theorem tot_from {ds : List D} {qs : List Rat} {d : D} {it : Rho → T (List D)} (hl : f_isList [d] = .ret (.bl true)) (hi : ∀ z B, it [.un, .val d, .val z, B] = .ret ds) (h : NumL ds qs) (l : ds.length ≤ 100) : totFrom (opOwn "Ratio" (f_Radd' f_tb)) it d = .ret (qR (qs.foldl (· + ·) ((0 : Int) : Rat))) := by
  obtain ⟨B', r⟩ := tot_loop (A := .val d) (B := .un) h sz0 (by omega)
  have s : sFor it (gNm 3) (sSet 2 (eBin (opOwn "Ratio" (f_Radd' f_tb)) (eVar 2) (eVar 3))) [.un, .val d, .val (qR ((0 : Int) : Rat)), .un] = .ret (.nx [.un, .val d, .val (qR (qs.foldl (· + ·) ((0 : Int) : Rat))), B']) := by
    show (it _).bind _ = _
    rw [hi]
    exact r
  simp only [totFrom, hl, T.bind, asB, cond, make0, totRest, bSeq, s]
  rfl
theorem tot_lst {ds : List D} {qs : List Rat} (h : NumL ds qs) (l : ds.length ≤ 100) : f_tot [.lst ds] = .ret (qR (qs.foldl (· + ·) ((0 : Int) : Rat))) := tot_from (isList_lst ds) (fun _ _ => rfl) h l
theorem tot_tup {ds : List D} {qs : List Rat} (h : NumL ds qs) (l : ds.length ≤ 100) : f_tot [.tup ds] = .ret (qR (qs.foldl (· + ·) ((0 : Int) : Rat))) := tot_from (isList_tup ds) (fun _ _ => rfl) h l
section
variable {z0 z1 z2 : D} {q0 q1 q2 : Rat}
abbrev zsD (z0 z1 z2 : D) : D := .lst [z0, z1, z2]
abbrev psD (q0 q1 q2 : Rat) : D := .lst [qP q0, qP q1, qP q2]
abbrev rho3 (z0 z1 z2 : D) (q0 q1 q2 : Rat) (a b : Ent) : Rho := [.val (zsD z0 z1 z2), .val (psD q0 q1 q2), a, b]
theorem zero_pair : D.tup [.int 0, .int 1] = qP ((0 : Int) : Rat) := rfl
theorem four_pair : D.tup [.int 4, .int 1] = qP ((4 : Int) : Rat) := rfl
theorem tr1_val : tr1 (rho3 z0 z1 z2 q0 q1 q2 .un .un) = .ret (.nx (rho3 z0 z1 z2 q0 q1 q2 (.val (qP ((0 : Int) : Rat))) .un)) := by
  simp only [tr1, sSet, tup2, eTup, aCons, aNil, eC, T.bind, small2, cond, zero_pair, List.set_cons_succ, List.set_cons_zero]
theorem plus_step {p q : Rat} {m : Nat} {a b : D} {B : Ent} (hp : Sz m p) (hq : Sz 9 q) (l : m + 9 < 9000) : ((gNm 3 (qP q) [.val a, .val b, .val (qP p), B]).bind (sSet 2 (call2 f_lplus (eVar 2) (eVar 3)))) = .ret (.nx [.val a, .val b, .val (qP (p + q)), .val (qP q)]) := by
  have v2 : eVar 2 [.val a, .val b, .val (qP p), .val (qP q)] = .ret (qP p) := rfl
  have v3 : eVar 3 [.val a, .val b, .val (qP p), .val (qP q)] = .ret (qP q) := rfl
  simp only [gNm, T.bind, List.set_cons_succ, List.set_cons_zero, sSet, call2_of v2 v3, lplus_val hp hq l]
def sum3 (q0 q1 q2 : Rat) : Rat := ((0 : Int) : Rat) + q0 + q1 + q2
theorem tr2_val (h0 : Sz 9 q0) (h1 : Sz 9 q1) (h2 : Sz 9 q2) : tr2 (rho3 z0 z1 z2 q0 q1 q2 (.val (qP ((0 : Int) : Rat))) .un) = .ret (.nx (rho3 z0 z1 z2 q0 q1 q2 (.val (qP (sum3 q0 q1 q2))) (.val (qP q2)))) := by
  have i : iLst (eVar 1) (rho3 z0 z1 z2 q0 q1 q2 (.val (qP ((0 : Int) : Rat))) .un) = .ret [qP q0, qP q1, qP q2] := rfl
  have a := sz_add sz0 h0
  have b := sz_add a h1
  simp only [tr2, sFor, i, T.bind, forT, plus_step sz0 h0 (by decide), plus_step a h1 (by decide), plus_step b h2 (by decide), sum3]
theorem sum3_sz (h0 : Sz 9 q0) (h1 : Sz 9 q1) (h2 : Sz 9 q2) : Sz 40 (sum3 q0 q1 q2) := (sz_add (sz_add (sz_add sz0 h0) h1) h2).mono (by decide)
theorem callL_of {ρ : Rho} {a : Rho → T D} {d : D} (h : a ρ = .ret d) : callL a ρ = f_tot [d] := by
  simp only [callL, eCall, aCons, aNil, h, T.bind, List.length_cons, List.length_nil, BEq.rfl, cond]
theorem tr3_val (n0 : Num z0 q0) (n1 : Num z1 q1) (n2 : Num z2 q2) (h0 : Sz 9 q0) (h1 : Sz 9 q1) (h2 : Sz 9 q2) {B : Ent} : tr3 (rho3 z0 z1 z2 q0 q1 q2 (.val (qP (sum3 q0 q1 q2))) B) = .ret (.nx (rho3 z0 z1 z2 q0 q1 q2 (.val (qP (sum3 q0 q1 q2))) B)) := by
  have v0 : eVar 0 (rho3 z0 z1 z2 q0 q1 q2 (.val (qP (sum3 q0 q1 q2))) B) = .ret (.lst [z0, z1, z2]) := rfl
  have sz := sum3_sz h0 h1 h2
  refine if_f (or_ff (notIs_is sz (by decide) ?_ rfl) (or_ff (notIs_is sz (by decide) ?_ rfl) (notIs_is (q := ((0 : Int) : Rat)) sz0 (by decide) ?_ ?_)))
  · rw [callL_of v0, tot_lst (.cons n0 h0 (.cons n1 h1 (.cons n2 h2 .nil))) (by simp)]
    rfl
  · have r : eCa bTuple (aCons (eL (lRev (eVar 0))) aNil) (rho3 z0 z1 z2 q0 q1 q2 (.val (qP (sum3 q0 q1 q2))) B) = .ret (.tup [z2, z1, z0]) := by
      simp only [eCa, aCons, aNil, eL, lRev, v0, T.bind, asL, bTuple]
      rfl
    rw [callL_of r, tot_tup (.cons n2 h2 (.cons n1 h1 (.cons n0 h0 .nil))) (by simp)]
    have e : ([q2, q1, q0] : List Rat).foldl (· + ·) ((0 : Int) : Rat) = sum3 q0 q1 q2 := by
      show ((0 : Int) : Rat) + q2 + q1 + q0 = ((0 : Int) : Rat) + q0 + q1 + q2
      grind
    rw [e]
  · have r : lst0 (rho3 z0 z1 z2 q0 q1 q2 (.val (qP (sum3 q0 q1 q2))) B) = .ret (.lst []) := rfl
    rw [callL_of r, tot_lst .nil (by simp)]
    rfl
  · simp only [tup2, eTup, aCons, aNil, eC, T.bind, small2, cond, zero_pair]
theorem tr4_val (n0 : Num z0 q0) (h0 : Sz 9 q0) {A B : Ent} : tr4 (rho3 z0 z1 z2 q0 q1 q2 A B) = .ret (.rt (.bl true)) := by
  have v0 : at2 0 0 (rho3 z0 z1 z2 q0 q1 q2 A B) = .ret z0 := rfl
  have v1 : at2 1 0 (rho3 z0 z1 z2 q0 q1 q2 A B) = .ret (qP q0) := rfl
  have s4 : Sz 4 ((4 : Int) : Rat) := ⟨by decide, by decide⟩
  have sm1 : small [z0] = true := rfl
  have r : eL (lRep (eL (lLst (aCons (at2 0 0) aNil))) (eC (.int 4))) (rho3 z0 z1 z2 q0 q1 q2 A B) = .ret (.lst [z0, z0, z0, z0]) := by
    simp only [eL, lRep, lLst, aCons, aNil, v0, eC, T.bind, asL, sm1, cond]
    rfl
  have pk : pickD [0] [D.lst [z0, z0, z0, z0]] = [D.lst [z0, z0, z0, z0]] := rfl
  have k : eCallK 1 [0] f_tot (aCons (eL (lRep (eL (lLst (aCons (at2 0 0) aNil))) (eC (.int 4)))) aNil) (rho3 z0 z1 z2 q0 q1 q2 A B) = .ret (qR (q0 * ((4 : Int) : Rat))) := by
    have e : ([q0, q0, q0, q0] : List Rat).foldl (· + ·) ((0 : Int) : Rat) = q0 * ((4 : Int) : Rat) := by
      show ((0 : Int) : Rat) + q0 + q0 + q0 + q0 = q0 * ((4 : Int) : Rat)
      have a0 : ((0 : Int) : Rat) = 0 := rfl
      have a4 : ((4 : Int) : Rat) = 4 := rfl
      rw [a0, a4]
      grind
    simp only [eCallK, aCons, aNil, r, T.bind, List.length_cons, List.length_nil, BEq.rfl, cond, pk, tot_lst (.cons n0 h0 (.cons n0 h0 (.cons n0 h0 (.cons n0 h0 .nil)))) (by simp), e]
  have t : tup2 (eC (.int 4)) (eC (.int 1)) (rho3 z0 z1 z2 q0 q1 q2 A B) = .ret (qP ((4 : Int) : Rat)) := by simp only [tup2, eTup, aCons, aNil, eC, T.bind, small2, cond, four_pair]
  have c : call2 f_ltimes (at2 1 0) (tup2 (eC (.int 4)) (eC (.int 1))) (rho3 z0 z1 z2 q0 q1 q2 A B) = .ret (qP (q0 * ((4 : Int) : Rat))) := by rw [call2_of v1 t, ltimes_val h0 s4 (by decide)]
  have e := lis_is (ρ := rho3 z0 z1 z2 q0 q1 q2 A B) (sz_mul h0 s4) (by decide) k c
  simp only [tr4, sRet, e, T.bind]
theorem tot_val (n0 : Num z0 q0) (n1 : Num z1 q1) (n2 : Num z2 q2) (h0 : Sz 9 q0) (h1 : Sz 9 q1) (h2 : Sz 9 q2) : f_ltot [zsD z0 z1 z2, psD q0 q1 q2] = .ret (.bl true) := by
  show (m_ltot (rho3 z0 z1 z2 q0 q1 q2 .un .un)).bind _ = _
  simp only [m_ltot, bSeq, tr1_val, tr2_val h0 h1 h2, tr3_val n0 n1 n2 h0 h1 h2, tr4_val n0 h0, T.bind]
end
def retTrue : T D → Bool
  | .ret (.bl b) => b
  | _ => false
theorem retTrue_of {t : T D} (h : retTrue t = true) : t = .ret (.bl true) := by
  unfold retTrue at h
  split at h
  · rw [h]
  · cases h
theorem any_val : f_lany [] = .ret (.bl true) := retTrue_of (by decide +kernel)
end Pd

/-! The law comes out true, whatever is drawn. -/
namespace Pd
open PySem L2 PySem.Spec PyProof.Rows
theorem seq_all {m1 m2 : Rho → T Out} {ρ : Rho} {P : Out → Prop} (h : (m1 ρ).all fun o => ∃ ρ', o = .nx ρ' ∧ (m2 ρ').all P) : (bSeq m1 m2 ρ).all P :=
  T.all_bind.mpr (T.all_mono (fun o ho => by obtain ⟨ρ', rfl, h⟩ := ho; exact h) h)
theorem seq_val {m1 m2 : Rho → T Out} {ρ ρ' : Rho} (h : m1 ρ = .ret (.nx ρ')) : bSeq m1 m2 ρ = m2 ρ' := by simp only [bSeq, h, T.bind]
theorem for_all {body : D → Rho → T Out} {d : D} {ds : List D} {ρ : Rho} {P : Out → Prop} (h : (body d ρ).all fun o => ∃ ρ', o = .nx ρ' ∧ (forT body ds ρ').all P) : (forT body (d :: ds) ρ).all P :=
  T.all_bind.mpr (T.all_mono (fun o ho => by obtain ⟨ρ', rfl, h⟩ := ho; exact h) h)
theorem par_val {ma mb : Rho → T D} {ρ : Rho} {x y : D} {i j : Nat} (ha : ma ρ = .ret x) (hb : mb ρ = .ret y) : sPar i j ma mb ρ = .ret (.nx ((ρ.set i (.val x)).set j (.val y))) := by simp only [sPar, ha, hb, T.bind]
abbrev rhoL (zs ps : Ent) (t a b : Ent) : Rho := [.un, .val .pot, zs, ps, t, a, b, .un, .un, .un]
def laBody : D → Rho → T Out := fun d ρ => (gNm 4 d ρ).bind (bSeq (sAsg (gTp 2 (gsCons (gNm 5) (gsCons (gNm 6) gsNil))) (eCall 1 f_number (aCons (eVar 1) aNil))) (bSeq (sApp 2 (eVar 5)) (sApp 3 (eVar 6))))
theorem step_all {zs ps : List D} {ta aa ba : Ent} {i : D} (hz : zs.length ≤ 5) (hp : ps.length ≤ 5) : (laBody i (rhoL (.own zs) (.own ps) ta aa ba)).all fun o => ∃ ρ', o = .nx ρ' ∧ ∃ z q t a b, Num z q ∧ Sz 9 q ∧ ρ' = rhoL (.own (zs ++ [z])) (.own (ps ++ [qP q])) t a b := by
  show T.all _ (bSeq (sAsg (gTp 2 (gsCons (gNm 5) (gsCons (gNm 6) gsNil))) (eCall 1 f_number (aCons (eVar 1) aNil))) (bSeq (sApp 2 (eVar 5)) (sApp 3 (eVar 6))) (rhoL (.own zs) (.own ps) (.val i) aa ba))
  refine seq_all (T.all_bind.mpr ?_)
  show T.all _ (f_number [.pot])
  refine T.all_mono (fun d hd => ?_) number_all
  obtain ⟨z, q, rfl, n, s⟩ := hd
  refine T.all_bind.mpr ?_
  show ∃ ρ', Out.nx (rhoL (.own zs) (.own ps) (.val i) (.val z) (.val (qP q))) = .nx ρ' ∧ T.all _ (bSeq (sApp 2 (eVar 5)) (sApp 3 (eVar 6)) ρ')
  refine ⟨_, rfl, ?_⟩
  have c1 : small zs = true := decide_eq_true (Nat.le_trans hz (by decide))
  have c2 : small ps = true := decide_eq_true (Nat.le_trans hp (by decide))
  have a1 : sApp 2 (eVar 5) (rhoL (.own zs) (.own ps) (.val i) (.val z) (.val (qP q))) = .ret (.nx (rhoL (.own (zs ++ [z])) (.own ps) (.val i) (.val z) (.val (qP q)))) := by
    show (cond (small zs) _ _) = _
    rw [c1]
    rfl
  have a2 : sApp 3 (eVar 6) (rhoL (.own (zs ++ [z])) (.own ps) (.val i) (.val z) (.val (qP q))) = .ret (.nx (rhoL (.own (zs ++ [z])) (.own (ps ++ [qP q])) (.val i) (.val z) (.val (qP q)))) := by
    show (cond (small ps) _ _) = _
    rw [c2]
    rfl
  rw [seq_val a1, a2]
  exact ⟨_, rfl, z, q, _, _, _, n, s, rfl⟩
/-! what follows the draws -/
section
variable {z0 z1 z2 : D} {q0 q1 q2 : Rat} {t a b e8 e9 : Ent}
abbrev rhoM (z0 z1 z2 : D) (q0 q1 q2 : Rat) (t a b e7 e8 e9 : Ent) : Rho := [.un, .val .pot, .val (zsD z0 z1 z2), .val (psD q0 q1 q2), t, a, b, e7, e8, e9]
theorem ten {x : Rho → T D} {F : List D → T D} {a b c d : Rho → T D} {ρ : Rho} {u v w y : D} (ha : a ρ = .ret u) (hb : b ρ = .ret v) (hc : c ρ = .ret w) (hd : d ρ = .ret y) (h : f_lpair [u, v, w, y] = .ret (.bl true)) : notP a b c d ρ = .ret false := by
  simp only [notP, tNot', eTest, eCall, aCons, aNil, ha, hb, hc, hd, T.bind, List.length_cons, List.length_nil, BEq.rfl, cond, h, asB, Bool.not_true]
theorem two_f {f : List D → T D} {a b : Rho → T D} {ρ : Rho} {u v : D} (ha : a ρ = .ret u) (hb : b ρ = .ret v) (h : f [u, v] = .ret (.bl true)) : tNot' (eTest (call2 f a b)) ρ = .ret false := by
  simp only [tNot', eTest, call2_of ha hb, h, T.bind, asB, Bool.not_true]
theorem look_at {ρ : Rho} {z w : D} {p q : Rat} (hz : ixV 2 7 ρ = .ret z) (hp : ixV 3 7 ρ = .ret (qP p)) (hw : ixP 2 7 ρ = .ret w) (hq : ixP 3 7 ρ = .ret (qP q)) (n1 : Num z p) (n2 : Num w q) (s1 : Sz 9 p) (s2 : Sz 9 q) : la3b ρ = .ret (.nx ρ) := by
  unfold la3b
  rw [seq_val (if_f (or_ff (two_f hz hp (one_val n1 s1)) (ten (x := eVar 0) (F := f_one) hz hw hp hq (pair_val n1 n2 s1 s2))))]
  exact if_f (ten (x := eVar 0) (F := f_one) hz hz hp hp (pair_val n1 n1 s1 s1))
theorem la3_val (n0 : Num z0 q0) (n1 : Num z1 q1) (n2 : Num z2 q2) (h0 : Sz 9 q0) (h1 : Sz 9 q1) (h2 : Sz 9 q2) : la3 (rhoM z0 z1 z2 q0 q1 q2 t a b .un e8 e9) = .ret (.nx (rhoM z0 z1 z2 q0 q1 q2 t a b (.val (.int 2)) e8 e9)) := by
  have i : iRg rng1 (aCons (eC (.int 3)) aNil) (rhoM z0 z1 z2 q0 q1 q2 t a b .un e8 e9) = .ret [.int 0, .int 1, .int 2] := rfl
  have s : ∀ (k : Int) (e : Ent), (gNm 7 (.int k) (rhoM z0 z1 z2 q0 q1 q2 t a b e e8 e9)).bind la3b = la3b (rhoM z0 z1 z2 q0 q1 q2 t a b (.val (.int k)) e8 e9) := fun _ _ => rfl
  have l0 := look_at (ρ := rhoM z0 z1 z2 q0 q1 q2 t a b (.val (.int 0)) e8 e9) rfl rfl rfl rfl n0 n2 h0 h2
  have l1 := look_at (ρ := rhoM z0 z1 z2 q0 q1 q2 t a b (.val (.int 1)) e8 e9) rfl rfl rfl rfl n1 n0 h1 h0
  have l2 := look_at (ρ := rhoM z0 z1 z2 q0 q1 q2 t a b (.val (.int 2)) e8 e9) rfl rfl rfl rfl n2 n1 h2 h1
  simp only [la3, sFor, i, T.bind, forT, s, l0, l1, l2]
theorem la4_val {e7 : Ent} (n0 : Num z0 q0) (n1 : Num z1 q1) (n2 : Num z2 q2) (h0 : Sz 9 q0) (h1 : Sz 9 q1) (h2 : Sz 9 q2) : la4 (rhoM z0 z1 z2 q0 q1 q2 t a b e7 e8 e9) = .ret (.nx (rhoM z0 z1 z2 q0 q1 q2 t a b e7 e8 e9)) := by
  refine if_f (or_ff (two_f rfl rfl (tot_val n0 n1 n2 h0 h1 h2)) ?_)
  simp only [tNot', eTest, eCall, aNil, T.bind, List.length_nil, BEq.rfl, cond, any_val, asB, Bool.not_true]
theorem la5_val {e7 : Ent} (h0 : Sz 9 q0) : la5 (rhoM z0 z1 z2 q0 q1 q2 t a b e7 .un .un) = .ret (.nx (rhoM z0 z1 z2 q0 q1 q2 t a b e7 (.val (qR q0)) (.val (qP q0)))) := by
  have v : at2 3 0 (rhoM z0 z1 z2 q0 q1 q2 t a b e7 .un .un) = .ret (qP q0) := rfl
  have x0 : ix00 0 (rhoM z0 z1 z2 q0 q1 q2 t a b e7 .un .un) = .ret (.int q0.num) := by simp only [ix00, eBin, v, eC, T.bind, qP, at_0]
  have x1 : ix00 1 (rhoM z0 z1 z2 q0 q1 q2 t a b e7 .un .un) = .ret (.int q0.den) := by simp only [ix00, eBin, v, eC, T.bind, qP, at_1]
  have m := mk_rat (x := ix00 0) (y := ix00 1) h0 (by decide) x0 x1
  exact par_val m v
def sqBody : D → Rho → T Out := fun d ρ => (gNm 4 d ρ).bind (sPar 8 9 (eBin opM (eVar 8) (eVar 8)) (call2 f_ltimes (eVar 9) (eVar 9)))
theorem sq_step {e7 : Ent} {q : Rat} {n : Nat} {i : D} (h : Sz n q) (l : n + n < 9000) : sqBody i (rhoM z0 z1 z2 q0 q1 q2 t a b e7 (.val (qR q)) (.val (qP q))) = .ret (.nx (rhoM z0 z1 z2 q0 q1 q2 (.val i) a b e7 (.val (qR (q * q))) (.val (qP (q * q))))) := by
  simp only [sqBody, gNm, T.bind, List.set_cons_succ, List.set_cons_zero]
  have v8 : eVar 8 (rhoM z0 z1 z2 q0 q1 q2 (.val i) a b e7 (.val (qR q)) (.val (qP q))) = .ret (qR q) := rfl
  have v9 : eVar 9 (rhoM z0 z1 z2 q0 q1 q2 (.val i) a b e7 (.val (qR q)) (.val (qP q))) = .ret (qP q) := rfl
  have m1 : eBin opM (eVar 8) (eVar 8) (rhoM z0 z1 z2 q0 q1 q2 (.val i) a b e7 (.val (qR q)) (.val (qP q))) = .ret (qR (q * q)) := by rw [bin_of v8 v8, opM_num (.q q) h h (by omega)]
  have m2 : call2 f_ltimes (eVar 9) (eVar 9) (rhoM z0 z1 z2 q0 q1 q2 (.val i) a b e7 (.val (qR q)) (.val (qP q))) = .ret (qP (q * q)) := by rw [call2_of v9 v9, ltimes_val h h l]
  exact par_val m1 m2
theorem la6_val {e7 : Ent} {q : Rat} (h : Sz 9 q) : ∃ r t', Sz 288 r ∧ la6 (rhoM z0 z1 z2 q0 q1 q2 t a b e7 (.val (qR q)) (.val (qP q))) = .ret (.nx (rhoM z0 z1 z2 q0 q1 q2 t' a b e7 (.val (qR r)) (.val (qP r)))) := by
  have i : iRg rng1 (aCons (eC (.int 5)) aNil) (rhoM z0 z1 z2 q0 q1 q2 t a b e7 (.val (qR q)) (.val (qP q))) = .ret [.int 0, .int 1, .int 2, .int 3, .int 4] := rfl
  have a1 := sz_mul h h
  have a2 := sz_mul a1 a1
  have a3 := sz_mul a2 a2
  have a4 := sz_mul a3 a3
  have a5 := sz_mul a4 a4
  refine ⟨_, .val (.int 4), a5, ?_⟩
  show ((iRg rng1 (aCons (eC (.int 5)) aNil) (rhoM z0 z1 z2 q0 q1 q2 t a b e7 (.val (qR q)) (.val (qP q)))).bind fun ds => forT sqBody ds _) = _
  simp only [i, T.bind, forT, sq_step h (by decide), sq_step a1 (by decide), sq_step a2 (by decide), sq_step a3 (by decide), sq_step a4 (by decide)]
theorem la7_val {e7 : Ent} {q : Rat} (h : Sz 288 q) : la7 (rhoM z0 z1 z2 q0 q1 q2 t a b e7 (.val (qR q)) (.val (qP q))) = .ret (.rt (.bl true)) := by
  have l := h.log (by decide)
  have e1 : lisT (eVar 8) (eVar 9) (rhoM z0 z1 z2 q0 q1 q2 t a b e7 (.val (qR q)) (.val (qP q))) = .ret (.bl true) := lis_is h (by decide) rfl rfl
  have e2 := strOwn (ρ := rhoM z0 z1 z2 q0 q1 q2 t a b e7 (.val (qR q)) (.val (qP q))) (i := 8) rfl l
  have e3 := ltext_is (ρ := rhoM z0 z1 z2 q0 q1 q2 t a b e7 (.val (qR q)) (.val (qP q))) (i := 9) rfl l
  simp only [la7, sRet, eAnd, e1, eBin, e2, e3, T.bind, asB, cond, opEq_str (rstr_ok q)]
theorem rest_val (n0 : Num z0 q0) (n1 : Num z1 q1) (n2 : Num z2 q2) (h0 : Sz 9 q0) (h1 : Sz 9 q1) (h2 : Sz 9 q2) : bFreeze 2 (bFreeze 3 (bSeq la3 (bSeq la4 (bSeq la5 (bSeq la6 la7))))) (rhoL (.own [z0, z1, z2]) (.own [qP q0, qP q1, qP q2]) t a b) = .ret (.rt (.bl true)) := by
  show bSeq la3 (bSeq la4 (bSeq la5 (bSeq la6 la7))) (rhoM z0 z1 z2 q0 q1 q2 t a b .un .un .un) = _
  rw [seq_val (la3_val n0 n1 n2 h0 h1 h2), seq_val (la4_val n0 n1 n2 h0 h1 h2), seq_val (la5_val h0)]
  obtain ⟨r, t', s, e⟩ := la6_val (z0 := z0) (z1 := z1) (z2 := z2) (q0 := q0) (q1 := q1) (q2 := q2) (t := t) (a := a) (b := b) (e7 := .val (.int 2)) h0
  rw [seq_val e, la7_val s]
end
theorem law_all : (laRest (rhoL (.own []) (.own []) .un .un .un)).all fun o => o = .rt (.bl true) := by
  refine seq_all ?_
  show T.all _ (forT laBody [.int 0, .int 1, .int 2] (rhoL (.own []) (.own []) .un .un .un))
  refine for_all (T.all_mono (fun o ho => ?_) (step_all (by decide) (by decide)))
  obtain ⟨ρ', rfl, z0, q0, t, a, b, n0, h0, rfl⟩ := ho
  refine ⟨_, rfl, for_all (T.all_mono (fun o ho => ?_) (step_all (by simp) (by simp)))⟩
  obtain ⟨ρ', rfl, z1, q1, t, a, b, n1, h1, rfl⟩ := ho
  refine ⟨_, rfl, for_all (T.all_mono (fun o ho => ?_) (step_all (by simp) (by simp)))⟩
  obtain ⟨ρ', rfl, z2, q2, t, a, b, n2, h2, rfl⟩ := ho
  refine ⟨_, rfl, ?_⟩
  refine ⟨_, rfl, ?_⟩
  show T.all _ (bFreeze 2 (bFreeze 3 (bSeq la3 (bSeq la4 (bSeq la5 (bSeq la6 la7))))) (rhoL (.own [z0, z1, z2]) (.own [qP q0, qP q1, qP q2]) t a b))
  rw [rest_val n0 n1 n2 h0 h1 h2]
  rfl
end Pd

/-! The law's own def: its pot, then the rest; what stands behind the top, gathered. -/
namespace Pd
open PySem L2 PySem.Spec PyProof.Rows
def spL (K : PySem.W.Frag) : Sp := fun vs H Q _ => ∃ (a : Addr) (ns : List Int), vs = [.ref a] ∧ SqL K H a (ns.map V.int) ∧ ∀ H', Q (.bl true) H'
section
variable {P : Program} {w : World} {K : PySem.W.Frag} {mg : Str → Option Value} {base : Heap}
theorem g_law11 {a_pot a_f : Addr} {d_pot d_f : FuncData} (F : Fun K "law" "law" s_law a_f d_f) (mp : mg "_law_pot" = some (.ref a_pot)) (kp : PySem.W.keepIn K (.ref a_pot) = true) (GP : FnOk P w K mg base CX0 1 a_pot d_pot ["_law_script", "_law_k"] (spPot K)) (BP : Binds K d_pot ["_law_script", "_law_k"] [])
    (L : LWd P w K mg base) (pn : Pm P w K mg base "_law_number" 5 1 ["_law_pot_here"] f_number) (po : PmG P w K mg base "_law_one_right" 7 2 ["_law_number_here", "_law_pair"] f_one)
    (pp : PmG P w K mg base "_law_pair_right" 8 4 ["_law_one", "_law_other", "_law_near", "_law_far"] f_lpair) (pt : PmG P w K mg base "_law_total_right" 8 2 ["_law_numbers", "_law_pairs"] f_ltot) (pa : PmG P w K mg base "_law_any_right" 4 0 [] f_lany) (zr : mg "range" = none) :
    FnG P w K mg base CX0 9 a_f d_f ["_law_script"] (spL K) := by
  have nd := sc_law.nd
  refine okG (k := 8) F sc_law (fun vs H Q E h => ?_) (fun cdv A outer s H vs Q E hr hgd h => ⟨_, pss_cons (ps_par3 (i := 1) (j := 2) (l := 3) rfl nd rfl rfl rfl (by decide) (by decide) (by decide) rfl rfl rfl
    (pa_cons (pe_call GP (hr.mono (by decide)) rfl mp kp BP .nil pass0 (pa_cons (pv 0) (pa_cons pe_int pa_nil))) (pa_cons (pe_lst pa_nil) (pa_cons (pe_lst pa_nil) pa_nil))) rfl rfl) pss_wp, ?_⟩)
  · obtain ⟨a, ns, rfl, _⟩ := h
    rfl
  · obtain ⟨a, ns, rfl, hs, q⟩ := h
    refine ⟨_, rfl, a, ns, 0, rfl, by decide, hs, fun p x y hp x0 y0 y1 => ⟨by decide, fun l1 h1 => ⟨by decide, fun l2 h2 => ⟨_, _, _, rfl, ?_⟩⟩⟩⟩
    have hpot : PotOk (upd H p (.lst [.int x, .int y])) p := ⟨x, y, upd_same, x0, y0, y1⟩
    have hn : HN p (fun _ => false) (upd H p (.lst [.int x, .int y])) := ⟨hpot, rfl, fun a h => nomatch h⟩
    have I0 : EnvOk K P w p (fun _ => false) (upd H p (.lst [.int x, .int y])) (fun _ => false) (upd H p (.lst [.int x, .int y])) (L2.start n_law [.ref a]) (List.replicate 10 .un) := env_un hn rfl
    have I1 := I0.set (i := 1) .pot
    have p1 : l1 ≠ p := fun z => by rw [z, upd_same] at h1; cases h1
    have x1 : Ex p (upd H p (.lst [.int x, .int y])) (upd (upd H p (.lst [.int x, .int y])) l1 (.lst [])) := ⟨fun b o nb e => by rw [upd_ne (ne_of_none e h1)]; exact e, ⟨x, y, by rw [upd_ne p1.symm]; exact upd_same, x0, y0, y1⟩⟩
    have I2 := I1.newOwn (i := 2) (x := .own []) x1 h1 upd_same ⟨[], rfl, .nil⟩
    have p2 : l2 ≠ p := fun z => by rw [z, upd_ne p1.symm, upd_same] at h2; cases h2
    have x2 : Ex p (upd (upd H p (.lst [.int x, .int y])) l1 (.lst [])) (upd (upd (upd H p (.lst [.int x, .int y])) l1 (.lst [])) l2 (.lst [])) := ⟨fun b o nb e => by rw [upd_ne (ne_of_none e h2)]; exact e, ⟨x, y, by rw [upd_ne p2.symm, upd_ne p1.symm]; exact upd_same, x0, y0, y1⟩⟩
    have I3 := I2.newOwn (i := 3) (x := .own []) x2 h2 upd_same ⟨[], rfl, .nil⟩
    refine rest_ok rfl hr hgd L pn po pp pt pa zr I3 (T.all_mono (fun o ho => ?_) law_all)
    subst ho
    intro v H2 e r
    rw [r.bool]
    exact q H2
end
end Pd

/-! What the top has left; the last theorem. -/
namespace Pd
open PySem L2 PySem.Spec PyProof.Rows
theorem kit_ref {K : PySem.W.Frag} {C : Addr} {T : String} {b : Bool} (h : PySem.W.subIn K (.ref C) (.type T) = some b) (m : PySem.W.kitMeta T = true) : PySem.W.kitOne K (.ref C) (.type T) = some b := by
  unfold PySem.W.kitOne
  rw [if_neg (by intro z; cases z)]
  show (if PySem.W.kitMeta T = true then _ else _) = _
  rw [if_pos m]
  exact h
theorem kit_of {K : PySem.W.Frag} {C : Addr} {T : String} {b : Bool} (h : PySem.W.subIn K (.type T) (.ref C) = some b) (c : PySem.W.isClsIn K C = true) (t : PySem.W.typeIn K (.ref C) = some (.type "type")) : PySem.W.kitOne K (.type T) (.ref C) = some b := by
  unfold PySem.W.kitOne
  rw [if_neg (by intro z; cases z)]
  show (if ((PySem.W.clsIn K C).isSome && PySem.W.typeIn K (.ref C) == some (.type "type")) = true then _ else _) = _
  rw [if_pos (by rw [t]; exact (Bool.and_eq_true _ _).mpr ⟨c, by decide +kernel⟩)]
  exact h
theorem fail_ok {P : Program} {w : World} {K : PySem.W.Frag} {mg : Str → Option Value} {base : Heap} {k n : Nat} {f : Addr} {fd : FuncData} {ps : List Str} : FnOk P w K mg base CX0 k f fd ps (spD K P w n fun _ => .fail) :=
  ⟨fun _ _ _ _ ⟨_, _, _, _, _, _, h⟩ => h.elim, fun _ _ _ _ _ _ _ _ _ _ _ _ _ ⟨_, _, _, _, _, _, h⟩ => h.elim⟩

theorem all_mk {l : PySem.W.OpenLaw} {w : World} {K : PySem.W.Frag} {h : Heap} {mg : Str → Option Value} {fa : Addr} (X : K.In h) (G : h.Ns mainGlobals mg) (hfa : mg "law" = some (.ref fa))
    {C : Addr}
    {f_isInt : Addr} {od_isInt an_isInt : Option Addr} {sl_isInt : Array (Option Value)} {oc_isInt kV_isInt dc_isInt pm_isInt cd_isInt ct_isInt : Value}
    {f_isCount : Addr} {od_isCount an_isCount : Option Addr} {sl_isCount : Array (Option Value)} {oc_isCount kV_isCount dc_isCount pm_isCount cd_isCount ct_isCount : Value}
    {f_isList : Addr} {od_isList an_isList : Option Addr} {sl_isList : Array (Option Value)} {oc_isList kV_isList dc_isList pm_isList cd_isList ct_isList : Value}
    {f_isNum : Addr} {od_isNum an_isNum : Option Addr} {sl_isNum : Array (Option Value)} {oc_isNum kV_isNum dc_isNum pm_isNum cd_isNum ct_isNum : Value}
    {f_need : Addr} {od_need an_need : Option Addr} {sl_need : Array (Option Value)} {oc_need kV_need dc_need pm_need cd_need ct_need : Value}
    {f_tb : Addr} {od_tb an_tb : Option Addr} {sl_tb : Array (Option Value)} {oc_tb kV_tb dc_tb pm_tb cd_tb ct_tb : Value}
    {f_Lpot : Addr} {od_Lpot an_Lpot : Option Addr} {sl_Lpot : Array (Option Value)} {oc_Lpot kV_Lpot dc_Lpot pm_Lpot cd_Lpot ct_Lpot : Value}
    {f_Ldraw : Addr} {od_Ldraw an_Ldraw : Option Addr} {sl_Ldraw : Array (Option Value)} {oc_Ldraw kV_Ldraw dc_Ldraw pm_Ldraw cd_Ldraw ct_Ldraw : Value}
    {f_Lpick : Addr} {od_Lpick an_Lpick : Option Addr} {sl_Lpick : Array (Option Value)} {oc_Lpick kV_Lpick dc_Lpick pm_Lpick cd_Lpick ct_Lpick : Value}
    {f_Llow : Addr} {od_Llow an_Llow : Option Addr} {sl_Llow : Array (Option Value)} {oc_Llow kV_Llow dc_Llow pm_Llow cd_Llow ct_Llow : Value}
    {f_Lplus : Addr} {od_Lplus an_Lplus : Option Addr} {sl_Lplus : Array (Option Value)} {oc_Lplus kV_Lplus dc_Lplus pm_Lplus cd_Lplus ct_Lplus : Value}
    {f_Lless : Addr} {od_Lless an_Lless : Option Addr} {sl_Lless : Array (Option Value)} {oc_Lless kV_Lless dc_Lless pm_Lless cd_Lless ct_Lless : Value}
    {f_Ltimes : Addr} {od_Ltimes an_Ltimes : Option Addr} {sl_Ltimes : Array (Option Value)} {oc_Ltimes kV_Ltimes dc_Ltimes pm_Ltimes cd_Ltimes ct_Ltimes : Value}
    {f_Lnumber : Addr} {od_Lnumber an_Lnumber : Option Addr} {sl_Lnumber : Array (Option Value)} {oc_Lnumber kV_Lnumber dc_Lnumber pm_Lnumber cd_Lnumber ct_Lnumber : Value}
    {f_Ltext : Addr} {od_Ltext an_Ltext : Option Addr} {sl_Ltext : Array (Option Value)} {oc_Ltext kV_Ltext dc_Ltext pm_Ltext cd_Ltext ct_Ltext : Value}
    {f_Lis : Addr} {od_Lis an_Lis : Option Addr} {sl_Lis : Array (Option Value)} {oc_Lis kV_Lis dc_Lis pm_Lis cd_Lis ct_Lis : Value}
    {f_Lone : Addr} {od_Lone an_Lone : Option Addr} {sl_Lone : Array (Option Value)} {oc_Lone kV_Lone dc_Lone pm_Lone cd_Lone ct_Lone : Value}
    {f_Lpair : Addr} {od_Lpair an_Lpair : Option Addr} {sl_Lpair : Array (Option Value)} {oc_Lpair kV_Lpair dc_Lpair pm_Lpair cd_Lpair ct_Lpair : Value}
    {f_Ltot : Addr} {od_Ltot an_Ltot : Option Addr} {sl_Ltot : Array (Option Value)} {oc_Ltot kV_Ltot dc_Ltot pm_Ltot cd_Ltot ct_Ltot : Value}
    {f_Lany : Addr} {od_Lany an_Lany : Option Addr} {sl_Lany : Array (Option Value)} {oc_Lany kV_Lany dc_Lany pm_Lany cd_Lany ct_Lany : Value}
    {f_law : Addr} {od_law an_law : Option Addr} {sl_law : Array (Option Value)} {oc_law kV_law dc_law pm_law cd_law ct_law : Value}
    {T1 : Addr} {ocT : Value} {odT : Option Addr} {tk1 : Tok} {nT : Nat} {slT : Array (Option Value)}
    {f_Rinit : Addr} {od_Rinit an_Rinit : Option Addr} {sl_Rinit : Array (Option Value)} {oc_Rinit kV_Rinit dc_Rinit pm_Rinit cd_Rinit ct_Rinit : Value}
    {p_Rtop : Addr} {r_Rtop : List Value}
    {f_Rtop : Addr} {od_Rtop an_Rtop : Option Addr} {sl_Rtop : Array (Option Value)} {oc_Rtop kV_Rtop dc_Rtop pm_Rtop cd_Rtop ct_Rtop : Value}
    {p_Rbottom : Addr} {r_Rbottom : List Value}
    {f_Rbottom : Addr} {od_Rbottom an_Rbottom : Option Addr} {sl_Rbottom : Array (Option Value)} {oc_Rbottom kV_Rbottom dc_Rbottom pm_Rbottom cd_Rbottom ct_Rbottom : Value}
    {p_Rsign : Addr} {r_Rsign : List Value}
    {f_Rsign : Addr} {od_Rsign an_Rsign : Option Addr} {sl_Rsign : Array (Option Value)} {oc_Rsign kV_Rsign dc_Rsign pm_Rsign cd_Rsign ct_Rsign : Value}
    {p_Rwhole : Addr} {r_Rwhole : List Value}
    {f_Rwhole : Addr} {od_Rwhole an_Rwhole : Option Addr} {sl_Rwhole : Array (Option Value)} {oc_Rwhole kV_Rwhole dc_Rwhole pm_Rwhole cd_Rwhole ct_Rwhole : Value}
    {f_Radd : Addr} {od_Radd an_Radd : Option Addr} {sl_Radd : Array (Option Value)} {oc_Radd kV_Radd dc_Radd pm_Radd cd_Radd ct_Radd : Value}
    {f_Rradd : Addr} {od_Rradd an_Rradd : Option Addr} {sl_Rradd : Array (Option Value)} {oc_Rradd kV_Rradd dc_Rradd pm_Rradd cd_Rradd ct_Rradd : Value}
    {f_Rsub : Addr} {od_Rsub an_Rsub : Option Addr} {sl_Rsub : Array (Option Value)} {oc_Rsub kV_Rsub dc_Rsub pm_Rsub cd_Rsub ct_Rsub : Value}
    {f_Rrsub : Addr} {od_Rrsub an_Rrsub : Option Addr} {sl_Rrsub : Array (Option Value)} {oc_Rrsub kV_Rrsub dc_Rrsub pm_Rrsub cd_Rrsub ct_Rrsub : Value}
    {f_Rmul : Addr} {od_Rmul an_Rmul : Option Addr} {sl_Rmul : Array (Option Value)} {oc_Rmul kV_Rmul dc_Rmul pm_Rmul cd_Rmul ct_Rmul : Value}
    {f_Rrmul : Addr} {od_Rrmul an_Rrmul : Option Addr} {sl_Rrmul : Array (Option Value)} {oc_Rrmul kV_Rrmul dc_Rrmul pm_Rrmul cd_Rrmul ct_Rrmul : Value}
    {f_Rneg : Addr} {od_Rneg an_Rneg : Option Addr} {sl_Rneg : Array (Option Value)} {oc_Rneg kV_Rneg dc_Rneg pm_Rneg cd_Rneg ct_Rneg : Value}
    {f_Rover : Addr} {od_Rover an_Rover : Option Addr} {sl_Rover : Array (Option Value)} {oc_Rover kV_Rover dc_Rover pm_Rover cd_Rover ct_Rover : Value}
    {f_Rsize : Addr} {od_Rsize an_Rsize : Option Addr} {sl_Rsize : Array (Option Value)} {oc_Rsize kV_Rsize dc_Rsize pm_Rsize cd_Rsize ct_Rsize : Value}
    {f_Rbelow : Addr} {od_Rbelow an_Rbelow : Option Addr} {sl_Rbelow : Array (Option Value)} {oc_Rbelow kV_Rbelow dc_Rbelow pm_Rbelow cd_Rbelow ct_Rbelow : Value}
    {f_Ratmost : Addr} {od_Ratmost an_Ratmost : Option Addr} {sl_Ratmost : Array (Option Value)} {oc_Ratmost kV_Ratmost dc_Ratmost pm_Ratmost cd_Ratmost ct_Ratmost : Value}
    {p_Rtotal : Addr} {r_Rtotal : List Value}
    {f_Rtotal : Addr} {od_Rtotal an_Rtotal : Option Addr} {sl_Rtotal : Array (Option Value)} {oc_Rtotal kV_Rtotal dc_Rtotal pm_Rtotal cd_Rtotal ct_Rtotal : Value}
    {f_Req : Addr} {od_Req an_Req : Option Addr} {sl_Req : Array (Option Value)} {oc_Req kV_Req dc_Req pm_Req cd_Req ct_Req : Value}
    {f_Rstr : Addr} {od_Rstr an_Rstr : Option Addr} {sl_Rstr : Array (Option Value)} {oc_Rstr kV_Rstr dc_Rstr pm_Rstr cd_Rstr ct_Rstr : Value}
    {f_Rrepr : Addr} {od_Rrepr an_Rrepr : Option Addr} {sl_Rrepr : Array (Option Value)} {oc_Rrepr kV_Rrepr dc_Rrepr pm_Rrepr cd_Rrepr ct_Rrepr : Value}
    {vo_add vr_add : Value}
    {vo_sub vr_sub : Value}
    {vo_mul vr_mul : Value}
    (aC : PySem.W.nsIn K mainGlobals "Ratio" = some (some (.ref C)))
    (a_isInt : PySem.W.nsIn K mainGlobals "is_integer" = some (some (.ref f_isInt)))
    (l_isInt : K.lookup f_isInt = some ⟨oc_isInt, od_isInt, .func (PySem.W.fnOf "is_integer" "is_integer" (defArgs s_isInt) (defBody s_isInt) (defScope s_isInt) .none kV_isInt dc_isInt pm_isInt an_isInt cd_isInt ct_isInt), sl_isInt⟩)
    (c_isInt : PySem.W.codeIn K cd_isInt "is_integer" = true)
    (k_isInt : PySem.W.keepIn K (.ref f_isInt) = true)
    (a_isCount : PySem.W.nsIn K mainGlobals "is_count" = some (some (.ref f_isCount)))
    (l_isCount : K.lookup f_isCount = some ⟨oc_isCount, od_isCount, .func (PySem.W.fnOf "is_count" "is_count" (defArgs s_isCount) (defBody s_isCount) (defScope s_isCount) .none kV_isCount dc_isCount pm_isCount an_isCount cd_isCount ct_isCount), sl_isCount⟩)
    (c_isCount : PySem.W.codeIn K cd_isCount "is_count" = true)
    (k_isCount : PySem.W.keepIn K (.ref f_isCount) = true)
    (a_isList : PySem.W.nsIn K mainGlobals "is_list" = some (some (.ref f_isList)))
    (l_isList : K.lookup f_isList = some ⟨oc_isList, od_isList, .func (PySem.W.fnOf "is_list" "is_list" (defArgs s_isList) (defBody s_isList) (defScope s_isList) .none kV_isList dc_isList pm_isList an_isList cd_isList ct_isList), sl_isList⟩)
    (c_isList : PySem.W.codeIn K cd_isList "is_list" = true)
    (k_isList : PySem.W.keepIn K (.ref f_isList) = true)
    (a_isNum : PySem.W.nsIn K mainGlobals "is_number" = some (some (.ref f_isNum)))
    (l_isNum : K.lookup f_isNum = some ⟨oc_isNum, od_isNum, .func (PySem.W.fnOf "is_number" "is_number" (defArgs s_isNum) (defBody s_isNum) (defScope s_isNum) .none kV_isNum dc_isNum pm_isNum an_isNum cd_isNum ct_isNum), sl_isNum⟩)
    (c_isNum : PySem.W.codeIn K cd_isNum "is_number" = true)
    (k_isNum : PySem.W.keepIn K (.ref f_isNum) = true)
    (a_need : PySem.W.nsIn K mainGlobals "need_number" = some (some (.ref f_need)))
    (l_need : K.lookup f_need = some ⟨oc_need, od_need, .func (PySem.W.fnOf "need_number" "need_number" (defArgs s_need) (defBody s_need) (defScope s_need) .none kV_need dc_need pm_need an_need cd_need ct_need), sl_need⟩)
    (c_need : PySem.W.codeIn K cd_need "need_number" = true)
    (k_need : PySem.W.keepIn K (.ref f_need) = true)
    (a_tb : PySem.W.nsIn K mainGlobals "top_and_bottom" = some (some (.ref f_tb)))
    (l_tb : K.lookup f_tb = some ⟨oc_tb, od_tb, .func (PySem.W.fnOf "top_and_bottom" "top_and_bottom" (defArgs s_tb) (defBody s_tb) (defScope s_tb) .none kV_tb dc_tb pm_tb an_tb cd_tb ct_tb), sl_tb⟩)
    (c_tb : PySem.W.codeIn K cd_tb "top_and_bottom" = true)
    (k_tb : PySem.W.keepIn K (.ref f_tb) = true)
    (a_Lpot : PySem.W.nsIn K mainGlobals "_law_pot" = some (some (.ref f_Lpot)))
    (l_Lpot : K.lookup f_Lpot = some ⟨oc_Lpot, od_Lpot, .func (PySem.W.fnOf "_law_pot" "_law_pot" (defArgs s_pot) (defBody s_pot) (defScope s_pot) .none kV_Lpot dc_Lpot pm_Lpot an_Lpot cd_Lpot ct_Lpot), sl_Lpot⟩)
    (c_Lpot : PySem.W.codeIn K cd_Lpot "_law_pot" = true)
    (k_Lpot : PySem.W.keepIn K (.ref f_Lpot) = true)
    (a_Ldraw : PySem.W.nsIn K mainGlobals "_law_draw" = some (some (.ref f_Ldraw)))
    (l_Ldraw : K.lookup f_Ldraw = some ⟨oc_Ldraw, od_Ldraw, .func (PySem.W.fnOf "_law_draw" "_law_draw" (defArgs s_draw) (defBody s_draw) (defScope s_draw) .none kV_Ldraw dc_Ldraw pm_Ldraw an_Ldraw cd_Ldraw ct_Ldraw), sl_Ldraw⟩)
    (c_Ldraw : PySem.W.codeIn K cd_Ldraw "_law_draw" = true)
    (k_Ldraw : PySem.W.keepIn K (.ref f_Ldraw) = true)
    (a_Lpick : PySem.W.nsIn K mainGlobals "_law_pick" = some (some (.ref f_Lpick)))
    (l_Lpick : K.lookup f_Lpick = some ⟨oc_Lpick, od_Lpick, .func (PySem.W.fnOf "_law_pick" "_law_pick" (defArgs s_pick) (defBody s_pick) (defScope s_pick) .none kV_Lpick dc_Lpick pm_Lpick an_Lpick cd_Lpick ct_Lpick), sl_Lpick⟩)
    (c_Lpick : PySem.W.codeIn K cd_Lpick "_law_pick" = true)
    (k_Lpick : PySem.W.keepIn K (.ref f_Lpick) = true)
    (a_Llow : PySem.W.nsIn K mainGlobals "_law_low" = some (some (.ref f_Llow)))
    (l_Llow : K.lookup f_Llow = some ⟨oc_Llow, od_Llow, .func (PySem.W.fnOf "_law_low" "_law_low" (defArgs s_low) (defBody s_low) (defScope s_low) .none kV_Llow dc_Llow pm_Llow an_Llow cd_Llow ct_Llow), sl_Llow⟩)
    (c_Llow : PySem.W.codeIn K cd_Llow "_law_low" = true)
    (k_Llow : PySem.W.keepIn K (.ref f_Llow) = true)
    (a_Lplus : PySem.W.nsIn K mainGlobals "_law_plus" = some (some (.ref f_Lplus)))
    (l_Lplus : K.lookup f_Lplus = some ⟨oc_Lplus, od_Lplus, .func (PySem.W.fnOf "_law_plus" "_law_plus" (defArgs s_lplus) (defBody s_lplus) (defScope s_lplus) .none kV_Lplus dc_Lplus pm_Lplus an_Lplus cd_Lplus ct_Lplus), sl_Lplus⟩)
    (c_Lplus : PySem.W.codeIn K cd_Lplus "_law_plus" = true)
    (k_Lplus : PySem.W.keepIn K (.ref f_Lplus) = true)
    (a_Lless : PySem.W.nsIn K mainGlobals "_law_less" = some (some (.ref f_Lless)))
    (l_Lless : K.lookup f_Lless = some ⟨oc_Lless, od_Lless, .func (PySem.W.fnOf "_law_less" "_law_less" (defArgs s_lless) (defBody s_lless) (defScope s_lless) .none kV_Lless dc_Lless pm_Lless an_Lless cd_Lless ct_Lless), sl_Lless⟩)
    (c_Lless : PySem.W.codeIn K cd_Lless "_law_less" = true)
    (k_Lless : PySem.W.keepIn K (.ref f_Lless) = true)
    (a_Ltimes : PySem.W.nsIn K mainGlobals "_law_times" = some (some (.ref f_Ltimes)))
    (l_Ltimes : K.lookup f_Ltimes = some ⟨oc_Ltimes, od_Ltimes, .func (PySem.W.fnOf "_law_times" "_law_times" (defArgs s_ltimes) (defBody s_ltimes) (defScope s_ltimes) .none kV_Ltimes dc_Ltimes pm_Ltimes an_Ltimes cd_Ltimes ct_Ltimes), sl_Ltimes⟩)
    (c_Ltimes : PySem.W.codeIn K cd_Ltimes "_law_times" = true)
    (k_Ltimes : PySem.W.keepIn K (.ref f_Ltimes) = true)
    (a_Lnumber : PySem.W.nsIn K mainGlobals "_law_number" = some (some (.ref f_Lnumber)))
    (l_Lnumber : K.lookup f_Lnumber = some ⟨oc_Lnumber, od_Lnumber, .func (PySem.W.fnOf "_law_number" "_law_number" (defArgs s_number) (defBody s_number) (defScope s_number) .none kV_Lnumber dc_Lnumber pm_Lnumber an_Lnumber cd_Lnumber ct_Lnumber), sl_Lnumber⟩)
    (c_Lnumber : PySem.W.codeIn K cd_Lnumber "_law_number" = true)
    (k_Lnumber : PySem.W.keepIn K (.ref f_Lnumber) = true)
    (a_Ltext : PySem.W.nsIn K mainGlobals "_law_text" = some (some (.ref f_Ltext)))
    (l_Ltext : K.lookup f_Ltext = some ⟨oc_Ltext, od_Ltext, .func (PySem.W.fnOf "_law_text" "_law_text" (defArgs s_ltext) (defBody s_ltext) (defScope s_ltext) .none kV_Ltext dc_Ltext pm_Ltext an_Ltext cd_Ltext ct_Ltext), sl_Ltext⟩)
    (c_Ltext : PySem.W.codeIn K cd_Ltext "_law_text" = true)
    (k_Ltext : PySem.W.keepIn K (.ref f_Ltext) = true)
    (a_Lis : PySem.W.nsIn K mainGlobals "_law_is" = some (some (.ref f_Lis)))
    (l_Lis : K.lookup f_Lis = some ⟨oc_Lis, od_Lis, .func (PySem.W.fnOf "_law_is" "_law_is" (defArgs s_lis) (defBody s_lis) (defScope s_lis) .none kV_Lis dc_Lis pm_Lis an_Lis cd_Lis ct_Lis), sl_Lis⟩)
    (c_Lis : PySem.W.codeIn K cd_Lis "_law_is" = true)
    (k_Lis : PySem.W.keepIn K (.ref f_Lis) = true)
    (a_Lone : PySem.W.nsIn K mainGlobals "_law_one_right" = some (some (.ref f_Lone)))
    (l_Lone : K.lookup f_Lone = some ⟨oc_Lone, od_Lone, .func (PySem.W.fnOf "_law_one_right" "_law_one_right" (defArgs s_lone) (defBody s_lone) (defScope s_lone) .none kV_Lone dc_Lone pm_Lone an_Lone cd_Lone ct_Lone), sl_Lone⟩)
    (c_Lone : PySem.W.codeIn K cd_Lone "_law_one_right" = true)
    (k_Lone : PySem.W.keepIn K (.ref f_Lone) = true)
    (a_Lpair : PySem.W.nsIn K mainGlobals "_law_pair_right" = some (some (.ref f_Lpair)))
    (l_Lpair : K.lookup f_Lpair = some ⟨oc_Lpair, od_Lpair, .func (PySem.W.fnOf "_law_pair_right" "_law_pair_right" (defArgs s_lpair) (defBody s_lpair) (defScope s_lpair) .none kV_Lpair dc_Lpair pm_Lpair an_Lpair cd_Lpair ct_Lpair), sl_Lpair⟩)
    (c_Lpair : PySem.W.codeIn K cd_Lpair "_law_pair_right" = true)
    (k_Lpair : PySem.W.keepIn K (.ref f_Lpair) = true)
    (a_Ltot : PySem.W.nsIn K mainGlobals "_law_total_right" = some (some (.ref f_Ltot)))
    (l_Ltot : K.lookup f_Ltot = some ⟨oc_Ltot, od_Ltot, .func (PySem.W.fnOf "_law_total_right" "_law_total_right" (defArgs s_ltot) (defBody s_ltot) (defScope s_ltot) .none kV_Ltot dc_Ltot pm_Ltot an_Ltot cd_Ltot ct_Ltot), sl_Ltot⟩)
    (c_Ltot : PySem.W.codeIn K cd_Ltot "_law_total_right" = true)
    (k_Ltot : PySem.W.keepIn K (.ref f_Ltot) = true)
    (a_Lany : PySem.W.nsIn K mainGlobals "_law_any_right" = some (some (.ref f_Lany)))
    (l_Lany : K.lookup f_Lany = some ⟨oc_Lany, od_Lany, .func (PySem.W.fnOf "_law_any_right" "_law_any_right" (defArgs s_lany) (defBody s_lany) (defScope s_lany) .none kV_Lany dc_Lany pm_Lany an_Lany cd_Lany ct_Lany), sl_Lany⟩)
    (c_Lany : PySem.W.codeIn K cd_Lany "_law_any_right" = true)
    (k_Lany : PySem.W.keepIn K (.ref f_Lany) = true)
    (a_law : PySem.W.nsIn K mainGlobals "law" = some (some (.ref f_law)))
    (l_law : K.lookup f_law = some ⟨oc_law, od_law, .func (PySem.W.fnOf "law" "law" (defArgs s_law) (defBody s_law) (defScope s_law) .none kV_law dc_law pm_law an_law cd_law ct_law), sl_law⟩)
    (c_law : PySem.W.codeIn K cd_law "law" = true)
    (k_law : PySem.W.keepIn K (.ref f_law) = true)
    (a_Rinit : PySem.W.findIn K (.ref C) "__init__" = some (some (.ref f_Rinit)))
    (i_Rinit : PySem.W.isFn K (.ref f_Rinit) = true)
    (l_Rinit : K.lookup f_Rinit = some ⟨oc_Rinit, od_Rinit, .func (PySem.W.fnOf "__init__" "Ratio.__init__" (defArgs s_Rinit) (defBody s_Rinit) (defScope s_Rinit) (.ref T1) kV_Rinit dc_Rinit pm_Rinit an_Rinit cd_Rinit ct_Rinit), sl_Rinit⟩)
    (c_Rinit : PySem.W.codeIn K cd_Rinit "Ratio.__init__" = true)
    (k_Rinit : PySem.W.keepIn K (.ref f_Rinit) = true)
    (lT : K.lookup T1 = some ⟨ocT, odT, .seq [Value.int 1 tk1].toArray nT, slT⟩)
    (a_Rtop : PySem.W.findIn K (.ref C) "top" = some (some (.ref p_Rtop)))
    (gg_Rtop : PySem.W.specialIn K (.ref p_Rtop) "__get__" = some (some (.builtin "property.__get__")))
    (t_Rtop : PySem.W.takesIn K (.ref p_Rtop) = some true)
    (e_Rtop : PySem.W.recIn K p_Rtop "property" = some (.ref f_Rtop :: r_Rtop))
    (l_Rtop : K.lookup f_Rtop = some ⟨oc_Rtop, od_Rtop, .func (PySem.W.fnOf "top" "Ratio.top" (defArgs s_Rtop) (defBody s_Rtop) (defScope s_Rtop) .none kV_Rtop dc_Rtop pm_Rtop an_Rtop cd_Rtop ct_Rtop), sl_Rtop⟩)
    (c_Rtop : PySem.W.codeIn K cd_Rtop "Ratio.top" = true)
    (k_Rtop : PySem.W.keepIn K (.ref f_Rtop) = true)
    (a_Rbottom : PySem.W.findIn K (.ref C) "bottom" = some (some (.ref p_Rbottom)))
    (gg_Rbottom : PySem.W.specialIn K (.ref p_Rbottom) "__get__" = some (some (.builtin "property.__get__")))
    (t_Rbottom : PySem.W.takesIn K (.ref p_Rbottom) = some true)
    (e_Rbottom : PySem.W.recIn K p_Rbottom "property" = some (.ref f_Rbottom :: r_Rbottom))
    (l_Rbottom : K.lookup f_Rbottom = some ⟨oc_Rbottom, od_Rbottom, .func (PySem.W.fnOf "bottom" "Ratio.bottom" (defArgs s_Rbottom) (defBody s_Rbottom) (defScope s_Rbottom) .none kV_Rbottom dc_Rbottom pm_Rbottom an_Rbottom cd_Rbottom ct_Rbottom), sl_Rbottom⟩)
    (c_Rbottom : PySem.W.codeIn K cd_Rbottom "Ratio.bottom" = true)
    (k_Rbottom : PySem.W.keepIn K (.ref f_Rbottom) = true)
    (a_Rsign : PySem.W.findIn K (.ref C) "sign" = some (some (.ref p_Rsign)))
    (gg_Rsign : PySem.W.specialIn K (.ref p_Rsign) "__get__" = some (some (.builtin "property.__get__")))
    (t_Rsign : PySem.W.takesIn K (.ref p_Rsign) = some true)
    (e_Rsign : PySem.W.recIn K p_Rsign "property" = some (.ref f_Rsign :: r_Rsign))
    (l_Rsign : K.lookup f_Rsign = some ⟨oc_Rsign, od_Rsign, .func (PySem.W.fnOf "sign" "Ratio.sign" (defArgs s_Rsign) (defBody s_Rsign) (defScope s_Rsign) .none kV_Rsign dc_Rsign pm_Rsign an_Rsign cd_Rsign ct_Rsign), sl_Rsign⟩)
    (c_Rsign : PySem.W.codeIn K cd_Rsign "Ratio.sign" = true)
    (k_Rsign : PySem.W.keepIn K (.ref f_Rsign) = true)
    (a_Rwhole : PySem.W.findIn K (.ref C) "is_whole" = some (some (.ref p_Rwhole)))
    (gg_Rwhole : PySem.W.specialIn K (.ref p_Rwhole) "__get__" = some (some (.builtin "property.__get__")))
    (t_Rwhole : PySem.W.takesIn K (.ref p_Rwhole) = some true)
    (e_Rwhole : PySem.W.recIn K p_Rwhole "property" = some (.ref f_Rwhole :: r_Rwhole))
    (l_Rwhole : K.lookup f_Rwhole = some ⟨oc_Rwhole, od_Rwhole, .func (PySem.W.fnOf "is_whole" "Ratio.is_whole" (defArgs s_Rwhole) (defBody s_Rwhole) (defScope s_Rwhole) .none kV_Rwhole dc_Rwhole pm_Rwhole an_Rwhole cd_Rwhole ct_Rwhole), sl_Rwhole⟩)
    (c_Rwhole : PySem.W.codeIn K cd_Rwhole "Ratio.is_whole" = true)
    (k_Rwhole : PySem.W.keepIn K (.ref f_Rwhole) = true)
    (a_Radd : PySem.W.findIn K (.ref C) "__add__" = some (some (.ref f_Radd)))
    (i_Radd : PySem.W.isFn K (.ref f_Radd) = true)
    (l_Radd : K.lookup f_Radd = some ⟨oc_Radd, od_Radd, .func (PySem.W.fnOf "__add__" "Ratio.__add__" (defArgs s_Radd) (defBody s_Radd) (defScope s_Radd) .none kV_Radd dc_Radd pm_Radd an_Radd cd_Radd ct_Radd), sl_Radd⟩)
    (c_Radd : PySem.W.codeIn K cd_Radd "Ratio.__add__" = true)
    (k_Radd : PySem.W.keepIn K (.ref f_Radd) = true)
    (a_Rradd : PySem.W.findIn K (.ref C) "__radd__" = some (some (.ref f_Rradd)))
    (i_Rradd : PySem.W.isFn K (.ref f_Rradd) = true)
    (l_Rradd : K.lookup f_Rradd = some ⟨oc_Rradd, od_Rradd, .func (PySem.W.fnOf "__radd__" "Ratio.__radd__" (defArgs s_Rradd) (defBody s_Rradd) (defScope s_Rradd) .none kV_Rradd dc_Rradd pm_Rradd an_Rradd cd_Rradd ct_Rradd), sl_Rradd⟩)
    (c_Rradd : PySem.W.codeIn K cd_Rradd "Ratio.__radd__" = true)
    (k_Rradd : PySem.W.keepIn K (.ref f_Rradd) = true)
    (a_Rsub : PySem.W.findIn K (.ref C) "__sub__" = some (some (.ref f_Rsub)))
    (i_Rsub : PySem.W.isFn K (.ref f_Rsub) = true)
    (l_Rsub : K.lookup f_Rsub = some ⟨oc_Rsub, od_Rsub, .func (PySem.W.fnOf "__sub__" "Ratio.__sub__" (defArgs s_Rsub) (defBody s_Rsub) (defScope s_Rsub) .none kV_Rsub dc_Rsub pm_Rsub an_Rsub cd_Rsub ct_Rsub), sl_Rsub⟩)
    (c_Rsub : PySem.W.codeIn K cd_Rsub "Ratio.__sub__" = true)
    (k_Rsub : PySem.W.keepIn K (.ref f_Rsub) = true)
    (a_Rrsub : PySem.W.findIn K (.ref C) "__rsub__" = some (some (.ref f_Rrsub)))
    (i_Rrsub : PySem.W.isFn K (.ref f_Rrsub) = true)
    (l_Rrsub : K.lookup f_Rrsub = some ⟨oc_Rrsub, od_Rrsub, .func (PySem.W.fnOf "__rsub__" "Ratio.__rsub__" (defArgs s_Rrsub) (defBody s_Rrsub) (defScope s_Rrsub) .none kV_Rrsub dc_Rrsub pm_Rrsub an_Rrsub cd_Rrsub ct_Rrsub), sl_Rrsub⟩)
    (c_Rrsub : PySem.W.codeIn K cd_Rrsub "Ratio.__rsub__" = true)
    (k_Rrsub : PySem.W.keepIn K (.ref f_Rrsub) = true)
    (a_Rmul : PySem.W.findIn K (.ref C) "__mul__" = some (some (.ref f_Rmul)))
    (i_Rmul : PySem.W.isFn K (.ref f_Rmul) = true)
    (l_Rmul : K.lookup f_Rmul = some ⟨oc_Rmul, od_Rmul, .func (PySem.W.fnOf "__mul__" "Ratio.__mul__" (defArgs s_Rmul) (defBody s_Rmul) (defScope s_Rmul) .none kV_Rmul dc_Rmul pm_Rmul an_Rmul cd_Rmul ct_Rmul), sl_Rmul⟩)
    (c_Rmul : PySem.W.codeIn K cd_Rmul "Ratio.__mul__" = true)
    (k_Rmul : PySem.W.keepIn K (.ref f_Rmul) = true)
    (a_Rrmul : PySem.W.findIn K (.ref C) "__rmul__" = some (some (.ref f_Rrmul)))
    (i_Rrmul : PySem.W.isFn K (.ref f_Rrmul) = true)
    (l_Rrmul : K.lookup f_Rrmul = some ⟨oc_Rrmul, od_Rrmul, .func (PySem.W.fnOf "__rmul__" "Ratio.__rmul__" (defArgs s_Rrmul) (defBody s_Rrmul) (defScope s_Rrmul) .none kV_Rrmul dc_Rrmul pm_Rrmul an_Rrmul cd_Rrmul ct_Rrmul), sl_Rrmul⟩)
    (c_Rrmul : PySem.W.codeIn K cd_Rrmul "Ratio.__rmul__" = true)
    (k_Rrmul : PySem.W.keepIn K (.ref f_Rrmul) = true)
    (a_Rneg : PySem.W.findIn K (.ref C) "__neg__" = some (some (.ref f_Rneg)))
    (i_Rneg : PySem.W.isFn K (.ref f_Rneg) = true)
    (l_Rneg : K.lookup f_Rneg = some ⟨oc_Rneg, od_Rneg, .func (PySem.W.fnOf "__neg__" "Ratio.__neg__" (defArgs s_Rneg) (defBody s_Rneg) (defScope s_Rneg) .none kV_Rneg dc_Rneg pm_Rneg an_Rneg cd_Rneg ct_Rneg), sl_Rneg⟩)
    (c_Rneg : PySem.W.codeIn K cd_Rneg "Ratio.__neg__" = true)
    (k_Rneg : PySem.W.keepIn K (.ref f_Rneg) = true)
    (a_Rover : PySem.W.findIn K (.ref C) "over" = some (some (.ref f_Rover)))
    (i_Rover : PySem.W.isFn K (.ref f_Rover) = true)
    (l_Rover : K.lookup f_Rover = some ⟨oc_Rover, od_Rover, .func (PySem.W.fnOf "over" "Ratio.over" (defArgs s_Rover) (defBody s_Rover) (defScope s_Rover) .none kV_Rover dc_Rover pm_Rover an_Rover cd_Rover ct_Rover), sl_Rover⟩)
    (c_Rover : PySem.W.codeIn K cd_Rover "Ratio.over" = true)
    (k_Rover : PySem.W.keepIn K (.ref f_Rover) = true)
    (a_Rsize : PySem.W.findIn K (.ref C) "size" = some (some (.ref f_Rsize)))
    (i_Rsize : PySem.W.isFn K (.ref f_Rsize) = true)
    (l_Rsize : K.lookup f_Rsize = some ⟨oc_Rsize, od_Rsize, .func (PySem.W.fnOf "size" "Ratio.size" (defArgs s_Rsize) (defBody s_Rsize) (defScope s_Rsize) .none kV_Rsize dc_Rsize pm_Rsize an_Rsize cd_Rsize ct_Rsize), sl_Rsize⟩)
    (c_Rsize : PySem.W.codeIn K cd_Rsize "Ratio.size" = true)
    (k_Rsize : PySem.W.keepIn K (.ref f_Rsize) = true)
    (a_Rbelow : PySem.W.findIn K (.ref C) "is_below" = some (some (.ref f_Rbelow)))
    (i_Rbelow : PySem.W.isFn K (.ref f_Rbelow) = true)
    (l_Rbelow : K.lookup f_Rbelow = some ⟨oc_Rbelow, od_Rbelow, .func (PySem.W.fnOf "is_below" "Ratio.is_below" (defArgs s_Rbelow) (defBody s_Rbelow) (defScope s_Rbelow) .none kV_Rbelow dc_Rbelow pm_Rbelow an_Rbelow cd_Rbelow ct_Rbelow), sl_Rbelow⟩)
    (c_Rbelow : PySem.W.codeIn K cd_Rbelow "Ratio.is_below" = true)
    (k_Rbelow : PySem.W.keepIn K (.ref f_Rbelow) = true)
    (a_Ratmost : PySem.W.findIn K (.ref C) "is_at_most" = some (some (.ref f_Ratmost)))
    (i_Ratmost : PySem.W.isFn K (.ref f_Ratmost) = true)
    (l_Ratmost : K.lookup f_Ratmost = some ⟨oc_Ratmost, od_Ratmost, .func (PySem.W.fnOf "is_at_most" "Ratio.is_at_most" (defArgs s_Ratmost) (defBody s_Ratmost) (defScope s_Ratmost) .none kV_Ratmost dc_Ratmost pm_Ratmost an_Ratmost cd_Ratmost ct_Ratmost), sl_Ratmost⟩)
    (c_Ratmost : PySem.W.codeIn K cd_Ratmost "Ratio.is_at_most" = true)
    (k_Ratmost : PySem.W.keepIn K (.ref f_Ratmost) = true)
    (a_Rtotal : PySem.W.findCls K (.ref C) (.type "type") "total" = some (.get (.builtin "classmethod.__get__") (.ref p_Rtotal) .none (.ref C)))
    (e_Rtotal : PySem.W.recIn K p_Rtotal "classmethod" = some (.ref f_Rtotal :: r_Rtotal))
    (i_Rtotal : PySem.W.fnIn K f_Rtotal = true)
    (l_Rtotal : K.lookup f_Rtotal = some ⟨oc_Rtotal, od_Rtotal, .func (PySem.W.fnOf "total" "Ratio.total" (defArgs s_total) (defBody s_total) (defScope s_total) .none kV_Rtotal dc_Rtotal pm_Rtotal an_Rtotal cd_Rtotal ct_Rtotal), sl_Rtotal⟩)
    (c_Rtotal : PySem.W.codeIn K cd_Rtotal "Ratio.total" = true)
    (k_Rtotal : PySem.W.keepIn K (.ref f_Rtotal) = true)
    (a_Req : PySem.W.findIn K (.ref C) "__eq__" = some (some (.ref f_Req)))
    (i_Req : PySem.W.isFn K (.ref f_Req) = true)
    (l_Req : K.lookup f_Req = some ⟨oc_Req, od_Req, .func (PySem.W.fnOf "__eq__" "Ratio.__eq__" (defArgs s_Req) (defBody s_Req) (defScope s_Req) .none kV_Req dc_Req pm_Req an_Req cd_Req ct_Req), sl_Req⟩)
    (c_Req : PySem.W.codeIn K cd_Req "Ratio.__eq__" = true)
    (k_Req : PySem.W.keepIn K (.ref f_Req) = true)
    (a_Rstr : PySem.W.findIn K (.ref C) "__str__" = some (some (.ref f_Rstr)))
    (i_Rstr : PySem.W.isFn K (.ref f_Rstr) = true)
    (l_Rstr : K.lookup f_Rstr = some ⟨oc_Rstr, od_Rstr, .func (PySem.W.fnOf "__str__" "Ratio.__str__" (defArgs s_Rstr) (defBody s_Rstr) (defScope s_Rstr) .none kV_Rstr dc_Rstr pm_Rstr an_Rstr cd_Rstr ct_Rstr), sl_Rstr⟩)
    (c_Rstr : PySem.W.codeIn K cd_Rstr "Ratio.__str__" = true)
    (k_Rstr : PySem.W.keepIn K (.ref f_Rstr) = true)
    (a_Rrepr : PySem.W.findIn K (.ref C) "__repr__" = some (some (.ref f_Rrepr)))
    (i_Rrepr : PySem.W.isFn K (.ref f_Rrepr) = true)
    (l_Rrepr : K.lookup f_Rrepr = some ⟨oc_Rrepr, od_Rrepr, .func (PySem.W.fnOf "__repr__" "Ratio.__repr__" (defArgs s_Rrepr) (defBody s_Rrepr) (defScope s_Rrepr) .none kV_Rrepr dc_Rrepr pm_Rrepr an_Rrepr cd_Rrepr ct_Rrepr), sl_Rrepr⟩)
    (c_Rrepr : PySem.W.codeIn K cd_Rrepr "Ratio.__repr__" = true)
    (k_Rrepr : PySem.W.keepIn K (.ref f_Rrepr) = true)
    (mk : PySem.W.makesIn K C = true)
    (kC : PySem.W.keepIn K (.ref C) = true)
    (pg : PySem.W.plainGet K C Str.empty = true)
    (hd : PySem.W.hasDictIn K C = true)
    (po : PySem.W.plainOver K C = true)
    (sa : PySem.W.findIn K (.ref C) "__setattr__" = some (some (.builtin "object.__setattr__")))
    (nt : PySem.W.findIn K (.ref C) "_top" = some none)
    (nb : PySem.W.findIn K (.ref C) "_bottom" = some none)
    (rdC : PySem.W.readsIn K C (.type "type") = true)
    (gaC : PySem.W.specialIn K (.ref C) "__getattribute__" = some (some (.builtin "type.__getattribute__")))
    (clA : PySem.W.findIn K (.ref C) "__class__" = some (some (.builtin "object.__class__")))
    (clN : PySem.W.specialIn K (.builtin "object.__class__") "__get__" = some (some (.builtin "getset_descriptor.__get__")))
    (clT : PySem.W.takesIn K (.builtin "object.__class__") = some true)
    (clM : PySem.W.mroIn K C (.type "object") = some true)
    (isC : PySem.W.isClsIn K C = true)
    (tyC : PySem.W.typeIn K (.ref C) = some (.type "type"))
    (sf : PySem.W.selfFirst K C = true)
    (gcd : PySem.W.nsIn K mainGlobals "gcd" = some (some (.builtin "math.gcd")))
    (nf1 : PySem.W.notFirst K C (.type "int") = true)
    (nf2 : PySem.W.notFirst K C (.ref C) = true)
    (su_int : PySem.W.subIn K (.ref C) (.type "int") = some false)
    (su_bool : PySem.W.subIn K (.ref C) (.type "bool") = some false)
    (su_str : PySem.W.subIn K (.ref C) (.type "str") = some false)
    (su_tuple : PySem.W.subIn K (.ref C) (.type "tuple") = some false)
    (su_list : PySem.W.subIn K (.ref C) (.type "list") = some false)
    (su_NoneType : PySem.W.subIn K (.ref C) (.type "NoneType") = some false)
    (us_int : PySem.W.subIn K (.type "int") (.ref C) = some false)
    (us_bool : PySem.W.subIn K (.type "bool") (.ref C) = some false)
    (us_str : PySem.W.subIn K (.type "str") (.ref C) = some false)
    (us_tuple : PySem.W.subIn K (.type "tuple") (.ref C) = some false)
    (us_list : PySem.W.subIn K (.type "list") (.ref C) = some false)
    (us_NoneType : PySem.W.subIn K (.type "NoneType") (.ref C) = some false)
    (us_dict : PySem.W.subIn K (.type "dict") (.ref C) = some false)
    (no_add : PySem.W.findIn K (.type "int") "__add__" = some (some vo_add))
    (nr_add : PySem.W.findIn K (.type "int") "__radd__" = some (some vr_add))
    (sq_add : PySem.isSeqSlot (some vo_add) = false)
    (no_sub : PySem.W.findIn K (.type "int") "__sub__" = some (some vo_sub))
    (nr_sub : PySem.W.findIn K (.type "int") "__rsub__" = some (some vr_sub))
    (sq_sub : PySem.isSeqSlot (some vo_sub) = false)
    (no_mul : PySem.W.findIn K (.type "int") "__mul__" = some (some vo_mul))
    (nr_mul : PySem.W.findIn K (.type "int") "__rmul__" = some (some vr_mul))
    (sq_mul : PySem.isSeqSlot (some vo_mul) = false)
    (z_isinstance : PySem.W.nsIn K mainGlobals "isinstance" = some none)
    (z_int : PySem.W.nsIn K mainGlobals "int" = some none)
    (z_bool : PySem.W.nsIn K mainGlobals "bool" = some none)
    (z_list : PySem.W.nsIn K mainGlobals "list" = some none)
    (z_tuple : PySem.W.nsIn K mainGlobals "tuple" = some none)
    (z_repr : PySem.W.nsIn K mainGlobals "repr" = some none)
    (z_str : PySem.W.nsIn K mainGlobals "str" = some none)
    (z_abs : PySem.W.nsIn K mainGlobals "abs" = some none)
    (z_len : PySem.W.nsIn K mainGlobals "len" = some none)
    (z_max : PySem.W.nsIn K mainGlobals "max" = some none)
    (z_divmod : PySem.W.nsIn K mainGlobals "divmod" = some none)
    (z_range : PySem.W.nsIn K mainGlobals "range" = some none)
    : ∃ fd : FuncData, (∀ (s : Shared) (v : Value), BindsTo s fd ⟨[v], []⟩ [("_law_script", v)]) ∧ ∀ base : Heap, K.In base → base.Ns mainGlobals mg → FnG l.prog w K mg base CX0 9 fa fd ["_law_script"] (spL K) := by
  have e := hfa.symm.trans (PySem.W.mg_of X G a_law)
  cases e
  have F_isInt := fun_mk (st := s_isInt) l_isInt c_isInt k_isInt
  have B_isInt := F_isInt.binds (ps := ["value"]) fun _ _ _ _ _ _ us hl => match us, hl with | [_], _ => rfl
  have m_isInt := PySem.W.mg_of X G a_isInt
  have F_isCount := fun_mk (st := s_isCount) l_isCount c_isCount k_isCount
  have B_isCount := F_isCount.binds (ps := ["value"]) fun _ _ _ _ _ _ us hl => match us, hl with | [_], _ => rfl
  have m_isCount := PySem.W.mg_of X G a_isCount
  have F_isList := fun_mk (st := s_isList) l_isList c_isList k_isList
  have B_isList := F_isList.binds (ps := ["value"]) fun _ _ _ _ _ _ us hl => match us, hl with | [_], _ => rfl
  have m_isList := PySem.W.mg_of X G a_isList
  have F_isNum := fun_mk (st := s_isNum) l_isNum c_isNum k_isNum
  have B_isNum := F_isNum.binds (ps := ["value"]) fun _ _ _ _ _ _ us hl => match us, hl with | [_], _ => rfl
  have m_isNum := PySem.W.mg_of X G a_isNum
  have F_need := fun_mk (st := s_need) l_need c_need k_need
  have B_need := F_need.binds (ps := ["number"]) fun _ _ _ _ _ _ us hl => match us, hl with | [_], _ => rfl
  have m_need := PySem.W.mg_of X G a_need
  have F_tb := fun_mk (st := s_tb) l_tb c_tb k_tb
  have B_tb := F_tb.binds (ps := ["number"]) fun _ _ _ _ _ _ us hl => match us, hl with | [_], _ => rfl
  have m_tb := PySem.W.mg_of X G a_tb
  have F_Lpot := fun_mk (st := s_pot) l_Lpot c_Lpot k_Lpot
  have B_Lpot := F_Lpot.binds (ps := ["_law_script", "_law_k"]) fun _ _ _ _ _ _ us hl => match us, hl with | [_, _], _ => rfl
  have m_Lpot := PySem.W.mg_of X G a_Lpot
  have F_Ldraw := fun_mk (st := s_draw) l_Ldraw c_Ldraw k_Ldraw
  have B_Ldraw := F_Ldraw.binds (ps := ["_law_pot_here", "_law_many"]) fun _ _ _ _ _ _ us hl => match us, hl with | [_, _], _ => rfl
  have m_Ldraw := PySem.W.mg_of X G a_Ldraw
  have F_Lpick := fun_mk (st := s_pick) l_Lpick c_Lpick k_Lpick
  have B_Lpick := F_Lpick.binds (ps := ["_law_pot_here", "_law_some"]) fun _ _ _ _ _ _ us hl => match us, hl with | [_, _], _ => rfl
  have m_Lpick := PySem.W.mg_of X G a_Lpick
  have F_Llow := fun_mk (st := s_low) l_Llow c_Llow k_Llow
  have B_Llow := F_Llow.binds (ps := ["_law_top", "_law_bottom"]) fun _ _ _ _ _ _ us hl => match us, hl with | [_, _], _ => rfl
  have m_Llow := PySem.W.mg_of X G a_Llow
  have F_Lplus := fun_mk (st := s_lplus) l_Lplus c_Lplus k_Lplus
  have B_Lplus := F_Lplus.binds (ps := ["_law_one", "_law_other"]) fun _ _ _ _ _ _ us hl => match us, hl with | [_, _], _ => rfl
  have m_Lplus := PySem.W.mg_of X G a_Lplus
  have F_Lless := fun_mk (st := s_lless) l_Lless c_Lless k_Lless
  have B_Lless := F_Lless.binds (ps := ["_law_one", "_law_other"]) fun _ _ _ _ _ _ us hl => match us, hl with | [_, _], _ => rfl
  have m_Lless := PySem.W.mg_of X G a_Lless
  have F_Ltimes := fun_mk (st := s_ltimes) l_Ltimes c_Ltimes k_Ltimes
  have B_Ltimes := F_Ltimes.binds (ps := ["_law_one", "_law_other"]) fun _ _ _ _ _ _ us hl => match us, hl with | [_, _], _ => rfl
  have m_Ltimes := PySem.W.mg_of X G a_Ltimes
  have F_Lnumber := fun_mk (st := s_number) l_Lnumber c_Lnumber k_Lnumber
  have B_Lnumber := F_Lnumber.binds (ps := ["_law_pot_here"]) fun _ _ _ _ _ _ us hl => match us, hl with | [_], _ => rfl
  have m_Lnumber := PySem.W.mg_of X G a_Lnumber
  have F_Ltext := fun_mk (st := s_ltext) l_Ltext c_Ltext k_Ltext
  have B_Ltext := F_Ltext.binds (ps := ["_law_pair"]) fun _ _ _ _ _ _ us hl => match us, hl with | [_], _ => rfl
  have m_Ltext := PySem.W.mg_of X G a_Ltext
  have F_Lis := fun_mk (st := s_lis) l_Lis c_Lis k_Lis
  have B_Lis := F_Lis.binds (ps := ["_law_told", "_law_pair"]) fun _ _ _ _ _ _ us hl => match us, hl with | [_, _], _ => rfl
  have m_Lis := PySem.W.mg_of X G a_Lis
  have F_Lone := fun_mk (st := s_lone) l_Lone c_Lone k_Lone
  have B_Lone := F_Lone.binds (ps := ["_law_number_here", "_law_pair"]) fun _ _ _ _ _ _ us hl => match us, hl with | [_, _], _ => rfl
  have m_Lone := PySem.W.mg_of X G a_Lone
  have F_Lpair := fun_mk (st := s_lpair) l_Lpair c_Lpair k_Lpair
  have B_Lpair := F_Lpair.binds (ps := ["_law_one", "_law_other", "_law_near", "_law_far"]) fun _ _ _ _ _ _ us hl => match us, hl with | [_, _, _, _], _ => rfl
  have m_Lpair := PySem.W.mg_of X G a_Lpair
  have F_Ltot := fun_mk (st := s_ltot) l_Ltot c_Ltot k_Ltot
  have B_Ltot := F_Ltot.binds (ps := ["_law_numbers", "_law_pairs"]) fun _ _ _ _ _ _ us hl => match us, hl with | [_, _], _ => rfl
  have m_Ltot := PySem.W.mg_of X G a_Ltot
  have F_Lany := fun_mk (st := s_lany) l_Lany c_Lany k_Lany
  have B_Lany := F_Lany.binds (ps := []) fun _ _ _ _ _ _ us hl => match us, hl with | [], _ => rfl
  have m_Lany := PySem.W.mg_of X G a_Lany
  have F_law := fun_mk (st := s_law) l_law c_law k_law
  have m_law := PySem.W.mg_of X G a_law
  have F_Rtop := fun_mk (st := s_Rtop) l_Rtop c_Rtop k_Rtop
  have B_Rtop := F_Rtop.binds (ps := ["self"]) fun _ _ _ _ _ _ us hl => match us, hl with | [_], _ => rfl
  have P_Rtop : PropOf K C "top" p_Rtop f_Rtop := ⟨a_Rtop, gg_Rtop, t_Rtop, _, e_Rtop⟩
  have F_Rbottom := fun_mk (st := s_Rbottom) l_Rbottom c_Rbottom k_Rbottom
  have B_Rbottom := F_Rbottom.binds (ps := ["self"]) fun _ _ _ _ _ _ us hl => match us, hl with | [_], _ => rfl
  have P_Rbottom : PropOf K C "bottom" p_Rbottom f_Rbottom := ⟨a_Rbottom, gg_Rbottom, t_Rbottom, _, e_Rbottom⟩
  have F_Rsign := fun_mk (st := s_Rsign) l_Rsign c_Rsign k_Rsign
  have B_Rsign := F_Rsign.binds (ps := ["self"]) fun _ _ _ _ _ _ us hl => match us, hl with | [_], _ => rfl
  have P_Rsign : PropOf K C "sign" p_Rsign f_Rsign := ⟨a_Rsign, gg_Rsign, t_Rsign, _, e_Rsign⟩
  have F_Rwhole := fun_mk (st := s_Rwhole) l_Rwhole c_Rwhole k_Rwhole
  have B_Rwhole := F_Rwhole.binds (ps := ["self"]) fun _ _ _ _ _ _ us hl => match us, hl with | [_], _ => rfl
  have P_Rwhole : PropOf K C "is_whole" p_Rwhole f_Rwhole := ⟨a_Rwhole, gg_Rwhole, t_Rwhole, _, e_Rwhole⟩
  have F_Radd := fun_mk (st := s_Radd) l_Radd c_Radd k_Radd
  have B_Radd := F_Radd.binds (ps := ["self", "other"]) fun _ _ _ _ _ _ us hl => match us, hl with | [_, _], _ => rfl
  have F_Rradd := fun_mk (st := s_Rradd) l_Rradd c_Rradd k_Rradd
  have B_Rradd := F_Rradd.binds (ps := ["self", "other"]) fun _ _ _ _ _ _ us hl => match us, hl with | [_, _], _ => rfl
  have F_Rsub := fun_mk (st := s_Rsub) l_Rsub c_Rsub k_Rsub
  have B_Rsub := F_Rsub.binds (ps := ["self", "other"]) fun _ _ _ _ _ _ us hl => match us, hl with | [_, _], _ => rfl
  have F_Rrsub := fun_mk (st := s_Rrsub) l_Rrsub c_Rrsub k_Rrsub
  have B_Rrsub := F_Rrsub.binds (ps := ["self", "other"]) fun _ _ _ _ _ _ us hl => match us, hl with | [_, _], _ => rfl
  have F_Rmul := fun_mk (st := s_Rmul) l_Rmul c_Rmul k_Rmul
  have B_Rmul := F_Rmul.binds (ps := ["self", "other"]) fun _ _ _ _ _ _ us hl => match us, hl with | [_, _], _ => rfl
  have F_Rrmul := fun_mk (st := s_Rrmul) l_Rrmul c_Rrmul k_Rrmul
  have B_Rrmul := F_Rrmul.binds (ps := ["self", "other"]) fun _ _ _ _ _ _ us hl => match us, hl with | [_, _], _ => rfl
  have F_Rneg := fun_mk (st := s_Rneg) l_Rneg c_Rneg k_Rneg
  have B_Rneg := F_Rneg.binds (ps := ["self"]) fun _ _ _ _ _ _ us hl => match us, hl with | [_], _ => rfl
  have F_Rover := fun_mk (st := s_Rover) l_Rover c_Rover k_Rover
  have B_Rover := F_Rover.binds (ps := ["self", "other"]) fun _ _ _ _ _ _ us hl => match us, hl with | [_, _], _ => rfl
  have F_Rsize := fun_mk (st := s_Rsize) l_Rsize c_Rsize k_Rsize
  have B_Rsize := F_Rsize.binds (ps := ["self"]) fun _ _ _ _ _ _ us hl => match us, hl with | [_], _ => rfl
  have F_Rbelow := fun_mk (st := s_Rbelow) l_Rbelow c_Rbelow k_Rbelow
  have B_Rbelow := F_Rbelow.binds (ps := ["self", "other"]) fun _ _ _ _ _ _ us hl => match us, hl with | [_, _], _ => rfl
  have F_Ratmost := fun_mk (st := s_Ratmost) l_Ratmost c_Ratmost k_Ratmost
  have B_Ratmost := F_Ratmost.binds (ps := ["self", "other"]) fun _ _ _ _ _ _ us hl => match us, hl with | [_, _], _ => rfl
  have F_Rtotal := fun_mk (st := s_total) l_Rtotal c_Rtotal k_Rtotal
  have B_Rtotal := F_Rtotal.binds (ps := ["cls", "numbers"]) fun _ _ _ _ _ _ us hl => match us, hl with | [_, _], _ => rfl
  have F_Req := fun_mk (st := s_Req) l_Req c_Req k_Req
  have B_Req := F_Req.binds (ps := ["self", "other"]) fun _ _ _ _ _ _ us hl => match us, hl with | [_, _], _ => rfl
  have F_Rstr := fun_mk (st := s_Rstr) l_Rstr c_Rstr k_Rstr
  have B_Rstr := F_Rstr.binds (ps := ["self"]) fun _ _ _ _ _ _ us hl => match us, hl with | [_], _ => rfl
  have F_Rrepr := fun_mk (st := s_Rrepr) l_Rrepr c_Rrepr k_Rrepr
  have B_Rrepr := F_Rrepr.binds (ps := ["self"]) fun _ _ _ _ _ _ us hl => match us, hl with | [_], _ => rfl
  have mC := PySem.W.mg_of X G aC
  have y_isinstance := PySem.W.mg_none_of X G z_isinstance
  have y_int := PySem.W.mg_none_of X G z_int
  have y_bool := PySem.W.mg_none_of X G z_bool
  have y_list := PySem.W.mg_none_of X G z_list
  have y_tuple := PySem.W.mg_none_of X G z_tuple
  have y_repr := PySem.W.mg_none_of X G z_repr
  have y_str := PySem.W.mg_none_of X G z_str
  have y_abs := PySem.W.mg_none_of X G z_abs
  have y_len := PySem.W.mg_none_of X G z_len
  have y_max := PySem.W.mg_none_of X G z_max
  have y_divmod := PySem.W.mg_none_of X G z_divmod
  have y_range := PySem.W.mg_none_of X G z_range
  have F_Rinit : FunD K "__init__" "Ratio.__init__" (defArgs s_Rinit) (defBody s_Rinit) (defScope s_Rinit) [.int 1] [] f_Rinit _ := ⟨⟨oc_Rinit, od_Rinit, .ref T1, kV_Rinit, dc_Rinit, pm_Rinit, an_Rinit, cd_Rinit, ct_Rinit, sl_Rinit, rfl, l_Rinit, c_Rinit, .inr ⟨List.cons_ne_nil _ _, T1, _, _, _, rfl, lT, rfl, .cons ⟨tk1, rfl⟩ .nil⟩, .inl rfl⟩, k_Rinit⟩
  obtain ⟨ds2, v2, BI2⟩ := F_Rinit.binds1 (ps := ["self", "top", "bottom"]) 3 1 (List.cons_ne_nil _ _) rfl fun T kV doc pm an cdv ct us its h1 h2 => match us, its, h1, h2 with | [_, _, _], [_], _, _ => ⟨_, rfl, rfl⟩
  cases v2
  obtain ⟨ds1, v1, BI1⟩ := F_Rinit.binds1 (ps := ["self", "top", "bottom"]) 2 0 (List.cons_ne_nil _ _) rfl fun T kV doc pm an cdv ct us its h1 h2 => match us, its, h1, h2 with | [_, _], [_], _, _ => ⟨_, rfl, rfl⟩
  have BIK : KBind1 K _ ["self", "top", "bottom"] ["bottom", "top"] [1, 0] := fun s r us X hl => match us, hl with
    | [_, _], _ => BindsTo.of_looks (fd := PySem.W.fnOf "__init__" "Ratio.__init__" (defArgs s_Rinit) (defBody s_Rinit) (defScope s_Rinit) (.ref T1) kV_Rinit dc_Rinit pm_Rinit an_Rinit cd_Rinit ct_Rinit) fun M => looks_items (its := [Value.int 1 tk1].toArray) X lT rfl (.of_pure rfl)
  have cl : Cls K C := ⟨pg, hd, po, sa⟩
  have ct0 : ClsTy K C := ⟨fun H a dx fs e => .ins e cl clA clN clT clM, fun t => by cases t <;> first | exact kit_ref su_int (by decide +kernel) | exact kit_ref su_bool (by decide +kernel) | exact kit_ref su_str (by decide +kernel) | exact kit_ref su_tuple (by decide +kernel) | exact kit_ref su_list (by decide +kernel) | exact kit_ref su_NoneType (by decide +kernel),
    fun t => by cases t <;> first | exact kit_of us_int isC tyC | exact kit_of us_bool isC tyC | exact kit_of us_str isC tyC | exact kit_of us_tuple isC tyC | exact kit_of us_list isC tyC | exact kit_of us_NoneType isC tyC⟩
  have at_ : ClsAt K "Ratio" C := aC
  have kn : KnownC K ["Ratio"] := fun c hc => by
    have e : c = "Ratio" := by simpa using hc
    subst e
    exact ⟨C, at_, ct0⟩
  have M : Mk K C f_Rinit := ⟨mk, a_Rinit, i_Rinit, kC⟩
  have O_Radd : OwnOp K C .Add f_Radd := ⟨sf, (by rw [show PySem.dunder Operator.Add.info.2 = ("__add__" : Str) from by decide +kernel]; exact a_Radd), i_Radd, ⟨_, (by rw [show PySem.dunderR Operator.Add.info.2 = ("__radd__" : Str) from by decide +kernel]; exact a_Rradd), .inr ⟨_, rfl⟩⟩, ⟨_, _, (by rw [show PySem.dunder Operator.Add.info.2 = ("__add__" : Str) from by decide +kernel]; exact no_add), (by rw [show PySem.dunderR Operator.Add.info.2 = ("__radd__" : Str) from by decide +kernel]; exact nr_add)⟩, us_int⟩
  have O_Rradd : BackOp K C .Add f_Rradd := ⟨sf, ⟨_, (by rw [show PySem.dunder Operator.Add.info.2 = ("__add__" : Str) from by decide +kernel]; exact a_Radd)⟩, (by rw [show PySem.dunderR Operator.Add.info.2 = ("__radd__" : Str) from by decide +kernel]; exact a_Rradd), i_Rradd, ⟨_, _, (by rw [show PySem.dunder Operator.Add.info.2 = ("__add__" : Str) from by decide +kernel]; exact no_add), (by rw [show PySem.dunderR Operator.Add.info.2 = ("__radd__" : Str) from by decide +kernel]; exact nr_add), (by rw [Bool.or_eq_true]; exact .inl (by rw [sq_add]; rfl))⟩, su_int⟩
  have O_Rsub : OwnOp K C .Sub f_Rsub := ⟨sf, (by rw [show PySem.dunder Operator.Sub.info.2 = ("__sub__" : Str) from by decide +kernel]; exact a_Rsub), i_Rsub, ⟨_, (by rw [show PySem.dunderR Operator.Sub.info.2 = ("__rsub__" : Str) from by decide +kernel]; exact a_Rrsub), .inr ⟨_, rfl⟩⟩, ⟨_, _, (by rw [show PySem.dunder Operator.Sub.info.2 = ("__sub__" : Str) from by decide +kernel]; exact no_sub), (by rw [show PySem.dunderR Operator.Sub.info.2 = ("__rsub__" : Str) from by decide +kernel]; exact nr_sub)⟩, us_int⟩
  have O_Rrsub : BackOp K C .Sub f_Rrsub := ⟨sf, ⟨_, (by rw [show PySem.dunder Operator.Sub.info.2 = ("__sub__" : Str) from by decide +kernel]; exact a_Rsub)⟩, (by rw [show PySem.dunderR Operator.Sub.info.2 = ("__rsub__" : Str) from by decide +kernel]; exact a_Rrsub), i_Rrsub, ⟨_, _, (by rw [show PySem.dunder Operator.Sub.info.2 = ("__sub__" : Str) from by decide +kernel]; exact no_sub), (by rw [show PySem.dunderR Operator.Sub.info.2 = ("__rsub__" : Str) from by decide +kernel]; exact nr_sub), (by rw [Bool.or_eq_true]; exact .inl (by rw [sq_sub]; rfl))⟩, su_int⟩
  have O_Rmul : OwnOp K C .Mult f_Rmul := ⟨sf, (by rw [show PySem.dunder Operator.Mult.info.2 = ("__mul__" : Str) from by decide +kernel]; exact a_Rmul), i_Rmul, ⟨_, (by rw [show PySem.dunderR Operator.Mult.info.2 = ("__rmul__" : Str) from by decide +kernel]; exact a_Rrmul), .inr ⟨_, rfl⟩⟩, ⟨_, _, (by rw [show PySem.dunder Operator.Mult.info.2 = ("__mul__" : Str) from by decide +kernel]; exact no_mul), (by rw [show PySem.dunderR Operator.Mult.info.2 = ("__rmul__" : Str) from by decide +kernel]; exact nr_mul)⟩, us_int⟩
  have O_Rrmul : BackOp K C .Mult f_Rrmul := ⟨sf, ⟨_, (by rw [show PySem.dunder Operator.Mult.info.2 = ("__mul__" : Str) from by decide +kernel]; exact a_Rmul)⟩, (by rw [show PySem.dunderR Operator.Mult.info.2 = ("__rmul__" : Str) from by decide +kernel]; exact a_Rrmul), i_Rrmul, ⟨_, _, (by rw [show PySem.dunder Operator.Mult.info.2 = ("__mul__" : Str) from by decide +kernel]; exact no_mul), (by rw [show PySem.dunderR Operator.Mult.info.2 = ("__rmul__" : Str) from by decide +kernel]; exact nr_mul), (by rw [Bool.or_eq_true]; exact .inl (by rw [sq_mul]; rfl))⟩, su_int⟩
  have O_Req : CmpOwn K C .Eq f_Req := ⟨(by rw [show (PySem.cmpInfo CmpOp.Eq).2.1 = ("__eq__" : Str) from by decide +kernel]; exact a_Req), i_Req, nf1, nf2⟩
  refine ⟨PySem.W.fnOf "law" "law" (defArgs s_law) (defBody s_law) (defScope s_law) .none kV_law dc_law pm_law an_law cd_law ct_law, fun s v => .of_eq rfl, fun base _ _ => ?_⟩
  have cd0 : PySem.W.kitOne K (.type "dict") (.ref C) = some false := kit_of us_dict isC tyC
  have G_isInt := g_isInt (P := l.prog) (w := w) (base := base) F_isInt kn y_isinstance y_int y_bool
  have G_isIntY := g_isIntY (P := l.prog) (w := w) (base := base) F_isInt kn y_isinstance y_int y_bool
  have G_isNum := g_isNum (P := l.prog) (w := w) (base := base) F_isNum kn at_ ct0 y_isinstance mC m_isInt k_isInt G_isInt B_isInt
  have G_isNumY := g_isNumY (P := l.prog) (w := w) (base := base) F_isNum kn at_ ct0 cd0 y_isinstance mC m_isInt k_isInt G_isIntY B_isInt
  have G_isCount := g_isCount (P := l.prog) (w := w) (base := base) F_isCount m_isInt k_isInt G_isIntY B_isInt
  have G_isList := g_isList (P := l.prog) (w := w) (base := base) F_isList kn y_isinstance y_list y_tuple
  have G_need := g_need (P := l.prog) (w := w) (base := base) F_need m_isNum k_isNum G_isNum B_isNum
  have G_Rinit := g_Rinit (P := l.prog) (w := w) (base := base) F_Rinit cl at_ nt nb m_isInt k_isInt (G_isInt.imp (spD_imp fun ds R h => by
    split at h
    · rw [isInt_int]; exact h
    · exact h.elim)) B_isInt (PySem.W.mg_of X G gcd)
  have R0 : RH l.prog w K mg base (fun _ => .fail) C f_Rinit f_tb _ _ := ⟨M, cl, at_, nt, nb, mC, m_tb, k_tb, G_Rinit, BI2, fail_ok, B_tb⟩
  have G_Rtop := g_Rtop F_Rtop R0
  have G_Rbottom := g_Rbottom F_Rbottom R0
  have G_tb := g_tb (P := l.prog) (w := w) (base := base) F_tb kn at_ ct0 cl y_isinstance mC m_need k_need G_need B_need P_Rtop G_Rtop B_Rtop P_Rbottom G_Rbottom B_Rbottom
  have R : RH l.prog w K mg base Pd.f_tb C f_Rinit f_tb _ _ := ⟨M, cl, at_, nt, nb, mC, m_tb, k_tb, G_Rinit, BI2, G_tb, B_tb⟩
  have G_Rsign := g_Rsign F_Rsign R
  have G_Rwhole := g_Rwhole F_Rwhole R
  have G_Radd := g_Radd' F_Radd R
  have G_Rsub := g_Rsub F_Rsub R
  have G_Rmul := g_Rmul F_Rmul R
  have G_Rneg := g_Rneg F_Rneg R
  have G_Rover := g_Rover F_Rover R
  have G_Rsize := g_Rsize F_Rsize R y_abs
  have G_Rbelow := g_Rbelow F_Rbelow R
  have G_Ratmost := g_Ratmost F_Ratmost R
  have G_Rstr := g_Rstr F_Rstr R
  have G_Rrepr := g_Rrepr F_Rrepr R
  have G_Req := g_Req F_Req R kn ct0 y_isinstance
  have G_Rradd := g_Rradd F_Rradd at_ O_Radd G_Radd B_Radd
  have G_Rrmul := g_Rrmul F_Rrmul at_ O_Rmul G_Rmul B_Rmul
  have G_Rrsub := g_Rrsub F_Rrsub at_ O_Radd G_Radd B_Radd a_Rneg i_Rneg G_Rneg B_Rneg
  have G_Rtotal := g_total F_Rtotal M at_ O_Radd G_Radd B_Radd G_Rinit BI1 v1 m_isList k_isList G_isList B_isList
  have RW : RWd l.prog w K mg base := ⟨⟨C, _, _, _, [], [], M, at_, mC, G_Rinit, BI2, .nil, fun _ _ => .nil⟩, ⟨C, _, _, _, [.int 1], _, M, at_, mC, G_Rinit, BI1, v1, fun _ _ => .cons (.int 1) .nil⟩, ⟨C, _, _, _, M, at_, mC, G_Rinit, BIK⟩,
    ⟨C, _, _, _, _, at_, cl, P_Rsign, G_Rsign, B_Rsign⟩, ⟨C, _, _, _, _, at_, cl, P_Rwhole, G_Rwhole, B_Rwhole⟩, ⟨C, _, _, _, at_, ⟨a_Rstr, i_Rstr⟩, G_Rstr, B_Rstr⟩, ⟨C, _, _, _, at_, ⟨a_Rrepr, i_Rrepr⟩, G_Rrepr, B_Rrepr⟩,
    ⟨C, _, _, at_, cl, ⟨a_Rsize, i_Rsize, k_Rsize⟩, G_Rsize, B_Rsize⟩, ⟨C, _, _, at_, cl, ⟨a_Rover, i_Rover, k_Rover⟩, G_Rover, B_Rover⟩, ⟨C, _, _, at_, cl, ⟨a_Rbelow, i_Rbelow, k_Rbelow⟩, G_Rbelow, B_Rbelow⟩,
    ⟨C, _, _, at_, cl, ⟨a_Ratmost, i_Ratmost, k_Ratmost⟩, G_Ratmost, fun s r us _ hl => match us, hl with | [_], _ => .of_eq rfl⟩, ⟨C, _, _, _, at_, a_Rneg, i_Rneg, G_Rneg, B_Rneg⟩,
    ⟨C, _, _, _, at_, O_Radd, G_Radd, B_Radd⟩, ⟨C, _, _, _, at_, O_Rsub, G_Rsub, B_Rsub⟩, ⟨C, _, _, _, at_, O_Rmul, G_Rmul, B_Rmul⟩, ⟨C, _, _, _, at_, O_Rradd, G_Rradd, B_Rradd⟩, ⟨C, _, _, _, at_, O_Rrsub, G_Rrsub, B_Rrsub⟩, ⟨C, _, _, _, at_, O_Rrmul, G_Rrmul, B_Rrmul⟩,
    ⟨C, _, _, _, at_, O_Req, G_Req, B_Req⟩, kn⟩
  have G_Llow := g_low (P := l.prog) (w := w) (base := base) F_Llow y_abs
  have G_Lplus := g_lplus (P := l.prog) (w := w) (base := base) F_Lplus m_Llow k_Llow G_Llow B_Llow
  have G_Lless := g_lless (P := l.prog) (w := w) (base := base) F_Lless m_Llow k_Llow G_Llow B_Llow
  have G_Ltimes := g_ltimes (P := l.prog) (w := w) (base := base) F_Ltimes m_Llow k_Llow G_Llow B_Llow
  have G_Ltext := g_ltext (P := l.prog) (w := w) (base := base) F_Ltext y_str
  have G_Lis := g_lis (P := l.prog) (w := w) (base := base) F_Lis kn at_ ct0 cl y_isinstance y_repr mC P_Rtop G_Rtop B_Rtop P_Rbottom G_Rbottom B_Rbottom
  have p_low : Pm l.prog w K mg base "_law_low" 1 2 ["_law_top", "_law_bottom"] f_low := ⟨_, _, m_Llow, k_Llow, G_Llow, B_Llow⟩
  have LW : LWd l.prog w K mg base := { toRWd := RW, lis := ⟨_, _, m_Lis, k_Lis, G_Lis, B_Lis⟩, text := ⟨_, _, m_Ltext, k_Ltext, G_Ltext, B_Ltext⟩, low := p_low, plus := ⟨_, _, m_Lplus, k_Lplus, G_Lplus, B_Lplus⟩, less := ⟨_, _, m_Lless, k_Lless, G_Lless, B_Lless⟩, times := ⟨_, _, m_Ltimes, k_Ltimes, G_Ltimes, B_Ltimes⟩, zi := y_isinstance, zn := y_int, zr := y_repr, zs := y_str, za := y_abs }
  have G_Ldraw := g_draw (P := l.prog) (w := w) (base := base) F_Ldraw y_divmod y_int
  have G_Lpot := g_pot (P := l.prog) (w := w) (base := base) F_Lpot y_abs y_len y_max y_int
  have p_draw : Pm l.prog w K mg base "_law_draw" 1 2 ["_law_pot_here", "_law_many"] f__law_draw := ⟨_, _, m_Ldraw, k_Ldraw, G_Ldraw, B_Ldraw⟩
  have G_Lpick := g_pick (P := l.prog) (w := w) (base := base) F_Lpick p_draw y_len
  have G_Lnumber := g_number (P := l.prog) (w := w) (base := base) F_Lnumber p_draw ⟨_, _, m_Lpick, k_Lpick, G_Lpick, B_Lpick⟩ p_low RW.mk2
  have G_Lone := g_one F_Lone LW
  have G_Lpair := g_lpair F_Lpair LW
  have CR : ClX.CRead K C (.type "type") := ⟨rdC, gaC⟩
  have CM : ClX.CMet K C (.type "type") "total" p_Rtotal f_Rtotal := ⟨a_Rtotal, ⟨_, e_Rtotal⟩, i_Rtotal⟩
  have G_Ltot := g_ltot F_Ltot LW ⟨C, _, _, _, mC, CR, CM, (G_Rtotal.raw B_Rtotal .nil).imp fun vs H Q E h => by rw [List.append_nil]; exact h⟩ ⟨C, _, _, _, _, _, mC, CR, CM, G_Rtotal, fun s r us _ hl => match us, hl with | [_], _ => .of_eq rfl⟩ y_tuple
  have G_Lany := g_lany (P := l.prog) (w := w) (base := base) F_Lany LW at_ mC ct0 cd0 y_bool ⟨_, _, m_isInt, k_isInt, G_isIntY, B_isInt⟩ ⟨_, _, m_isCount, k_isCount, G_isCount, fun s us _ hl => match us, hl with | [_], _ => .of_eq rfl⟩ ⟨_, _, m_isNum, k_isNum, G_isNumY, B_isNum⟩
  exact g_law11 F_law m_Lpot k_Lpot G_Lpot B_Lpot LW ⟨_, _, m_Lnumber, k_Lnumber, G_Lnumber, B_Lnumber⟩ ⟨_, _, m_Lone, k_Lone, G_Lone, B_Lone⟩ ⟨_, _, m_Lpair, k_Lpair, G_Lpair, B_Lpair⟩ ⟨_, _, m_Ltot, k_Ltot, G_Ltot, B_Ltot⟩ ⟨_, _, m_Lany, k_Lany, G_Lany, B_Lany⟩ y_range
end Pd


open PySem PySem.W PyProof.Rows in
set_option maxHeartbeats 0 in
theorem PySem.Challenge.cw_aheadsums_k11_whole_numbers_reckoned_holds : PySem.Challenge.rw_aheadsums_k11_whole_numbers_reckoned.Holds := by
  w_on; o_law; k_head; (case hw => w_witness2)
  k_fill
  refine Pd.walkG (n := 63) (k := 9) (x := "_law_script") (l := PySem.Challenge.rw_aheadsums_k11_whole_numbers_reckoned) (sp := fun w => Pd.spL _) rfl (by decide) rfl ⟨rfl, by decide, by decide⟩ (fun w h Y => PySem.W.kIn_of Y) ?F fun w H a ns _ _ hS => ⟨a, ns, rfl, hS, fun _ => rfl⟩
  case F =>
    intro w mg fa h KX G hmg
    refine' Pd.all_mk KX G hmg ?aC ?a_isInt ?l_isInt ?c_isInt ?k_isInt ?a_isCount ?l_isCount ?c_isCount ?k_isCount ?a_isList ?l_isList ?c_isList ?k_isList ?a_isNum ?l_isNum ?c_isNum ?k_isNum ?a_need ?l_need ?c_need ?k_need ?a_tb ?l_tb ?c_tb ?k_tb ?a_Lpot ?l_Lpot ?c_Lpot ?k_Lpot ?a_Ldraw ?l_Ldraw ?c_Ldraw ?k_Ldraw ?a_Lpick ?l_Lpick ?c_Lpick ?k_Lpick ?a_Llow ?l_Llow ?c_Llow ?k_Llow ?a_Lplus ?l_Lplus ?c_Lplus ?k_Lplus ?a_Lless ?l_Lless ?c_Lless ?k_Lless ?a_Ltimes ?l_Ltimes ?c_Ltimes ?k_Ltimes ?a_Lnumber ?l_Lnumber ?c_Lnumber ?k_Lnumber ?a_Ltext ?l_Ltext ?c_Ltext ?k_Ltext ?a_Lis ?l_Lis ?c_Lis ?k_Lis ?a_Lone ?l_Lone ?c_Lone ?k_Lone ?a_Lpair ?l_Lpair ?c_Lpair ?k_Lpair ?a_Ltot ?l_Ltot ?c_Ltot ?k_Ltot ?a_Lany ?l_Lany ?c_Lany ?k_Lany ?a_law ?l_law ?c_law ?k_law ?a_Rinit ?i_Rinit ?l_Rinit ?c_Rinit ?k_Rinit ?lT ?a_Rtop ?gg_Rtop ?t_Rtop ?e_Rtop ?l_Rtop ?c_Rtop ?k_Rtop ?a_Rbottom ?gg_Rbottom ?t_Rbottom ?e_Rbottom ?l_Rbottom ?c_Rbottom ?k_Rbottom ?a_Rsign ?gg_Rsign ?t_Rsign ?e_Rsign ?l_Rsign ?c_Rsign ?k_Rsign ?a_Rwhole ?gg_Rwhole ?t_Rwhole ?e_Rwhole ?l_Rwhole ?c_Rwhole ?k_Rwhole ?a_Radd ?i_Radd ?l_Radd ?c_Radd ?k_Radd ?a_Rradd ?i_Rradd ?l_Rradd ?c_Rradd ?k_Rradd ?a_Rsub ?i_Rsub ?l_Rsub ?c_Rsub ?k_Rsub ?a_Rrsub ?i_Rrsub ?l_Rrsub ?c_Rrsub ?k_Rrsub ?a_Rmul ?i_Rmul ?l_Rmul ?c_Rmul ?k_Rmul ?a_Rrmul ?i_Rrmul ?l_Rrmul ?c_Rrmul ?k_Rrmul ?a_Rneg ?i_Rneg ?l_Rneg ?c_Rneg ?k_Rneg ?a_Rover ?i_Rover ?l_Rover ?c_Rover ?k_Rover ?a_Rsize ?i_Rsize ?l_Rsize ?c_Rsize ?k_Rsize ?a_Rbelow ?i_Rbelow ?l_Rbelow ?c_Rbelow ?k_Rbelow ?a_Ratmost ?i_Ratmost ?l_Ratmost ?c_Ratmost ?k_Ratmost ?a_Rtotal ?e_Rtotal ?i_Rtotal ?l_Rtotal ?c_Rtotal ?k_Rtotal ?a_Req ?i_Req ?l_Req ?c_Req ?k_Req ?a_Rstr ?i_Rstr ?l_Rstr ?c_Rstr ?k_Rstr ?a_Rrepr ?i_Rrepr ?l_Rrepr ?c_Rrepr ?k_Rrepr ?mk ?kC ?pg ?hd ?po ?sa ?nt ?nb ?rdC ?gaC ?clA ?clN ?clT ?clM ?isC ?tyC ?sf ?gcd ?nf1 ?nf2 ?su_int ?su_bool ?su_str ?su_tuple ?su_list ?su_NoneType ?us_int ?us_bool ?us_str ?us_tuple ?us_list ?us_NoneType ?us_dict ?no_add ?nr_add ?sq_add ?no_sub ?nr_sub ?sq_sub ?no_mul ?nr_mul ?sq_mul ?z_isinstance ?z_int ?z_bool ?z_list ?z_tuple ?z_repr ?z_str ?z_abs ?z_len ?z_max ?z_divmod ?z_range
    (case aC => k_is)
    (case a_isInt => k_is)
    (case l_isInt => k_is)
    (case c_isInt => k_is)
    (case k_isInt => k_is)
    (case a_isCount => k_is)
    (case l_isCount => k_is)
    (case c_isCount => k_is)
    (case k_isCount => k_is)
    (case a_isList => k_is)
    (case l_isList => k_is)
    (case c_isList => k_is)
    (case k_isList => k_is)
    (case a_isNum => k_is)
    (case l_isNum => k_is)
    (case c_isNum => k_is)
    (case k_isNum => k_is)
    (case a_need => k_is)
    (case l_need => k_is)
    (case c_need => k_is)
    (case k_need => k_is)
    (case a_tb => k_is)
    (case l_tb => k_is)
    (case c_tb => k_is)
    (case k_tb => k_is)
    (case a_Lpot => k_is)
    (case l_Lpot => k_is)
    (case c_Lpot => k_is)
    (case k_Lpot => k_is)
    (case a_Ldraw => k_is)
    (case l_Ldraw => k_is)
    (case c_Ldraw => k_is)
    (case k_Ldraw => k_is)
    (case a_Lpick => k_is)
    (case l_Lpick => k_is)
    (case c_Lpick => k_is)
    (case k_Lpick => k_is)
    (case a_Llow => k_is)
    (case l_Llow => k_is)
    (case c_Llow => k_is)
    (case k_Llow => k_is)
    (case a_Lplus => k_is)
    (case l_Lplus => k_is)
    (case c_Lplus => k_is)
    (case k_Lplus => k_is)
    (case a_Lless => k_is)
    (case l_Lless => k_is)
    (case c_Lless => k_is)
    (case k_Lless => k_is)
    (case a_Ltimes => k_is)
    (case l_Ltimes => k_is)
    (case c_Ltimes => k_is)
    (case k_Ltimes => k_is)
    (case a_Lnumber => k_is)
    (case l_Lnumber => k_is)
    (case c_Lnumber => k_is)
    (case k_Lnumber => k_is)
    (case a_Ltext => k_is)
    (case l_Ltext => k_is)
    (case c_Ltext => k_is)
    (case k_Ltext => k_is)
    (case a_Lis => k_is)
    (case l_Lis => k_is)
    (case c_Lis => k_is)
    (case k_Lis => k_is)
    (case a_Lone => k_is)
    (case l_Lone => k_is)
    (case c_Lone => k_is)
    (case k_Lone => k_is)
    (case a_Lpair => k_is)
    (case l_Lpair => k_is)
    (case c_Lpair => k_is)
    (case k_Lpair => k_is)
    (case a_Ltot => k_is)
    (case l_Ltot => k_is)
    (case c_Ltot => k_is)
    (case k_Ltot => k_is)
    (case a_Lany => k_is)
    (case l_Lany => k_is)
    (case c_Lany => k_is)
    (case k_Lany => k_is)
    (case a_law => k_is)
    (case l_law => k_is)
    (case c_law => k_is)
    (case k_law => k_is)
    (case a_Rinit => k_is)
    (case i_Rinit => k_is)
    (case l_Rinit => k_is)
    (case c_Rinit => k_is)
    (case k_Rinit => k_is)
    (case lT => k_is)
    (case a_Rtop => k_is)
    (case gg_Rtop => k_is)
    (case t_Rtop => k_is)
    (case e_Rtop => k_is)
    (case l_Rtop => k_is)
    (case c_Rtop => k_is)
    (case k_Rtop => k_is)
    (case a_Rbottom => k_is)
    (case gg_Rbottom => k_is)
    (case t_Rbottom => k_is)
    (case e_Rbottom => k_is)
    (case l_Rbottom => k_is)
    (case c_Rbottom => k_is)
    (case k_Rbottom => k_is)
    (case a_Rsign => k_is)
    (case gg_Rsign => k_is)
    (case t_Rsign => k_is)
    (case e_Rsign => k_is)
    (case l_Rsign => k_is)
    (case c_Rsign => k_is)
    (case k_Rsign => k_is)
    (case a_Rwhole => k_is)
    (case gg_Rwhole => k_is)
    (case t_Rwhole => k_is)
    (case e_Rwhole => k_is)
    (case l_Rwhole => k_is)
    (case c_Rwhole => k_is)
    (case k_Rwhole => k_is)
    (case a_Radd => k_is)
    (case i_Radd => k_is)
    (case l_Radd => k_is)
    (case c_Radd => k_is)
    (case k_Radd => k_is)
    (case a_Rradd => k_is)
    (case i_Rradd => k_is)
    (case l_Rradd => k_is)
    (case c_Rradd => k_is)
    (case k_Rradd => k_is)
    (case a_Rsub => k_is)
    (case i_Rsub => k_is)
    (case l_Rsub => k_is)
    (case c_Rsub => k_is)
    (case k_Rsub => k_is)
    (case a_Rrsub => k_is)
    (case i_Rrsub => k_is)
    (case l_Rrsub => k_is)
    (case c_Rrsub => k_is)
    (case k_Rrsub => k_is)
    (case a_Rmul => k_is)
    (case i_Rmul => k_is)
    (case l_Rmul => k_is)
    (case c_Rmul => k_is)
    (case k_Rmul => k_is)
    (case a_Rrmul => k_is)
    (case i_Rrmul => k_is)
    (case l_Rrmul => k_is)
    (case c_Rrmul => k_is)
    (case k_Rrmul => k_is)
    (case a_Rneg => k_is)
    (case i_Rneg => k_is)
    (case l_Rneg => k_is)
    (case c_Rneg => k_is)
    (case k_Rneg => k_is)
    (case a_Rover => k_is)
    (case i_Rover => k_is)
    (case l_Rover => k_is)
    (case c_Rover => k_is)
    (case k_Rover => k_is)
    (case a_Rsize => k_is)
    (case i_Rsize => k_is)
    (case l_Rsize => k_is)
    (case c_Rsize => k_is)
    (case k_Rsize => k_is)
    (case a_Rbelow => k_is)
    (case i_Rbelow => k_is)
    (case l_Rbelow => k_is)
    (case c_Rbelow => k_is)
    (case k_Rbelow => k_is)
    (case a_Ratmost => k_is)
    (case i_Ratmost => k_is)
    (case l_Ratmost => k_is)
    (case c_Ratmost => k_is)
    (case k_Ratmost => k_is)
    (case a_Rtotal => k_is)
    (case e_Rtotal => k_is)
    (case i_Rtotal => k_is)
    (case l_Rtotal => k_is)
    (case c_Rtotal => k_is)
    (case k_Rtotal => k_is)
    (case a_Req => k_is)
    (case i_Req => k_is)
    (case l_Req => k_is)
    (case c_Req => k_is)
    (case k_Req => k_is)
    (case a_Rstr => k_is)
    (case i_Rstr => k_is)
    (case l_Rstr => k_is)
    (case c_Rstr => k_is)
    (case k_Rstr => k_is)
    (case a_Rrepr => k_is)
    (case i_Rrepr => k_is)
    (case l_Rrepr => k_is)
    (case c_Rrepr => k_is)
    (case k_Rrepr => k_is)
    (case mk => k_is)
    (case kC => k_is)
    (case pg => k_is)
    (case hd => k_is)
    (case po => k_is)
    (case sa => k_is)
    (case nt => k_is)
    (case nb => k_is)
    (case rdC => k_is)
    (case gaC => k_is)
    (case clA => k_is)
    (case clN => k_is)
    (case clT => k_is)
    (case clM => k_is)
    (case isC => k_is)
    (case tyC => k_is)
    (case sf => k_is)
    (case gcd => k_is)
    (case nf1 => k_is)
    (case nf2 => k_is)
    (case su_int => k_is)
    (case su_bool => k_is)
    (case su_str => k_is)
    (case su_tuple => k_is)
    (case su_list => k_is)
    (case su_NoneType => k_is)
    (case us_int => k_is)
    (case us_bool => k_is)
    (case us_str => k_is)
    (case us_tuple => k_is)
    (case us_list => k_is)
    (case us_NoneType => k_is)
    (case us_dict => k_is)
    (case no_add => k_is)
    (case nr_add => k_is)
    (case sq_add => first | rfl | decide +kernel)
    (case no_sub => k_is)
    (case nr_sub => k_is)
    (case sq_sub => first | rfl | decide +kernel)
    (case no_mul => k_is)
    (case nr_mul => k_is)
    (case sq_mul => first | rfl | decide +kernel)
    (case z_isinstance => k_is)
    (case z_int => k_is)
    (case z_bool => k_is)
    (case z_list => k_is)
    (case z_tuple => k_is)
    (case z_repr => k_is)
    (case z_str => k_is)
    (case z_abs => k_is)
    (case z_len => k_is)
    (case z_max => k_is)
    (case z_divmod => k_is)
    (case z_range => k_is)
#print axioms PySem.Challenge.cw_aheadsums_k11_whole_numbers_reckoned_holds

