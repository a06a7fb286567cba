import PyProof.Rows.All
import Wide.All
import OpenK.AllK
import Wide.FinOn
import HandS.ForMost
import HandS.MakeKwOnly
import HandS.SortRule
import HandS.IsInst
import HandS.Codes
import PySem.Challenge.RW_callplans_k18_whole_contracts_are_what_t
set_option Elab.async false
set_option linter.all false
set_option maxRecDepth 100000
/-! Z: a layer of values over the heap layer. Data that no one changes are plain values D; what is changed stands in numbered cells. -/
namespace Z
open PySem PySem.Spec PyProof.Rows L2

/-- data as a whole -/
inductive D where
  | non | bl (b : Bool) | int (i : Int) | str (s : Str) | ty (n : String) | cls (A : Addr)
  | ktup (l : List D) | tup (l : List D) | lst (l : List D) | scr (l : List Int)
  | ins (A : Addr) (ns : List Str) (ds : List D)
  | dct (ks : List Key) (ds : List D)

def Sub (F H : Hp) : Prop := ∀ a o, F a = some o → H a = some o
theorem Sub.refl (F : Hp) : Sub F F := fun _ _ h => h
theorem Sub.trans {F G H : Hp} (a : Sub F G) (b : Sub G H) : Sub F H := fun x o h => b x o (a x o h)
theorem Sub.rd {F H : Hp} {a : Addr} {u : HO} (s : Sub F H) (h : Rd F a u) : Rd H a u := by
  rcases h with h | ⟨o, h⟩
  · exact .inl (s _ _ h)
  · exact .inr ⟨o, s _ _ h⟩
theorem Sub.sqL {K : PySem.W.Frag} {F H : Hp} {a : Addr} {xs : List V} (s : Sub F H) (h : SqL K F a xs) : SqL K H a xs := by
  rcases h with h | h
  · exact .inl (s.rd h)
  · exact .inr h
theorem Sub.sqT {K : PySem.W.Frag} {F H : Hp} {a : Addr} {xs : List V} (s : Sub F H) (h : SqT K F a xs) : SqT K H a xs := by
  rcases h with h | h
  · exact .inl (s.rd h)
  · exact .inr h
theorem Sub.new {F H : Hp} {p : Addr} {o : HO} (s : Sub F H) (hp : H p = none) : Sub F (upd H p o) := fun a u e => by
  rw [upd_ne (ne_of_none (s a u e) hp)]
  exact s a u e
theorem Sub.both {F H : Hp} {p : Addr} {o : HO} (s : Sub F H) : Sub (upd F p o) (upd H p o) := fun a u e => by
  by_cases h : a = p
  · subst h; rw [upd_same] at e ⊢; exact e
  · rw [upd_ne h] at e ⊢; exact s a u e
theorem Sub.self {F : Hp} {p : Addr} {o : HO} (hp : F p = none) : Sub F (upd F p o) := (Sub.refl F).new hp
theorem Sub.none {F H : Hp} {p : Addr} (s : Sub F H) (hp : H p = none) : F p = none := by
  cases q : F p with
  | none => rfl
  | some o => rw [s p o q] at hp; cases hp

mutual
/-- v stands for the data d, by what F knows -/
def Is (K : PySem.W.Frag) (F : Hp) : D → V → Prop
  | .non, v => v = .non
  | .bl b, v => v = .bl b
  | .int i, v => v = .int i
  | .str s, v => v = .str s
  | .ty n, v => v = .ty n
  | .cls A, v => v = .ref A
  | .ktup ds, v => ∃ a vs, v = .ref a ∧ SqT K F a vs ∧ IsL K F ds vs
  | .tup ds, v => ∃ a vs, v = .ref a ∧ F a = some (.tup vs) ∧ IsL K F ds vs
  | .lst ds, v => ∃ a vs, v = .ref a ∧ F a = some (.lst vs) ∧ IsL K F ds vs
  | .scr ns, v => ∃ a, v = .ref a ∧ SqL K F a (ns.map V.int)
  | .ins C ns ds, v => ∃ a dx vs, v = .ref a ∧ F a = some (.ins C dx (ns.zip vs)) ∧ ns.length = vs.length ∧ IsL K F ds vs
  | .dct ks ds, v => ∃ a vs, v = .ref a ∧ F a = some (.dK (ks.zip vs)) ∧ ks.length = vs.length ∧ IsL K F ds vs
def IsL (K : PySem.W.Frag) (F : Hp) : List D → List V → Prop
  | [], vs => vs = []
  | d :: ds, vs => ∃ v r, vs = v :: r ∧ Is K F d v ∧ IsL K F ds r
end

mutual
theorem Is.mono {K : PySem.W.Frag} {F F' : Hp} (s : Sub F F') : ∀ (d : D) (v : V), Is K F d v → Is K F' d v
  | .non, _, h => h
  | .bl _, _, h => h
  | .int _, _, h => h
  | .str _, _, h => h
  | .ty _, _, h => h
  | .cls _, _, h => h
  | .ktup ds, _, ⟨a, vs, e, h, r⟩ => ⟨a, vs, e, s.sqT h, IsL.mono s ds vs r⟩
  | .tup ds, _, ⟨a, vs, e, h, r⟩ => ⟨a, vs, e, s _ _ h, IsL.mono s ds vs r⟩
  | .lst ds, _, ⟨a, vs, e, h, r⟩ => ⟨a, vs, e, s _ _ h, IsL.mono s ds vs r⟩
  | .scr ns, _, ⟨a, e, h⟩ => ⟨a, e, s.sqL h⟩
  | .ins _ _ ds, _, ⟨a, dx, vs, e, h, l, r⟩ => ⟨a, dx, vs, e, s _ _ h, l, IsL.mono s ds vs r⟩
  | .dct _ ds, _, ⟨a, vs, e, h, l, r⟩ => ⟨a, vs, e, s _ _ h, l, IsL.mono s ds vs r⟩
theorem IsL.mono {K : PySem.W.Frag} {F F' : Hp} (s : Sub F F') : ∀ (ds : List D) (vs : List V), IsL K F ds vs → IsL K F' ds vs
  | [], _, h => h
  | d :: ds, _, ⟨v, r, e, h, t⟩ => ⟨v, r, e, Is.mono s d v h, IsL.mono s ds r t⟩
end

theorem IsL.length {K : PySem.W.Frag} {F : Hp} : ∀ {ds : List D} {vs : List V}, IsL K F ds vs → vs.length = ds.length
  | [], _, h => by cases h; rfl
  | _ :: ds, _, ⟨v, r, e, _, t⟩ => by
    subst e
    rw [List.length_cons, List.length_cons, IsL.length t]
theorem IsL.get {K : PySem.W.Frag} {F : Hp} : ∀ {ds : List D} {vs : List V} {i : Nat} {d : D}, IsL K F ds vs → ds[i]? = some d → ∃ v, vs[i]? = some v ∧ Is K F d v
  | [], _, _, _, _, e => by simp at e
  | d :: ds, _, 0, x, ⟨v, r, e, h, t⟩, g => by
    subst e
    have e1 : d = x := Option.some.inj g
    subst e1
    exact ⟨v, rfl, h⟩
  | d :: ds, _, i + 1, x, ⟨v, r, e, h, t⟩, g => by
    subst e
    exact IsL.get (i := i) t g
theorem IsL.append {K : PySem.W.Frag} {F : Hp} : ∀ {ds es : List D} {vs ws : List V}, IsL K F ds vs → IsL K F es ws → IsL K F (ds ++ es) (vs ++ ws)
  | [], _, _, _, h, g => by cases h; exact g
  | _ :: ds, _, _, _, ⟨v, r, e, h, t⟩, g => by
    subst e
    exact ⟨v, r ++ _, rfl, h, IsL.append t g⟩
theorem IsL.drop {K : PySem.W.Frag} {F : Hp} : ∀ {ds : List D} {vs : List V} (n : Nat), IsL K F ds vs → IsL K F (ds.drop n) (vs.drop n)
  | _, _, 0, h => h
  | [], _, n + 1, h => by cases h; exact rfl
  | _ :: ds, _, n + 1, ⟨v, r, e, h, t⟩ => by
    subst e
    exact IsL.drop n t
theorem IsL.take {K : PySem.W.Frag} {F : Hp} : ∀ {ds : List D} {vs : List V} (n : Nat), IsL K F ds vs → IsL K F (ds.take n) (vs.take n)
  | _, _, 0, h => rfl
  | [], _, n + 1, h => by cases h; exact rfl
  | _ :: ds, _, n + 1, ⟨v, r, e, h, t⟩ => by
    subst e
    exact ⟨v, r.take n, rfl, h, IsL.take n t⟩
theorem IsL.set {K : PySem.W.Frag} {F : Hp} {d : D} {v : V} (hd : Is K F d v) : ∀ {ds : List D} {vs : List V} (n : Nat), IsL K F ds vs → IsL K F (ds.set n d) (vs.set n v)
  | [], _, n, h => by cases h; cases n <;> exact rfl
  | _ :: ds, _, 0, ⟨w, r, e, h, t⟩ => by
    subst e
    exact ⟨v, r, rfl, hd, t⟩
  | _ :: ds, _, n + 1, ⟨w, r, e, h, t⟩ => by
    subst e
    exact ⟨w, r.set n v, rfl, h, IsL.set hd n t⟩
theorem IsL.reverse {K : PySem.W.Frag} {F : Hp} : ∀ {ds : List D} {vs : List V}, IsL K F ds vs → IsL K F ds.reverse vs.reverse
  | [], _, h => by cases h; exact rfl
  | d :: ds, _, ⟨w, r, e, h, t⟩ => by
    subst e
    rw [List.reverse_cons, List.reverse_cons]
    exact IsL.append (IsL.reverse t) ⟨w, [], rfl, h, rfl⟩
theorem IsL.one {K : PySem.W.Frag} {F : Hp} {d : D} {v : V} (h : Is K F d v) : IsL K F [d] [v] := ⟨v, [], rfl, h, rfl⟩
theorem IsL.ints {K : PySem.W.Frag} {F : Hp} : ∀ {ns : List Int} {vs : List V}, IsL K F (ns.map D.int) vs → vs = ns.map V.int
  | [], _, h => h
  | n :: ns, _, ⟨v, r, e, h, t⟩ => by
    subst e
    rw [IsL.ints t, (show v = V.int n from h)]
    rfl
theorem IsL.of_ints {K : PySem.W.Frag} {F : Hp} : ∀ (ns : List Int), IsL K F (ns.map D.int) (ns.map V.int)
  | [] => rfl
  | n :: ns => ⟨.int n, ns.map V.int, rfl, rfl, IsL.of_ints ns⟩
theorem IsL.strs {K : PySem.W.Frag} {F : Hp} : ∀ {ns : List Str} {vs : List V}, IsL K F (ns.map D.str) vs → vs = ns.map V.str
  | [], _, h => h
  | n :: ns, _, ⟨v, r, e, h, t⟩ => by
    subst e
    rw [IsL.strs t, (show v = V.str n from h)]
    rfl
theorem IsL.of_strs {K : PySem.W.Frag} {F : Hp} : ∀ (ns : List Str), IsL K F (ns.map D.str) (ns.map V.str)
  | [] => rfl
  | n :: ns => ⟨.str n, ns.map V.str, rfl, rfl, IsL.of_strs ns⟩
theorem IsL.bools {K : PySem.W.Frag} {F : Hp} : ∀ {ns : List Bool} {vs : List V}, IsL K F (ns.map D.bl) vs → vs = ns.map V.bl
  | [], _, h => h
  | n :: ns, _, ⟨v, r, e, h, t⟩ => by
    subst e
    rw [IsL.bools t, (show v = V.bl n from h)]
    rfl

/- data without a list -/
mutual
def D.noLst : D → Bool
  | .lst _ => false
  | .scr _ => false
  | .tup ds => noLsts ds
  | .ktup ds => noLsts ds
  | .ins _ _ ds => noLsts ds
  | .dct _ ds => noLsts ds
  | _ => true
def noLsts : List D → Bool
  | [] => true
  | d :: ds => d.noLst && noLsts ds
end
/-- F without what stands at A, which are lists -/
noncomputable def cut (F : Hp) (A : Addr → Prop) : Hp := fun b => open Classical in if A b then none else F b
theorem cut_in {F : Hp} {A : Addr → Prop} {b : Addr} (h : A b) : cut F A b = none := by unfold cut; rw [if_pos h]
theorem cut_out {F : Hp} {A : Addr → Prop} {b : Addr} (h : ¬ A b) : cut F A b = F b := by unfold cut; rw [if_neg h]
theorem cut_sub {F : Hp} {A : Addr → Prop} : Sub (cut F A) F := fun b o e => by
  by_cases h : A b
  · rw [cut_in h] at e; cases e
  · rw [cut_out h] at e; exact e
theorem cut_sqT {K : PySem.W.Frag} {F : Hp} {A : Addr → Prop} (hA : ∀ b, A b → ∀ o, F b = some o → ∃ vs, o = .lst vs) {a : Addr} {vs : List V} (h : SqT K F a vs) : SqT K (cut F A) a vs := by
  rcases h with (h | ⟨o, h⟩) | h
  · refine .inl (.inl ?_)
    by_cases q : A a
    · obtain ⟨ws, e⟩ := hA a q _ h
      cases e
    · rw [cut_out q]; exact h
  · refine .inl (.inr ⟨o, ?_⟩)
    by_cases q : A a
    · obtain ⟨ws, e⟩ := hA a q _ h
      cases e
    · rw [cut_out q]; exact h
  · exact .inr h
mutual
theorem Is.cut {K : PySem.W.Frag} {F : Hp} {A : Addr → Prop} (hA : ∀ b, A b → ∀ o, F b = some o → ∃ vs, o = .lst vs) : ∀ (d : D) (v : V), d.noLst = true → Is K F d v → Is K (cut F A) d v
  | .non, _, _, h => h
  | .bl _, _, _, h => h
  | .int _, _, _, h => h
  | .str _, _, _, h => h
  | .lst _, _, n, _ => by cases n
  | .scr _, _, n, _ => by cases n
  | .ty _, _, _, h => h
  | .cls _, _, _, h => h
  | .ktup ds, _, n, ⟨a, vs, e, h, r⟩ => ⟨a, vs, e, cut_sqT hA h, IsL.cut hA ds vs n r⟩
  | .tup ds, _, n, ⟨a, vs, e, h, r⟩ => ⟨a, vs, e, by
      rw [cut_out fun q => by obtain ⟨ws, z⟩ := hA a q _ h; cases z]
      exact h, IsL.cut hA ds vs n r⟩
  | .ins _ _ ds, _, n, ⟨a, dx, vs, e, h, l, r⟩ => ⟨a, dx, vs, e, by
      rw [cut_out fun q => by obtain ⟨ws, z⟩ := hA a q _ h; cases z]
      exact h, l, IsL.cut hA ds vs n r⟩
  | .dct _ ds, _, n, ⟨a, vs, e, h, l, r⟩ => ⟨a, vs, e, by
      rw [cut_out fun q => by obtain ⟨ws, z⟩ := hA a q _ h; cases z]
      exact h, l, IsL.cut hA ds vs n r⟩
theorem IsL.cut {K : PySem.W.Frag} {F : Hp} {A : Addr → Prop} (hA : ∀ b, A b → ∀ o, F b = some o → ∃ vs, o = .lst vs) : ∀ (ds : List D) (vs : List V), noLsts ds = true → IsL K F ds vs → IsL K (cut F A) ds vs
  | [], _, _, h => h
  | d :: ds, _, n, ⟨v, r, e, h, t⟩ => by
    have n' : (d.noLst && noLsts ds) = true := n
    rw [Bool.and_eq_true] at n'
    exact ⟨v, r, e, Is.cut hA d v n'.1 h, IsL.cut hA ds r n'.2 t⟩
end

/-! ### slots, cells, the state -/
inductive S where
  | val (d : D) | loc (n : Nat)
inductive Ce where
  | lst (ds : List D) | ins (A : Addr) (ns : List Str) (ss : List S)
structure Env where
  sl : List (Option S)
  ce : List (Option Ce)
  io : Nat
def RepS (K : PySem.W.Frag) (F : Hp) (α : Nat → Addr) : S → V → Prop
  | .val d, v => Is K F d v
  | .loc n, v => v = .ref (α n)
def RepSL (K : PySem.W.Frag) (F : Hp) (α : Nat → Addr) : List S → List V → Prop
  | [], vs => vs = []
  | s :: ss, vs => ∃ v r, vs = v :: r ∧ RepS K F α s v ∧ RepSL K F α ss r
def RepC (K : PySem.W.Frag) (F H : Hp) (α : Nat → Addr) (a : Addr) : Ce → Prop
  | .lst ds => ∃ vs, H a = some (.lst vs) ∧ IsL K F ds vs
  | .ins C ns ss => ∃ dx vs, H a = some (.ins C dx (ns.zip vs)) ∧ ns.length = vs.length ∧ RepSL K F α ss vs
theorem RepS.mono {K : PySem.W.Frag} {F F' : Hp} {α : Nat → Addr} (s : Sub F F') : ∀ {x : S} {v : V}, RepS K F α x v → RepS K F' α x v
  | .val d, v, h => Is.mono s d v h
  | .loc _, _, h => h
theorem RepSL.mono {K : PySem.W.Frag} {F F' : Hp} {α : Nat → Addr} (s : Sub F F') : ∀ {xs : List S} {vs : List V}, RepSL K F α xs vs → RepSL K F' α xs vs
  | [], _, h => h
  | _ :: xs, _, ⟨v, r, e, h, t⟩ => ⟨v, r, e, h.mono s, RepSL.mono s t⟩
theorem RepC.mono {K : PySem.W.Frag} {F F' H H' : Hp} {α : Nat → Addr} {a : Addr} (s : Sub F F') (hH : H' a = H a) : ∀ {c : Ce}, RepC K F H α a c → RepC K F' H' α a c
  | .lst ds, ⟨vs, h, r⟩ => ⟨vs, hH.trans h, IsL.mono s ds vs r⟩
  | .ins C ns ss, ⟨dx, vs, h, l, r⟩ => ⟨dx, vs, hH.trans h, l, r.mono s⟩
theorem RepC.some {K : PySem.W.Frag} {F H : Hp} {α : Nat → Addr} {a : Addr} : ∀ {c : Ce}, RepC K F H α a c → ∃ o, H a = some o
  | .lst _, ⟨_, h, _⟩ => ⟨_, h⟩
  | .ins _ _ _, ⟨_, _, h, _⟩ => ⟨_, h⟩

/-- a def's entry: what was known, the heap, the cells that it was handed -/
structure Base where
  F : Hp
  H : Hp
  io : List Addr

structure Rel (K : PySem.W.Frag) (B : Base) (F H : Hp) (α : Nat → Addr) (σ : L2.St) (ρ : Env) : Prop where
  sub : Sub F H
  sl : ∀ (i : Nat) s, ρ.sl[i]? = some (some s) → ∃ v, σ[i]? = some (some v) ∧ RepS K F α s v
  ce : ∀ (n : Nat) c, ρ.ce[n]? = some (some c) → F (α n) = none ∧ RepC K F H α (α n) c
  inj : ∀ (n m : Nat) c c', ρ.ce[n]? = some (some c) → ρ.ce[m]? = some (some c') → α n = α m → n = m
  f0 : Sub B.F F
  kept : ∀ b o, B.H b = some o → b ∉ B.io → H b = some o
  dom : ∀ b, B.H b ≠ none → H b ≠ none
  fresh : ∀ b, B.H b ≠ none → B.F b = none → F b = none
  own : ∀ (n : Nat) c, ρ.ce[n]? = some (some c) → B.io[n]? = some (α n) ∨ B.H (α n) = none
  io : ∀ (n : Nat) a, B.io[n]? = some a → α n = a
  len : σ.length = ρ.sl.length
  ion : ρ.io = B.io.length

/-- only new objects came, some of them are known now -/
structure Ext (F H F' H' : Hp) : Prop where
  f : Sub F F'
  h : Sub H H'
  fh : Sub F' H'
  fr : ∀ b, H b ≠ none → F b = none → F' b = none
theorem Ext.refl {F H : Hp} (s : Sub F H) : Ext F H F H := ⟨Sub.refl F, Sub.refl H, s, fun _ _ n => n⟩
theorem Ext.trans {F H F1 H1 F2 H2 : Hp} (a : Ext F H F1 H1) (b : Ext F1 H1 F2 H2) : Ext F H F2 H2 :=
  ⟨a.f.trans b.f, a.h.trans b.h, b.fh, fun x hx n => b.fr x (fun z => hx (a.h.none z)) (a.fr x hx n)⟩
theorem Ext.new {F H : Hp} {p : Addr} {o : HO} (s : Sub F H) (hp : H p = none) : Ext F H (upd F p o) (upd H p o) :=
  ⟨Sub.self (s.none hp), Sub.self hp, s.both, fun b hb n => by rw [upd_ne (fun e => hb (by rw [e]; exact hp))]; exact n⟩
theorem Ext.temp {F H : Hp} {p : Addr} {o : HO} (s : Sub F H) (hp : H p = none) : Ext F H F (upd H p o) :=
  ⟨Sub.refl F, Sub.self hp, s.new hp, fun _ _ n => n⟩

section
variable {K : PySem.W.Frag} {B : Base} {F H F' H' : Hp} {α : Nat → Addr} {σ : L2.St} {ρ : Env}
theorem Rel.ext (R : Rel K B F H α σ ρ) (e : Ext F H F' H') : Rel K B F' H' α σ ρ where
  sub := e.fh
  sl := fun i s h => by
    obtain ⟨v, e1, e2⟩ := R.sl i s h
    exact ⟨v, e1, e2.mono e.f⟩
  ce := fun n c h => by
    obtain ⟨h1, h2⟩ := R.ce n c h
    obtain ⟨o, ho⟩ := h2.some
    refine ⟨e.fr _ (by rw [ho]; exact fun z => by cases z) h1, h2.mono e.f ?_⟩
    rw [ho]; exact e.h _ _ ho
  inj := R.inj
  f0 := R.f0.trans e.f
  kept := fun b o h hb => e.h b o (R.kept b o h hb)
  dom := fun b hb => fun z => R.dom b hb (e.h.none z)
  fresh := fun b hb n => e.fr b (R.dom b hb) (R.fresh b hb n)
  own := R.own
  io := R.io
  len := R.len
  ion := R.ion

def Env.put (ρ : Env) (i : Nat) (s : S) : Env := { ρ with sl := ρ.sl.set i (some s) }
def Env.wipe (ρ : Env) (i : Nat) : Env := { ρ with sl := ρ.sl.set i none }
theorem Rel.put (R : Rel K B F H α σ ρ) {i : Nat} {s : S} {v : V} (h : RepS K F α s v) : Rel K B F H α (σ.set i (some v)) (ρ.put i s) where
  sub := R.sub
  sl := fun j s' e => by
    have e' : (ρ.sl.set i (some s))[j]? = some (some s') := e
    rw [List.getElem?_set] at e' ⊢
    by_cases q : i = j
    · rw [if_pos q] at e' ⊢
      rw [R.len]
      by_cases l : i < ρ.sl.length
      · rw [if_pos l] at e' ⊢
        cases e'
        exact ⟨v, rfl, h⟩
      · rw [if_neg l] at e'; cases e'
    · rw [if_neg q] at e' ⊢
      exact R.sl j s' e'
  ce := R.ce
  inj := R.inj
  f0 := R.f0
  kept := R.kept
  dom := R.dom
  fresh := R.fresh
  own := R.own
  io := R.io
  len := by
    show (σ.set i (some v)).length = (ρ.sl.set i (some s)).length
    rw [List.length_set, List.length_set]
    exact R.len
  ion := R.ion
/-- fewer slots known -/
theorem Rel.less (R : Rel K B F H α σ ρ) {σ' : L2.St} {ρ' : Env} (hc : ρ'.ce = ρ.ce) (hio : ρ'.io = ρ.io) (hl : σ'.length = ρ'.sl.length) (hs : ∀ (i : Nat) s, ρ'.sl[i]? = some (some s) → ρ.sl[i]? = some (some s) ∧ σ'[i]? = σ[i]?) : Rel K B F H α σ' ρ' where
  sub := R.sub
  sl := fun i s e => by
    obtain ⟨h1, h2⟩ := hs i s e
    rw [h2]
    exact R.sl i s h1
  ce := by rw [hc]; exact R.ce
  inj := by rw [hc]; exact R.inj
  f0 := R.f0
  kept := R.kept
  dom := R.dom
  fresh := R.fresh
  own := by rw [hc]; exact R.own
  io := R.io
  len := hl
  ion := by rw [hio]; exact R.ion
end

/-! ### peeking into cells -/
/-- the lists that stand in cells -/
def PkA (α : Nat → Addr) (ρ : Env) (b : Addr) : Prop := ∃ (n : Nat) (ds : List D), ρ.ce[n]? = some (some (.lst ds)) ∧ α n = b
noncomputable def peek (F H : Hp) (α : Nat → Addr) (ρ : Env) : Hp := fun b => open Classical in if PkA α ρ b then H b else F b
theorem peek_in {F H : Hp} {α : Nat → Addr} {ρ : Env} {b : Addr} (h : PkA α ρ b) : peek F H α ρ b = H b := by unfold peek; rw [if_pos h]
theorem peek_out {F H : Hp} {α : Nat → Addr} {ρ : Env} {b : Addr} (h : ¬ PkA α ρ b) : peek F H α ρ b = F b := by unfold peek; rw [if_neg h]
section
variable {K : PySem.W.Frag} {B : Base} {F H F' H' : Hp} {α : Nat → Addr} {σ : L2.St} {ρ : Env}
theorem Rel.pkF (R : Rel K B F H α σ ρ) {b : Addr} (h : PkA α ρ b) : F b = none := by
  obtain ⟨n, ds, e, rfl⟩ := h
  exact (R.ce n _ e).1
theorem Rel.pkH (R : Rel K B F H α σ ρ) {b : Addr} (h : PkA α ρ b) : ∃ vs, H b = some (.lst vs) := by
  obtain ⟨n, ds, e, rfl⟩ := h
  obtain ⟨vs, e1, _⟩ := (R.ce n _ e).2
  exact ⟨vs, e1⟩
theorem Rel.peek_sub (R : Rel K B F H α σ ρ) : Sub F (peek F H α ρ) := fun b o e => by
  by_cases h : PkA α ρ b
  · rw [R.pkF h] at e; cases e
  · rw [peek_out h]; exact e
theorem Rel.peek_h (R : Rel K B F H α σ ρ) : Sub (peek F H α ρ) H := fun b o e => by
  by_cases h : PkA α ρ b
  · rw [peek_in h] at e; exact e
  · rw [peek_out h] at e; exact R.sub b o e
/-- behind an operation that looked into cells: what it gave bears no list of theirs -/
theorem Rel.unpeek (R : Rel K B F H α σ ρ) (e : Ext (peek F H α ρ) H F' H') : Ext F H (cut F' (PkA α ρ)) H' where
  f := fun b o h => by
    have q : ¬ PkA α ρ b := fun z => by rw [R.pkF z] at h; cases h
    rw [cut_out q]
    exact e.f b o (R.peek_sub b o h)
  h := e.h
  fh := cut_sub.trans e.fh
  fr := fun b hb n => by
    by_cases q : PkA α ρ b
    · exact cut_in q
    · rw [cut_out q]
      exact e.fr b hb (by rw [peek_out q]; exact n)
theorem Rel.unpeek_is (R : Rel K B F H α σ ρ) (e : Ext (peek F H α ρ) H F' H') {d : D} {v : V} (n : d.noLst = true) (h : Is K F' d v) : Is K (cut F' (PkA α ρ)) d v := by
  refine Is.cut (fun b hb o ho => ?_) d v n h
  obtain ⟨vs, hv⟩ := R.pkH hb
  have := e.h _ _ hv
  have h2 := e.fh _ _ ho
  rw [this] at h2
  exact ⟨vs, (Option.some.inj h2).symm⟩
/-- a slot's value as it stands now; told whether a cell was looked into -/
def S.vw (ρ : Env) : S → (D → Bool → Prop) → Prop
  | .val d, k => k d false
  | .loc n, k => ∃ ds, ρ.ce[n]? = some (some (.lst ds)) ∧ k (.lst ds) true
theorem Rel.vw (R : Rel K B F H α σ ρ) {s : S} {v : V} {k : D → Bool → Prop} (hs : RepS K F α s v) (h : s.vw ρ k) : ∃ d p, Is K (peek F H α ρ) d v ∧ (p = false → Is K F d v) ∧ k d p := by
  cases s with
  | val d => exact ⟨d, false, Is.mono R.peek_sub d v hs, fun _ => hs, h⟩
  | loc n =>
    obtain ⟨ds, e, h⟩ := h
    obtain ⟨hF, vs, hv, r⟩ := R.ce n _ e
    refine ⟨.lst ds, true, ⟨α n, vs, hs, ?_, IsL.mono R.peek_sub ds vs r⟩, fun z => (Bool.noConfusion z), h⟩
    rw [peek_in ⟨n, ds, e, rfl⟩]
    exact hv
end
end Z

set_option Elab.async false
set_option linter.all false
set_option maxRecDepth 100000
namespace Z
open PySem PySem.Spec PyProof.Rows L2

abbrev ZT := Env → (S → Env → Prop) → Prop
abbrev ZL := Env → (List D → Env → Prop) → Prop
abbrev ZC := Env → (Bool → Env → Prop) → Prop
abbrev ZR := Env → (List S → Env → Prop) → Prop

/-- a list that was just made -/
structure Fsh (K : PySem.W.Frag) (B : Base) (F H : Hp) (α : Nat → Addr) (ρ : Env) (p : Addr) (ds : List D) : Prop where
  h : ∃ ws, H p = some (.lst ws) ∧ IsL K F ds ws
  f : F p = none
  b : B.H p = none
  c : ∀ (n : Nat) c, ρ.ce[n]? = some (some c) → α n ≠ p

def SndE (K : PySem.W.Frag) (t0 : TE) (t : ZT) : Prop := ∀ (B : Base) (F H : Hp) (α : Nat → Addr) (σ : L2.St) (ρ : Env) (Q0 : VK) (Q : S → Env → Prop), Rel K B F H α σ ρ → t ρ Q →
  (∀ F' H' s ρ' v, Rel K B F' H' α σ ρ' → Sub F F' → RepS K F' α s v → Q s ρ' → Q0 v H') → t0 σ H Q0
def SndL (K : PySem.W.Frag) (t0 : TE) (t : ZL) : Prop := ∀ (B : Base) (F H : Hp) (α : Nat → Addr) (σ : L2.St) (ρ : Env) (Q0 : VK) (Q : List D → Env → Prop), Rel K B F H α σ ρ → t ρ Q →
  (∀ F' H' ds ρ' p, Rel K B F' H' α σ ρ' → Sub F F' → Fsh K B F' H' α ρ' p ds → Q ds ρ' → Q0 (.ref p) H') → t0 σ H Q0
def SndC (K : PySem.W.Frag) (t0 : TT) (t : ZC) : Prop := ∀ (B : Base) (F H : Hp) (α : Nat → Addr) (σ : L2.St) (ρ : Env) (Q0 : Bool → Hp → Prop) (Q : Bool → Env → Prop), Rel K B F H α σ ρ → t ρ Q →
  (∀ F' H' b ρ', Rel K B F' H' α σ ρ' → Sub F F' → Q b ρ' → Q0 b H') → t0 σ H Q0
def SndR (K : PySem.W.Frag) (t0 : TA) (t : ZR) : Prop := ∀ (B : Base) (F H : Hp) (α : Nat → Addr) (σ : L2.St) (ρ : Env) (Q0 : List V → Hp → Prop) (Q : List S → Env → Prop), Rel K B F H α σ ρ → t ρ Q →
  (∀ F' H' ss ρ' vs, Rel K B F' H' α σ ρ' → Sub F F' → RepSL K F' α ss vs → Q ss ρ' → Q0 vs H') → t0 σ H Q0

structure ZE (X : Cx) (e : Expr) (t : ZT) : Prop where
  ok : ∃ t0, PE X e t0 ∧ SndE X.K t0 t
structure ZF (X : Cx) (e : Expr) (t : ZL) : Prop where
  ok : ∃ t0, PE X e t0 ∧ SndL X.K t0 t
/-- a test, whatever its whole is -/
structure ZQ (X : Cx) (e : Expr) (t : ZC) : Prop where
  ok : ∃ t0, PT X e t0 ∧ SndC X.K t0 t
structure ZW (X : Cx) (e : Expr) (t : ZC) : Prop where
  ok : ∃ t0, PW X e t0 ∧ SndC X.K t0 t
structure ZA (X : Cx) (es : List Expr) (t : ZR) : Prop where
  ok : ∃ t0, PA X es t0 ∧ SndR X.K t0 t

section
variable {K : PySem.W.Frag} {B : Base} {F H F' H' : Hp} {α : Nat → Addr} {σ : L2.St} {ρ : Env}
theorem Rel.know (R : Rel K B F H α σ ρ) {p : Addr} {o : HO} (hp : H p = some o) (hf : F p = none) (hb : B.H p = none) (hc : ∀ (n : Nat) c, ρ.ce[n]? = some (some c) → α n ≠ p) : Rel K B (upd F p o) H α σ ρ where
  sub := fun a u e => by
    by_cases q : a = p
    · subst q; rw [upd_same] at e; rw [hp]; exact e
    · rw [upd_ne q] at e; exact R.sub a u e
  sl := fun i s e => by
    obtain ⟨v, e1, e2⟩ := R.sl i s e
    exact ⟨v, e1, e2.mono (Sub.self hf)⟩
  ce := fun n c e => by
    obtain ⟨h1, h2⟩ := R.ce n c e
    refine ⟨?_, h2.mono (Sub.self hf) rfl⟩
    rw [upd_ne (hc n c e)]
    exact h1
  inj := R.inj
  f0 := R.f0.trans (Sub.self hf)
  kept := R.kept
  dom := R.dom
  fresh := fun b h1 h2 => by
    rw [upd_ne (fun e => h1 (by rw [e]; exact hb))]
    exact R.fresh b h1 h2
  own := R.own
  io := R.io
  len := R.len
  ion := R.ion
theorem Rel.bnone (R : Rel K B F H α σ ρ) {p : Addr} (hp : H p = none) : B.H p = none := by
  cases q : B.H p with
  | none => rfl
  | some o => exact absurd hp (R.dom p (by rw [q]; exact fun z => by cases z))
theorem Rel.cne (R : Rel K B F H α σ ρ) {p : Addr} (hp : H p = none) : ∀ (n : Nat) c, ρ.ce[n]? = some (some c) → α n ≠ p := fun n c e z => by
  obtain ⟨o, ho⟩ := (R.ce n c e).2.some
  rw [z, hp] at ho
  cases ho
end

def zE (t : ZL) : ZT := fun ρ Q => t ρ fun ds ρ' => Q (.val (.lst ds)) ρ'
theorem ZF.e {X : Cx} {e : Expr} {t : ZL} (h : ZF X e t) : ZE X e (zE t) := by
  obtain ⟨t0, p, s⟩ := h.ok
  refine ⟨t0, p, fun B F H α σ ρ Q0 Q R h k => s B F H α σ ρ Q0 _ R h fun F' H' ds ρ' p R' sb f q => ?_⟩
  obtain ⟨ws, hw, iw⟩ := f.h
  exact k _ H' (.val (.lst ds)) ρ' _ (R'.know hw f.f f.b f.c) (sb.trans (Sub.self f.f)) ⟨p, ws, rfl, upd_same, IsL.mono (Sub.self f.f) _ _ iw⟩ q

/-! ### names, constants -/
section
variable {X : Cx} {pos : Pos} {a b : Expr}
def zVar (i : Nat) : ZT := fun ρ Q => match ρ.sl[i]? with
  | some (some s) => Q s ρ
  | _ => False
theorem ze_var (i : Nat) {x : Str} (hN : X.N[i]? = some x := by rfl) (hv : Vis X.env.scope x := by first | exact Or.inl rfl | exact Or.inr (Or.inl rfl) | exact Or.inr (Or.inr rfl)) (hd : (x == ("__debug__" : Str)) = false := by decide)
    (hcd : (x == ("__classdict__" : Str)) = false := by decide) : ZE X (.Name x pos) (zVar i) := by
  refine ⟨_, pv i hN hv hd hcd, fun B F H α σ ρ Q0 Q R h k => ?_⟩
  unfold zVar at h
  split at h
  · rename_i s e
    obtain ⟨v, e1, e2⟩ := R.sl i s e
    exact ⟨v, e1, k F H s ρ v R (Sub.refl F) e2 h⟩
  · exact h.elim
def zC (d : D) : ZT := fun ρ Q => Q (.val d) ρ
theorem ze_int {i j} : ZE X (.Constant (.int i) j pos) (zC (.int i)) := ⟨_, pe_int, fun B F H α σ ρ Q0 Q R h k => k F H (.val (.int i)) ρ _ R (Sub.refl F) rfl h⟩
theorem ze_bl {i j} : ZE X (.Constant (.bool i) j pos) (zC (.bl i)) := ⟨_, pe_bl, fun B F H α σ ρ Q0 Q R h k => k F H (.val (.bl i)) ρ _ R (Sub.refl F) rfl h⟩
theorem ze_non {j} : ZE X (.Constant .none j pos) (zC .non) := ⟨_, pe_non, fun B F H α σ ρ Q0 Q R h k => k F H (.val .non) ρ _ R (Sub.refl F) rfl h⟩
theorem ze_str {i j} : ZE X (.Constant (.str i) j pos) (zC (.str i)) := ⟨_, pe_str, fun B F H α σ ρ Q0 Q R h k => k F H (.val (.str i)) ρ _ R (Sub.refl F) rfl h⟩
/-- a module's constant -/
theorem ze_glob {x : Str} {u : Value} {v : V} {d : D} (hg : Gl X x) (hm : X.mg x = some u) (r : RelV v u) (hi : ∀ F, Is X.K F d v) (hd : (x == ("__debug__" : Str)) = false := by decide) : ZE X (.Name x pos) (zC d) :=
  ⟨_, pe_glob hg hm r (hd := hd), fun B F H α σ ρ Q0 Q R h k => k F H (.val d) ρ _ R (Sub.refl F) (hi F) h⟩

/-! ### operations on values -/
def PrZ (K : PySem.W.Frag) (r : List V → Hp → VK → Prop) (g : List D → (D → Prop) → Prop) : Prop :=
  ∀ (F H : Hp) (ds : List D) (vs : List V) (P : D → Prop) (Q : VK), Sub F H → IsL K F ds vs → g ds P → (∀ z F' H' w, P z → Ext F H F' H' → Is K F' z w → Q w H') → r vs H Q
def PrL (K : PySem.W.Frag) (r : List V → Hp → VK → Prop) (g : List D → (List D → Prop) → Prop) : Prop :=
  ∀ (F H : Hp) (ds : List D) (vs : List V) (P : List D → Prop) (Q : VK), Sub F H → IsL K F ds vs → g ds P →
    (∀ zs F' H' p ws, P zs → Ext F H F' H' → H p = none → F' p = none → H' p = some (.lst ws) → IsL K F' zs ws → Q (.ref p) H') → r vs H Q
def OpZ (K : PySem.W.Frag) (r : R2) (g : D → D → (D → Prop) → Prop) : Prop :=
  ∀ (F H : Hp) (x y : D) (u v : V) (P : D → Prop) (Q : VK), Sub F H → Is K F x u → Is K F y v → g x y P → (∀ z F' H' w, P z → Ext F H F' H' → Is K F' z w → Q w H') → r u v H Q
def OpL (K : PySem.W.Frag) (r : R2) (g : D → D → (List D → Prop) → Prop) : Prop :=
  ∀ (F H : Hp) (x y : D) (u v : V) (P : List D → Prop) (Q : VK), Sub F H → Is K F x u → Is K F y v → g x y P →
    (∀ zs F' H' p ws, P zs → Ext F H F' H' → H p = none → F' p = none → H' p = some (.lst ws) → IsL K F' zs ws → Q (.ref p) H') → r u v H Q
def vwL (ρ : Env) : List S → (List D → Bool → Prop) → Prop
  | [], k => k [] false
  | s :: ss, k => s.vw ρ fun d p => vwL ρ ss fun ds q => k (d :: ds) (p || q)
theorem Rel.views {K : PySem.W.Frag} {B : Base} {F H : Hp} {α : Nat → Addr} {σ : L2.St} {ρ : Env} (R : Rel K B F H α σ ρ) : ∀ {ss : List S} {vs : List V} {k : List D → Bool → Prop}, RepSL K F α ss vs → vwL ρ ss k →
    ∃ ds p, IsL K (peek F H α ρ) ds vs ∧ (p = false → IsL K F ds vs) ∧ k ds p
  | [], _, _, h, q => ⟨[], false, by cases h; rfl, fun _ => by cases h; rfl, q⟩
  | s :: ss, _, _, ⟨v, r, e, h, t⟩, q => by
    subst e
    obtain ⟨d, p, h1, h2, q1⟩ := R.vw h q
    obtain ⟨ds, p', h3, h4, q2⟩ := R.views t q1
    refine ⟨d :: ds, p || p', ⟨v, r, rfl, h1, h3⟩, fun z => ?_, q2⟩
    rw [Bool.or_eq_false_iff] at z
    exact ⟨v, r, rfl, h2 z.1, h4 z.2⟩
/-- what a result must be where a cell was looked into -/
def okP (p : Bool) (z : D) : Prop := p = true → z.noLst = true
def okL (p : Bool) (z : List D) : Prop := p = true → noLsts z = true
theorem Rel.prim {K : PySem.W.Frag} {B : Base} {F H : Hp} {α : Nat → Addr} {σ : L2.St} {ρ : Env} (R : Rel K B F H α σ ρ) {ss : List S} {vs : List V} (hs : RepSL K F α ss vs) {g : List D → (D → Prop) → Prop} {Q : D → Prop}
    (h : vwL ρ ss fun ds p => g ds fun z => okP p z ∧ Q z) {r : List V → Hp → VK → Prop} (hr : PrZ K r g) {Q0 : VK} (hQ : ∀ z F' H' w, Q z → Rel K B F' H' α σ ρ → Sub F F' → Is K F' z w → Q0 w H') : r vs H Q0 := by
  obtain ⟨ds, p, h1, h2, q⟩ := R.views hs h
  cases p with
  | false => exact hr F H ds vs _ Q0 R.sub (h2 rfl) q fun z F' H' w ⟨_, qz⟩ e i => hQ z F' H' w qz (R.ext e) e.f i
  | true => exact hr _ H ds vs _ Q0 R.peek_h h1 q fun z F' H' w ⟨n, qz⟩ e i => hQ z _ H' w qz (R.ext (R.unpeek e)) (R.unpeek e).f (R.unpeek_is e (n rfl) i)
theorem Rel.primL {K : PySem.W.Frag} {B : Base} {F H : Hp} {α : Nat → Addr} {σ : L2.St} {ρ : Env} (R : Rel K B F H α σ ρ) {ss : List S} {vs : List V} (hs : RepSL K F α ss vs) {g : List D → (List D → Prop) → Prop} {Q : List D → Prop}
    (h : vwL ρ ss fun ds p => g ds fun z => okL p z ∧ Q z) {r : List V → Hp → VK → Prop} (hr : PrL K r g) {Q0 : VK} (hQ : ∀ zs F' H' p, Q zs → Rel K B F' H' α σ ρ → Sub F F' → Fsh K B F' H' α ρ p zs → Q0 (.ref p) H') : r vs H Q0 := by
  obtain ⟨ds, p, h1, h2, q⟩ := R.views hs h
  cases p with
  | false => exact hr F H ds vs _ Q0 R.sub (h2 rfl) q fun zs F' H' p ws ⟨_, qz⟩ e hp hf hw i => hQ zs F' H' p qz (R.ext e) e.f ⟨⟨ws, hw, i⟩, hf, R.bnone hp, R.cne hp⟩
  | true =>
    refine hr _ H ds vs _ Q0 R.peek_h h1 q fun zs F' H' p ws ⟨n, qz⟩ e hp hf hw i => hQ zs _ H' p qz (R.ext (R.unpeek e)) (R.unpeek e).f ⟨⟨ws, hw, ?_⟩, ?_, R.bnone hp, R.cne hp⟩
    · refine IsL.cut (fun b hb o ho => ?_) zs ws (n rfl) i
      obtain ⟨vs', hv⟩ := R.pkH hb
      have h1 := e.h _ _ hv
      have h2 := e.fh _ _ ho
      rw [h1] at h2
      exact ⟨vs', (Option.some.inj h2).symm⟩
    · by_cases q : PkA α ρ p
      · exact cut_in q
      · rw [cut_out q]; exact hf
theorem OpZ.pr {K : PySem.W.Frag} {r : R2} {g : D → D → (D → Prop) → Prop} (h : OpZ K r g) : PrZ K (fun vs H Q => ∃ u v, vs = [u, v] ∧ r u v H Q) (fun ds P => ∃ x y, ds = [x, y] ∧ g x y P) := by
  intro F H ds vs P Q sb i ⟨x, y, e, q⟩ k
  subst e
  obtain ⟨u, _, rfl, hu, v, _, rfl, hv, hz⟩ := i
  have hz' : _ = [] := hz
  subst hz'
  exact ⟨u, v, rfl, h F H x y u v P Q sb hu hv q k⟩
theorem OpL.pr {K : PySem.W.Frag} {r : R2} {g : D → D → (List D → Prop) → Prop} (h : OpL K r g) : PrL K (fun vs H Q => ∃ u v, vs = [u, v] ∧ r u v H Q) (fun ds P => ∃ x y, ds = [x, y] ∧ g x y P) := by
  intro F H ds vs P Q sb i ⟨x, y, e, q⟩ k
  subst e
  obtain ⟨u, _, rfl, hu, v, _, rfl, hv, hz⟩ := i
  have hz' : _ = [] := hz
  subst hz'
  exact ⟨u, v, rfl, h F H x y u v P Q sb hu hv q k⟩

def zOp (g : D → D → (D → Prop) → Prop) (ta tb : ZT) : ZT := fun ρ Q => ta ρ fun s ρ1 => tb ρ1 fun s' ρ2 => s.vw ρ2 fun x p => s'.vw ρ2 fun y q => g x y fun z => okP (p || q) z ∧ Q (.val z) ρ2
def zOpL (g : D → D → (List D → Prop) → Prop) (ta tb : ZT) : ZL := fun ρ Q => ta ρ fun s ρ1 => tb ρ1 fun s' ρ2 => s.vw ρ2 fun x p => s'.vw ρ2 fun y q => g x y fun z => okL (p || q) z ∧ Q z ρ2
variable {ta tb : ZT}
theorem snd_op {K : PySem.W.Frag} {r : R2} {g : D → D → (D → Prop) → Prop} {t0 u0 : TE} (h0 : SndE K t0 ta) (h1 : SndE K u0 tb) (hz : OpZ K r g) : SndE K (tOp r t0 u0) (zOp g ta tb) := by
  intro B F H α σ ρ Q0 Q R h k
  refine h0 B F H α σ ρ _ _ R h fun F1 H1 s ρ1 u R1 s1 r1 q1 => ?_
  refine h1 B F1 H1 α σ ρ1 _ _ R1 q1 fun F2 H2 s' ρ2 v R2 s2 r2 q2 => ?_
  have e := R2.prim (ss := [s, s']) (vs := [u, v]) (g := fun ds P => ∃ x y, ds = [x, y] ∧ g x y P) (Q := fun z => Q (.val z) ρ2) ⟨u, [v], rfl, r1.mono s2, v, [], rfl, r2, rfl⟩ ?_ hz.pr (Q0 := Q0) fun z F' H' w qz R' sb i => k F' H' (.val z) ρ2 w R' ((s1.trans s2).trans sb) i qz
  · obtain ⟨u', v', e', h'⟩ := e
    cases e'
    exact h'
  · show s.vw ρ2 fun x p => s'.vw ρ2 fun y q => _
    have mono : ∀ {t : S} {k k' : D → Bool → Prop}, (∀ d p, k d p → k' d p) → t.vw ρ2 k → t.vw ρ2 k' := by
      intro t k k' f h
      cases t with
      | val d => exact f _ _ h
      | loc n => obtain ⟨ds, e, h⟩ := h; exact ⟨ds, e, f _ _ h⟩
    refine mono (fun x p h => ?_) q2
    refine mono (fun y q h => ?_) h
    show ∃ x' y', [x, y] = [x', y'] ∧ _
    refine ⟨x, y, rfl, ?_⟩
    rw [Bool.or_false]
    exact h
theorem snd_opL {K : PySem.W.Frag} {r : R2} {g : D → D → (List D → Prop) → Prop} {t0 u0 : TE} (h0 : SndE K t0 ta) (h1 : SndE K u0 tb) (hz : OpL K r g) : SndL K (tOp r t0 u0) (zOpL g ta tb) := by
  intro B F H α σ ρ Q0 Q R h k
  refine h0 B F H α σ ρ _ _ R h fun F1 H1 s ρ1 u R1 s1 r1 q1 => ?_
  refine h1 B F1 H1 α σ ρ1 _ _ R1 q1 fun F2 H2 s' ρ2 v R2 s2 r2 q2 => ?_
  have e := R2.primL (ss := [s, s']) (vs := [u, v]) (g := fun ds P => ∃ x y, ds = [x, y] ∧ g x y P) (Q := fun z => Q z ρ2) ⟨u, [v], rfl, r1.mono s2, v, [], rfl, r2, rfl⟩ ?_ hz.pr (Q0 := Q0) fun z F' H' w qz R' sb i => k F' H' _ ρ2 w R' ((s1.trans s2).trans sb) i qz
  · obtain ⟨u', v', e', h'⟩ := e
    cases e'
    exact h'
  · show s.vw ρ2 fun x p => s'.vw ρ2 fun y q => _
    have mono : ∀ {t : S} {k k' : D → Bool → Prop}, (∀ d p, k d p → k' d p) → t.vw ρ2 k → t.vw ρ2 k' := by
      intro t k k' f h
      cases t with
      | val d => exact f _ _ h
      | loc n => obtain ⟨ds, e, h⟩ := h; exact ⟨ds, e, f _ _ h⟩
    refine mono (fun x p h => ?_) q2
    refine mono (fun y q h => ?_) h
    show ∃ x' y', [x, y] = [x', y'] ∧ _
    refine ⟨x, y, rfl, ?_⟩
    rw [Bool.or_false]
    exact h
theorem ze_op {op : Operator} {r : R2} {g : D → D → (D → Prop) → Prop} (ho : OpR X (binaryOp op) r) (hz : OpZ X.K r g) (ha : ZE X a ta) (hb : ZE X b tb) : ZE X (.BinOp a op b pos) (zOp g ta tb) := by
  obtain ⟨t0, p0, s0⟩ := ha.ok
  obtain ⟨u0, p1, s1⟩ := hb.ok
  exact ⟨_, pe_op ho p0 p1, snd_op s0 s1 hz⟩
theorem zf_op {op : Operator} {r : R2} {g : D → D → (List D → Prop) → Prop} (ho : OpR X (binaryOp op) r) (hz : OpL X.K r g) (ha : ZE X a ta) (hb : ZE X b tb) : ZF X (.BinOp a op b pos) (zOpL g ta tb) := by
  obtain ⟨t0, p0, s0⟩ := ha.ok
  obtain ⟨u0, p1, s1⟩ := hb.ok
  exact ⟨_, pe_op ho p0 p1, snd_opL s0 s1 hz⟩
theorem ze_cmp {op : CmpOp} {r : R2} {g : D → D → (D → Prop) → Prop} (ho : OpR X (compareOp op) r) (hz : OpZ X.K r g) (ha : ZE X a ta) (hb : ZE X b tb) (hm : behindInMarks op b = false := by first | exact nomark _ | rfl) : ZE X (.Compare a [op] [b] pos) (zOp g ta tb) := by
  obtain ⟨t0, p0, s0⟩ := ha.ok
  obtain ⟨u0, p1, s1⟩ := hb.ok
  exact ⟨_, pe_cmpR ho p0 p1 hm, snd_op s0 s1 hz⟩
theorem ze_ix {r : R2} {g : D → D → (D → Prop) → Prop} (ho : IxR X r) (hz : OpZ X.K r g) (ha : ZE X a ta) (hb : ZE X b tb) (hs : PlainIx b := by exact fun _ _ => rfl) : ZE X (.Subscript a b pos) (zOp g ta tb) := by
  obtain ⟨t0, p0, s0⟩ := ha.ok
  obtain ⟨u0, p1, s1⟩ := hb.ok
  exact ⟨_, pe_ix ho p0 p1 hs, snd_op s0 s1 hz⟩
/-- one-place -/
def UnZ (K : PySem.W.Frag) (r : V → Hp → VK → Prop) (g : D → (D → Prop) → Prop) : Prop :=
  ∀ (F H : Hp) (x : D) (u : V) (P : D → Prop) (Q : VK), Sub F H → Is K F x u → g x P → (∀ z F' H' w, P z → Ext F H F' H' → Is K F' z w → Q w H') → r u H Q
def zUn (g : D → (D → Prop) → Prop) (ta : ZT) : ZT := fun ρ Q => ta ρ fun s ρ1 => ∃ x, s = .val x ∧ g x fun z => Q (.val z) ρ1
theorem ze_un {op : UnaryOp} {r : V → Hp → VK → Prop} {g : D → (D → Prop) → Prop} (ho : UnR X (unaryOp op) r) (hz : UnZ X.K r g) (ha : ZE X a ta) : ZE X (.UnaryOp op a pos) (zUn g ta) := by
  obtain ⟨t0, p0, s0⟩ := ha.ok
  refine ⟨_, pe_un ho p0, fun B F H α σ ρ Q0 Q R h k => ?_⟩
  refine s0 B F H α σ ρ _ _ R h fun F1 H1 s ρ1 u R1 s1 r1 q1 => ?_
  obtain ⟨x, rfl, q1⟩ := q1
  exact hz F1 H1 x u _ Q0 R1.sub r1 q1 fun z F' H' w qz e i => k F' H' (.val z) ρ1 w (R1.ext e) (s1.trans e.f) i qz
end
end Z

set_option Elab.async false
set_option linter.all false
set_option maxRecDepth 100000
namespace Z
open PySem PySem.Spec PyProof.Rows L2

/-! ### arguments, displays -/
section
variable {X : Cx} {pos : Pos} {a b e : Expr} {es : List Expr} {ta tb : ZT} {tr : ZR}
def zNil : ZR := fun ρ Q => Q [] ρ
def zCons (ta : ZT) (tr : ZR) : ZR := fun ρ Q => ta ρ fun s ρ1 => tr ρ1 fun ss ρ2 => Q (s :: ss) ρ2
theorem za_nil : ZA X [] zNil := ⟨_, pa_nil, fun B F H α σ ρ Q0 Q R h k => k F H [] ρ [] R (Sub.refl F) rfl h⟩
theorem za_cons (ha : ZE X e ta) (hr : ZA X es tr) (hs : starEach (e :: es) X.env = (false, eval e X.env) :: starEach es X.env := by rfl) : ZA X (e :: es) (zCons ta tr) := by
  obtain ⟨t0, p0, s0⟩ := ha.ok
  obtain ⟨u0, p1, s1⟩ := hr.ok
  refine ⟨_, pa_cons p0 p1 hs, fun B F H α σ ρ Q0 Q R h k => ?_⟩
  refine s0 B F H α σ ρ _ _ R h fun F1 H1 s ρ1 u R1 sb1 r1 q1 => ?_
  refine s1 B F1 H1 α σ ρ1 _ _ R1 q1 fun F2 H2 ss ρ2 vs R2 sb2 r2 q2 => ?_
  exact k F2 H2 (s :: ss) ρ2 (u :: vs) R2 (sb1.trans sb2) ⟨u, vs, rfl, r1.mono sb2, r2⟩ q2
theorem vals_of {K : PySem.W.Frag} {F : Hp} {α : Nat → Addr} {ρ : Env} : ∀ {ss : List S} {vs : List V} {k : List D → Prop}, RepSL K F α ss vs → vwL ρ ss (fun ds p => p = false ∧ k ds) → ∃ ds, IsL K F ds vs ∧ k ds
  | [], _, _, h, ⟨_, q⟩ => ⟨[], h, q⟩
  | .val d :: ss, _, k, ⟨v, r, e, h, t⟩, q => by
    subst e
    have q' : vwL ρ ss (fun ds p => p = false ∧ k (d :: ds)) := q
    obtain ⟨ds, i, q2⟩ := vals_of (k := fun ds => k (d :: ds)) t q'
    exact ⟨d :: ds, ⟨v, r, rfl, h, i⟩, q2⟩
  | .loc n :: ss, _, k, ⟨v, r, e, h, t⟩, q => by
    obtain ⟨ds, _, q⟩ := q
    exfalso
    have : ∀ (ss : List S) (k' : List D → Bool → Prop), (∀ ds p, ¬ k' ds p) → ¬ vwL ρ ss k' := by
      intro ss
      induction ss with
      | nil => intro k' hk h; exact hk _ _ h
      | cons s ss ih =>
        intro k' hk h
        cases s with
        | val d => exact ih _ (fun ds p => hk _ _) h
        | loc m => obtain ⟨ds', _, h⟩ := h; exact ih _ (fun ds p => hk _ _) h
    exact this ss _ (fun ds p z => by have := z.1; simp at this) q
def zTup (tr : ZR) : ZT := fun ρ Q => tr ρ fun ss ρ1 => vwL ρ1 ss fun ds p => p = false ∧ ds.length ≤ 1000000 ∧ Q (.val (.tup ds)) ρ1
def zLst (tr : ZR) : ZL := fun ρ Q => tr ρ fun ss ρ1 => vwL ρ1 ss fun ds p => p = false ∧ ds.length ≤ 1000000 ∧ Q ds ρ1
theorem size_ok {n : Nat} (h : n ≤ 1000000) : n ≤ sizeLine := Nat.le_trans h (by decide)
theorem size_lt {n : Nat} (h : n ≤ 1000000) : n < sizeLine := Nat.lt_of_le_of_lt h (by decide)
theorem ze_tup {x1} (ha : ZA X es tr) : ZE X (.Tuple es x1 pos) (zTup tr) := by
  obtain ⟨t0, p0, s0⟩ := ha.ok
  refine ⟨_, pe_tup p0, fun B F H α σ ρ Q0 Q R h k => ?_⟩
  refine s0 B F H α σ ρ _ _ R h fun F1 H1 ss ρ1 vs R1 sb1 r1 q1 => ?_
  obtain ⟨ds, i, hl, q⟩ := vals_of r1 q1
  refine ⟨size_ok (by rw [i.length]; exact hl), fun p hp => ?_⟩
  have ex := Ext.new (o := .tup vs) R1.sub hp
  exact k _ _ (.val (.tup ds)) ρ1 (.ref p) (R1.ext ex) (sb1.trans ex.f) ⟨p, vs, rfl, upd_same, IsL.mono ex.f _ _ i⟩ q
theorem zf_lst (ha : ZA X es tr) : ZF X (.List es pos) (zLst tr) := by
  obtain ⟨t0, p0, s0⟩ := ha.ok
  refine ⟨_, pe_lst p0, fun B F H α σ ρ Q0 Q R h k => ?_⟩
  refine s0 B F H α σ ρ _ _ R h fun F1 H1 ss ρ1 vs R1 sb1 r1 q1 => ?_
  obtain ⟨ds, i, hl, q⟩ := vals_of r1 q1
  refine ⟨size_ok (by rw [i.length]; exact hl), fun p hp => ?_⟩
  have ex := Ext.temp (o := .lst vs) R1.sub hp
  exact k _ _ ds ρ1 p (R1.ext ex) (sb1.trans ex.f) ⟨⟨vs, upd_same, i⟩, R1.sub.none hp, R1.bnone hp, R1.cne hp⟩ q

/-! ### built-in functions -/
def zCB (g : List D → (D → Prop) → Prop) (tr : ZR) : ZT := fun ρ Q => tr ρ fun ss ρ1 => vwL ρ1 ss fun ds p => g ds fun z => okP p z ∧ Q (.val z) ρ1
def zCBL (g : List D → (List D → Prop) → Prop) (tr : ZR) : ZL := fun ρ Q => tr ρ fun ss ρ1 => vwL ρ1 ss fun ds p => g ds fun z => okL p z ∧ Q z ρ1
theorem snd_cb {K : PySem.W.Frag} {r : List V → Hp → VK → Prop} {g : List D → (D → Prop) → Prop} {t0 : TA} (h0 : SndR K t0 tr) (hz : PrZ K r g) : SndE K (tCB r t0) (zCB g tr) := by
  intro B F H α σ ρ Q0 Q R h k
  refine h0 B F H α σ ρ _ _ R h fun F1 H1 ss ρ1 vs R1 sb1 r1 q1 => ?_
  exact R1.prim r1 q1 hz fun z F' H' w qz R' sb i => k F' H' (.val z) ρ1 w R' (sb1.trans sb) i qz
theorem snd_cbL {K : PySem.W.Frag} {r : List V → Hp → VK → Prop} {g : List D → (List D → Prop) → Prop} {t0 : TA} (h0 : SndR K t0 tr) (hz : PrL K r g) : SndL K (tCB r t0) (zCBL g tr) := by
  intro B F H α σ ρ Q0 Q R h k
  refine h0 B F H α σ ρ _ _ R h fun F1 H1 ss ρ1 vs R1 sb1 r1 q1 => ?_
  exact R1.primL r1 q1 hz fun z F' H' w qz R' sb i => k F' H' z ρ1 w R' (sb1.trans sb) i qz
variable {x : Str} {p : Pos} {id T : String} {r : List V → Hp → VK → Prop} {g : List D → (D → Prop) → Prop} {gl : List D → (List D → Prop) → Prop}
theorem ze_callB (hc : CallR X (.builtin id) r) (hz : PrZ X.K r g) (hm : X.mg x = none) (ha : ZA X (e :: es) tr) (hg : Gl X x := by rfl) (hv : bootBuiltins x = some (.builtin id) := by decide +kernel) (hn : x ≠ "__name__" := by decide) (hdb : (x == ("__debug__" : Str)) = false := by decide)
    (he : starEach (e :: es) X.env = (false, eval e X.env) :: starEach es X.env := by rfl) (hpl : (backTo pos (starEach es X.env)).any (·.1) = false := by rfl) : ZE X (.Call (.Name x p) (e :: es) [] pos) (zCB g tr) := by
  obtain ⟨t0, p0, s0⟩ := ha.ok
  exact ⟨_, pe_callB hc hg hm hv p0 hn hdb he hpl, snd_cb s0 hz⟩
theorem zf_callB (hc : CallR X (.builtin id) r) (hz : PrL X.K r gl) (hm : X.mg x = none) (ha : ZA X (e :: es) tr) (hg : Gl X x := by rfl) (hv : bootBuiltins x = some (.builtin id) := by decide +kernel) (hn : x ≠ "__name__" := by decide) (hdb : (x == ("__debug__" : Str)) = false := by decide)
    (he : starEach (e :: es) X.env = (false, eval e X.env) :: starEach es X.env := by rfl) (hpl : (backTo pos (starEach es X.env)).any (·.1) = false := by rfl) : ZF X (.Call (.Name x p) (e :: es) [] pos) (zCBL gl tr) := by
  obtain ⟨t0, p0, s0⟩ := ha.ok
  exact ⟨_, pe_callB hc hg hm hv p0 hn hdb he hpl, snd_cbL s0 hz⟩
theorem ze_callTy (hc : CallR X (.type T) r) (hz : PrZ X.K r g) (hm : X.mg x = none) (ha : ZA X (e :: es) tr) (hg : Gl X x := by rfl) (hv : bootBuiltins x = some (.type T) := by decide +kernel) (hn : x ≠ "__name__" := by decide) (hdb : (x == ("__debug__" : Str)) = false := by decide)
    (he : starEach (e :: es) X.env = (false, eval e X.env) :: starEach es X.env := by rfl) (hpl : (backTo pos (starEach es X.env)).any (·.1) = false := by rfl) : ZE X (.Call (.Name x p) (e :: es) [] pos) (zCB g tr) := by
  obtain ⟨t0, p0, s0⟩ := ha.ok
  exact ⟨_, pe_callTy hc hg hm hv p0 hn hdb he hpl, snd_cb s0 hz⟩
theorem zf_callTy (hc : CallR X (.type T) r) (hz : PrL X.K r gl) (hm : X.mg x = none) (ha : ZA X (e :: es) tr) (hg : Gl X x := by rfl) (hv : bootBuiltins x = some (.type T) := by decide +kernel) (hn : x ≠ "__name__" := by decide) (hdb : (x == ("__debug__" : Str)) = false := by decide)
    (he : starEach (e :: es) X.env = (false, eval e X.env) :: starEach es X.env := by rfl) (hpl : (backTo pos (starEach es X.env)).any (·.1) = false := by rfl) : ZF X (.Call (.Name x p) (e :: es) [] pos) (zCBL gl tr) := by
  obtain ⟨t0, p0, s0⟩ := ha.ok
  exact ⟨_, pe_callTy hc hg hm hv p0 hn hdb he hpl, snd_cbL s0 hz⟩
end

/-! ### own functions -/
inductive RS where
  | val (d : D) | fr (ds : List D)
def RepR (K : PySem.W.Frag) (F' H' H : Hp) : RS → V → Prop
  | .val d, v => Is K F' d v
  | .fr ds, v => ∃ p vs, v = .ref p ∧ H p = none ∧ F' p = none ∧ H' p = some (.lst vs) ∧ IsL K F' ds vs
structure Pre (K : PySem.W.Frag) (F H : Hp) (α : Nat → Addr) (ss : List S) (vs : List V) (cs : List Ce) : Prop where
  sub : Sub F H
  args : RepSL K F α ss vs
  ce : ∀ (n : Nat) c, cs[n]? = some c → F (α n) = none ∧ RepC K F H α (α n) c
  inj : ∀ (n m : Nat), n < cs.length → m < cs.length → α n = α m → n = m
structure Pst (K : PySem.W.Frag) (F H : Hp) (α : Nat → Addr) (n : Nat) (F' H' : Hp) (cs' : List Ce) : Prop where
  f : Sub F F'
  fh : Sub F' H'
  kept : ∀ b o, H b = some o → (∀ i, i < n → α i ≠ b) → H' b = some o
  dom : ∀ b, H b ≠ none → H' b ≠ none
  fr : ∀ b, H b ≠ none → F b = none → F' b = none
  len : cs'.length = n
  ce : ∀ (i : Nat) c, cs'[i]? = some c → RepC K F' H' α (α i) c
/-- what a def does: arguments, cells; the wish of its result and the cells behind; the wish of an exception -/
abbrev G := List S → List Ce → (RS → List Ce → Prop) → (Value → List Ce → Prop) → Prop
def spZ (K : PySem.W.Frag) (g : G) : Sp := fun vs H Q E => ∃ (F : Hp) (α : Nat → Addr) (ss : List S) (cs : List Ce) (P : RS → List Ce → Prop) (PX : Value → List Ce → Prop), Pre K F H α ss vs cs ∧ g ss cs P PX ∧
  (∀ r cs' F' H' v, P r cs' → Pst K F H α cs.length F' H' cs' → RepR K F' H' H r v → Q v H') ∧ (∀ cls cs' F' H', PX cls cs' → Pst K F H α cs.length F' H' cs' → E cls none H')

section
variable {X : Cx} {CX : CXT} {k : Nat} {f C : Addr} {fd : FuncData} {ps : List Str} {gg : G} {x m : Str} {p pos apos : Pos} {e o : Expr} {es : List Expr} {tr : ZR}
/-- the call of a def without cells, its arguments' cells looked into -/
def zCall (g : G) (tr : ZR) : ZT := fun ρ Q => tr ρ fun ss ρ1 => vwL ρ1 ss fun ds p => g (ds.map .val) [] (fun r _ => match r with
  | .val z => okP p z ∧ Q (.val z) ρ1
  | .fr _ => False) (fun _ _ => False)
def zCallF (g : G) (tr : ZR) : ZL := fun ρ Q => tr ρ fun ss ρ1 => vwL ρ1 ss fun ds p => g (ds.map .val) [] (fun r _ => match r with
  | .val _ => False
  | .fr zs => okL p zs ∧ Q zs ρ1) (fun _ _ => False)
theorem repSL_vals {K : PySem.W.Frag} {F : Hp} {α : Nat → Addr} : ∀ {ds : List D} {vs : List V}, IsL K F ds vs → RepSL K F α (ds.map .val) vs
  | [], _, h => h
  | _ :: _, _, ⟨v, r, e, h, t⟩ => ⟨v, r, e, h, repSL_vals t⟩
theorem Pst.ext {K : PySem.W.Frag} {F H F' H' : Hp} {α : Nat → Addr} {cs' : List Ce} (h : Pst K F H α 0 F' H' cs') : Ext F H F' H' :=
  ⟨h.f, fun b o e => h.kept b o e (fun i hi => absurd hi (Nat.not_lt_zero i)), h.fh, h.fr⟩
theorem pr_sp {K : PySem.W.Frag} {g : G} : PrZ K (fun vs H Q => spZ K g vs H Q E0) (fun ds P => g (ds.map .val) [] (fun r _ => match r with
    | .val z => P z
    | .fr _ => False) (fun _ _ => False)) := by
  intro F H ds vs P Q sb i hg k
  refine ⟨F, fun _ => 0, ds.map .val, [], _, _, ⟨sb, repSL_vals i, fun n c e => by simp at e, fun n m h => absurd h (Nat.not_lt_zero n)⟩, hg, ?_, fun _ _ _ _ z _ => z.elim⟩
  intro r cs' F' H' v hP hp hr
  have e := Pst.ext hp
  cases r with
  | val z => exact k z F' H' v hP e hr
  | fr zs => exact hP.elim
theorem pr_spL {K : PySem.W.Frag} {g : G} : PrL K (fun vs H Q => spZ K g vs H Q E0) (fun ds P => g (ds.map .val) [] (fun r _ => match r with
    | .val _ => False
    | .fr zs => P zs) (fun _ _ => False)) := by
  intro F H ds vs P Q sb i hg k
  refine ⟨F, fun _ => 0, ds.map .val, [], _, _, ⟨sb, repSL_vals i, fun n c e => by simp at e, fun n m h => absurd h (Nat.not_lt_zero n)⟩, hg, ?_, fun _ _ _ _ z _ => z.elim⟩
  intro r cs' F' H' v hP hp hr
  have e := Pst.ext hp
  cases r with
  | val z => exact hP.elim
  | fr zs =>
    obtain ⟨q, ws, rfl, h1, h2, h3, h4⟩ := hr
    exact k zs F' H' q ws hP e h1 h2 h3 h4
theorem snd_call {K : PySem.W.Frag} {g : G} {t0 : TA} (h0 : SndR K t0 tr) : SndE K (tCall (spZ K g) [] E0 t0) (zCall g tr) := by
  intro B F H α σ ρ Q0 Q R h k
  refine h0 B F H α σ ρ _ _ R h fun F1 H1 ss ρ1 vs R1 sb1 r1 q1 => ?_
  show spZ K g (vs ++ []) H1 Q0 E0
  rw [List.append_nil]
  exact R1.prim (g := fun ds P => g (ds.map .val) [] (fun r _ => match r with
    | .val z => P z
    | .fr _ => False) (fun _ _ => False)) (Q := fun z => Q (.val z) ρ1) r1 q1 pr_sp fun z F' H' w qz R' sb i => k F' H' (.val z) ρ1 w R' (sb1.trans sb) i qz
theorem snd_callF {K : PySem.W.Frag} {g : G} {t0 : TA} (h0 : SndR K t0 tr) : SndL K (tCall (spZ K g) [] E0 t0) (zCallF g tr) := by
  intro B F H α σ ρ Q0 Q R h k
  refine h0 B F H α σ ρ _ _ R h fun F1 H1 ss ρ1 vs R1 sb1 r1 q1 => ?_
  show spZ K g (vs ++ []) H1 Q0 E0
  rw [List.append_nil]
  exact R1.primL (g := fun ds P => g (ds.map .val) [] (fun r _ => match r with
    | .val _ => False
    | .fr zs => P zs) (fun _ _ => False)) (Q := fun z => Q z ρ1) r1 q1 pr_spL fun z F' H' w qz R' sb i => k F' H' z ρ1 w R' (sb1.trans sb) i qz
/-- what stands of a def, for its calls -/
structure Fn (X : Cx) (k : Nat) (x : Str) (g : G) : Prop where
  ok : ∃ (CX : CXT) (f : Addr) (fd : FuncData) (ps : List Str), FnOk X.prog X.w X.K X.mg X.base CX k f fd ps (spZ X.K g) ∧ X.mg x = some (.ref f) ∧ PySem.W.keepIn X.K (.ref f) = true ∧ Binds X.K fd ps [] ∧ Passes CX X E0
theorem ze_call (F : Fn X k x gg) (hr : Room k X.A) (ha : ZA X (e :: es) tr) (hg : Gl X x := by rfl) (hdb : (x == ("__debug__" : Str)) = false := by decide)
    (he : starEach (e :: es) X.env = (false, eval e X.env) :: starEach es X.env := by rfl) (hpl : (backTo pos (starEach es X.env)).any (·.1) = false := by rfl) : ZE X (.Call (.Name x p) (e :: es) [] pos) (zCall gg tr) := by
  obtain ⟨t0, p0, s0⟩ := ha.ok
  obtain ⟨CX, f, fd, ps, F, hm, hk, hb, hx⟩ := F.ok
  exact ⟨_, pe_call F hr hg hm hk hb .nil hx p0 hdb he hpl, snd_call s0⟩
theorem zf_call (F : Fn X k x gg) (hr : Room k X.A) (ha : ZA X (e :: es) tr) (hg : Gl X x := by rfl) (hdb : (x == ("__debug__" : Str)) = false := by decide)
    (he : starEach (e :: es) X.env = (false, eval e X.env) :: starEach es X.env := by rfl) (hpl : (backTo pos (starEach es X.env)).any (·.1) = false := by rfl) : ZF X (.Call (.Name x p) (e :: es) [] pos) (zCallF gg tr) := by
  obtain ⟨t0, p0, s0⟩ := ha.ok
  obtain ⟨CX, f, fd, ps, F, hm, hk, hb, hx⟩ := F.ok
  exact ⟨_, pe_call F hr hg hm hk hb .nil hx p0 hdb he hpl, snd_callF s0⟩
theorem ze_call0 (F : Fn X k x gg) (hr : Room k X.A) (hg : Gl X x := by rfl) (hdb : (x == ("__debug__" : Str)) = false := by decide) : ZE X (.Call (.Name x p) [] [] pos) (zCall gg zNil) := by
  obtain ⟨t0, p0, s0⟩ := (za_nil (X := X)).ok
  obtain ⟨CX, f, fd, ps, F, hm, hk, hb, hx⟩ := F.ok
  exact ⟨_, pe_call0 F hr hg hm hk hb .nil hx hdb, snd_call (fun B F H α σ ρ Q0 Q R h k => k F H [] ρ [] R (Sub.refl F) rfl h)⟩
theorem zf_call0 (F : Fn X k x gg) (hr : Room k X.A) (hg : Gl X x := by rfl) (hdb : (x == ("__debug__" : Str)) = false := by decide) : ZF X (.Call (.Name x p) [] [] pos) (zCallF gg zNil) := by
  obtain ⟨CX, f, fd, ps, F, hm, hk, hb, hx⟩ := F.ok
  exact ⟨_, pe_call0 F hr hg hm hk hb .nil hx hdb, snd_callF (fun B F H α σ ρ Q0 Q R h k => k F H [] ρ [] R (Sub.refl F) rfl h)⟩

/-! ### calls that are handed cells -/
/-- the callee's number of a caller's cell -/
def reS (io : List Nat) : S → Option S
  | .val d => some (.val d)
  | .loc n => match io.idxOf? n with
    | some i => some (.loc i)
    | none => none
def reL (io : List Nat) : List S → Option (List S)
  | [] => some []
  | s :: ss => match reS io s, reL io ss with
    | some a, some b => some (a :: b)
    | _, _ => none
def reC (io : List Nat) : Ce → Option Ce
  | .lst ds => some (.lst ds)
  | .ins A ns ss => match reL io ss with
    | some ss' => some (.ins A ns ss')
    | none => none
def unS (io : List Nat) : S → S
  | .val d => .val d
  | .loc i => .loc (io.getD i 0)
def unC (io : List Nat) : Ce → Ce
  | .lst ds => .lst ds
  | .ins A ns ss => .ins A ns (ss.map (unS io))
def Env.cells (ρ : Env) (io : List Nat) : List Nat → Option (List Ce)
  | [] => some []
  | n :: r => match ρ.ce[n]? with
    | some (some c) => match reC io c, ρ.cells io r with
      | some c', some cs => some (c' :: cs)
      | _, _ => none
    | _ => none
def Env.setCells (ρ : Env) : List Nat → List Ce → Env
  | n :: io, c :: cs => Env.setCells { ρ with ce := ρ.ce.set n (some c) } io cs
  | _, _ => ρ
def zCallIO (io : List Nat) (g : G) (tr : ZR) : ZT := fun ρ Q => tr ρ fun ss ρ1 => ∃ ss' cs, reL io ss = some ss' ∧ ρ1.cells io io = some cs ∧ io.Nodup ∧ g ss' cs (fun r cs' => match r with
  | .val z => Q (.val z) (ρ1.setCells io (cs'.map (unC io)))
  | .fr _ => False) (fun _ _ => False)
def zCallIOF (io : List Nat) (g : G) (tr : ZR) : ZL := fun ρ Q => tr ρ fun ss ρ1 => ∃ ss' cs, reL io ss = some ss' ∧ ρ1.cells io io = some cs ∧ io.Nodup ∧ g ss' cs (fun r cs' => match r with
  | .val _ => False
  | .fr zs => Q zs (ρ1.setCells io (cs'.map (unC io)))) (fun _ _ => False)
theorem idx_get {io : List Nat} {n i : Nat} (h : io.idxOf? n = some i) : io.getD i 0 = n := by
  rw [List.idxOf?_eq_some_iff] at h
  obtain ⟨h1, h2, _⟩ := h
  rw [List.getD_eq_getElem?_getD, List.getElem?_eq_getElem h1]
  exact h2
section
variable {K : PySem.W.Frag} {B : Base} {F H F' H' : Hp} {α : Nat → Addr} {σ : L2.St} {ρ : Env} {io : List Nat}
theorem reS_rep {s s' : S} {v : V} (h : reS io s = some s') (r : RepS K F α s v) : RepS K F (fun i => α (io.getD i 0)) s' v := by
  cases s with
  | val d => cases h; exact r
  | loc n =>
    simp only [reS] at h
    split at h
    · rename_i i e
      cases h
      show v = .ref (α (io.getD i 0))
      rw [idx_get e]; exact r
    · cases h
theorem reL_rep : ∀ {ss ss' : List S} {vs : List V}, reL io ss = some ss' → RepSL K F α ss vs → RepSL K F (fun i => α (io.getD i 0)) ss' vs
  | [], _, _, h, r => by cases h; exact r
  | s :: ss, ss', _, h, ⟨v, r, e, h1, h2⟩ => by
    simp only [reL] at h
    split at h
    · rename_i a b ea eb
      cases h
      exact ⟨v, r, e, reS_rep ea h1, reL_rep eb h2⟩
    · cases h
theorem reC_rep {c c' : Ce} {a : Addr} (h : reC io c = some c') (r : RepC K F H α a c) : RepC K F H (fun i => α (io.getD i 0)) a c' := by
  cases c with
  | lst ds => cases h; exact r
  | ins A ns ss =>
    simp only [reC] at h
    split at h
    · rename_i ss' e
      cases h
      obtain ⟨dx, vs, h1, h2, h3⟩ := r
      exact ⟨dx, vs, h1, h2, reL_rep e h3⟩
    · cases h
theorem unS_rep {s : S} {v : V} (r : RepS K F (fun i => α (io.getD i 0)) s v) : RepS K F α (unS io s) v := by
  cases s with
  | val d => exact r
  | loc i => exact r
theorem unL_rep : ∀ {ss : List S} {vs : List V}, RepSL K F (fun i => α (io.getD i 0)) ss vs → RepSL K F α (ss.map (unS io)) vs
  | [], _, r => r
  | s :: ss, _, ⟨v, r, e, h1, h2⟩ => ⟨v, r, e, unS_rep h1, unL_rep h2⟩
theorem unC_rep {c : Ce} {a : Addr} (r : RepC K F H (fun i => α (io.getD i 0)) a c) : RepC K F H α a (unC io c) := by
  cases c with
  | lst ds => exact r
  | ins A ns ss =>
    obtain ⟨dx, vs, h1, h2, h3⟩ := r
    exact ⟨dx, vs, h1, h2, unL_rep h3⟩
theorem cells_len : ∀ {l : List Nat} {cs : List Ce}, ρ.cells io l = some cs → cs.length = l.length
  | [], _, h => by cases h; rfl
  | n :: r, cs, h => by
    simp only [Env.cells] at h
    split at h
    · split at h
      · rename_i c' cs' e1 e2
        cases h
        rw [List.length_cons, List.length_cons, cells_len e2]
      · cases h
    · cases h
theorem cells_get : ∀ {l : List Nat} {cs : List Ce} {i : Nat} {c' : Ce}, ρ.cells io l = some cs → cs[i]? = some c' → ∃ n c, l[i]? = some n ∧ ρ.ce[n]? = some (some c) ∧ reC io c = some c'
  | [], _, _, _, h, e => by cases h; simp at e
  | n :: r, cs, i, c', h, e => by
    simp only [Env.cells] at h
    split at h
    · rename_i c ec
      split at h
      · rename_i d cs' e1 e2
        cases h
        cases i with
        | zero =>
          have : d = c' := Option.some.inj e
          subst this
          exact ⟨n, c, rfl, ec, e1⟩
        | succ i => exact cells_get (l := r) (i := i) e2 e
      · cases h
    · cases h
theorem setCells_sl : ∀ {l : List Nat} {cs : List Ce} {ρ : Env}, (ρ.setCells l cs).sl = ρ.sl ∧ (ρ.setCells l cs).io = ρ.io
  | [], _, _ => ⟨rfl, rfl⟩
  | _ :: _, [], _ => ⟨rfl, rfl⟩
  | n :: l, c :: cs, ρ => setCells_sl (l := l) (cs := cs)
theorem setCells_out : ∀ {l : List Nat} {cs : List Ce} {ρ : Env} {m : Nat}, m ∉ l → (ρ.setCells l cs).ce[m]? = ρ.ce[m]?
  | [], _, _, _, _ => rfl
  | _ :: _, [], _, _, _ => rfl
  | n :: l, c :: cs, ρ, m, h => by
    show (Env.setCells _ l cs).ce[m]? = _
    rw [setCells_out (l := l) (fun z => h (List.mem_cons_of_mem _ z)), List.getElem?_set_ne (fun z => h (by rw [z]; exact List.mem_cons_self))]
theorem setCells_in : ∀ {l : List Nat} {cs : List Ce} {ρ : Env} {m : Nat} {c : Ce}, l.Nodup → cs.length = l.length → m ∈ l → (ρ.setCells l cs).ce[m]? = some (some c) → ∃ (i : Nat), l[i]? = some m ∧ cs[i]? = some c
  | [], _, _, _, _, _, _, h, _ => by simp at h
  | _ :: _, [], _, _, _, _, hl, _, _ => by simp at hl
  | n :: l, d :: cs, ρ, m, c, nd, hl, hm, e => by
    have e' : (Env.setCells { ρ with ce := ρ.ce.set n (some d) } l cs).ce[m]? = some (some c) := e
    rw [List.nodup_cons] at nd
    by_cases q : m ∈ l
    · obtain ⟨i, h1, h2⟩ := setCells_in (l := l) nd.2 (by simpa using hl) q e'
      exact ⟨i + 1, h1, h2⟩
    · have hn : m = n := (List.mem_cons.mp hm).resolve_right q
      subst hn
      rw [setCells_out q] at e'
      have e2 : (ρ.ce.set m (some d))[m]? = some (some c) := e'
      rw [List.getElem?_set_self'] at e2
      refine ⟨0, rfl, ?_⟩
      cases hq : ρ.ce[m]? with
      | none => rw [hq] at e2; cases e2
      | some o => rw [hq] at e2; cases e2; rfl
/-- behind a call that was handed cells -/
theorem Rel.after (R : Rel K B F H α σ ρ) {cs cs' : List Ce} (hc : ρ.cells io io = some cs) (nd : io.Nodup) (p : Pst K F H (fun i => α (io.getD i 0)) cs.length F' H' cs') : Rel K B F' H' α σ (ρ.setCells io (cs'.map (unC io))) := by
  have hl := cells_len hc
  have at_ : ∀ {i : Nat} {m : Nat}, io[i]? = some m → io.getD i 0 = m := fun {i m} e => by rw [List.getD_eq_getElem?_getD, e]; rfl
  have live : ∀ m, m ∈ io → ∃ c, ρ.ce[m]? = some (some c) := fun m hm => by
    obtain ⟨i, hi, e⟩ := List.getElem_of_mem hm
    have hi2 : i < cs.length := by rw [hl]; exact hi
    obtain ⟨n, c, e1, e2, _⟩ := cells_get hc (List.getElem?_eq_getElem hi2)
    rw [List.getElem?_eq_getElem hi, e] at e1
    cases e1
    exact ⟨c, e2⟩
  have notIO : ∀ b, (∀ m, m ∈ io → α m ≠ b) → ∀ i, i < cs.length → α (io.getD i 0) ≠ b := fun b h i hi => by
    have hi2 : i < io.length := by rw [← hl]; exact hi
    refine h _ ?_
    rw [List.getD_eq_getElem?_getD, List.getElem?_eq_getElem hi2]
    exact List.getElem_mem hi2
  have lcs : (cs'.map (unC io)).length = io.length := by rw [List.length_map, p.len, hl]
  have old : ∀ {m : Nat} {c : Ce}, (ρ.setCells io (cs'.map (unC io))).ce[m]? = some (some c) → ∃ c0, ρ.ce[m]? = some (some c0) := fun {m c} e => by
    by_cases q : m ∈ io
    · exact live m q
    · rw [setCells_out q] at e
      exact ⟨c, e⟩
  refine { sub := p.fh, sl := ?_, ce := ?_, inj := ?_, f0 := R.f0.trans p.f, kept := ?_, dom := fun b hb => p.dom b (R.dom b hb), fresh := fun b h1 h2 => p.fr b (R.dom b h1) (R.fresh b h1 h2), own := ?_, io := R.io, len := by rw [setCells_sl.1]; exact R.len, ion := by rw [setCells_sl.2]; exact R.ion }
  · intro i s e
    rw [setCells_sl.1] at e
    obtain ⟨v, e1, e2⟩ := R.sl i s e
    exact ⟨v, e1, e2.mono p.f⟩
  · intro m c e
    obtain ⟨c0, ec0⟩ := old e
    obtain ⟨f1, r1⟩ := R.ce m c0 ec0
    obtain ⟨o, ho⟩ := r1.some
    refine ⟨p.fr _ (by rw [ho]; exact fun z => by cases z) f1, ?_⟩
    by_cases q : m ∈ io
    · obtain ⟨i, h1, h2⟩ := setCells_in nd lcs q e
      rw [List.getElem?_map] at h2
      cases e3 : cs'[i]? with
      | none => rw [e3] at h2; cases h2
      | some c' =>
        rw [e3] at h2
        have e4 : unC io c' = c := Option.some.inj h2
        subst e4
        have r := p.ce i c' e3
        have r' : RepC K F' H' (fun i => α (io.getD i 0)) (α (io.getD i 0)) c' := r
        rw [at_ h1] at r'
        exact unC_rep r'
    · rw [setCells_out q, ec0] at e
      cases e
      refine r1.mono p.f ?_
      rw [ho]
      exact p.kept _ _ ho (notIO _ fun n hn z => q (by
        obtain ⟨c1, e1⟩ := live n hn
        have en := R.inj n m c1 _ e1 ec0 z
        rw [← en]; exact hn))
  · intro n m c c' e e' ea
    obtain ⟨c0, e0⟩ := old e
    obtain ⟨c1, e1⟩ := old e'
    exact R.inj n m c0 c1 e0 e1 ea
  · intro b o hb hn
    refine p.kept b o (R.kept b o hb hn) (notIO b fun m hm z => ?_)
    obtain ⟨c0, e0⟩ := live m hm
    rcases R.own m c0 e0 with q | q
    · exact hn (by rw [← z]; exact List.mem_of_getElem? q)
    · rw [z, hb] at q; cases q
  · intro n c e
    obtain ⟨c0, e0⟩ := old e
    exact R.own n c0 e0
theorem Rel.pre (R : Rel K B F H α σ ρ) {ss ss' : List S} {vs : List V} {cs : List Ce} (hs : RepSL K F α ss vs) (h1 : reL io ss = some ss') (hc : ρ.cells io io = some cs) (nd : io.Nodup) : Pre K F H (fun i => α (io.getD i 0)) ss' vs cs := by
  have hl := cells_len hc
  refine ⟨R.sub, reL_rep h1 hs, fun n c e => ?_, fun n m hn hm e => ?_⟩
  · obtain ⟨k, c0, e1, e2, e3⟩ := cells_get hc e
    have ek : io.getD n 0 = k := by rw [List.getD_eq_getElem?_getD, e1]; rfl
    obtain ⟨f1, r1⟩ := R.ce k c0 e2
    show F (α (io.getD n 0)) = none ∧ RepC K F H _ (α (io.getD n 0)) c
    rw [ek]
    exact ⟨f1, reC_rep e3 r1⟩
  · obtain ⟨k, c0, e1, e2, e3⟩ := cells_get hc (List.getElem?_eq_getElem hn)
    obtain ⟨k', c1, e1', e2', e3'⟩ := cells_get hc (List.getElem?_eq_getElem hm)
    have ek : io.getD n 0 = k := by rw [List.getD_eq_getElem?_getD, e1]; rfl
    have ek' : io.getD m 0 = k' := by rw [List.getD_eq_getElem?_getD, e1']; rfl
    have e' : α (io.getD n 0) = α (io.getD m 0) := e
    rw [ek, ek'] at e'
    have := R.inj k k' c0 c1 e2 e2' e'
    subst this
    rw [hl] at hn hm
    exact (List.getElem?_inj hn nd).mp (e1.trans e1'.symm)
end
theorem snd_callIO {K : PySem.W.Frag} {g : G} {t0 : TA} {io : List Nat} (h0 : SndR K t0 tr) : SndE K (tCall (spZ K g) [] E0 t0) (zCallIO io g tr) := by
  intro B F H α σ ρ Q0 Q R h k
  refine h0 B F H α σ ρ _ _ R h fun F1 H1 ss ρ1 vs R1 sb1 r1 q1 => ?_
  show spZ K g (vs ++ []) H1 Q0 E0
  rw [List.append_nil]
  obtain ⟨ss', cs, h1, h2, nd, hg⟩ := q1
  refine ⟨F1, _, ss', cs, _, _, R1.pre r1 h1 h2 nd, hg, fun r cs' F' H' v hP hp hr => ?_, fun _ _ _ _ z _ => z.elim⟩
  cases r with
  | val z => exact k F' H' (.val z) _ v (R1.after h2 nd hp) (sb1.trans hp.f) hr hP
  | fr zs => exact hP.elim
theorem snd_callIOF {K : PySem.W.Frag} {g : G} {t0 : TA} {io : List Nat} (h0 : SndR K t0 tr) : SndL K (tCall (spZ K g) [] E0 t0) (zCallIOF io g tr) := by
  intro B F H α σ ρ Q0 Q R h k
  refine h0 B F H α σ ρ _ _ R h fun F1 H1 ss ρ1 vs R1 sb1 r1 q1 => ?_
  show spZ K g (vs ++ []) H1 Q0 E0
  rw [List.append_nil]
  obtain ⟨ss', cs, h1, h2, nd, hg⟩ := q1
  refine ⟨F1, _, ss', cs, _, _, R1.pre r1 h1 h2 nd, hg, fun r cs' F' H' v hP hp hr => ?_, fun _ _ _ _ z _ => z.elim⟩
  cases r with
  | val z => exact hP.elim
  | fr zs =>
    obtain ⟨q, ws, rfl, e1, e2, e3, e4⟩ := hr
    have R2 := R1.after h2 nd hp
    refine k F' H' zs _ q R2 (sb1.trans hp.f) ⟨⟨ws, e3, e4⟩, e2, R1.bnone e1, fun n c ec z => ?_⟩ hP
    by_cases hn : n ∈ io
    · obtain ⟨i, hi, ei⟩ := List.getElem_of_mem hn
      have hi2 : i < cs.length := by rw [cells_len h2]; exact hi
      obtain ⟨m, c0, f1, f2, _⟩ := cells_get h2 (List.getElem?_eq_getElem hi2)
      rw [List.getElem?_eq_getElem hi, ei] at f1
      cases f1
      exact R1.cne e1 n c0 f2 z
    · rw [setCells_out hn] at ec
      exact R1.cne e1 n c ec z
theorem ze_callIO (io : List Nat) (F : Fn X k x gg) (hr : Room k X.A) (ha : ZA X (e :: es) tr) (hg : Gl X x := by rfl) (hdb : (x == ("__debug__" : Str)) = false := by decide)
    (he : starEach (e :: es) X.env = (false, eval e X.env) :: starEach es X.env := by rfl) (hpl : (backTo pos (starEach es X.env)).any (·.1) = false := by rfl) : ZE X (.Call (.Name x p) (e :: es) [] pos) (zCallIO io gg tr) := by
  obtain ⟨t0, p0, s0⟩ := ha.ok
  obtain ⟨CX, f, fd, ps, F, hm, hk, hb, hx⟩ := F.ok
  exact ⟨_, pe_call F hr hg hm hk hb .nil hx p0 hdb he hpl, snd_callIO s0⟩
theorem zf_callIO (io : List Nat) (F : Fn X k x gg) (hr : Room k X.A) (ha : ZA X (e :: es) tr) (hg : Gl X x := by rfl) (hdb : (x == ("__debug__" : Str)) = false := by decide)
    (he : starEach (e :: es) X.env = (false, eval e X.env) :: starEach es X.env := by rfl) (hpl : (backTo pos (starEach es X.env)).any (·.1) = false := by rfl) : ZF X (.Call (.Name x p) (e :: es) [] pos) (zCallIOF io gg tr) := by
  obtain ⟨t0, p0, s0⟩ := ha.ok
  obtain ⟨CX, f, fd, ps, F, hm, hk, hb, hx⟩ := F.ok
  exact ⟨_, pe_call F hr hg hm hk hb .nil hx p0 hdb he hpl, snd_callIOF s0⟩
end
end Z

set_option Elab.async false
set_option linter.all false
set_option maxRecDepth 100000
namespace Z
open PySem PySem.Spec PyProof.Rows L2

/-! ### tests -/
section
variable {X : Cx} {pos : Pos} {a b c e : Expr} {rest : List Expr} {ta tb : ZT} {ca cb : ZC}
/-- a value that is a bool -/
def S.asB (ρ : Env) (s : S) (k : Bool → Prop) : Prop := match s with
  | .val (.bl b) => k b
  | _ => False
def zB (ta : ZT) : ZC := fun ρ Q => ta ρ fun s ρ1 => s.asB ρ1 fun b => Q b ρ1
theorem asB_of {K : PySem.W.Frag} {F : Hp} {α : Nat → Addr} {ρ : Env} {s : S} {v : V} {k : Bool → Prop} (h : s.asB ρ k) (r : RepS K F α s v) : ∃ b, v = .bl b ∧ k b := by
  unfold S.asB at h
  split at h
  · exact ⟨_, r, h⟩
  · exact h.elim
/-- a comparison as a test -/
theorem zq_cmp {op : CmpOp} {r : R2} {g : D → D → (D → Prop) → Prop} (ho : OpR X (compareOp op) r) (hz : OpZ X.K r g) (ha : ZE X a ta) (hb : ZE X b tb) (hm : behindInMarks op b = false := by first | exact nomark _ | rfl) : ZQ X (.Compare a [op] [b] pos) (zB (zOp g ta tb)) := by
  obtain ⟨t0, p0, s0⟩ := ha.ok
  obtain ⟨u0, p1, s1⟩ := hb.ok
  refine ⟨_, pt_cmpR ho p0 p1 hm, fun B F H α σ ρ Q0 Q R h k => ?_⟩
  refine snd_op s0 s1 hz B F H α σ ρ _ _ R h fun F1 H1 s ρ1 v R1 sb r q => ?_
  obtain ⟨b, rfl, q⟩ := asB_of q r
  exact ⟨b, rfl, k F1 H1 b ρ1 R1 sb q⟩
/-- a call, a name .. whose value is a bool, as a test -/
theorem zq_val (ha : ZE X e ta) (he : ∀ whole, isTrue e X.env whole = (do let v ← whole; standAt e.pos; holding [v] (truthy v)) := by intro _; rfl) : ZQ X e (zB ta) := by
  obtain ⟨t0, p0, s0⟩ := ha.ok
  refine ⟨_, pt_val p0 he, fun B F H α σ ρ Q0 Q R h k => ?_⟩
  refine s0 B F H α σ ρ _ _ R h fun F1 H1 s ρ1 v R1 sb r q => ?_
  obtain ⟨b, rfl, q⟩ := asB_of q r
  exact ⟨b, rfl, k F1 H1 b ρ1 R1 sb q⟩
/-- truth of data -/
def D.tru : D → Option Bool
  | .non => some false
  | .bl b => some b
  | .int i => some (i != 0)
  | .tup ds => some (!ds.isEmpty)
  | .lst ds => some (!ds.isEmpty)
  | _ => none
def zTru (ta : ZT) : ZC := fun ρ Q => ta ρ fun s ρ1 => s.vw ρ1 fun d _ => ∃ b, d.tru = some b ∧ Q b ρ1
theorem isEmpty_is {K : PySem.W.Frag} {F : Hp} {ds : List D} {vs : List V} (h : IsL K F ds vs) : vs.isEmpty = ds.isEmpty := by
  cases ds with
  | nil => cases h; rfl
  | cons d ds => obtain ⟨v, r, rfl, _⟩ := h; rfl
theorem tru_is {K : PySem.W.Frag} {F H : Hp} {d : D} {v : V} {b : Bool} (s : Sub F H) (h : Is K F d v) (e : d.tru = some b) : TruV K v H b := by
  cases d with
  | non => cases e; cases h; rfl
  | bl c => cases e; cases h; rfl
  | int i => cases e; cases h; rfl
  | tup ds =>
    cases e
    obtain ⟨a, vs, rfl, h1, h2⟩ := h
    exact .inr (.inl ⟨vs, .inl (.inl (s _ _ h1)), by rw [isEmpty_is h2]⟩)
  | lst ds =>
    cases e
    obtain ⟨a, vs, rfl, h1, h2⟩ := h
    exact .inl ⟨vs, .inl (.inl (s _ _ h1)), by rw [isEmpty_is h2]⟩
  | _ => cases e
theorem zq_tru (ha : ZE X e ta) (he : ∀ whole, isTrue e X.env whole = (do let v ← whole; standAt e.pos; holding [v] (truthy v)) := by intro _; rfl) : ZQ X e (zTru ta) := by
  obtain ⟨t0, p0, s0⟩ := ha.ok
  refine ⟨_, pt_truth p0 he, fun B F H α σ ρ Q0 Q R h k => ?_⟩
  refine s0 B F H α σ ρ _ _ R h fun F1 H1 s ρ1 v R1 sb r q => ?_
  obtain ⟨d, p, i, _, b, e, q⟩ := R1.vw r q
  exact ⟨b, tru_is R1.peek_h i e, k F1 H1 b ρ1 R1 sb q⟩
def zNot (ca : ZC) : ZC := fun ρ Q => ca ρ fun b ρ1 => Q (!b) ρ1
theorem zq_not (ha : ZQ X a ca) : ZQ X (.UnaryOp .Not a pos) (zNot ca) := by
  obtain ⟨t0, p0, s0⟩ := ha.ok
  exact ⟨_, pt_not p0, fun B F H α σ ρ Q0 Q R h k => s0 B F H α σ ρ _ _ R h fun F1 H1 b ρ1 R1 sb q => k F1 H1 (!b) ρ1 R1 sb q⟩
def zAnd (ca cb : ZC) : ZC := fun ρ Q => ca ρ fun b ρ1 => if b = true then cb ρ1 Q else Q false ρ1
def zOr (ca cb : ZC) : ZC := fun ρ Q => ca ρ fun b ρ1 => if b = true then Q true ρ1 else cb ρ1 Q
theorem zw_one {op : BoolOp} (ha : ZQ X a ca) : ZW X (.BoolOp op [a] pos) ca := by
  obtain ⟨t0, p0, s0⟩ := ha.ok
  cases op with
  | And => exact ⟨t0, pw_and1 p0, s0⟩
  | Or => exact ⟨t0, pw_or1 p0, s0⟩
theorem zw_and (ha : ZQ X a ca) (hb : ZW X (.BoolOp .And (b :: rest) pos) cb) : ZW X (.BoolOp .And (a :: b :: rest) pos) (zAnd ca cb) := by
  obtain ⟨t0, p0, s0⟩ := ha.ok
  obtain ⟨u0, p1, s1⟩ := hb.ok
  refine ⟨_, pw_and p0 p1, fun B F H α σ ρ Q0 Q R h k => s0 B F H α σ ρ _ _ R h fun F1 H1 b ρ1 R1 sb q => ?_⟩
  cases b with
  | true => exact s1 B F1 H1 α σ ρ1 _ _ R1 q fun F2 H2 b ρ2 R2 sb2 q2 => k F2 H2 b ρ2 R2 (sb.trans sb2) q2
  | false => exact k F1 H1 false ρ1 R1 sb q
theorem zw_or (ha : ZQ X a ca) (hb : ZW X (.BoolOp .Or (b :: rest) pos) cb) : ZW X (.BoolOp .Or (a :: b :: rest) pos) (zOr ca cb) := by
  obtain ⟨t0, p0, s0⟩ := ha.ok
  obtain ⟨u0, p1, s1⟩ := hb.ok
  refine ⟨_, pw_or p0 p1, fun B F H α σ ρ Q0 Q R h k => s0 B F H α σ ρ _ _ R h fun F1 H1 b ρ1 R1 sb q => ?_⟩
  cases b with
  | false => exact s1 B F1 H1 α σ ρ1 _ _ R1 q fun F2 H2 b ρ2 R2 sb2 q2 => k F2 H2 b ρ2 R2 (sb.trans sb2) q2
  | true => exact k F1 H1 true ρ1 R1 sb q
theorem ZW.q (h : ZW X e ca) : ZQ X e ca := by
  obtain ⟨t0, p0, s0⟩ := h.ok
  exact ⟨t0, p0.pt, s0⟩
/-- .. as values -/
def zAndV (ta tb : ZT) : ZT := fun ρ Q => ta ρ fun s ρ1 => s.asB ρ1 fun b => if b = true then tb ρ1 Q else Q (.val (.bl false)) ρ1
def zOrV (ta tb : ZT) : ZT := fun ρ Q => ta ρ fun s ρ1 => s.asB ρ1 fun b => if b = true then Q (.val (.bl true)) ρ1 else tb ρ1 Q
def zNotV (ta : ZT) : ZT := fun ρ Q => ta ρ fun s ρ1 => s.asB ρ1 fun b => Q (.val (.bl (!b))) ρ1
theorem ze_one {op} (ha : ZE X a ta) : ZE X (.BoolOp op [a] pos) ta := by
  obtain ⟨t0, p0, s0⟩ := ha.ok
  exact ⟨t0, pe_one p0, s0⟩
theorem ze_and (ha : ZE X a ta) (hb : ZE X (.BoolOp .And (b :: rest) pos) tb) : ZE X (.BoolOp .And (a :: b :: rest) pos) (zAndV ta tb) := by
  obtain ⟨t0, p0, s0⟩ := ha.ok
  obtain ⟨u0, p1, s1⟩ := hb.ok
  refine ⟨_, pe_and p0 p1, fun B F H α σ ρ Q0 Q R h k => s0 B F H α σ ρ _ _ R h fun F1 H1 s ρ1 v R1 sb r q => ?_⟩
  obtain ⟨b, rfl, q⟩ := asB_of q r
  refine ⟨b, rfl, ?_⟩
  cases b with
  | true => exact s1 B F1 H1 α σ ρ1 _ _ R1 q fun F2 H2 s ρ2 v R2 sb2 r2 q2 => k F2 H2 s ρ2 v R2 (sb.trans sb2) r2 q2
  | false => exact k F1 H1 (.val (.bl false)) ρ1 _ R1 sb rfl q
theorem ze_or (ha : ZE X a ta) (hb : ZE X (.BoolOp .Or (b :: rest) pos) tb) : ZE X (.BoolOp .Or (a :: b :: rest) pos) (zOrV ta tb) := by
  obtain ⟨t0, p0, s0⟩ := ha.ok
  obtain ⟨u0, p1, s1⟩ := hb.ok
  refine ⟨_, pe_or p0 p1, fun B F H α σ ρ Q0 Q R h k => s0 B F H α σ ρ _ _ R h fun F1 H1 s ρ1 v R1 sb r q => ?_⟩
  obtain ⟨b, rfl, q⟩ := asB_of q r
  refine ⟨b, rfl, ?_⟩
  cases b with
  | false => exact s1 B F1 H1 α σ ρ1 _ _ R1 q fun F2 H2 s ρ2 v R2 sb2 r2 q2 => k F2 H2 s ρ2 v R2 (sb.trans sb2) r2 q2
  | true => exact k F1 H1 (.val (.bl true)) ρ1 _ R1 sb rfl q
theorem ze_not (ha : ZE X a ta) : ZE X (.UnaryOp .Not a pos) (zNotV ta) := by
  obtain ⟨t0, p0, s0⟩ := ha.ok
  refine ⟨_, pe_not p0, fun B F H α σ ρ Q0 Q R h k => s0 B F H α σ ρ _ _ R h fun F1 H1 s ρ1 v R1 sb r q => ?_⟩
  obtain ⟨b, rfl, q⟩ := asB_of q r
  exact ⟨b, rfl, k F1 H1 (.val (.bl (!b))) ρ1 _ R1 sb rfl q⟩
def zIf (ca : ZC) (ta tb : ZT) : ZT := fun ρ Q => ca ρ fun b ρ1 => if b = true then ta ρ1 Q else tb ρ1 Q
theorem ze_if (hc : ZQ X c ca) (ha : ZE X a ta) (hb : ZE X b tb) : ZE X (.IfExp c a b pos) (zIf ca ta tb) := by
  obtain ⟨c0, pc, sc⟩ := hc.ok
  obtain ⟨t0, p0, s0⟩ := ha.ok
  obtain ⟨u0, p1, s1⟩ := hb.ok
  refine ⟨_, pe_ifExp pc p0 p1, fun B F H α σ ρ Q0 Q R h k => sc B F H α σ ρ _ _ R h fun F1 H1 b ρ1 R1 sb q => ?_⟩
  cases b with
  | true => exact s0 B F1 H1 α σ ρ1 _ _ R1 q fun F2 H2 s ρ2 v R2 sb2 r2 q2 => k F2 H2 s ρ2 v R2 (sb.trans sb2) r2 q2
  | false => exact s1 B F1 H1 α σ ρ1 _ _ R1 q fun F2 H2 s ρ2 v R2 sb2 r2 q2 => k F2 H2 s ρ2 v R2 (sb.trans sb2) r2 q2
/-- a chain of two comparisons -/
def zChain (g g' : D → D → (D → Prop) → Prop) (ta tb tc : ZT) : ZT := fun ρ Q => ta ρ fun s ρ1 => tb ρ1 fun s' ρ2 => ∃ x y, s = .val x ∧ s' = .val y ∧ g x y fun z => ∃ b, z = .bl b ∧
  if b = true then tc ρ2 fun s'' ρ3 => ∃ w, s'' = .val w ∧ g' y w fun z' => Q (.val z') ρ3 else Q (.val (.bl false)) ρ2
theorem ze_chain {op op' : CmpOp} {r r' : R2} {g g' : D → D → (D → Prop) → Prop} {tc : ZT} (ho : OpR X (compareOp op) r) (ho' : OpR X (compareOp op') r') (hz : OpZ X.K r g) (hz' : OpZ X.K r' g') (ha : ZE X a ta) (hb : ZE X b tb) (hc : ZE X c tc)
    (hm : lastMarks [op, op'] [b, c] = false := by with_unfolding_all rfl) : ZE X (.Compare a [op, op'] [b, c] pos) (zChain g g' ta tb tc) := by
  obtain ⟨t0, p0, s0⟩ := ha.ok
  obtain ⟨u0, p1, s1⟩ := hb.ok
  obtain ⟨w0, p2, s2⟩ := hc.ok
  refine ⟨_, pe_chain ho ho' p0 p1 p2 hm, fun B F H α σ ρ Q0 Q R h k => ?_⟩
  refine s0 B F H α σ ρ _ _ R h fun F1 H1 s ρ1 u R1 sb1 r1 q1 => ?_
  refine s1 B F1 H1 α σ ρ1 _ _ R1 q1 fun F2 H2 s' ρ2 v R2 sb2 r2 q2 => ?_
  obtain ⟨x, y, rfl, rfl, q2⟩ := q2
  refine hz F2 H2 x y u v _ _ R2.sub (r1.mono sb2) r2 q2 fun z F3 H3 w' hz3 e3 i3 => ?_
  obtain ⟨b, rfl, q3⟩ := hz3
  refine ⟨b, i3, ?_⟩
  have R3 := R2.ext e3
  cases b with
  | false => exact k F3 H3 (.val (.bl false)) ρ2 _ R3 ((sb1.trans sb2).trans e3.f) rfl q3
  | true =>
    refine s2 B F3 H3 α σ ρ2 _ _ R3 q3 fun F4 H4 s'' ρ3 w4 R4 sb4 r4 q4 => ?_
    obtain ⟨w5, rfl, q4⟩ := q4
    exact hz' F4 H4 y w5 v w4 _ _ R4.sub (Is.mono (e3.f.trans sb4) _ _ r2) r4 q4 fun z F5 H5 w6 qz e5 i5 => k F5 H5 (.val z) ρ3 w6 (R4.ext e5) ((((sb1.trans sb2).trans e3.f).trans sb4).trans e5.f) i5 qz
end

/-! ### statements -/
structure ZD where
  nx : Env → Prop
  rt : RS → Env → Prop
  bk : Env → Prop := fun _ => False
  ct : Env → Prop := fun _ => False
abbrev ZS := ZD → Env → Prop
def RepT (K : PySem.W.Frag) (B : Base) (F H : Hp) : RS → V → Prop
  | .val d, v => Is K F d v
  | .fr ds, v => ∃ p vs, v = .ref p ∧ B.H p = none ∧ F p = none ∧ H p = some (.lst vs) ∧ IsL K F ds vs
structure EOk (K : PySem.W.Frag) (B : Base) (F : Hp) (D0 : Ends) (D : ZD) : Prop where
  nx : ∀ F' H' α' σ' ρ', Rel K B F' H' α' σ' ρ' → Sub F F' → D.nx ρ' → D0.nx σ' H'
  rt : ∀ F' H' α' σ' ρ' r v, Rel K B F' H' α' σ' ρ' → Sub F F' → RepT K B F' H' r v → D.rt r ρ' → D0.rt v H'
  bk : ∀ F' H' α' σ' ρ', Rel K B F' H' α' σ' ρ' → Sub F F' → D.bk ρ' → D0.bk σ' H'
  ct : ∀ F' H' α' σ' ρ', Rel K B F' H' α' σ' ρ' → Sub F F' → D.ct ρ' → D0.ct σ' H'
theorem EOk.mono {K : PySem.W.Frag} {B : Base} {F F' : Hp} {D0 : Ends} {D : ZD} (h : EOk K B F D0 D) (s : Sub F F') : EOk K B F' D0 D :=
  ⟨fun a b c d e R q => h.nx a b c d e R (s.trans q), fun a b c d e f g R q => h.rt a b c d e f g R (s.trans q), fun a b c d e R q => h.bk a b c d e R (s.trans q), fun a b c d e R q => h.ct a b c d e R (s.trans q)⟩
def SndS (K : PySem.W.Frag) (t0 : TS) (t : ZS) : Prop := ∀ (B : Base) (F H : Hp) (α : Nat → Addr) (σ : L2.St) (ρ : Env) (D0 : Ends) (D : ZD), Rel K B F H α σ ρ → t D ρ → EOk K B F D0 D → t0 D0 σ H
structure ZSt (X : Cx) (st : Stmt) (t : ZS) : Prop where
  ok : ∃ t0, PS X st t0 ∧ SndS X.K t0 t
structure ZSs (X : Cx) (st : List Stmt) (t : ZS) : Prop where
  ok : ∃ t0, PSs X st t0 ∧ SndS X.K t0 t
section
variable {X : Cx} {pos : Pos} {a b c e : Expr} {st : Stmt} {rest body : List Stmt} {ta tb : ZT} {tl : ZL} {ca cb : ZC} {t u : ZS}
def zNext : ZS := fun D ρ => D.nx ρ
def zSeq (t u : ZS) : ZS := fun D ρ => t { D with nx := u D } ρ
theorem zss_nil : ZSs X [] zNext := ⟨_, pss_nil, fun B F H α σ ρ D0 D R h k => k.nx F H α σ ρ R (Sub.refl F) h⟩
theorem zss_one (h : ZSt X st t) : ZSs X [st] t := by
  obtain ⟨t0, p0, s0⟩ := h.ok
  exact ⟨t0, pss_one p0, s0⟩
theorem zss_cons (h1 : ZSt X st t) (h2 : ZSs X rest u) : ZSs X (st :: rest) (zSeq t u) := by
  obtain ⟨t0, p0, s0⟩ := h1.ok
  obtain ⟨u0, p1, s1⟩ := h2.ok
  refine ⟨_, pss_cons p0 p1, fun B F H α σ ρ D0 D R h k => ?_⟩
  refine s0 B F H α σ ρ _ _ R h ⟨fun F' H' α' σ' ρ' R' sb q => ?_, k.rt, k.bk, k.ct⟩
  exact s1 B F' H' α' σ' ρ' _ _ R' q (k.mono sb)
theorem zs_pass : ZSt X (.Pass pos) zNext := ⟨_, ps_pass, fun B F H α σ ρ D0 D R h k => k.nx F H α σ ρ R (Sub.refl F) h⟩
def zBrk : ZS := fun D ρ => D.bk ρ
def zCnt : ZS := fun D ρ => D.ct ρ
theorem zs_break : ZSt X (.Break pos) zBrk := ⟨_, ps_break, fun B F H α σ ρ D0 D R h k => k.bk F H α σ ρ R (Sub.refl F) h⟩
theorem zs_continue : ZSt X (.Continue pos) zCnt := ⟨_, ps_continue, fun B F H α σ ρ D0 D R h k => k.ct F H α σ ρ R (Sub.refl F) h⟩
def zDrop (ta : ZT) : ZS := fun D ρ => ta ρ fun _ ρ1 => D.nx ρ1
theorem zs_expr (he : ZE X e ta) (hs : swapsWith e none pos.line X.env = pure false := by rfl) : ZSt X (.Expr e pos) (zDrop ta) := by
  obtain ⟨t0, p0, s0⟩ := he.ok
  exact ⟨_, ps_expr p0 hs, fun B F H α σ ρ D0 D R h k => s0 B F H α σ ρ _ _ R h fun F1 H1 s ρ1 v R1 sb r q => k.nx F1 H1 α σ ρ1 R1 sb q⟩
/-- the cell n is given away -/
def Env.kill (ρ : Env) (n : Nat) : Env := { ρ with ce := ρ.ce.set n none }
theorem Rel.kill {K : PySem.W.Frag} {B : Base} {F H : Hp} {α : Nat → Addr} {σ : L2.St} {ρ : Env} (R : Rel K B F H α σ ρ) (n : Nat) : Rel K B F H α σ (ρ.kill n) := by
  have get : ∀ {m : Nat} {c : Ce}, (ρ.kill n).ce[m]? = some (some c) → ρ.ce[m]? = some (some c) ∧ m ≠ n := fun {m c} e => by
    have e' : (ρ.ce.set n none)[m]? = some (some c) := e
    rw [List.getElem?_set] at e'
    split at e'
    · split at e' <;> cases e'
    · rename_i h; exact ⟨e', fun z => h z.symm⟩
  exact { sub := R.sub, sl := R.sl, ce := fun m c e => R.ce m c (get e).1, inj := fun m k c c' e e' => R.inj m k c c' (get e).1 (get e').1, f0 := R.f0, kept := R.kept, dom := R.dom, fresh := R.fresh, own := fun m c e => R.own m c (get e).1, io := R.io, len := R.len, ion := R.ion }
def zRet (ta : ZT) : ZS := fun D ρ => ta ρ fun s ρ1 => match s with
  | .val d => D.rt (.val d) ρ1
  | .loc n => ∃ ds, ρ1.ce[n]? = some (some (.lst ds)) ∧ ρ1.io ≤ n ∧ D.rt (.fr ds) (ρ1.kill n)
theorem zs_ret (he : ZE X e ta) : ZSt X (.Return (some e) pos) (zRet ta) := by
  obtain ⟨t0, p0, s0⟩ := he.ok
  refine ⟨_, ps_ret p0, fun B F H α σ ρ D0 D R h k => s0 B F H α σ ρ _ _ R h fun F1 H1 s ρ1 v R1 sb r q => ?_⟩
  cases s with
  | val d => exact k.rt F1 H1 α σ ρ1 (.val d) v R1 sb r q
  | loc n =>
    obtain ⟨ds, e, hn, q⟩ := q
    obtain ⟨f1, vs, hv, i⟩ := R1.ce n _ e
    refine k.rt F1 H1 α σ (ρ1.kill n) (.fr ds) v (R1.kill n) sb ⟨α n, vs, r, ?_, f1, hv, i⟩ q
    rcases R1.own n _ e with z | z
    · have := (List.getElem?_eq_some_iff.mp z).1
      rw [← R1.ion] at this
      omega
    · exact z
def zRetL (tl : ZL) : ZS := fun D ρ => tl ρ fun ds ρ1 => D.rt (.fr ds) ρ1
theorem zs_retL (he : ZF X e tl) : ZSt X (.Return (some e) pos) (zRetL tl) := by
  obtain ⟨t0, p0, s0⟩ := he.ok
  refine ⟨_, ps_ret p0, fun B F H α σ ρ D0 D R h k => s0 B F H α σ ρ _ _ R h fun F1 H1 ds ρ1 p R1 sb f q => ?_⟩
  obtain ⟨ws, hw, i⟩ := f.h
  exact k.rt F1 H1 α σ ρ1 (.fr ds) _ R1 sb ⟨p, ws, rfl, f.b, f.f, hw, i⟩ q
def zRetN : ZS := fun D ρ => D.rt (.val .non) ρ
theorem zs_retN : ZSt X (.Return none pos) zRetN := ⟨_, ps_retN, fun B F H α σ ρ D0 D R h k => k.rt F H α σ ρ (.val .non) _ R (Sub.refl F) rfl h⟩
def zIfS (ca : ZC) (t u : ZS) : ZS := fun D ρ => ca ρ fun b ρ1 => if b = true then t D ρ1 else u D ρ1
theorem zs_if {ba bb : List Stmt} (hc : ZQ X c ca) (ha : ZSs X ba t) (hb : ZSs X bb u) : ZSt X (.If c ba bb pos) (zIfS ca t u) := by
  obtain ⟨c0, pc, sc⟩ := hc.ok
  obtain ⟨t0, p0, s0⟩ := ha.ok
  obtain ⟨u0, p1, s1⟩ := hb.ok
  refine ⟨_, ps_if pc p0 p1, fun B F H α σ ρ D0 D R h k => sc B F H α σ ρ _ _ R h fun F1 H1 b ρ1 R1 sb q => ?_⟩
  cases b with
  | true => exact s0 B F1 H1 α σ ρ1 _ _ R1 q (k.mono sb)
  | false => exact s1 B F1 H1 α σ ρ1 _ _ R1 q (k.mono sb)

/-! ### targets, assignments -/
abbrev ZG := D → Env → (Env → Prop) → Prop
def SndG (K : PySem.W.Frag) (g0 : TG) (g : ZG) : Prop := ∀ (B : Base) (F H : Hp) (α : Nat → Addr) (σ : L2.St) (ρ : Env) (d : D) (v : V) (Q0 : L2.St → Hp → Prop) (Q : Env → Prop), Rel K B F H α σ ρ → Is K F d v → g d ρ Q → (∀ σ' ρ', Rel K B F H α σ' ρ' → Q ρ' → Q0 σ' H) → g0 v σ H Q0
structure ZGt (X : Cx) (tg : Expr) (g : ZG) : Prop where
  ok : ∃ g0, PG X tg g0 ∧ SndG X.K g0 g
abbrev ZGL := List D → Env → (Env → Prop) → Prop
def SndGL (K : PySem.W.Frag) (g0 : TGs) (g : ZGL) : Prop := ∀ (B : Base) (F H : Hp) (α : Nat → Addr) (σ : L2.St) (ρ : Env) (ds : List D) (vs : List V) (Q0 : L2.St → Hp → Prop) (Q : Env → Prop), Rel K B F H α σ ρ → IsL K F ds vs → g ds ρ Q → (∀ σ' ρ', Rel K B F H α σ' ρ' → Q ρ' → Q0 σ' H) → g0 vs σ H Q0
structure ZGs (X : Cx) (tg : List Expr) (g : ZGL) : Prop where
  ok : ∃ g0, PGs X tg g0 ∧ SndGL X.K g0 g
def zgName (i : Nat) : ZG := fun d ρ Q => Q (ρ.put i (.val d))
theorem zg_name (i : Nat) {x : Str} (hN : X.N.Nodup) (hi : X.N[i]? = some x := by rfl) (hx : Loc X.env.scope x := by first | exact .inl rfl | exact .inr rfl) (hf : X.fn x = true ∨ X.env.scope.names.lookup x = some .local := by first | exact .inl rfl | exact .inr rfl | assumption) : ZGt X (.Name x pos) (zgName i) :=
  ⟨_, pg_name hN hi hx hf, fun B F H α σ ρ d v Q0 Q R i h k => k _ _ (R.put (s := .val d) i) h⟩
def zgNil : ZGL := fun ds ρ Q => ds = [] ∧ Q ρ
def zgCons (g : ZG) (gs : ZGL) : ZGL := fun ds ρ Q => match ds with
  | d :: r => g d ρ fun ρ1 => gs r ρ1 Q
  | [] => False
theorem zgs_nil : ZGs X [] zgNil := ⟨_, pgs_nil, fun B F H α σ ρ ds vs Q0 Q R i h k => by
  obtain ⟨rfl, h⟩ := h
  exact ⟨i, k _ _ R h⟩⟩
theorem zgs_cons {es : List Expr} {g : ZG} {gs : ZGL} (h1 : ZGt X e g) (h2 : ZGs X es gs) (hs : (assignEach (e :: es) X.env).map (·.2) = assign e X.env :: (assignEach es X.env).map (·.2) := by rfl) : ZGs X (e :: es) (zgCons g gs) := by
  obtain ⟨g0, p0, s0⟩ := h1.ok
  obtain ⟨g1, p1, s1⟩ := h2.ok
  refine ⟨_, pgs_cons p0 p1 hs, fun B F H α σ ρ ds vs Q0 Q R i h k => ?_⟩
  cases ds with
  | nil => exact h.elim
  | cons d r =>
    obtain ⟨v, vr, rfl, h1, h2⟩ := i
    refine ⟨v, vr, rfl, s0 B F H α σ ρ d v _ _ R h1 h fun σ' ρ' R' q => ?_⟩
    exact s1 B F H α σ' ρ' r vr _ _ R' h2 q k
def zgTup (n : Nat) (gs : ZGL) : ZG := fun d ρ Q => match d with
  | .tup ds => ds.length = n ∧ gs ds ρ Q
  | _ => False
theorem zg_tup {es : List Expr} {k : Nat} {gs : ZGL} {n : Nat} (hc : X.calm = true) (h : ZGs X es gs) (hn : (assignEach es X.env).length = n := by rfl) (hst : (assignEach es X.env).findIdx? (·.1) = none := by rfl) : ZGt X (.Tuple es k pos) (zgTup n gs) := by
  obtain ⟨g0, p0, s0⟩ := h.ok
  refine ⟨_, pg_tup hc p0 hn hst, fun B F H α σ ρ d v Q0 Q R i h k => ?_⟩
  cases d with
  | tup ds =>
    obtain ⟨a, vs, rfl, h1, h2⟩ := i
    exact ⟨a, vs, rfl, .inl (.inl (R.sub _ _ h1)), by rw [h2.length]; exact h.1, s0 B F H α σ ρ ds vs _ _ R h2 h.2 k⟩
  | _ => exact h.elim
def zAsg (ta : ZT) (i : Nat) : ZS := fun D ρ => ta ρ fun s ρ1 => D.nx (ρ1.put i s)
theorem zs_set (i : Nat) {x : Str} {pos' : Pos} (hN : X.N.Nodup) (he : ZE X e ta) (hi : X.N[i]? = some x := by rfl) (hx : Loc X.env.scope x := by first | exact .inl rfl | exact .inr rfl) (hs : swapsWith e (some (.Name x pos')) pos.line X.env = pure false := by rfl) (hf : X.fn x = true ∨ X.env.scope.names.lookup x = some .local := by first | exact .inl rfl | exact .inr rfl | assumption) :
    ZSt X (.Assign [.Name x pos'] e pos) (zAsg ta i) := by
  obtain ⟨t0, p0, s0⟩ := he.ok
  exact ⟨_, ps_set hN hi hx p0 hs hf, fun B F H α σ ρ D0 D R h k => s0 B F H α σ ρ _ _ R h fun F1 H1 s ρ1 v R1 sb r q => k.nx F1 H1 α _ _ (R1.put r) sb q⟩
/-- target = value, a value that is data -/
def zAsgG (ta : ZT) (g : ZG) : ZS := fun D ρ => ta ρ fun s ρ1 => ∃ d, s = .val d ∧ g d ρ1 D.nx
theorem zs_asg {tg : Expr} {g : ZG} (he : ZE X e ta) (hg : ZGt X tg g) (hs : swapsWithSole [tg] e pos.line X.env = pure false := by rfl) (hw : swappedStores [tg] e X.env = pure none := by rfl)
    (h1 : (assignEach [tg] X.env).map (·.2) = [assign tg X.env] := by rfl) : ZSt X (.Assign [tg] e pos) (zAsgG ta g) := by
  obtain ⟨t0, p0, s0⟩ := he.ok
  obtain ⟨g0, p1, s1⟩ := hg.ok
  refine ⟨_, ps_asg p0 p1 hs hw h1, fun B F H α σ ρ D0 D R h k => s0 B F H α σ ρ _ _ R h fun F1 H1 s ρ1 v R1 sb r q => ?_⟩
  obtain ⟨d, rfl, q⟩ := q
  exact s1 B F1 H1 α σ ρ1 d v _ _ R1 r q fun σ' ρ' R' q' => k.nx F1 H1 α σ' ρ' R' sb q'
/-- a, b = x, y -/
def zPar_k (i j : Nat) (D : ZD) (ss : List S) (ρ1 : Env) : Prop := match ss with
  | [s, s'] => D.nx ((ρ1.put i s).put j s')
  | _ => False
def zPar (i j : Nat) (tr : ZR) : ZS := fun D ρ => tr ρ fun ss ρ1 => zPar_k i j D ss ρ1
theorem zs_par (i j : Nat) {x y : Str} {tr : ZR} {px py pt : Pos} {kt k2 pt2} (hc : X.calm = true) (hN : X.N.Nodup) (ha : ZA X [a, b] tr) (hi : X.N[i]? = some x := by rfl) (hj : X.N[j]? = some y := by rfl) (hij : i ≠ j := by decide)
    (hx : X.env.scope.names.lookup x = some .local := by rfl) (hy : X.env.scope.names.lookup y = some .local := by rfl)
    (hw : swappedStores [.Tuple [.Name x px, .Name y py] kt pt] (.Tuple [a, b] k2 pt2) X.env = pure (some [x, y]) := by rfl)
    (hs : swapsWithSole [.Tuple [.Name x px, .Name y py] kt pt] (.Tuple [a, b] k2 pt2) pos.line X.env = pure false := by rfl) :
    ZSt X (.Assign [.Tuple [.Name x px, .Name y py] kt pt] (.Tuple [a, b] k2 pt2) pos) (zPar i j tr) := by
  obtain ⟨t0, p0, s0⟩ := ha.ok
  refine ⟨_, ps_par hc hN hi hj hij hx hy p0 hw hs, fun B F H α σ ρ D0 D R h k => s0 B F H α σ ρ _ _ R h fun F1 H1 ss ρ1 vs R1 sb r q => ?_⟩
  unfold zPar_k at q
  split at q
  · rename_i s s'
    obtain ⟨v, _, e, h1, w, _, e2, h2, e3⟩ := r
    subst e
    subst e2
    have e3' : _ = [] := e3
    subst e3'
    exact ⟨v, w, rfl, k.nx F1 H1 α _ _ ((R1.put h1).put h2) sb q⟩
  · exact q.elim
end
end Z

set_option Elab.async false
set_option linter.all false
set_option maxRecDepth 100000
namespace Z
open PySem PySem.Spec PyProof.Rows L2

/-! ### cells: made, changed -/
def S.isL (n : Nat) : S → Bool
  | .loc m => m == n
  | .val _ => false
def Ce.has (n : Nat) : Ce → Bool
  | .lst _ => false
  | .ins _ _ ss => ss.any (S.isL n)
def keepS (n : Nat) : Option S → Option S
  | some s => if s.isL n then none else some s
  | none => none
def keepC (n : Nat) : Option Ce → Option Ce
  | some c => if c.has n then none else some c
  | none => none
def Env.fresh (ρ : Env) (n : Nat) (c : Ce) : Env := { ρ with sl := ρ.sl.map (keepS n), ce := (ρ.ce.map (keepC n)).set n (some c) }
def Env.setCe (ρ : Env) (n : Nat) (c : Ce) : Env := { ρ with ce := ρ.ce.set n (some c) }
section
variable {K : PySem.W.Frag} {B : Base} {F H F' H' : Hp} {α : Nat → Addr} {σ : L2.St} {ρ : Env}
theorem repS_turn {n : Nat} {p : Addr} {s : S} {v : V} (h : s.isL n = false) (r : RepS K F α s v) : RepS K F (fun m => if m = n then p else α m) s v := by
  cases s with
  | val d => exact r
  | loc m =>
    have hm : m ≠ n := by
      intro e
      subst e
      simp [S.isL] at h
    show v = .ref (if m = n then p else α m)
    rw [if_neg hm]; exact r
theorem repSL_turn {n : Nat} {p : Addr} : ∀ {ss : List S} {vs : List V}, ss.any (S.isL n) = false → RepSL K F α ss vs → RepSL K F (fun m => if m = n then p else α m) ss vs
  | [], _, _, r => r
  | s :: ss, _, h, ⟨v, r, e, h1, h2⟩ => by
    rw [List.any_cons, Bool.or_eq_false_iff] at h
    exact ⟨v, r, e, repS_turn h.1 h1, repSL_turn h.2 h2⟩
theorem repC_turn {n : Nat} {p a : Addr} {c : Ce} (h : c.has n = false) (r : RepC K F H α a c) : RepC K F H (fun m => if m = n then p else α m) a c := by
  cases c with
  | lst ds => exact r
  | ins A ns ss =>
    obtain ⟨dx, vs, h1, h2, h3⟩ := r
    exact ⟨dx, vs, h1, h2, repSL_turn h h3⟩
theorem Rel.newC (R : Rel K B F H α σ ρ) {n : Nat} {p : Addr} {ds : List D} (f : Fsh K B F H α ρ p ds) (hio : ρ.io ≤ n) : Rel K B F H (fun m => if m = n then p else α m) σ (ρ.fresh n (.lst ds)) := by
  have get : ∀ {m : Nat} {c : Ce}, (ρ.fresh n (.lst ds)).ce[m]? = some (some c) → (m = n ∧ c = .lst ds) ∨ (m ≠ n ∧ ρ.ce[m]? = some (some c) ∧ c.has n = false) := fun {m c} e => by
    have e' : ((ρ.ce.map (keepC n)).set n (some (.lst ds)))[m]? = some (some c) := e
    rw [List.getElem?_set] at e'
    by_cases q : n = m
    · rw [if_pos q] at e'
      split at e'
      · cases e'; exact .inl ⟨q.symm, rfl⟩
      · cases e'
    · rw [if_neg q, List.getElem?_map] at e'
      refine .inr ⟨fun z => q z.symm, ?_⟩
      cases h : ρ.ce[m]? with
      | none => rw [h] at e'; cases e'
      | some o =>
        rw [h] at e'
        cases o with
        | none => cases e'
        | some c0 =>
          have e2 : keepC n (some c0) = some c := Option.some.inj e'
          have e2 : (if c0.has n then none else some c0) = some c := e2
          cases hb : c0.has n with
          | true => rw [hb, if_pos rfl] at e2; cases e2
          | false => rw [hb, if_neg Bool.false_ne_true] at e2; cases e2; exact ⟨rfl, hb⟩
  refine { sub := R.sub, sl := ?_, ce := ?_, inj := ?_, f0 := R.f0, kept := R.kept, dom := R.dom, fresh := R.fresh, own := ?_, io := ?_, len := ?_, ion := R.ion }
  · intro i s e
    have e' : (ρ.sl.map (keepS n))[i]? = some (some s) := e
    rw [List.getElem?_map] at e'
    cases h : ρ.sl[i]? with
    | none => rw [h] at e'; cases e'
    | some o =>
      rw [h] at e'
      cases o with
      | none => cases e'
      | some s0 =>
        have e2 : keepS n (some s0) = some s := Option.some.inj e'
        have e2 : (if s0.isL n then none else some s0) = some s := e2
        cases hb : s0.isL n with
        | true => rw [hb, if_pos rfl] at e2; cases e2
        | false =>
          rw [hb, if_neg Bool.false_ne_true] at e2
          cases e2
          obtain ⟨v, e1, e2⟩ := R.sl i _ h
          exact ⟨v, e1, repS_turn hb e2⟩
  · intro m c e
    rcases get e with ⟨rfl, rfl⟩ | ⟨q, e1, hb⟩
    · obtain ⟨ws, hw, i⟩ := f.h
      refine ⟨?_, ws, ?_, i⟩
      · show F (if m = m then p else α m) = none
        rw [if_pos rfl]; exact f.f
      · show H (if m = m then p else α m) = _
        rw [if_pos rfl]; exact hw
    · obtain ⟨h1, h2⟩ := R.ce m c e1
      show F (if m = n then p else α m) = none ∧ RepC K F H _ (if m = n then p else α m) c
      rw [if_neg q]
      exact ⟨h1, repC_turn hb h2⟩
  · intro m k c c' e e' ea
    have ea' : (if m = n then p else α m) = (if k = n then p else α k) := ea
    rcases get e with ⟨rfl, rfl⟩ | ⟨q, e1, hb⟩
    · rcases get e' with ⟨rfl, rfl⟩ | ⟨q', e1', hb'⟩
      · rfl
      · rw [if_pos rfl, if_neg q'] at ea'
        exact absurd ea'.symm (f.c k _ e1')
    · rcases get e' with ⟨rfl, rfl⟩ | ⟨q', e1', hb'⟩
      · rw [if_pos rfl, if_neg q] at ea'
        exact absurd ea' (f.c m _ e1)
      · rw [if_neg q, if_neg q'] at ea'
        exact R.inj m k c c' e1 e1' ea'
  · intro m c e
    show B.io[m]? = some (if m = n then p else α m) ∨ B.H (if m = n then p else α m) = none
    rcases get e with ⟨rfl, rfl⟩ | ⟨q, e1, hb⟩
    · rw [if_pos rfl]; exact .inr f.b
    · rw [if_neg q]; exact R.own m c e1
  · intro m a e
    have hm : m < B.io.length := (List.getElem?_eq_some_iff.mp e).1
    rw [← R.ion] at hm
    show (if m = n then p else α m) = a
    rw [if_neg (by omega)]
    exact R.io m a e
  · show σ.length = (ρ.sl.map (keepS n)).length
    rw [List.length_map]; exact R.len
/-- a cell's object turns -/
theorem Rel.setC (R : Rel K B F H α σ ρ) {n : Nat} {c0 c : Ce} {o : HO} (e0 : ρ.ce[n]? = some (some c0)) (hc : RepC K F (upd H (α n) o) α (α n) c) : Rel K B F (upd H (α n) o) α σ (ρ.setCe n c) := by
  have get : ∀ {m : Nat} {c' : Ce}, (ρ.setCe n c).ce[m]? = some (some c') → (m = n ∧ c' = c) ∨ (m ≠ n ∧ ρ.ce[m]? = some (some c')) := fun {m c'} e => by
    have e' : (ρ.ce.set n (some c))[m]? = some (some c') := e
    rw [List.getElem?_set] at e'
    by_cases q : n = m
    · rw [if_pos q] at e'
      split at e'
      · cases e'; exact .inl ⟨q.symm, rfl⟩
      · cases e'
    · rw [if_neg q] at e'
      exact .inr ⟨fun z => q z.symm, e'⟩
  have live : ∀ {m : Nat} {c' : Ce}, (ρ.setCe n c).ce[m]? = some (some c') → ∃ c1, ρ.ce[m]? = some (some c1) := fun {m c'} e => by
    rcases get e with ⟨rfl, rfl⟩ | ⟨_, e1⟩
    · exact ⟨c0, e0⟩
    · exact ⟨c', e1⟩
  obtain ⟨f0, r0⟩ := R.ce n c0 e0
  refine { sub := fun a u h => ?_, sl := R.sl, ce := ?_, inj := ?_, f0 := R.f0, kept := ?_, dom := ?_, fresh := R.fresh, own := ?_, io := R.io, len := R.len, ion := R.ion }
  · have : a ≠ α n := fun z => by rw [z, f0] at h; cases h
    rw [upd_ne this]; exact R.sub a u h
  · intro m c' e
    rcases get e with ⟨rfl, rfl⟩ | ⟨q, e1⟩
    · exact ⟨f0, hc⟩
    · obtain ⟨h1, h2⟩ := R.ce m c' e1
      exact ⟨h1, h2.mono (Sub.refl F) (upd_ne fun z => q (R.inj m n c' c0 e1 e0 z))⟩
  · intro m k c1 c2 e e' ea
    obtain ⟨d1, q1⟩ := live e
    obtain ⟨d2, q2⟩ := live e'
    exact R.inj m k d1 d2 q1 q2 ea
  · intro b u hb hn
    rw [upd_ne (fun z => ?_)]
    · exact R.kept b u hb hn
    · rcases R.own n c0 e0 with w | w
      · exact hn (by rw [z]; exact List.mem_of_getElem? w)
      · rw [← z, hb] at w; cases w
  · intro b hb
    by_cases z : b = α n
    · rw [z, upd_same]; exact fun w => by cases w
    · rw [upd_ne z]; exact R.dom b hb
  · intro m c1 e
    obtain ⟨d1, q1⟩ := live e
    exact R.own m d1 q1
end

section
variable {X : Cx} {pos : Pos} {a b c e o : Expr} {es : List Expr} {st : Stmt} {rest body : List Stmt} {ta tb tc : ZT} {tl : ZL} {tr : ZR} {ca cb : ZC} {t u : ZS}
/-- x = a new list that will change: the cell n -/
def zNew (tl : ZL) (i n : Nat) : ZS := fun D ρ => tl ρ fun ds ρ1 => ρ1.io ≤ n ∧ D.nx ((ρ1.fresh n (.lst ds)).put i (.loc n))
theorem zs_new (i n : Nat) {x : Str} {pos' : Pos} (hN : X.N.Nodup) (he : ZF X e tl) (hi : X.N[i]? = some x := by rfl) (hx : Loc X.env.scope x := by first | exact .inl rfl | exact .inr rfl) (hs : swapsWith e (some (.Name x pos')) pos.line X.env = pure false := by rfl) (hf : X.fn x = true ∨ X.env.scope.names.lookup x = some .local := by first | exact .inl rfl | exact .inr rfl | assumption) :
    ZSt X (.Assign [.Name x pos'] e pos) (zNew tl i n) := by
  obtain ⟨t0, p0, s0⟩ := he.ok
  refine ⟨_, ps_set hN hi hx p0 hs hf, fun B F H α σ ρ D0 D R h k => s0 B F H α σ ρ _ _ R h fun F1 H1 ds ρ1 p R1 sb f q => ?_⟩
  refine k.nx F1 H1 _ _ _ ((R1.newC f q.1).put (s := .loc n) ?_) sb q.2
  show V.ref p = V.ref (if n = n then p else α n)
  rw [if_pos rfl]
/-- what a method does to a list that stands in a cell -/
def MtZ (K : PySem.W.Frag) (r : V → List V → Hp → VK → Prop) (eff : List D → List D → (D → List D → Prop) → Prop) : Prop :=
  ∀ (F H : Hp) (l : Addr) (xs : List V) (ds args : List D) (vs : List V) (P : D → List D → Prop) (Q : VK), Sub F H → H l = some (.lst xs) → IsL K F ds xs → IsL K F args vs → eff ds args P →
    (∀ z ds' xs' w, P z ds' → IsL K F ds' xs' → Is K F z w → Q w (upd H l (.lst xs'))) → r (.ref l) vs H Q
def zMut (eff : List D → List D → (D → List D → Prop) → Prop) (ta : ZT) (tr : ZR) : ZT := fun ρ Q => ta ρ fun s ρ1 => ∃ n ds0, s = .loc n ∧ ρ1.ce[n]? = some (some (.lst ds0)) ∧ tr ρ1 fun ss ρ2 => vwL ρ2 ss fun args p => p = false ∧ ∃ ds, ρ2.ce[n]? = some (some (.lst ds)) ∧
  eff ds args fun z ds' => Q (.val z) (ρ2.setCe n (.lst ds'))
theorem mut_core {K : PySem.W.Frag} {r : V → List V → Hp → VK → Prop} {eff : List D → List D → (D → List D → Prop) → Prop} (hz : MtZ K r eff) {B : Base} {F H F0 : Hp} {α : Nat → Addr} {σ : L2.St} {ρ : Env} {Q0 : VK} {Q : S → Env → Prop} {n : Nat} {ss : List S} {vs : List V}
    (R : Rel K B F H α σ ρ) (rs : RepSL K F α ss vs) (h : vwL ρ ss fun args p => p = false ∧ ∃ ds, ρ.ce[n]? = some (some (.lst ds)) ∧ eff ds args fun z ds' => Q (.val z) (ρ.setCe n (.lst ds')))
    (k : ∀ F' H' s ρ' v, Rel K B F' H' α σ ρ' → Sub F F' → RepS K F' α s v → Q s ρ' → Q0 v H') : r (.ref (α n)) vs H Q0 := by
  obtain ⟨args, i, ds, e, h⟩ := vals_of rs h
  obtain ⟨f1, xs, hx, ix⟩ := R.ce n _ e
  refine hz F H (α n) xs ds args vs _ Q0 R.sub hx ix i h fun z ds' xs' w q iz hw => ?_
  exact k F _ (.val z) _ w (R.setC (c := .lst ds') e ⟨xs', upd_same, iz⟩) (Sub.refl F) hw q
theorem ze_mut {name : Str} {id : String} {apos cpos : Pos} {r : V → List V → Hp → VK → Prop} {eff : List D → List D → (D → List D → Prop) → Prop} (pa : PlainAttrs "list") (slot : Slot "list" name id) (hty : typeOf (.builtin id) = pure (.type "method_descriptor")) (hm : MtR X id r) (hz : MtZ X.K r eff) (ho : ZE X o ta) (ha : ZA X (e :: es) tr)
    (hbase : attributeBase o name X.env (eval o X.env) = eval o X.env := by rfl)
    (hfew : ((backTo cpos (starEach (e :: es) X.env)).all (fun x => !x.1) && (backToKw cpos (keywordEach [] X.env)).all (fun x => x.1.isSome)
      && decide ((e :: es).length + ([] : List Keyword).length + (if ([] : List Keyword).isEmpty then 0 else 1) < 30)) = true := by rfl)
    (hline : (apos.endLine == cpos.line) = true := by rfl) (hs : starEach (e :: es) X.env = (false, eval e X.env) :: starEach es X.env := by rfl) (hplain : (backTo cpos (starEach es X.env)).any (·.1) = false := by rfl) :
    ZE X (.Call (.Attribute o name apos) (e :: es) [] cpos) (zMut eff ta tr) := by
  obtain ⟨t0, p0, s0⟩ := ho.ok
  obtain ⟨u0, p1, s1⟩ := ha.ok
  refine ⟨_, pe_bm pa slot hty hm p0 p1 hbase hfew hline hs hplain, fun B F H α σ ρ Q0 Q R h k => s0 B F H α σ ρ _ _ R h fun F1 H1 s ρ1 v R1 sb r1 q => ?_⟩
  obtain ⟨n, ds0, rfl, e0, q⟩ := q
  obtain ⟨_, xs, hx, _⟩ := R1.ce n _ e0
  have ev : v = .ref (α n) := r1
  subst ev
  refine ⟨.inl ⟨rfl, xs, .inl (.inl hx)⟩, s1 B F1 H1 α σ ρ1 _ _ R1 q fun F2 H2 ss ρ2 vs R2 sb2 r2 q2 => ?_⟩
  exact mut_core (F0 := F) hz R2 r2 q2 fun F' H' s ρ' v R' sb' r' q' => k F' H' s ρ' v R' ((sb.trans sb2).trans sb') r' q'
theorem ze_mut0 {name : Str} {id : String} {apos cpos : Pos} {r : V → List V → Hp → VK → Prop} {eff : List D → List D → (D → List D → Prop) → Prop} (pa : PlainAttrs "list") (slot : Slot "list" name id) (hty : typeOf (.builtin id) = pure (.type "method_descriptor")) (hm : MtR X id r) (hz : MtZ X.K r eff) (ho : ZE X o ta)
    (hbase : attributeBase o name X.env (eval o X.env) = eval o X.env := by rfl) (hline : (apos.endLine == cpos.line) = true := by rfl) :
    ZE X (.Call (.Attribute o name apos) [] [] cpos) (zMut eff ta zNil) := by
  obtain ⟨t0, p0, s0⟩ := ho.ok
  refine ⟨_, pe_bm0 pa slot hty hm p0 hbase hline, fun B F H α σ ρ Q0 Q R h k => s0 B F H α σ ρ _ _ R h fun F1 H1 s ρ1 v R1 sb r1 q => ?_⟩
  obtain ⟨n, ds0, rfl, e0, q⟩ := q
  obtain ⟨_, xs, hx, _⟩ := R1.ce n _ e0
  have ev : v = .ref (α n) := r1
  subst ev
  refine ⟨.inl ⟨rfl, xs, .inl (.inl hx)⟩, ?_⟩
  exact mut_core (F0 := F) (ss := []) (vs := []) hz R1 rfl q fun F' H' s ρ' v R' sb' r' q' => k F' H' s ρ' v R' (sb.trans sb') r' q'
def eApp : List D → List D → (D → List D → Prop) → Prop := fun ds args P => match args with
  | [d] => ds.length < 1000000 ∧ P .non (ds ++ [d])
  | _ => False
theorem mz_append {K : PySem.W.Frag} : MtZ K rAppend eApp := by
  intro F H l xs ds args vs P Q sb hx i ia h k
  unfold eApp at h
  split at h
  · rename_i d
    obtain ⟨v, r, rfl, hv, hr⟩ := ia
    have hr' : r = [] := hr
    subst hr'
    exact ⟨l, xs, v, rfl, rfl, hx, size_lt (by rw [i.length]; omega), k _ _ _ _ h.2 (i.append (IsL.one hv)) rfl⟩
  · exact h.elim
def eRev : List D → List D → (D → List D → Prop) → Prop := fun ds args P => args = [] ∧ P .non ds.reverse
theorem mz_reverse {K : PySem.W.Frag} : MtZ K rReverse eRev := by
  intro F H l xs ds args vs P Q sb hx i ia h k
  obtain ⟨rfl, h⟩ := h
  exact ⟨l, xs, rfl, ia, hx, k _ _ _ _ h i.reverse rfl⟩
def eClr : List D → List D → (D → List D → Prop) → Prop := fun ds args P => args = [] ∧ P .non []
theorem mz_clear {K : PySem.W.Frag} : MtZ K rClear eClr := by
  intro F H l xs ds args vs P Q sb hx i ia h k
  obtain ⟨rfl, h⟩ := h
  exact ⟨l, xs, rfl, ia, hx, k _ _ _ _ h rfl rfl⟩
def ePop : List D → List D → (D → List D → Prop) → Prop := fun ds args P => args = [] ∧ ∃ z, ds[ds.length - 1]? = some z ∧ P z ds.dropLast
theorem mz_pop {K : PySem.W.Frag} : MtZ K rPop ePop := by
  intro F H l xs ds args vs P Q sb hx i ia h k
  obtain ⟨rfl, z, ez, h⟩ := h
  obtain ⟨w, ew, iw⟩ := i.get ez
  have id' : IsL K F ds.dropLast xs.dropLast := by
    rw [List.dropLast_eq_take, List.dropLast_eq_take, i.length]
    exact i.take _
  exact ⟨l, xs, w, rfl, ia, hx, by rw [i.length]; exact ew, k _ _ _ _ h id' iw⟩
/-- x[i] = e -/
def zSetI (te ta tb : ZT) : ZS := fun D ρ => te ρ fun s ρ1 => ∃ d, s = .val d ∧ ta ρ1 fun so ρ2 => ∃ n, so = .loc n ∧ tb ρ2 fun si ρ3 => ∃ i ds j, si = .val (.int i) ∧ ρ3.ce[n]? = some (some (.lst ds)) ∧ ixN ds.length i = some j ∧ D.nx (ρ3.setCe n (.lst (ds.set j d)))
theorem zs_setI {i : Expr} {spos : Pos} (he : ZE X e tc) (ho : ZE X o ta) (hi : ZE X i tb)
    (ha : ∀ v, assign (.Subscript o i spos) X.env v = (do
      let ov ← holding [v] (eval o X.env)
      let iv ← holding [v, ov] (eval i X.env)
      standAt spos
      holding [v, ov, iv] (setItem ov iv v)
      release [v, ov, iv] []) := by intro _; rfl)
    (hs : swapsWithSole [.Subscript o i spos] e pos.line X.env = pure false := by rfl) (hw : swappedStores [.Subscript o i spos] e X.env = pure none := by rfl)
    (h1 : (assignEach [.Subscript o i spos] X.env).map (·.2) = [assign (.Subscript o i spos) X.env] := by rfl) : ZSt X (.Assign [.Subscript o i spos] e pos) (zSetI tc ta tb) := by
  obtain ⟨t0, p0, s0⟩ := he.ok
  obtain ⟨t1, p1, s1⟩ := ho.ok
  obtain ⟨t2, p2, s2⟩ := hi.ok
  refine ⟨_, ps_asg p0 (pg_sub p1 p2 set_list ha) hs hw h1, fun B F H α σ ρ D0 D R h k => s0 B F H α σ ρ _ _ R h fun F1 H1 s ρ1 v R1 sb1 r1 q1 => ?_⟩
  obtain ⟨d, rfl, q1⟩ := q1
  refine s1 B F1 H1 α σ ρ1 _ _ R1 q1 fun F2 H2 so ρ2 vo R2 sb2 r2 q2 => ?_
  obtain ⟨n, rfl, q2⟩ := q2
  refine s2 B F2 H2 α σ ρ2 _ _ R2 q2 fun F3 H3 si ρ3 vi R3 sb3 r3 q3 => ?_
  obtain ⟨i', ds, j, rfl, e3, ej, q3⟩ := q3
  obtain ⟨f3, xs, hx, ix⟩ := R3.ce n _ e3
  have eo : vo = .ref (α n) := r2
  have ei : vi = .int i' := r3
  subst eo
  subst ei
  refine ⟨α n, xs, i', j, rfl, rfl, hx, by rw [ix.length]; exact ej, ?_⟩
  exact k.nx F3 _ α σ _ (R3.setC (c := .lst (ds.set j d)) e3 ⟨xs.set j v, upd_same, ix.set (Is.mono (sb2.trans sb3) _ _ r1) j⟩) ((sb1.trans sb2).trans sb3) q3

/-! ### loops -/
def zFor (isT : Bool) (ta : ZT) (g : ZG) (t : ZS) : ZS := fun D ρ => ta ρ fun s ρ1 => ∃ ds, s = .val (if isT then .tup ds else .lst ds) ∧ ∃ W : Nat → Env → Prop, W 0 ρ1 ∧
  (∀ (i : Nat) ρ d, W i ρ → ds[i]? = some d → g d ρ fun ρ' => t { D with nx := W (i + 1), ct := W (i + 1), bk := D.nx } ρ') ∧ ∀ ρ, W ds.length ρ → D.nx ρ
theorem zs_for {tg iter : Expr} {g : ZG} (hp : PassesOwn (model X.prog X.w) X.A X.env X.xe) (hc : X.calm = true) (hi : ZE X iter ta) (hg : ZGt X tg g) (hb : ZSs X body t) (hs : ∀ x, foldedSetIterable iter X.env x = pure x := by intro _; rfl)
    (isT : Bool) : ZSt X (.For tg iter body [] pos) (zFor isT ta g t) := by
  obtain ⟨t0, p0, s0⟩ := hi.ok
  obtain ⟨g0, pg, sg⟩ := hg.ok
  obtain ⟨b0, pb, sbd⟩ := hb.ok
  cases isT with
  | false =>
    refine ⟨_, ps_for hp hc (pi_list p0) pg pb hs, fun B F H α σ ρ D0 D R h k => s0 B F H α σ ρ _ _ R h fun F1 H1 s ρ1 v R1 sb1 r1 q1 => ?_⟩
    obtain ⟨ds, rfl, W, w0, turn, done⟩ := q1
    obtain ⟨a, vs, rfl, ha, hl⟩ := r1
    refine ⟨a, rfl, ⟨vs, .inl (.inl (R1.sub _ _ ha))⟩, for_list (K := X.K) (a := a) (xs := vs) (fun i σ' H' => ∃ F' α' ρ', Rel X.K B F' H' α' σ' ρ' ∧ Sub F1 F' ∧ W i ρ') ⟨F1, α, ρ1, R1, Sub.refl F1, w0⟩ (fun i σ' H' _ ⟨F', α', ρ', R', sb', _⟩ => .inl (.inl (R'.sub _ _ (sb' _ _ ha)))) ?_ ?_⟩
    · rintro i x σ' H' hx ⟨F', α', ρ', R', sb', w'⟩
      have hi : i < ds.length := by rw [← hl.length]; exact (List.getElem?_eq_some_iff.mp hx).1
      obtain ⟨v', ev, iv⟩ := hl.get (List.getElem?_eq_getElem hi)
      rw [hx] at ev
      cases ev
      refine sg B F' H' α' σ' ρ' ds[i] x _ _ R' (Is.mono sb' _ _ iv) (turn i ρ' _ w' (List.getElem?_eq_getElem hi)) fun σ2 ρ2 R2 q2 => ?_
      refine sbd B F' H' α' σ2 ρ2 _ _ R2 q2 ⟨fun F3 H3 α3 σ3 ρ3 R3 sb3 q3 => ⟨F3, α3, ρ3, R3, sb'.trans sb3, q3⟩, ?_, ?_, fun F3 H3 α3 σ3 ρ3 R3 sb3 q3 => ⟨F3, α3, ρ3, R3, sb'.trans sb3, q3⟩⟩
      · exact fun F3 H3 α3 σ3 ρ3 r v R3 sb3 rv q3 => k.rt F3 H3 α3 σ3 ρ3 r v R3 ((sb1.trans sb').trans sb3) rv q3
      · exact fun F3 H3 α3 σ3 ρ3 R3 sb3 q3 => k.nx F3 H3 α3 σ3 ρ3 R3 ((sb1.trans sb').trans sb3) q3
    · rintro σ' H' ⟨F', α', ρ', R', sb', w'⟩
      rw [hl.length] at w'
      exact k.nx F' H' α' σ' ρ' R' (sb1.trans sb') (done ρ' w')
  | true =>
    refine ⟨_, ps_for hp hc (pi_tup p0) pg pb hs, fun B F H α σ ρ D0 D R h k => s0 B F H α σ ρ _ _ R h fun F1 H1 s ρ1 v R1 sb1 r1 q1 => ?_⟩
    obtain ⟨ds, rfl, W, w0, turn, done⟩ := q1
    obtain ⟨a, vs, rfl, ha, hl⟩ := r1
    have ha' : SqT X.K F1 a vs := .inl (.inl ha)
    refine ⟨a, rfl, ⟨vs, R1.sub.sqT ha'⟩, for_tup (K := X.K) (a := a) (xs := vs) (fun i σ' H' => ∃ F' α' ρ', Rel X.K B F' H' α' σ' ρ' ∧ Sub F1 F' ∧ W i ρ') ⟨F1, α, ρ1, R1, Sub.refl F1, w0⟩ (fun i σ' H' _ ⟨F', α', ρ', R', sb', _⟩ => R'.sub.sqT (sb'.sqT ha')) ?_ ?_⟩
    · rintro i x σ' H' hx ⟨F', α', ρ', R', sb', w'⟩
      have hi : i < ds.length := by rw [← hl.length]; exact (List.getElem?_eq_some_iff.mp hx).1
      obtain ⟨v', ev, iv⟩ := hl.get (List.getElem?_eq_getElem hi)
      rw [hx] at ev
      cases ev
      refine sg B F' H' α' σ' ρ' ds[i] x _ _ R' (Is.mono sb' _ _ iv) (turn i ρ' _ w' (List.getElem?_eq_getElem hi)) fun σ2 ρ2 R2 q2 => ?_
      refine sbd B F' H' α' σ2 ρ2 _ _ R2 q2 ⟨fun F3 H3 α3 σ3 ρ3 R3 sb3 q3 => ⟨F3, α3, ρ3, R3, sb'.trans sb3, q3⟩, ?_, ?_, fun F3 H3 α3 σ3 ρ3 R3 sb3 q3 => ⟨F3, α3, ρ3, R3, sb'.trans sb3, q3⟩⟩
      · exact fun F3 H3 α3 σ3 ρ3 r v R3 sb3 rv q3 => k.rt F3 H3 α3 σ3 ρ3 r v R3 ((sb1.trans sb').trans sb3) rv q3
      · exact fun F3 H3 α3 σ3 ρ3 R3 sb3 q3 => k.nx F3 H3 α3 σ3 ρ3 R3 ((sb1.trans sb').trans sb3) q3
    · rintro σ' H' ⟨F', α', ρ', R', sb', w'⟩
      rw [hl.length] at w'
      exact k.nx F' H' α' σ' ρ' R' (sb1.trans sb') (done ρ' w')
end
end Z

set_option Elab.async false
set_option linter.all false
set_option maxRecDepth 100000
namespace Z
open PySem PySem.Spec PyProof.Rows L2

section
variable {X : Cx} {pos : Pos} {a b c e o : Expr} {es : List Expr} {st : Stmt} {rest body : List Stmt} {ta tb tc : ZT} {tl : ZL} {tr : ZR} {ca cb : ZC} {t u : ZS}
/-! ### for over a range, while -/
def zForR (tr : ZR) (g : ZG) (t : ZS) : ZS := fun D ρ => tr ρ fun ss ρ1 => ∃ n : Int, ss = [.val (.int n)] ∧ (-1000000000000 ≤ n ∧ n ≤ 1000000000000) ∧ ∃ W : Nat → Env → Prop, W 0 ρ1 ∧
  (∀ (i : Nat) ρ, W i ρ → (i : Int) < n → g (.int i) ρ fun ρ' => t { D with nx := W (i + 1), ct := W (i + 1), bk := D.nx } ρ') ∧ ∀ ρ, W n.toNat ρ → D.nx ρ
theorem zs_forR {tg : Expr} {g : ZG} {p pos' : Pos} (hp : PassesOwn (model X.prog X.w) X.A X.env X.xe) (hc : X.calm = true) (hm : X.mg "range" = none) (ha : ZA X [a] tr) (hgt : ZGt X tg g) (hb : ZSs X body t) (hg : Gl X "range" := by rfl)
    (hst : starEach [a] X.env = [(false, eval a X.env)] := by rfl) (hs : ∀ x, foldedSetIterable (.Call (.Name "range" p) [a] [] pos') X.env x = pure x := by intro _; rfl) :
    ZSt X (.For tg (.Call (.Name "range" p) [a] [] pos') body [] pos) (zForR tr g t) := by
  obtain ⟨t0, p0, s0⟩ := ha.ok
  obtain ⟨g0, pg, sg⟩ := hgt.ok
  obtain ⟨b0, pb, sbd⟩ := hb.ok
  refine ⟨_, ps_for hp hc (pi_range1 hg hm p0 hst) pg pb hs, fun B F H α σ ρ D0 D R h k => s0 B F H α σ ρ _ _ R h fun F1 H1 ss ρ1 vs R1 sb1 r1 q1 => ?_⟩
  obtain ⟨n, rfl, hn, W, w0, turn, done⟩ := q1
  obtain ⟨v, vr, rfl, hv, hvr⟩ := r1
  have hvr' : vr = [] := hvr
  have hv' : v = .int n := hv
  subst hvr'
  subst hv'
  refine ⟨n, rfl, by omega, by omega, for_range (lo := 0) (n := n.toNat) (fun i σ' H' => ∃ F' α' ρ', Rel X.K B F' H' α' σ' ρ' ∧ Sub F1 F' ∧ W i ρ') ⟨F1, α, ρ1, R1, Sub.refl F1, w0⟩ ?_ ?_⟩
  · rintro i σ' H' hi ⟨F', α', ρ', R', sb', w'⟩
    have ei : (0 : Int) + (i : Int) = (i : Int) := Int.zero_add _
    rw [ei]
    refine sg B F' H' α' σ' ρ' (.int i) (.int i) _ _ R' rfl (turn i ρ' w' (by omega)) fun σ2 ρ2 R2 q2 => ?_
    refine sbd B F' H' α' σ2 ρ2 _ _ R2 q2 ⟨fun F3 H3 α3 σ3 ρ3 R3 sb3 q3 => ⟨F3, α3, ρ3, R3, sb'.trans sb3, q3⟩, ?_, ?_, fun F3 H3 α3 σ3 ρ3 R3 sb3 q3 => ⟨F3, α3, ρ3, R3, sb'.trans sb3, q3⟩⟩
    · exact fun F3 H3 α3 σ3 ρ3 r v R3 sb3 rv q3 => k.rt F3 H3 α3 σ3 ρ3 r v R3 ((sb1.trans sb').trans sb3) rv q3
    · exact fun F3 H3 α3 σ3 ρ3 R3 sb3 q3 => k.nx F3 H3 α3 σ3 ρ3 R3 ((sb1.trans sb').trans sb3) q3
  · rintro σ' H' ⟨F', α', ρ', R', sb', w'⟩
    exact k.nx F' H' α' σ' ρ' R' (sb1.trans sb') (done ρ' w')
def zWhile (ca : ZC) (t : ZS) : ZS := fun D ρ => ∃ W : Nat → Env → Prop, (∃ m, W m ρ) ∧ ∀ m ρ, W m ρ → ca ρ fun b ρ1 => if b = true then t { D with nx := fun ρ' => ∃ m', m' < m ∧ W m' ρ', ct := fun ρ' => ∃ m', m' < m ∧ W m' ρ', bk := D.nx } ρ1 else D.nx ρ1
theorem zs_while (hp : PassesOwn (model X.prog X.w) X.A X.env X.xe) (hc : ZQ X c ca) (hb : ZSs X body t) : ZSt X (.While c body [] pos) (zWhile ca t) := by
  obtain ⟨c0, pc, sc⟩ := hc.ok
  obtain ⟨b0, pb, sbd⟩ := hb.ok
  refine ⟨_, ps_while hp pc pb, fun B F H α σ ρ D0 D R h k => ?_⟩
  obtain ⟨W, ⟨m0, w0⟩, turn⟩ := h
  refine ⟨fun m σ' H' => ∃ F' α' ρ', Rel X.K B F' H' α' σ' ρ' ∧ Sub F F' ∧ W m ρ', ⟨m0, F, α, ρ, R, Sub.refl F, w0⟩, ?_⟩
  rintro m σ' H' ⟨F', α', ρ', R', sb', w'⟩
  refine sc B F' H' α' σ' ρ' _ _ R' (turn m ρ' w') fun F1 H1 b ρ1 R1 sb1 q1 => ?_
  cases b with
  | true =>
    refine ⟨fun σ2 H2 => ∃ F' α' ρ', Rel X.K B F' H2 α' σ2 ρ' ∧ Sub F F' ∧ ∃ m', m' < m ∧ W m' ρ', fun σ2 H2 ⟨F2, α2, ρ2, R2, sb2, m', lt, w2⟩ => ⟨m', lt, F2, α2, ρ2, R2, sb2, w2⟩, ?_⟩
    refine sbd B F1 H1 α' σ' ρ1 _ _ R1 q1 ⟨fun F3 H3 α3 σ3 ρ3 R3 sb3 q3 => ⟨F3, α3, ρ3, R3, (sb'.trans sb1).trans sb3, q3⟩, ?_, ?_, fun F3 H3 α3 σ3 ρ3 R3 sb3 q3 => ⟨F3, α3, ρ3, R3, (sb'.trans sb1).trans sb3, q3⟩⟩
    · exact fun F3 H3 α3 σ3 ρ3 r v R3 sb3 rv q3 => k.rt F3 H3 α3 σ3 ρ3 r v R3 ((sb'.trans sb1).trans sb3) rv q3
    · exact fun F3 H3 α3 σ3 ρ3 R3 sb3 q3 => k.nx F3 H3 α3 σ3 ρ3 R3 ((sb'.trans sb1).trans sb3) q3
  | false => exact k.nx F1 H1 α' σ' ρ1 R1 (sb'.trans sb1) q1

/-! ### instances -/
theorem zip_lookup {K : PySem.W.Frag} {F : Hp} {f : Str} : ∀ {ns : List Str} {ds : List D} {vs : List V} {d : D}, IsL K F ds vs → (ns.zip ds).lookup f = some d → ∃ v, (ns.zip vs).lookup f = some v ∧ Is K F d v
  | [], _, _, _, _, h => by simp at h
  | n :: ns, [], _, _, _, h => by simp at h
  | n :: ns, d0 :: ds, _, d, ⟨v, r, e, h1, h2⟩, h => by
    subst e
    rw [List.zip_cons_cons, List.lookup_cons] at h
    rw [List.zip_cons_cons, List.lookup_cons]
    split at h
    · cases h
      exact ⟨v, rfl, h1⟩
    · exact zip_lookup h2 h
theorem zip_lookupS {K : PySem.W.Frag} {F : Hp} {α : Nat → Addr} {f : Str} : ∀ {ns : List Str} {ds : List S} {vs : List V} {d : S}, RepSL K F α ds vs → (ns.zip ds).lookup f = some d → ∃ v, (ns.zip vs).lookup f = some v ∧ RepS K F α d v
  | [], _, _, _, _, h => by simp at h
  | n :: ns, [], _, _, _, h => by simp at h
  | n :: ns, d0 :: ds, _, d, ⟨v, r, e, h1, h2⟩, h => by
    subst e
    rw [List.zip_cons_cons, List.lookup_cons] at h
    rw [List.zip_cons_cons, List.lookup_cons]
    split at h
    · cases h
      exact ⟨v, rfl, h1⟩
    · exact zip_lookupS h2 h
/-- o.f: of data, or of an object that stands in a cell -/
def fldK (C : Addr) (f : Str) (Q : S → Env → Prop) (s : S) (ρ1 : Env) : Prop := match s with
  | .val (.ins A ns ds) => A = C ∧ ∃ d, (ns.zip ds).lookup f = some d ∧ Q (.val d) ρ1
  | .loc n => ∃ ns ss s', ρ1.ce[n]? = some (some (.ins C ns ss)) ∧ (ns.zip ss).lookup f = some s' ∧ Q s' ρ1
  | _ => False
def zFld (C : Addr) (f : Str) (ta : ZT) : ZT := fun ρ Q => ta ρ fun s ρ1 => fldK C f Q s ρ1
theorem ze_fld {C : Addr} {f : Str} (hc : Cls X.K C) (hn : NoAttr X.K C f) (ha : ZE X e ta) (hb : attributeBase e f X.env (eval e X.env) = eval e X.env := by rfl) : ZE X (.Attribute e f pos) (zFld C f ta) := by
  obtain ⟨t0, p0, s0⟩ := ha.ok
  refine ⟨_, pe_fld p0 hb, fun B F H α σ ρ Q0 Q R h k => s0 B F H α σ ρ _ _ R h fun F1 H1 s ρ1 v R1 sb r q => ?_⟩
  unfold fldK at q
  split at q
  · rename_i A ns ds
    obtain ⟨rfl, d, e1, q⟩ := q
    obtain ⟨a, dx, vs, rfl, h1, hl, h2⟩ := r
    obtain ⟨w, ew, iw⟩ := zip_lookup h2 e1
    exact ⟨a, A, dx, _, w, rfl, R1.sub _ _ h1, hc, hn, ew, k F1 H1 (.val d) ρ1 w R1 sb iw q⟩
  · rename_i n
    obtain ⟨ns, ss, s', e1, e2, q⟩ := q
    obtain ⟨_, dx, vs, h1, hl, h2⟩ := R1.ce n _ e1
    obtain ⟨w, ew, iw⟩ := zip_lookupS h2 e2
    have ev : v = .ref (α n) := r
    exact ⟨α n, C, dx, _, w, ev, h1, hc, hn, ew, k F1 H1 s' ρ1 w R1 sb iw q⟩
  · exact q.elim
/-- o.f = e, of an object that stands in a cell -/
def putN (f : Str) (s : S) : List Str → List S → List Str × List S
  | n :: ns, x :: ss => if n = f then (n :: ns, s :: ss) else (n :: (putN f s ns ss).1, x :: (putN f s ns ss).2)
  | ns, ss => ([f], [s])
theorem putN_zip {K : PySem.W.Frag} {F : Hp} {α : Nat → Addr} {f : Str} {s : S} {v : V} (h : RepS K F α s v) : ∀ {ns : List Str} {ss : List S} {vs : List V}, ns.length = vs.length → RepSL K F α ss vs →
    ∃ vs', putF f v (ns.zip vs) = (putN f s ns ss).1.zip vs' ∧ (putN f s ns ss).1.length = vs'.length ∧ RepSL K F α (putN f s ns ss).2 vs'
  | [], [], _, hl, r => by
    cases r
    exact ⟨[v], rfl, rfl, v, [], rfl, h, rfl⟩
  | [], x :: ss, _, hl, r => by
    obtain ⟨w, r, rfl, _⟩ := r
    simp at hl
  | n :: ns, [], _, hl, r => by
    cases r
    simp at hl
  | n :: ns, x :: ss, _, hl, ⟨w, r, e, h1, h2⟩ => by
    subst e
    have hl' : ns.length = r.length := by simpa using hl
    by_cases q : n = f
    · refine ⟨v :: r, ?_, ?_, ?_⟩
      · show (if n = f then (n, v) :: ns.zip r else (n, w) :: putF f v (ns.zip r)) = _
        rw [if_pos q]
        simp only [putN, if_pos q, List.zip_cons_cons]
      · simp only [putN, if_pos q, List.length_cons, hl']
      · simp only [putN, if_pos q]
        exact ⟨v, r, rfl, h, h2⟩
    · obtain ⟨vs', e1, e2, e3⟩ := putN_zip (ns := ns) (ss := ss) h hl' h2
      refine ⟨w :: vs', ?_, ?_, ?_⟩
      · show (if n = f then (n, v) :: ns.zip r else (n, w) :: putF f v (ns.zip r)) = _
        rw [if_neg q, e1]
        simp only [putN, if_neg q, List.zip_cons_cons]
      · simp only [putN, if_neg q, List.length_cons, e2]
      · simp only [putN, if_neg q]
        exact ⟨w, vs', rfl, h1, e3⟩
def zSetF (C : Addr) (f : Str) (te ta : ZT) : ZS := fun D ρ => te ρ fun s ρ1 => ta ρ1 fun so ρ2 => ∃ n ns ss, so = .loc n ∧ ρ2.ce[n]? = some (some (.ins C ns ss)) ∧ ns.length < 900 ∧ D.nx (ρ2.setCe n (.ins C (putN f s ns ss).1 (putN f s ns ss).2))
theorem zs_setF {C : Addr} {f : Str} {pos' : Pos} (hc : Cls X.K C) (hn : NoAttr X.K C f) (ho : ZE X o ta) (he : ZE X e tc) (hs : swapsWith e (some (.Attribute o f pos')) pos.line X.env = pure false := by rfl) : ZSt X (.Assign [.Attribute o f pos'] e pos) (zSetF C f tc ta) := by
  obtain ⟨t0, p0, s0⟩ := he.ok
  obtain ⟨t1, p1, s1⟩ := ho.ok
  refine ⟨_, ps_fld p1 p0 hs, fun B F H α σ ρ D0 D R h k => s0 B F H α σ ρ _ _ R h fun F1 H1 s ρ1 v R1 sb1 r1 q1 => s1 B F1 H1 α σ ρ1 _ _ R1 q1 fun F2 H2 so ρ2 vo R2 sb2 r2 q2 => ?_⟩
  obtain ⟨n, ns, ss, rfl, e2, hl, q2⟩ := q2
  obtain ⟨f2, dx, vs, h1, h2, h3⟩ := R2.ce n _ e2
  have ev : vo = .ref (α n) := r2
  obtain ⟨vs', z1, z2, z3⟩ := putN_zip (f := f) (r1.mono sb2) h2 h3
  refine ⟨α n, C, dx, _, ev, h1, hc, hn, ?_, ?_⟩
  · rw [List.length_zip]; omega
  · exact k.nx F2 _ α σ _ (R2.setC (c := .ins C (putN f s ns ss).1 (putN f s ns ss).2) e2 ⟨dx, vs', by rw [upd_same, z1], z2, z3⟩) (sb1.trans sb2) q2

/-! ### an instance made: data at once -/
def gMake (C : Addr) (g : G) : List D → (D → Prop) → Prop := fun ds P => g (.loc 0 :: ds.map .val) [.ins C [] []] (fun r cs => ∃ ns zs, r = .val .non ∧ cs = [.ins C ns (zs.map .val)] ∧ P (.ins C ns zs)) (fun _ _ => False)
theorem repSL_isL {K : PySem.W.Frag} {F : Hp} {α : Nat → Addr} : ∀ {ds : List D} {vs : List V}, RepSL K F α (ds.map .val) vs → IsL K F ds vs
  | [], _, h => h
  | _ :: _, _, ⟨v, r, e, h, t⟩ => ⟨v, r, e, h, repSL_isL t⟩
theorem pr_make {K : PySem.W.Frag} {C : Addr} {g : G} : PrZ K (fun vs H Q => ∀ x dx, H x = none → H dx = none → dx ≠ x → spZ K g (.ref x :: vs) (upd (upd H dx (.own x)) x (.ins C dx [])) (fun v H2 => v = .non ∧ Q (.ref x) H2) E0) (gMake C g) := by
  intro F H ds vs P Q sb i hg k x dx nx ndx nex
  have s1 : Sub H (upd (upd H dx (.own x)) x (.ins C dx [])) := fun b o e => by
    rw [upd_ne (ne_of_none e nx), upd_ne (ne_of_none e ndx)]; exact e
  refine ⟨F, fun _ => x, .loc 0 :: ds.map .val, [.ins C [] []], _, _, ⟨sb.trans s1, ⟨.ref x, vs, rfl, rfl, repSL_vals i⟩, fun n c e => ?_, fun n m hn hm _ => ?_⟩, hg, ?_, fun _ _ _ _ z _ => z.elim⟩
  · cases n with
    | zero =>
      cases e
      exact ⟨sb.none nx, dx, [], upd_same, rfl, rfl⟩
    | succ n => simp at e
  · simp at hn hm; omega
  intro r cs' F' H' v hP hp hr
  obtain ⟨ns, zs, rfl, rfl, hP⟩ := hP
  have hv : v = .non := hr
  refine ⟨hv, ?_⟩
  obtain ⟨dx', vs', h1, h2, h3⟩ := hp.ce 0 _ rfl
  have hF : F' x = none := hp.fr x (by rw [upd_same]; exact fun z => by cases z) (sb.none nx)
  have hx : H' x = some (.ins C dx' (ns.zip vs')) := h1
  refine k (.ins C ns zs) (upd F' x (.ins C dx' (ns.zip vs'))) H' (.ref x) hP ⟨hp.f.trans (Sub.self hF), fun b o e => ?_, fun b o e => ?_, fun b hb n => ?_⟩ ⟨x, dx', vs', rfl, upd_same, h2, IsL.mono (Sub.self hF) _ _ (repSL_isL h3)⟩
  · exact hp.kept b o (s1 b o e) fun i _ => (ne_of_none e nx).symm
  · by_cases z : b = x
    · subst z; rw [upd_same] at e; rw [hx]; exact e
    · rw [upd_ne z] at e; exact hp.fh b o e
  · rw [upd_ne (fun z => hb (by rw [z]; exact nx))]
    refine hp.fr b (fun z => hb ?_) n
    cases q : H b with
    | none => rfl
    | some o => rw [s1 b o q] at z; cases z
def zMake (C : Addr) (g : G) (tr : ZR) : ZT := zCB (gMake C g) tr
/-- what stands of a class, for its calls -/
structure Mkr (X : Cx) (k : Nat) (x : Str) (C : Addr) (g : G) : Prop where
  ok : ∃ (CX : CXT) (f : Addr) (fd : FuncData) (ps : List Str), Mk X.K C f ∧ FnOk X.prog X.w X.K X.mg X.base CX k f fd ps (spZ X.K g) ∧ X.mg x = some (.ref C) ∧ Binds X.K fd ps [] ∧ Passes CX X E0
theorem ze_make {k : Nat} {x : Str} {p : Pos} {C : Addr} {g : G} (M : Mkr X k x C g) (hr : Room (k + 1) X.A) (ha : ZA X (e :: es) tr) (hg : Gl X x := by rfl) (hdb : (x == ("__debug__" : Str)) = false := by decide)
    (he : starEach (e :: es) X.env = (false, eval e X.env) :: starEach es X.env := by rfl) (hpl : (backTo pos (starEach es X.env)).any (·.1) = false := by rfl) : ZE X (.Call (.Name x p) (e :: es) [] pos) (zMake C g tr) := by
  obtain ⟨t0, p0, s0⟩ := ha.ok
  obtain ⟨CX, f, fd, ps, M, F, hm, hb, hx⟩ := M.ok
  refine ⟨_, pe_make M F hr hg hm hb .nil hx p0 hdb he hpl, fun B F' H α σ ρ Q0 Q R h k => ?_⟩
  refine snd_cb (r := fun vs H Q => ∀ x dx, H x = none → H dx = none → dx ≠ x → spZ X.K g (.ref x :: (vs ++ [])) (upd (upd H dx (.own x)) x (.ins C dx [])) (fun v H2 => v = .non ∧ Q (.ref x) H2) E0) s0 ?_ B F' H α σ ρ Q0 Q R h k
  simp only [List.append_nil]
  exact pr_make

/-! ### methods of data -/
def zMeth (C : Addr) (m : Str) (g : G) (ta : ZT) (tr : ZR) : ZT := fun ρ Q => ta ρ fun s ρ1 => ∃ ns ds0, s = .val (.ins C ns ds0) ∧ ns.contains m = false ∧ tr ρ1 fun ss ρ2 => vwL ρ2 (s :: ss) fun ds p => g (ds.map .val) [] (fun r _ => match r with
  | .val z => okP p z ∧ Q (.val z) ρ2
  | .fr _ => False) (fun _ _ => False)
def zMethF (C : Addr) (m : Str) (g : G) (ta : ZT) (tr : ZR) : ZL := fun ρ Q => ta ρ fun s ρ1 => ∃ ns ds0, s = .val (.ins C ns ds0) ∧ ns.contains m = false ∧ tr ρ1 fun ss ρ2 => vwL ρ2 (s :: ss) fun ds p => g (ds.map .val) [] (fun r _ => match r with
  | .val _ => False
  | .fr zs => okL p zs ∧ Q zs ρ2) (fun _ _ => False)
theorem lookup_no {f : Str} : ∀ {ns : List Str} {vs : List V}, ns.contains f = false → (ns.zip vs).lookup f = none
  | [], _, _ => rfl
  | n :: ns, [], _ => rfl
  | n :: ns, v :: vs, h => by
    rw [List.contains_cons, Bool.or_eq_false_iff] at h
    rw [List.zip_cons_cons, List.lookup_cons, h.1]
    exact lookup_no h.2
structure Mth (X : Cx) (k : Nat) (C : Addr) (m : Str) (g : G) : Prop where
  ok : ∃ (CX : CXT) (f : Addr) (fd : FuncData) (ps : List Str), Cls X.K C ∧ Meth X.K C m f ∧ FnOk X.prog X.w X.K X.mg X.base CX k f fd ps (spZ X.K g) ∧ Binds X.K fd ps [] ∧ Passes CX X E0
theorem snd_meth {K : PySem.W.Frag} {C : Addr} {m : Str} {g : G} {t0 : TE} {u0 : TA} (h0 : SndE K t0 ta) (h1 : SndR K u0 tr) : SndE K (tMeth C m (spZ K g) [] E0 t0 u0) (zMeth C m g ta tr) := by
  intro B F H α σ ρ Q0 Q R h k
  refine h0 B F H α σ ρ _ _ R h fun F1 H1 s ρ1 v R1 sb1 r1 q1 => ?_
  obtain ⟨ns, ds0, rfl, hm, q1⟩ := q1
  obtain ⟨a, dx, vs, rfl, e1, e2, e3⟩ := id r1
  refine ⟨a, dx, _, rfl, R1.sub _ _ e1, lookup_no hm, h1 B F1 H1 α σ ρ1 _ _ R1 q1 fun F2 H2 ss ρ2 vs2 R2 sb2 r2 q2 => ?_⟩
  show spZ K g (V.ref a :: (vs2 ++ [])) H2 Q0 E0
  rw [List.append_nil]
  exact R2.prim (ss := .val (.ins C ns ds0) :: ss) (g := fun ds P => g (ds.map .val) [] (fun r _ => match r with
    | .val z => P z
    | .fr _ => False) (fun _ _ => False)) (Q := fun z => Q (.val z) ρ2) ⟨.ref a, vs2, rfl, (show RepS K F1 α (.val (.ins C ns ds0)) (.ref a) from r1).mono sb2, r2⟩ q2 pr_sp fun z F' H' w qz R' sb i => k F' H' (.val z) ρ2 w R' ((sb1.trans sb2).trans sb) i qz
theorem snd_methF {K : PySem.W.Frag} {C : Addr} {m : Str} {g : G} {t0 : TE} {u0 : TA} (h0 : SndE K t0 ta) (h1 : SndR K u0 tr) : SndL K (tMeth C m (spZ K g) [] E0 t0 u0) (zMethF C m g ta tr) := by
  intro B F H α σ ρ Q0 Q R h k
  refine h0 B F H α σ ρ _ _ R h fun F1 H1 s ρ1 v R1 sb1 r1 q1 => ?_
  obtain ⟨ns, ds0, rfl, hm, q1⟩ := q1
  obtain ⟨a, dx, vs, rfl, e1, e2, e3⟩ := id r1
  refine ⟨a, dx, _, rfl, R1.sub _ _ e1, lookup_no hm, h1 B F1 H1 α σ ρ1 _ _ R1 q1 fun F2 H2 ss ρ2 vs2 R2 sb2 r2 q2 => ?_⟩
  show spZ K g (V.ref a :: (vs2 ++ [])) H2 Q0 E0
  rw [List.append_nil]
  exact R2.primL (ss := .val (.ins C ns ds0) :: ss) (g := fun ds P => g (ds.map .val) [] (fun r _ => match r with
    | .val _ => False
    | .fr zs => P zs) (fun _ _ => False)) (Q := fun z => Q z ρ2) ⟨.ref a, vs2, rfl, (show RepS K F1 α (.val (.ins C ns ds0)) (.ref a) from r1).mono sb2, r2⟩ q2 pr_spL fun z F' H' w qz R' sb i => k F' H' z ρ2 w R' ((sb1.trans sb2).trans sb) i qz
theorem ze_meth {k : Nat} {C : Addr} {m : Str} {g : G} {apos : Pos} {pl : Sem Bool} (M : Mth X k C m g) (hr : Room k X.A) (ho : ZE X o ta) (ha : ZA X (e :: es) tr)
    (hst : starEach (e :: es) X.env = (false, eval e X.env) :: starEach es X.env := by rfl) (hpl : (backTo pos (starEach es X.env)).any (·.1) = false := by rfl)
    (ht : eval (.Call (.Attribute o m apos) (e :: es) [] pos) X.env = (do
      let ov ← eval o X.env
      standAt apos.atName
      let (f, first) ← holding [ov] (getMethod ov m pl)
      callWith pos f first (backTo pos (starEach (e :: es) X.env)) (backToKw pos (keywordEach [] X.env))) := by rfl) : ZE X (.Call (.Attribute o m apos) (e :: es) [] pos) (zMeth C m g ta tr) := by
  obtain ⟨t0, p0, s0⟩ := ho.ok
  obtain ⟨u0, p1, s1⟩ := ha.ok
  obtain ⟨CX, f, fd, ps, c, m, F, hb, hx⟩ := M.ok
  exact ⟨_, pe_meth (pl := pl) p0 c m F hr hb .nil hx p1 hst hpl ht, snd_meth s0 s1⟩
theorem zf_meth {k : Nat} {C : Addr} {m : Str} {g : G} {apos : Pos} {pl : Sem Bool} (M : Mth X k C m g) (hr : Room k X.A) (ho : ZE X o ta) (ha : ZA X (e :: es) tr)
    (hst : starEach (e :: es) X.env = (false, eval e X.env) :: starEach es X.env := by rfl) (hpl : (backTo pos (starEach es X.env)).any (·.1) = false := by rfl)
    (ht : eval (.Call (.Attribute o m apos) (e :: es) [] pos) X.env = (do
      let ov ← eval o X.env
      standAt apos.atName
      let (f, first) ← holding [ov] (getMethod ov m pl)
      callWith pos f first (backTo pos (starEach (e :: es) X.env)) (backToKw pos (keywordEach [] X.env))) := by rfl) : ZF X (.Call (.Attribute o m apos) (e :: es) [] pos) (zMethF C m g ta tr) := by
  obtain ⟨t0, p0, s0⟩ := ho.ok
  obtain ⟨u0, p1, s1⟩ := ha.ok
  obtain ⟨CX, f, fd, ps, c, m, F, hb, hx⟩ := M.ok
  exact ⟨_, pe_meth (pl := pl) p0 c m F hr hb .nil hx p1 hst hpl ht, snd_methF s0 s1⟩
theorem ze_meth0 {k : Nat} {C : Addr} {m : Str} {g : G} {apos : Pos} {pl : Sem Bool} (M : Mth X k C m g) (hr : Room k X.A) (ho : ZE X o ta) (ha : ZA X [] zNil)
    (ht : eval (.Call (.Attribute o m apos) [] [] pos) X.env = (do
      let ov ← eval o X.env
      standAt apos.atName
      let (f, first) ← holding [ov] (getMethod ov m pl)
      callWith pos f first (backTo pos (starEach [] X.env)) (backToKw pos (keywordEach [] X.env))) := by rfl) : ZE X (.Call (.Attribute o m apos) [] [] pos) (zMeth C m g ta zNil) := by
  obtain ⟨t0, p0, s0⟩ := ho.ok
  obtain ⟨CX, f, fd, ps, c, m, F, hb, hx⟩ := M.ok
  exact ⟨_, pe_meth0 (pl := pl) p0 c m F hr hb .nil hx ht, snd_meth s0 (fun B F H α σ ρ Q0 Q R h k => k F H [] ρ [] R (Sub.refl F) rfl h)⟩
theorem zf_meth0 {k : Nat} {C : Addr} {m : Str} {g : G} {apos : Pos} {pl : Sem Bool} (M : Mth X k C m g) (hr : Room k X.A) (ho : ZE X o ta) (ha : ZA X [] zNil)
    (ht : eval (.Call (.Attribute o m apos) [] [] pos) X.env = (do
      let ov ← eval o X.env
      standAt apos.atName
      let (f, first) ← holding [ov] (getMethod ov m pl)
      callWith pos f first (backTo pos (starEach [] X.env)) (backToKw pos (keywordEach [] X.env))) := by rfl) : ZF X (.Call (.Attribute o m apos) [] [] pos) (zMethF C m g ta zNil) := by
  obtain ⟨t0, p0, s0⟩ := ho.ok
  obtain ⟨CX, f, fd, ps, c, m, F, hb, hx⟩ := M.ok
  exact ⟨_, pe_meth0 (pl := pl) p0 c m F hr hb .nil hx ht, snd_methF s0 (fun B F H α σ ρ Q0 Q R h k => k F H [] ρ [] R (Sub.refl F) rfl h)⟩
end
end Z

set_option Elab.async false
set_option linter.all false
set_option maxRecDepth 100000
namespace Z
open PySem PySem.Spec PyProof.Rows L2

/-! ### a def, by its body -/
def entry (N : Nat) (nc : Nat) (ss : List S) (cs : List Ce) : Env := ⟨ss.map some ++ List.replicate (N - ss.length) none, cs.map some ++ List.replicate nc none, cs.length⟩
def okS (n : Nat) : S → Bool
  | .val _ => true
  | .loc m => decide (m < n)
def okC (n : Nat) : Ce → Bool
  | .lst _ => true
  | .ins _ _ ss => ss.all (okS n)
def fin (n : Nat) (P : RS → List Ce → Prop) (r : RS) (ρ : Env) : Prop := ∃ cs', ρ.ce.take n = cs'.map some ∧ cs'.length = n ∧ cs'.all (okC n) = true ∧ P r cs'
section
variable {P : Program} {w : World} {K : PySem.W.Frag} {mg : Str → Option Value} {base : Heap}
theorem repS_to {F : Hp} {α α' : Nat → Addr} {n : Nat} (h : ∀ i, i < n → α' i = α i) {s : S} {v : V} (hs : okS n s = true) (r : RepS K F α' s v) : RepS K F α s v := by
  cases s with
  | val d => exact r
  | loc m =>
    have hm : m < n := of_decide_eq_true hs
    show v = .ref (α m)
    rw [← h m hm]; exact r
theorem repSL_to {F : Hp} {α α' : Nat → Addr} {n : Nat} (h : ∀ i, i < n → α' i = α i) : ∀ {ss : List S} {vs : List V}, ss.all (okS n) = true → RepSL K F α' ss vs → RepSL K F α ss vs
  | [], _, _, r => r
  | s :: ss, _, hs, ⟨v, r, e, h1, h2⟩ => by
    rw [List.all_cons, Bool.and_eq_true] at hs
    exact ⟨v, r, e, repS_to h hs.1 h1, repSL_to h hs.2 h2⟩
theorem repC_to {F H : Hp} {α α' : Nat → Addr} {n : Nat} {a : Addr} (h : ∀ i, i < n → α' i = α i) {c : Ce} (hc : okC n c = true) (r : RepC K F H α' a c) : RepC K F H α a c := by
  cases c with
  | lst ds => exact r
  | ins A ns ss =>
    obtain ⟨dx, vs, h1, h2, h3⟩ := r
    exact ⟨dx, vs, h1, h2, repSL_to h hc h3⟩
theorem repSL_len {F : Hp} {α : Nat → Addr} : ∀ {ss : List S} {vs : List V}, RepSL K F α ss vs → vs.length = ss.length
  | [], _, h => by cases h; rfl
  | _ :: ss, _, ⟨v, r, e, _, t⟩ => by
    subst e
    rw [List.length_cons, List.length_cons, repSL_len t]
theorem repSL_get {F : Hp} {α : Nat → Addr} : ∀ {ss : List S} {vs : List V} {i : Nat} {s : S}, RepSL K F α ss vs → ss[i]? = some s → ∃ v, vs[i]? = some v ∧ RepS K F α s v
  | [], _, _, _, _, e => by simp at e
  | d :: ds, _, 0, x, ⟨v, r, e, h, t⟩, g => by
    subst e
    have e1 : d = x := Option.some.inj g
    subst e1
    exact ⟨v, rfl, h⟩
  | d :: ds, _, i + 1, x, ⟨v, r, e, h, t⟩, g => by
    subst e
    exact repSL_get (i := i) t g
theorem rel_entry {F H : Hp} {α : Nat → Addr} {ss : List S} {vs : List V} {cs : List Ce} {N : List Str} {nc : Nat} (p : Pre K F H α ss vs cs) (hl : ss.length ≤ N.length) :
    Rel K ⟨F, H, (List.range cs.length).map α⟩ F H α (L2.start N vs) (entry N.length nc ss cs) := by
  have lv := repSL_len p.args
  have ge : ∀ {n : Nat} {c : Ce}, (cs.map some ++ List.replicate nc none)[n]? = some (some c) → cs[n]? = some c := fun {n c} e => by
    rw [List.getElem?_append] at e
    split at e
    · rw [List.getElem?_map] at e
      cases h : cs[n]? with
      | none => rw [h] at e; cases e
      | some x => rw [h] at e; cases e; rfl
    · rw [List.getElem?_replicate] at e
      split at e <;> cases e
  refine { sub := p.sub, sl := ?_, ce := fun n c e => p.ce n c (ge e), inj := ?_, f0 := Sub.refl F, kept := fun b o h _ => h, dom := fun b h => h, fresh := fun b h n => n, own := ?_, io := ?_, len := ?_, ion := ?_ }
  · intro i s e
    have e' : (ss.map some ++ List.replicate (N.length - ss.length) none)[i]? = some (some s) := e
    rw [List.getElem?_append] at e'
    split at e'
    · rename_i hi
      rw [List.length_map] at hi
      rw [List.getElem?_map] at e'
      cases h : ss[i]? with
      | none => rw [h] at e'; cases e'
      | some x =>
        rw [h] at e'
        cases e'
        obtain ⟨v, ev, rv⟩ := repSL_get p.args h
        refine ⟨v, ?_, rv⟩
        unfold L2.start
        rw [List.getElem?_append_left (by rw [List.length_map, lv]; exact hi), List.getElem?_map, ev]
        rfl
    · rw [List.getElem?_replicate] at e'
      split at e' <;> cases e'
  · intro n m c c' e e' ea
    exact p.inj n m (List.getElem?_eq_some_iff.mp (ge e)).1 (List.getElem?_eq_some_iff.mp (ge e')).1 ea
  · intro n c e
    refine .inl ?_
    have hn := (List.getElem?_eq_some_iff.mp (ge e)).1
    show ((List.range cs.length).map α)[n]? = some (α n)
    rw [List.getElem?_map, List.getElem?_range hn]
    rfl
  · intro n a e
    have e' : ((List.range cs.length).map α)[n]? = some a := e
    have hn : n < cs.length := by
      have := (List.getElem?_eq_some_iff.mp e').1
      rwa [List.length_map, List.length_range] at this
    rw [List.getElem?_map, List.getElem?_range hn] at e'
    exact Option.some.inj e'
  · show (L2.start N vs).length = (ss.map some ++ List.replicate (N.length - ss.length) none).length
    unfold L2.start
    simp only [List.length_append, List.length_map, List.length_replicate, lv]
  · show cs.length = ((List.range cs.length).map α).length
    rw [List.length_map, List.length_range]
theorem fnz_core {X : Cx} {N : List Str} {body : List Stmt} {t : ZS} {g : G} {nc : Nat} {np : Nat} (hK : X.K = K) (hlen : ∀ ss cs P PX, g ss cs P PX → ss.length = np) (hN : np ≤ N.length)
    (hb : ZSs X body t) (hg : ∀ ss cs P PX, g ss cs P PX → t ⟨fun ρ => fin cs.length P (.val .non) ρ, fun r ρ => fin cs.length P r ρ, fun _ => False, fun _ => False⟩ (entry N.length nc ss cs)) {vs : List V} {H : Hp} {Q : VK} {E : XK} (h : spZ K g vs H Q E) :
    ∃ t0, PSs X body t0 ∧ t0 { nx := fun _ H' => Q .non H', rt := Q } (L2.start N vs) H := by
  subst hK
  obtain ⟨F, α, ss, cs, P, PX, p, hgg, hQ, hE⟩ := h
  obtain ⟨t0, p0, s0⟩ := hb.ok
  refine ⟨t0, p0, s0 _ F H α (L2.start N vs) _ _ _ (rel_entry (nc := nc) p (by rw [hlen _ _ _ _ hgg]; exact hN)) (hg ss cs P PX hgg) ?_⟩
  have main : ∀ F' H' α' σ' ρ' r v, Rel X.K ⟨F, H, (List.range cs.length).map α⟩ F' H' α' σ' ρ' → RepT X.K ⟨F, H, (List.range cs.length).map α⟩ F' H' r v → fin cs.length P r ρ' → Q v H' := by
    intro F' H' α' σ' ρ' r v R' rt ⟨cs', e1, e2, e3, hP⟩
    have same : ∀ i, i < cs.length → α' i = α i := fun i hi => R'.io i _ (by
      show ((List.range cs.length).map α)[i]? = some (α i)
      rw [List.getElem?_map, List.getElem?_range hi]; rfl)
    refine hQ r cs' F' H' v hP ⟨R'.f0, R'.sub, fun b o hb hn => R'.kept b o hb fun hm => ?_, R'.dom, R'.fresh, e2, fun i c hc => ?_⟩ ?_
    · obtain ⟨i, hi, ei⟩ := List.mem_map.mp hm
      exact hn i (List.mem_range.mp hi) ei
    · have hi : i < cs.length := by rw [← e2]; exact (List.getElem?_eq_some_iff.mp hc).1
      have ec : ρ'.ce[i]? = some (some c) := by
        have : (ρ'.ce.take cs.length)[i]? = some (some c) := by rw [e1, List.getElem?_map, hc]; rfl
        rwa [List.getElem?_take, if_pos hi] at this
      have r := (R'.ce i c ec).2
      rw [same i hi] at r
      exact repC_to same (List.all_eq_true.mp e3 c (List.mem_of_getElem? hc)) r
    · cases r with
      | val d => exact rt
      | fr ds => exact rt
  exact ⟨fun F' H' α' σ' ρ' R' _ q => main F' H' α' σ' ρ' (.val .non) .non R' rfl q, fun F' H' α' σ' ρ' r v R' _ rt q => main F' H' α' σ' ρ' r v R' rt q, fun _ _ _ _ _ _ _ q => q.elim, fun _ _ _ _ _ _ _ q => q.elim⟩
/-- THE RULE for a def that lets nothing out -/
theorem fnz {x qual : Str} {st : Stmt} {f : Addr} {fd : FuncData} {N ps : List Str} {k : Nat} {g : G} (nc : Nat) (Fd : Fun K x qual st f fd) (Sc : FnScope N ps (defScope st)) (hlen : ∀ ss cs P PX, g ss cs P PX → ss.length = ps.length)
    (hbody : ∀ (cdv : Value) (A : Around) (outer : List PySem.Env) (s : Shared) (H : Hp) (E : XK), Room k (A.deeper (envOfC qual (defScope st) s.heap.objs.size f cdv)) →
      ∃ t, ZSs (cxOf CX0 P w K mg base N qual (defScope st) f cdv A outer s H E).nox (defBody st) t ∧
        ∀ ss cs P PX, g ss cs P PX → t ⟨fun ρ => fin cs.length P (.val .non) ρ, fun r ρ => fin cs.length P r ρ, fun _ => False, fun _ => False⟩ (entry N.length nc ss cs)) : FnOk P w K mg base CX0 (k + 1) f fd ps (spZ K g) := by
  have hN : ps.length ≤ N.length := by
    have := congrArg List.length Sc.pre
    rw [List.length_take] at this
    omega
  refine Fd.ok Sc (fun vs H Q E h => ?_) (fun cdv A outer s H vs Q E hr h => ?_)
  · obtain ⟨F, α, ss, cs, P, PX, p, hg, _⟩ := h
    rw [repSL_len p.args, hlen _ _ _ _ hg]
  · obtain ⟨t, hz, hg⟩ := hbody cdv A outer s H E hr
    exact fnz_core (nc := nc) rfl hlen hN hz hg h
/-- a def of the text as it stands, for its callers -/
structure FnT (P : Program) (w : World) (K : PySem.W.Frag) (mg : Str → Option Value) (base : Heap) (k : Nat) (x : Str) (g : G) : Prop where
  ok : ∃ (f : Addr) (fd : FuncData) (ps : List Str), FnOk P w K mg base CX0 k f fd ps (spZ K g) ∧ mg x = some (.ref f) ∧ PySem.W.keepIn K (.ref f) = true ∧ Binds K fd ps []
theorem FnT.fn {X : Cx} {k : Nat} {x : Str} {g : G} (h : FnT X.prog X.w X.K X.mg X.base k x g) : Fn X k x g := by
  obtain ⟨f, fd, ps, a, b, c, d⟩ := h.ok
  exact ⟨CX0, f, fd, ps, a, b, c, d, pass0⟩
structure MkT (P : Program) (w : World) (K : PySem.W.Frag) (mg : Str → Option Value) (base : Heap) (k : Nat) (x : Str) (C : Addr) (g : G) : Prop where
  ok : ∃ (f : Addr) (fd : FuncData) (ps : List Str), Mk K C f ∧ FnOk P w K mg base CX0 k f fd ps (spZ K g) ∧ mg x = some (.ref C) ∧ Binds K fd ps []
theorem MkT.mk' {X : Cx} {k : Nat} {x : Str} {C : Addr} {g : G} (h : MkT X.prog X.w X.K X.mg X.base k x C g) : Mkr X k x C g := by
  obtain ⟨f, fd, ps, m, a, b, d⟩ := h.ok
  exact ⟨CX0, f, fd, ps, m, a, b, d, pass0⟩
structure MthT (P : Program) (w : World) (K : PySem.W.Frag) (mg : Str → Option Value) (base : Heap) (k : Nat) (C : Addr) (m : Str) (g : G) : Prop where
  ok : ∃ (f : Addr) (fd : FuncData) (ps : List Str), Cls K C ∧ Meth K C m f ∧ FnOk P w K mg base CX0 k f fd ps (spZ K g) ∧ Binds K fd ps []
theorem MthT.mt {X : Cx} {k : Nat} {C : Addr} {m : Str} {g : G} (h : MthT X.prog X.w X.K X.mg X.base k C m g) : Mth X k C m g := by
  obtain ⟨f, fd, ps, c, m, a, d⟩ := h.ok
  exact ⟨CX0, f, fd, ps, c, m, a, d, pass0⟩
end

theorem hu64 {k : Nat} {A : Around} (r : Room k A) : A.units + 64 < cLine := by have := r.un; omega
/-! ### ints -/
section
variable {K : PySem.W.Frag}
def gI0 (g : Int → Int → D) : D → D → (D → Prop) → Prop
  | .int i, .int j, P => P (g i j)
  | _, _, _ => False
def gI (C : Int → Int → Prop) (g : Int → Int → D) : D → D → (D → Prop) → Prop
  | .int i, .int j, P => C i j ∧ P (g i j)
  | _, _, _ => False
theorem gI0_of {g : Int → Int → D} {x y : D} {P : D → Prop} (h : gI0 g x y P) : ∃ i j, x = .int i ∧ y = .int j ∧ P (g i j) := by
  unfold gI0 at h
  split at h
  · exact ⟨_, _, rfl, rfl, h⟩
  · exact h.elim
theorem gI_of {C : Int → Int → Prop} {g : Int → Int → D} {x y : D} {P : D → Prop} (h : gI C g x y P) : ∃ i j, x = .int i ∧ y = .int j ∧ C i j ∧ P (g i j) := by
  unfold gI at h
  split at h
  · exact ⟨_, _, rfl, rfl, h⟩
  · exact h.elim
theorem oz_I0 {f : Int → Int → Int} : OpZ K (rI0 fun i j => .int (f i j)) (gI0 fun i j => .int (f i j)) := by
  intro F H x y u v P Q sb hx hy h k
  obtain ⟨i, j, rfl, rfl, h⟩ := gI0_of h
  exact ⟨i, j, hx, hy, k _ F H _ h (Ext.refl sb) rfl⟩
theorem oz_B0 {f : Int → Int → Bool} : OpZ K (rI0 fun i j => .bl (f i j)) (gI0 fun i j => .bl (f i j)) := by
  intro F H x y u v P Q sb hx hy h k
  obtain ⟨i, j, rfl, rfl, h⟩ := gI0_of h
  exact ⟨i, j, hx, hy, k _ F H _ h (Ext.refl sb) rfl⟩
theorem oz_I {C : Int → Int → Prop} {f : Int → Int → Int} : OpZ K (rI C fun i j => .int (f i j)) (gI C fun i j => .int (f i j)) := by
  intro F H x y u v P Q sb hx hy h k
  obtain ⟨i, j, rfl, rfl, hc, h⟩ := gI_of h
  exact ⟨i, j, hx, hy, hc, k _ F H _ h (Ext.refl sb) rfl⟩
def gU (g : Int → D) : D → (D → Prop) → Prop
  | .int i, P => P (g i)
  | _, _ => False
theorem uz_neg : UnZ K (rU fun i => .int (-i)) (gU fun i => .int (-i)) := by
  intro F H x u P Q sb hx h k
  unfold gU at h
  split at h
  · exact ⟨_, hx, k _ F H _ h (Ext.refl sb) rfl⟩
  · exact h.elim

/-! ### == of data -/
mutual
def D.toPy : D → Option PyData
  | .non => some .none
  | .bl b => some (.bool b)
  | .int i => some (.int i)
  | .str s => some (.str s)
  | .tup ds => (toPys ds).map .tuple
  | .ktup ds => (toPys ds).map .tuple
  | .lst ds => (toPys ds).map .list
  | .scr ns => some (.list (ns.map .int))
  | _ => none
def toPys : List D → Option (List PyData)
  | [] => some []
  | d :: ds => match d.toPy, toPys ds with
    | some a, some b => some (a :: b)
    | _, _ => none
end
theorem dp_ints {H : Hp} : ∀ ns : List Int, DpAll K H (ns.map V.int) (ns.map PyData.int)
  | [] => .nil
  | n :: ns => .cons (.int n) (dp_ints ns)
mutual
theorem toPy_dp {F H : Hp} (s : Sub F H) : ∀ (d : D) (v : V) (p : PyData), Is K F d v → d.toPy = some p → Dp K H v p
  | .non, _, _, h, e => by cases e; cases h; exact .non
  | .bl b, _, _, h, e => by cases e; cases h; exact .bl b
  | .int i, _, _, h, e => by cases e; cases h; exact .int i
  | .str i, _, _, h, e => by cases e; cases h; exact .str i
  | .ty _, _, _, h, e => by cases e
  | .cls _, _, _, h, e => by cases e
  | .ins _ _ _, _, _, h, e => by cases e
  | .dct _ _, _, _, h, e => by cases e
  | .scr ns, _, _, ⟨a, e1, h⟩, e => by cases e; subst e1; exact .lst (s.sqL h) (dp_ints ns)
  | .tup ds, _, _, ⟨a, vs, e1, h, r⟩, e => by
    subst e1
    have e' : (toPys ds).map PyData.tuple = some _ := e
    cases q : toPys ds with
    | none => rw [q] at e'; cases e'
    | some ps => rw [q] at e'; cases e'; exact .tup (.inl (.inl (s _ _ h))) (toPys_dp s ds vs ps r q)
  | .ktup ds, _, _, ⟨a, vs, e1, h, r⟩, e => by
    subst e1
    have e' : (toPys ds).map PyData.tuple = some _ := e
    cases q : toPys ds with
    | none => rw [q] at e'; cases e'
    | some ps => rw [q] at e'; cases e'; exact .tup (s.sqT h) (toPys_dp s ds vs ps r q)
  | .lst ds, _, _, ⟨a, vs, e1, h, r⟩, e => by
    subst e1
    have e' : (toPys ds).map PyData.list = some _ := e
    cases q : toPys ds with
    | none => rw [q] at e'; cases e'
    | some ps => rw [q] at e'; cases e'; exact .lst (.inl (.inl (s _ _ h))) (toPys_dp s ds vs ps r q)
theorem toPys_dp {F H : Hp} (s : Sub F H) : ∀ (ds : List D) (vs : List V) (ps : List PyData), IsL K F ds vs → toPys ds = some ps → DpAll K H vs ps
  | [], _, _, h, e => by cases e; cases h; exact .nil
  | d :: ds, _, _, ⟨v, r, e1, h1, h2⟩, e => by
    subst e1
    simp only [toPys] at e
    split at e
    · rename_i a b ea eb
      cases e
      exact .cons (toPy_dp s d v a h1 ea) (toPys_dp s ds r b h2 eb)
    · cases e
end
/-- what == gives of data -/
def gEq (neg : Bool) : D → D → (D → Prop) → Prop
  | .int i, .int j, P => P (.bl (if neg then !decide (i = j) else decide (i = j)))
  | .str i, .str j, P => P (.bl (if neg then !decide (i = j) else decide (i = j)))
  | .bl i, .bl j, P => P (.bl (if neg then !decide (i = j) else decide (i = j)))
  | x, y, P => ∃ a b, x.toPy = some a ∧ y.toPy = some b ∧ SeqAt.shaped a = true ∧ SeqAt.shaped b = true ∧ P (.bl (if neg then !PyData.eqv a b else PyData.eqv a b))
theorem oz_eq : OpZ K (fun x y H Q => rEq x y H Q ∨ rEqD K x y H Q) (gEq false) := by
  intro F H x y u v P Q sb hx hy h k
  unfold gEq at h
  split at h
  · refine .inl ⟨by cases hx; cases hy; rfl, ?_⟩
    rename_i i j
    have : decide (u = v) = decide (i = j) := by
      cases hx; cases hy
      by_cases e : i = j
      · subst e; simp
      · simp [e]
    rw [this]
    exact k _ F H _ h (Ext.refl sb) rfl
  · refine .inl ⟨by cases hx; cases hy; rfl, ?_⟩
    rename_i i j
    have : decide (u = v) = decide (i = j) := by
      cases hx; cases hy
      by_cases e : i = j
      · subst e; simp
      · simp [e]
    rw [this]
    exact k _ F H _ h (Ext.refl sb) rfl
  · refine .inl ⟨by cases hx; cases hy; rfl, ?_⟩
    rename_i i j
    have : decide (u = v) = decide (i = j) := by
      cases hx; cases hy
      by_cases e : i = j
      · subst e; simp
      · simp [e]
    rw [this]
    exact k _ F H _ h (Ext.refl sb) rfl
  · obtain ⟨a, b, ea, eb, s1, s2, h⟩ := h
    exact .inr ⟨a, b, toPy_dp sb x u a hx ea, toPy_dp sb y v b hy eb, s1, s2, k _ F H _ h (Ext.refl sb) rfl⟩
theorem oz_ne : OpZ K (fun x y H Q => rNe x y H Q ∨ rNeD K x y H Q) (gEq true) := by
  intro F H x y u v P Q sb hx hy h k
  unfold gEq at h
  split at h
  · refine .inl ⟨by cases hx; cases hy; rfl, ?_⟩
    rename_i i j
    have : decide (u = v) = decide (i = j) := by
      cases hx; cases hy
      by_cases e : i = j
      · subst e; simp
      · simp [e]
    rw [this]
    exact k _ F H _ h (Ext.refl sb) rfl
  · refine .inl ⟨by cases hx; cases hy; rfl, ?_⟩
    rename_i i j
    have : decide (u = v) = decide (i = j) := by
      cases hx; cases hy
      by_cases e : i = j
      · subst e; simp
      · simp [e]
    rw [this]
    exact k _ F H _ h (Ext.refl sb) rfl
  · refine .inl ⟨by cases hx; cases hy; rfl, ?_⟩
    rename_i i j
    have : decide (u = v) = decide (i = j) := by
      cases hx; cases hy
      by_cases e : i = j
      · subst e; simp
      · simp [e]
    rw [this]
    exact k _ F H _ h (Ext.refl sb) rfl
  · obtain ⟨a, b, ea, eb, s1, s2, h⟩ := h
    exact .inr ⟨a, b, toPy_dp sb x u a hx ea, toPy_dp sb y v b hy eb, s1, s2, k _ F H _ h (Ext.refl sb) rfl⟩
theorem op_eqZ {X : Cx} (hu : X.A.units + 64 < cLine) : OpR X (compareOp .Eq) (fun x y H Q => rEq x y H Q ∨ rEqD X.K x y H Q) := OpR.or op_eq (op_eqD hu)
theorem op_neZ {X : Cx} (hu : X.A.units + 64 < cLine) : OpR X (compareOp .NotEq) (fun x y H Q => rNe x y H Q ∨ rNeD X.K x y H Q) := OpR.or op_ne (op_neD hu)
/-- is None -/
def gIsN (neg : Bool) : D → D → (D → Prop) → Prop
  | .non, .non, P => P (.bl (!neg))
  | _, .non, P => P (.bl neg)
  | _, _, _ => False
theorem is_non {F : Hp} : ∀ {d : D} {v : V}, Is K F d v → d ≠ .non → v ≠ .non
  | .non, _, _, n => absurd rfl n
  | .bl _, _, h, _ => by cases h; exact fun e => by cases e
  | .int _, _, h, _ => by cases h; exact fun e => by cases e
  | .str _, _, h, _ => by cases h; exact fun e => by cases e
  | .ty _, _, h, _ => by cases h; exact fun e => by cases e
  | .cls _, _, h, _ => by cases h; exact fun e => by cases e
  | .tup _, _, ⟨_, _, e1, _⟩, _ => by subst e1; exact fun e => by cases e
  | .ktup _, _, ⟨_, _, e1, _⟩, _ => by subst e1; exact fun e => by cases e
  | .lst _, _, ⟨_, _, e1, _⟩, _ => by subst e1; exact fun e => by cases e
  | .scr _, _, ⟨_, e1, _⟩, _ => by subst e1; exact fun e => by cases e
  | .ins _ _ _, _, ⟨_, _, _, e1, _⟩, _ => by subst e1; exact fun e => by cases e
  | .dct _ _, _, ⟨_, _, e1, _⟩, _ => by subst e1; exact fun e => by cases e
theorem oz_isN : OpZ K (fun x y H Q => y = .non ∧ Q (.bl (decide (x = .non))) H) (gIsN false) := by
  intro F H x y u v P Q sb hx hy h k
  unfold gIsN at h
  split at h
  · cases hx
    exact ⟨hy, k _ F H _ h (Ext.refl sb) rfl⟩
  · rename_i n
    refine ⟨hy, ?_⟩
    rw [decide_eq_false (is_non hx (fun e => n e))]
    exact k _ F H _ h (Ext.refl sb) rfl
  · exact h.elim
theorem oz_notN : OpZ K (fun x y H Q => y = .non ∧ Q (.bl (!decide (x = .non))) H) (gIsN true) := by
  intro F H x y u v P Q sb hx hy h k
  unfold gIsN at h
  split at h
  · cases hx
    exact ⟨hy, k _ F H _ h (Ext.refl sb) rfl⟩
  · rename_i n
    refine ⟨hy, ?_⟩
    rw [decide_eq_false (is_non hx (fun e => n e))]
    exact k _ F H _ h (Ext.refl sb) rfl
  · exact h.elim

/-! ### items, +, * -/
def gIx : D → D → (D → Prop) → Prop
  | .tup ds, .int i, P => ∃ z, atI ds i = some z ∧ P z
  | .ktup ds, .int i, P => ∃ z, atI ds i = some z ∧ P z
  | .lst ds, .int i, P => ∃ z, atI ds i = some z ∧ P z
  | .scr ns, .int i, P => ∃ z, atI ns i = some z ∧ P (.int z)
  | .str z, .int i, P => z.length ≤ 1000000 ∧ ∃ c, atI z.cps.toList i = some c ∧ P (.str ⟨#[c]⟩)
  | _, _, _ => False
theorem atI_is {F : Hp} {ds : List D} {vs : List V} {i : Int} {d : D} (h : IsL K F ds vs) (e : atI ds i = some d) : ∃ v, atI vs i = some v ∧ Is K F d v := by
  unfold atI at e ⊢
  rw [h.length]
  cases q : ixN ds.length i with
  | none => rw [q] at e; cases e
  | some j =>
    rw [q] at e
    exact h.get e
theorem atI_map {i : Int} {ns : List Int} {n : Int} (e : atI ns i = some n) : atI (ns.map V.int) i = some (.int n) := by
  unfold atI at e ⊢
  rw [List.length_map]
  cases q : ixN ns.length i with
  | none => rw [q] at e; cases e
  | some j =>
    rw [q] at e
    have e' : ns[j]? = some n := e
    show (ns.map V.int)[j]? = some (V.int n)
    rw [List.getElem?_map, e']
    rfl
theorem oz_ix : OpZ K (rIx K) gIx := by
  intro F H x y u v P Q sb hx hy h k
  unfold gIx at h
  split at h
  · obtain ⟨z, e, h⟩ := h
    obtain ⟨a, vs, rfl, h1, h2⟩ := hx
    obtain ⟨w, ew, iw⟩ := atI_is h2 e
    exact .inr (.inl ⟨a, vs, _, w, rfl, hy, .inl (.inl (sb _ _ h1)), ew, k _ F H _ h (Ext.refl sb) iw⟩)
  · obtain ⟨z, e, h⟩ := h
    obtain ⟨a, vs, rfl, h1, h2⟩ := hx
    obtain ⟨w, ew, iw⟩ := atI_is h2 e
    exact .inr (.inl ⟨a, vs, _, w, rfl, hy, sb.sqT h1, ew, k _ F H _ h (Ext.refl sb) iw⟩)
  · obtain ⟨z, e, h⟩ := h
    obtain ⟨a, vs, rfl, h1, h2⟩ := hx
    obtain ⟨w, ew, iw⟩ := atI_is h2 e
    exact .inl ⟨a, vs, _, w, rfl, hy, .inl (.inl (sb _ _ h1)), ew, k _ F H _ h (Ext.refl sb) iw⟩
  · obtain ⟨z, e, h⟩ := h
    obtain ⟨a, rfl, h1⟩ := hx
    exact .inl ⟨a, _, _, _, rfl, hy, sb.sqL h1, atI_map e, k _ F H _ h (Ext.refl sb) rfl⟩
  · obtain ⟨hl, c, e, h⟩ := h
    exact .inr (.inr ⟨_, _, c, hx, hy, size_ok hl, e, k _ F H _ h (Ext.refl sb) rfl⟩)
  · exact h.elim
def gCat : D → D → (List D → Prop) → Prop
  | .lst a, .lst b, P => a.length + b.length ≤ 1000000 ∧ P (a ++ b)
  | _, _, _ => False
theorem ol_cat : OpL K rCat gCat := by
  intro F H x y u v P Q sb hx hy h k
  unfold gCat at h
  split at h
  · rename_i a b
    obtain ⟨p, vs, rfl, h1, h2⟩ := hx
    obtain ⟨q, ws, rfl, h3, h4⟩ := hy
    refine ⟨p, q, vs, ws, rfl, rfl, sb _ _ h1, sb _ _ h3, size_ok (by rw [h2.length, h4.length]; exact h.1), fun r hr => ?_⟩
    exact k _ F _ r _ h.2 (Ext.temp sb hr) hr (sb.none hr) upd_same (h2.append h4)
  · exact h.elim
def gRep : D → D → (List D → Prop) → Prop
  | .lst a, .int n, P => -1000000 ≤ n ∧ n ≤ 1000000 ∧ a.length * n.toNat ≤ 1000000 ∧ P (List.replicate n.toNat a).flatten
  | _, _, _ => False
def gAddS : D → D → (D → Prop) → Prop
  | .str a, .str b, P => a.length + b.length ≤ 1000000 ∧ P (.str (a ++ b))
  | _, _, _ => False
theorem oz_addS : OpZ K (fun x y H Q => ∃ i j, x = .str i ∧ y = .str j ∧ i.length + j.length ≤ sizeLine ∧ Q (.str (i ++ j)) H) gAddS := by
  intro F H x y u v P Q sb hx hy h k
  unfold gAddS at h
  split at h
  · exact ⟨_, _, hx, hy, size_ok h.1, k _ F H _ h.2 (Ext.refl sb) rfl⟩
  · exact h.elim

/-! ### built-in functions -/
def gLen : List D → (D → Prop) → Prop
  | [.tup ds], P => P (.int ds.length)
  | [.ktup ds], P => P (.int ds.length)
  | [.lst ds], P => P (.int ds.length)
  | [.scr ds], P => P (.int ds.length)
  | [.str z], P => z.length ≤ 1000000 ∧ P (.int z.length)
  | _, _ => False
theorem isL_one {F : Hp} {d : D} {vs : List V} (h : IsL K F [d] vs) : ∃ v, vs = [v] ∧ Is K F d v := by
  obtain ⟨v, r, e, h1, h2⟩ := h
  have : r = [] := h2
  subst this
  exact ⟨v, e, h1⟩
theorem isL_two {F : Hp} {d d' : D} {vs : List V} (h : IsL K F [d, d'] vs) : ∃ v w, vs = [v, w] ∧ Is K F d v ∧ Is K F d' w := by
  obtain ⟨v, r, e, h1, h2⟩ := h
  obtain ⟨w, e2, h3⟩ := isL_one h2
  subst e2
  exact ⟨v, w, e, h1, h3⟩
theorem pz_len : PrZ K (fun xs H Q => (∃ p ys, xs = [.ref p] ∧ (SqL K H p ys ∨ SqT K H p ys) ∧ Q (.int ys.length) H) ∨ ∃ z, xs = [.str z] ∧ z.length ≤ sizeLine ∧ Q (.int z.length) H) gLen := by
  intro F H ds vs P Q sb hi h k
  unfold gLen at h
  split at h
  · obtain ⟨v, rfl, a, ws, rfl, h1, h2⟩ := isL_one hi
    refine .inl ⟨a, ws, rfl, .inr (.inl (.inl (sb _ _ h1))), ?_⟩
    rw [h2.length]
    exact k _ F H _ h (Ext.refl sb) rfl
  · obtain ⟨v, rfl, a, ws, rfl, h1, h2⟩ := isL_one hi
    refine .inl ⟨a, ws, rfl, .inr (sb.sqT h1), ?_⟩
    rw [h2.length]
    exact k _ F H _ h (Ext.refl sb) rfl
  · obtain ⟨v, rfl, a, ws, rfl, h1, h2⟩ := isL_one hi
    refine .inl ⟨a, ws, rfl, .inl (.inl (.inl (sb _ _ h1))), ?_⟩
    rw [h2.length]
    exact k _ F H _ h (Ext.refl sb) rfl
  · obtain ⟨v, rfl, a, rfl, h1⟩ := isL_one hi
    refine .inl ⟨a, _, rfl, .inl (sb.sqL h1), ?_⟩
    rw [List.length_map]
    exact k _ F H _ h (Ext.refl sb) rfl
  · obtain ⟨v, rfl, e⟩ := isL_one hi
    have e' : v = .str _ := e
    subst e'
    exact .inr ⟨_, rfl, size_ok h.1, k _ F H _ h.2 (Ext.refl sb) rfl⟩
  · exact h.elim
theorem call_lenZ {X : Cx} : CallR X (.builtin "len") (fun xs H Q => (∃ p ys, xs = [.ref p] ∧ (SqL X.K H p ys ∨ SqT X.K H p ys) ∧ Q (.int ys.length) H) ∨ ∃ z, xs = [.str z] ∧ z.length ≤ sizeLine ∧ Q (.int z.length) H) := CallR.or call_len_seq call_len_str
def gMax2 : List D → (D → Prop) → Prop
  | [.int i, .int j], P => P (.int (if j > i then j else i))
  | _, _ => False
def gMin2 : List D → (D → Prop) → Prop
  | [.int i, .int j], P => P (.int (if j < i then j else i))
  | _, _ => False
def gAbs : List D → (D → Prop) → Prop
  | [.int i], P => P (.int (if i < 0 then -i else i))
  | _, _ => False
theorem pz_max2 : PrZ K (fun xs H Q => ∃ i j, xs = [.int i, .int j] ∧ Q (.int (if j > i then j else i)) H) gMax2 := by
  intro F H ds vs P Q sb hi h k
  unfold gMax2 at h
  split at h
  · obtain ⟨v, w, rfl, e1, e2⟩ := isL_two hi
    have e1' : v = .int _ := e1
    have e2' : w = .int _ := e2
    subst e1' e2'
    exact ⟨_, _, rfl, k _ F H _ h (Ext.refl sb) rfl⟩
  · exact h.elim
theorem pz_min2 : PrZ K (fun xs H Q => ∃ i j, xs = [.int i, .int j] ∧ Q (.int (if j < i then j else i)) H) gMin2 := by
  intro F H ds vs P Q sb hi h k
  unfold gMin2 at h
  split at h
  · obtain ⟨v, w, rfl, e1, e2⟩ := isL_two hi
    have e1' : v = .int _ := e1
    have e2' : w = .int _ := e2
    subst e1' e2'
    exact ⟨_, _, rfl, k _ F H _ h (Ext.refl sb) rfl⟩
  · exact h.elim
theorem pz_abs : PrZ K (fun xs H Q => ∃ i, xs = [.int i] ∧ Q (.int (if i < 0 then -i else i)) H) gAbs := by
  intro F H ds vs P Q sb hi h k
  unfold gAbs at h
  split at h
  · obtain ⟨v, rfl, e1⟩ := isL_one hi
    have e1' : v = .int _ := e1
    subst e1'
    exact ⟨_, rfl, k _ F H _ h (Ext.refl sb) rfl⟩
  · exact h.elim
def gList : List D → (List D → Prop) → Prop
  | [.lst ds], P => P ds
  | [.tup ds], P => P ds
  | [.ktup ds], P => P ds
  | [.scr ns], P => P (ns.map .int)
  | _, _ => False
theorem pl_list : PrL K (fun xs H Q => ∃ p ys, xs = [.ref p] ∧ (SqL K H p ys ∨ SqT K H p ys) ∧ ∀ l, H l = none → Q (.ref l) (upd H l (.lst ys))) gList := by
  intro F H ds vs P Q sb hi h k
  unfold gList at h
  split at h
  · obtain ⟨v, rfl, a, ws, rfl, h1, h2⟩ := isL_one hi
    exact ⟨a, ws, rfl, .inl (.inl (.inl (sb _ _ h1))), fun l hl => k _ F _ l ws h (Ext.temp sb hl) hl (sb.none hl) upd_same h2⟩
  · obtain ⟨v, rfl, a, ws, rfl, h1, h2⟩ := isL_one hi
    exact ⟨a, ws, rfl, .inr (.inl (.inl (sb _ _ h1))), fun l hl => k _ F _ l ws h (Ext.temp sb hl) hl (sb.none hl) upd_same h2⟩
  · obtain ⟨v, rfl, a, ws, rfl, h1, h2⟩ := isL_one hi
    exact ⟨a, ws, rfl, .inr (sb.sqT h1), fun l hl => k _ F _ l ws h (Ext.temp sb hl) hl (sb.none hl) upd_same h2⟩
  · obtain ⟨v, rfl, a, rfl, h1⟩ := isL_one hi
    exact ⟨a, _, rfl, .inl (sb.sqL h1), fun l hl => k _ F _ l _ h (Ext.temp sb hl) hl (sb.none hl) upd_same (IsL.of_ints _)⟩
  · exact h.elim
def gTuple : List D → (D → Prop) → Prop
  | [.lst ds], P => P (.tup ds)
  | [.tup ds], P => P (.tup ds)
  | [.ktup ds], P => P (.ktup ds)
  | _, _ => False
theorem pz_tuple : PrZ K (fun xs H Q => ∃ p ys, xs = [.ref p] ∧ ((SqL K H p ys ∧ ∀ l, H l = none → Q (.ref l) (upd H l (.tup ys))) ∨ (SqT K H p ys ∧ Q (.ref p) H))) gTuple := by
  intro F H ds vs P Q sb hi h k
  unfold gTuple at h
  split at h
  · obtain ⟨v, rfl, a, ws, rfl, h1, h2⟩ := isL_one hi
    refine ⟨a, ws, rfl, .inl ⟨.inl (.inl (sb _ _ h1)), fun l hl => ?_⟩⟩
    have e := Ext.new (o := .tup ws) sb hl
    exact k (.tup _) _ _ (.ref l) h e ⟨l, ws, rfl, upd_same, IsL.mono e.f _ _ h2⟩
  · obtain ⟨v, rfl, a, ws, rfl, h1, h2⟩ := isL_one hi
    exact ⟨a, ws, rfl, .inr ⟨.inl (.inl (sb _ _ h1)), k (.tup _) F H (.ref a) h (Ext.refl sb) ⟨a, ws, rfl, h1, h2⟩⟩⟩
  · obtain ⟨v, rfl, a, ws, rfl, h1, h2⟩ := isL_one hi
    exact ⟨a, ws, rfl, .inr ⟨sb.sqT h1, k (.ktup _) F H (.ref a) h (Ext.refl sb) ⟨a, ws, rfl, h1, h2⟩⟩⟩
  · exact h.elim
end
end Z

set_option Elab.async false
set_option linter.all false
set_option maxRecDepth 100000
namespace Z
open PySem PySem.Spec PyProof.Rows L2

section
variable {X : Cx} {pos : Pos} {a b c e o : Expr} {es : List Expr} {st : Stmt} {rest body : List Stmt} {ta tb tc : ZT} {tl : ZL} {tr : ZR} {ca cb : ZC} {t u : ZS}
/-! ### rows that the proof never comes to -/
def zNever : ZS := fun _ _ => False
theorem zs_never : ZSt X st zNever := ⟨_, ps_never, fun _ _ _ _ _ _ _ _ _ h _ => h.elim⟩
theorem zss_never {sts : List Stmt} : ZSs X sts zNever := ⟨_, pss_never, fun _ _ _ _ _ _ _ _ _ h _ => h.elim⟩

/-! ### list comprehensions -/
/-- one more cell: the list that grows -/
def Env.push (ρ : Env) (ds : List D) : Env := { ρ with ce := ρ.ce ++ [some (.lst ds)] }
def Env.wipes (ρ : Env) : List Nat → Env
  | [] => ρ
  | v :: vs => (ρ.wipes vs).wipe v
/-- the state behind a turn: the outer slots, without the list -/
def Env.back (ρ4 ρ : Env) : Env := { ρ4 with sl := ρ.sl, ce := ρ4.ce.dropLast }
def Env.noLoc (ρ : Env) (n : Nat) : Bool := ρ.sl.all (fun o => match o with
  | some s => !s.isL n
  | none => true) && ρ.ce.all (fun o => match o with
  | some c => !c.has n
  | none => true)
/-- behind a turn the list still stands at the end of the cells -/
structure Env.grown (ρ5 ρ1 : Env) (acc : List D) : Prop where
  last : ρ5.ce.getLast? = some (some (.lst acc))
  len : ρ5.ce.length = ρ1.ce.length + 1
  no : ρ5.ce.all (fun o => match o with
    | some c => !c.has ρ1.ce.length
    | none => true) = true
def zLc (isT : Bool) (ta : ZT) (g : ZG) (tt : ZC) (te : ZT) (vs : List Nat) : ZL := fun ρ Q => ta ρ fun s ρ1 => ∃ ds, s = .val (if isT then .tup ds else .lst ds) ∧ ∃ W : Nat → List D → Env → Prop, W 0 [] ρ1 ∧
  (∀ (i : Nat) acc ρ2 d, W i acc ρ2 → ds[i]? = some d → ρ2.sl = ρ1.sl ∧ ρ2.ce.length = ρ1.ce.length ∧ ρ2.io = ρ1.io ∧ ρ2.noLoc ρ1.ce.length = true ∧ ρ1.io ≤ ρ1.ce.length ∧ g d ((ρ2.push acc).wipes vs) fun ρ3 => tt ρ3 fun b ρ4 =>
    if b = true then te ρ4 fun y ρ5 => ∃ z, y = .val z ∧ acc.length < 1000000 ∧ ρ5.grown ρ1 acc ∧ W (i + 1) (acc ++ [z]) (ρ5.back ρ1)
    else ρ4.grown ρ1 acc ∧ W (i + 1) acc (ρ4.back ρ1)) ∧ ∀ acc ρ2, W ds.length acc ρ2 → ρ2.sl = ρ1.sl ∧ ρ2.ce.length = ρ1.ce.length ∧ Q acc ρ2
structure ZTs (X : Cx) (ifs : List Expr) (t : ZC) : Prop where
  ok : ∃ t0, PTs X ifs t0 ∧ SndC X.K t0 t
def zYes : ZC := fun ρ Q => Q true ρ
theorem zts_nil : ZTs X [] zYes := ⟨_, pts_nil, fun B F H α σ ρ Q0 Q R h k => k F H true ρ R (Sub.refl F) h⟩
theorem zts_one (h : ZQ X c ca) : ZTs X [c] ca := by
  obtain ⟨t0, p, s⟩ := h.ok
  exact ⟨t0, pts_one p, s⟩
end
section
variable {K : PySem.W.Frag} {B : Base} {F H F' H' : Hp} {α : Nat → Addr} {σ : L2.St} {ρ : Env}
theorem wipes_len : ∀ (vs : List Nat) (ρ : Env), (ρ.wipes vs).sl.length = ρ.sl.length ∧ (ρ.wipes vs).ce = ρ.ce ∧ (ρ.wipes vs).io = ρ.io
  | [], _ => ⟨rfl, rfl, rfl⟩
  | v :: vs, ρ => by
    obtain ⟨h1, h2, h3⟩ := wipes_len vs ρ
    refine ⟨?_, h2, h3⟩
    show ((ρ.wipes vs).sl.set v none).length = _
    rw [List.length_set]; exact h1
theorem Rel.wipes (R : Rel K B F H α σ ρ) : ∀ vs : List Nat, Rel K B F H α (L2.wipe σ vs) (ρ.wipes vs)
  | [] => R
  | v :: vs => by
    have R' := R.wipes vs
    refine R'.less (ρ' := (ρ.wipes vs).wipe v) rfl rfl ?_ fun i s e => ?_
    · show ((L2.wipe σ vs).set v none).length = ((ρ.wipes vs).sl.set v none).length
      rw [List.length_set, List.length_set]; exact R'.len
    · have e' : ((ρ.wipes vs).sl.set v none)[i]? = some (some s) := e
      rw [List.getElem?_set] at e'
      by_cases q : v = i
      · rw [if_pos q] at e'
        split at e' <;> cases e'
      · rw [if_neg q] at e'
        refine ⟨e', ?_⟩
        show ((L2.wipe σ vs).set v none)[i]? = _
        rw [List.getElem?_set_ne q]
theorem all_sl {sl : List (Option S)} {n i : Nat} {s : S} (h : sl.all (fun o => match o with
  | some s => !s.isL n
  | none => true) = true) (e : sl[i]? = some (some s)) : s.isL n = false := by
  have := List.all_eq_true.mp h _ (List.mem_of_getElem? e)
  simpa using this
theorem all_ce {ce : List (Option Ce)} {n i : Nat} {c : Ce} (h : ce.all (fun o => match o with
  | some c => !c.has n
  | none => true) = true) (e : ce[i]? = some (some c)) : c.has n = false := by
  have := List.all_eq_true.mp h _ (List.mem_of_getElem? e)
  simpa using this
/-- the list joins the cells -/
theorem Rel.push (R : Rel K B F H α σ ρ) {p : Addr} {ds : List D} (f : Fsh K B F H α ρ p ds) (hio : ρ.io ≤ ρ.ce.length) (hn : ρ.noLoc ρ.ce.length = true) : Rel K B F H (fun m => if m = ρ.ce.length then p else α m) σ (ρ.push ds) := by
  have hn' := Bool.and_eq_true_iff.mp hn
  have get : ∀ {m : Nat} {c : Ce}, (ρ.push ds).ce[m]? = some (some c) → (m = ρ.ce.length ∧ c = .lst ds) ∨ (m ≠ ρ.ce.length ∧ ρ.ce[m]? = some (some c) ∧ c.has ρ.ce.length = false) := fun {m c} e => by
    have e' : (ρ.ce ++ [some (.lst ds)])[m]? = some (some c) := e
    rw [List.getElem?_append] at e'
    split at e'
    · rename_i h; exact .inr ⟨Nat.ne_of_lt h, e', all_ce hn'.2 e'⟩
    · rename_i h
      have : m - ρ.ce.length = 0 := by
        cases q : m - ρ.ce.length with
        | zero => rfl
        | succ k => rw [q] at e'; simp at e'
      rw [this] at e'
      cases e'
      exact .inl ⟨by omega, rfl⟩
  refine { sub := R.sub, sl := ?_, ce := ?_, inj := ?_, f0 := R.f0, kept := R.kept, dom := R.dom, fresh := R.fresh, own := ?_, io := ?_, len := R.len, ion := R.ion }
  · intro i s e
    obtain ⟨v, e1, e2⟩ := R.sl i s e
    exact ⟨v, e1, repS_turn (all_sl hn'.1 e) e2⟩
  · intro m c e
    rcases get e with ⟨hm, rfl⟩ | ⟨q, e1, hb⟩
    · obtain ⟨ws, hw, i⟩ := f.h
      show F (if m = ρ.ce.length then p else α m) = none ∧ RepC K F H _ (if m = ρ.ce.length then p else α m) (.lst ds)
      rw [if_pos hm]
      exact ⟨f.f, ws, hw, i⟩
    · obtain ⟨h1, h2⟩ := R.ce m c e1
      show F (if m = ρ.ce.length then p else α m) = none ∧ RepC K F H _ (if m = ρ.ce.length then p else α m) c
      rw [if_neg q]
      exact ⟨h1, repC_turn hb h2⟩
  · intro m k c c' e e' ea
    have ea' : (if m = ρ.ce.length then p else α m) = (if k = ρ.ce.length then p else α k) := ea
    rcases get e with ⟨hm, _⟩ | ⟨q, e1, hb⟩
    · rcases get e' with ⟨hk, _⟩ | ⟨q', e1', hb'⟩
      · rw [hm, hk]
      · rw [if_pos hm, if_neg q'] at ea'
        exact absurd ea'.symm (f.c k _ e1')
    · rcases get e' with ⟨hk, _⟩ | ⟨q', e1', hb'⟩
      · rw [if_pos hk, if_neg q] at ea'
        exact absurd ea' (f.c m _ e1)
      · rw [if_neg q, if_neg q'] at ea'
        exact R.inj m k c c' e1 e1' ea'
  · intro m c e
    show B.io[m]? = some (if m = ρ.ce.length then p else α m) ∨ B.H (if m = ρ.ce.length then p else α m) = none
    rcases get e with ⟨hm, _⟩ | ⟨q, e1, hb⟩
    · rw [if_pos hm]; exact .inr f.b
    · rw [if_neg q]; exact R.own m c e1
  · intro m a e
    have hm : m < B.io.length := (List.getElem?_eq_some_iff.mp e).1
    rw [← R.ion] at hm
    show (if m = ρ.ce.length then p else α m) = a
    rw [if_neg (by omega)]
    exact R.io m a e
/-- and leaves them -/
theorem Rel.pop {F1 H1 : Hp} {α0 : Nat → Addr} {σ0 : L2.St} {ρ1 ρ5 : Env} {p : Addr} {acc : List D} (R1 : Rel K B F1 H1 α0 σ0 ρ1) (sb : Sub F1 F) (hα : α = fun m => if m = ρ1.ce.length then p else α0 m) (R : Rel K B F H α σ ρ5) (g : ρ5.grown ρ1 acc) (hio : ρ1.io ≤ ρ1.ce.length) :
    Rel K B F H α0 σ0 (ρ5.back ρ1) ∧ Fsh K B F H α0 (ρ5.back ρ1) p acc := by
  subst hα
  have hne : ρ5.ce ≠ [] := fun e => by have := g.len; rw [e] at this; simp at this
  have last : ρ5.ce[ρ1.ce.length]? = some (some (.lst acc)) := by
    have := g.last
    rw [List.getLast?_eq_getElem?, g.len] at this
    exact this
  have get : ∀ {m : Nat} {c : Ce}, (ρ5.back ρ1).ce[m]? = some (some c) → m < ρ1.ce.length ∧ ρ5.ce[m]? = some (some c) ∧ c.has ρ1.ce.length = false := fun {m c} e => by
    have e' : (ρ5.ce.dropLast)[m]? = some (some c) := e
    have hm : m < ρ5.ce.dropLast.length := (List.getElem?_eq_some_iff.mp e').1
    rw [List.length_dropLast, g.len] at hm
    rw [List.getElem?_dropLast] at e'
    split at e'
    · exact ⟨by omega, e', all_ce g.no e'⟩
    · cases e'
  obtain ⟨lf, lr⟩ := R.ce _ _ last
  have ep : (if ρ1.ce.length = ρ1.ce.length then p else α0 ρ1.ce.length) = p := if_pos rfl
  have lf' : F p = none := by rw [← ep]; exact lf
  have lr' : ∃ vs, H p = some (.lst vs) ∧ IsL K F acc vs := by
    obtain ⟨vs, h1, h2⟩ := lr
    have h1' : H (if ρ1.ce.length = ρ1.ce.length then p else α0 ρ1.ce.length) = some (.lst vs) := h1
    rw [ep] at h1'
    exact ⟨vs, h1', h2⟩
  have at_ : ∀ {m : Nat}, m < ρ1.ce.length → (if m = ρ1.ce.length then p else α0 m) = α0 m := fun {m} h => if_neg (Nat.ne_of_lt h)
  have turnS : ∀ {s : S} {v : V}, s.isL ρ1.ce.length = false → RepS K F (fun m => if m = ρ1.ce.length then p else α0 m) s v → RepS K F α0 s v := fun {s v} h r => by
    cases s with
    | val d => exact r
    | loc m =>
      have hm : m ≠ ρ1.ce.length := by
        intro e
        rw [e] at h
        simp [S.isL] at h
      have r' : v = .ref (if m = ρ1.ce.length then p else α0 m) := r
      rw [if_neg hm] at r'
      exact r'
  have turnL : ∀ {ss : List S} {vs : List V}, ss.any (S.isL ρ1.ce.length) = false → RepSL K F (fun m => if m = ρ1.ce.length then p else α0 m) ss vs → RepSL K F α0 ss vs := by
    intro ss
    induction ss with
    | nil => intro vs _ r; exact r
    | cons s ss ih =>
      intro vs h r
      obtain ⟨v, r2, e, h1, h2⟩ := r
      rw [List.any_cons, Bool.or_eq_false_iff] at h
      exact ⟨v, r2, e, turnS h.1 h1, ih h.2 h2⟩
  have turnC : ∀ {c : Ce} {a : Addr}, c.has ρ1.ce.length = false → RepC K F H (fun m => if m = ρ1.ce.length then p else α0 m) a c → RepC K F H α0 a c := fun {c a} h r => by
    cases c with
    | lst ds => exact r
    | ins A ns ss =>
      obtain ⟨dx, vs, h1, h2, h3⟩ := r
      exact ⟨dx, vs, h1, h2, turnL h h3⟩
  refine ⟨{ sub := R.sub, sl := ?_, ce := ?_, inj := ?_, f0 := R.f0, kept := R.kept, dom := R.dom, fresh := R.fresh, own := ?_, io := ?_, len := R1.len, ion := R.ion }, ⟨lr', lf', ?_, ?_⟩⟩
  · intro i s e
    obtain ⟨v, e1, e2⟩ := R1.sl i s e
    exact ⟨v, e1, e2.mono sb⟩
  · intro m c e
    obtain ⟨hm, e1, hb⟩ := get e
    obtain ⟨h1, h2⟩ := R.ce m c e1
    have h1' : F (if m = ρ1.ce.length then p else α0 m) = none := h1
    have h2' : RepC K F H (fun m => if m = ρ1.ce.length then p else α0 m) (if m = ρ1.ce.length then p else α0 m) c := h2
    rw [at_ hm] at h1' h2'
    exact ⟨h1', turnC hb h2'⟩
  · intro m k c c' e e' ea
    obtain ⟨hm, e1, _⟩ := get e
    obtain ⟨hk, e2, _⟩ := get e'
    refine R.inj m k c c' e1 e2 ?_
    show (if m = ρ1.ce.length then p else α0 m) = (if k = ρ1.ce.length then p else α0 k)
    rw [at_ hm, at_ hk]; exact ea
  · intro m c e
    obtain ⟨hm, e1, _⟩ := get e
    have := R.own m c e1
    have this' : B.io[m]? = some (if m = ρ1.ce.length then p else α0 m) ∨ B.H (if m = ρ1.ce.length then p else α0 m) = none := this
    rw [at_ hm] at this'
    exact this'
  · intro m a e
    exact R1.io m a e
  · have := R.own _ _ last
    have this' : B.io[ρ1.ce.length]? = some (if ρ1.ce.length = ρ1.ce.length then p else α0 ρ1.ce.length) ∨ B.H (if ρ1.ce.length = ρ1.ce.length then p else α0 ρ1.ce.length) = none := this
    rw [ep] at this'
    rcases this' with z | z
    · have := (List.getElem?_eq_some_iff.mp z).1
      rw [← R1.ion] at this
      omega
    · exact z
  · intro m c e z
    obtain ⟨hm, e1, _⟩ := get e
    have := R.inj m ρ1.ce.length c _ e1 last (by
      show (if m = ρ1.ce.length then p else α0 m) = (if ρ1.ce.length = ρ1.ce.length then p else α0 ρ1.ce.length)
      rw [at_ hm, ep]; exact z)
    omega
end
/-! ### a reading that stands for all of them -/
def canE (K : PySem.W.Frag) (t : ZT) : TE := fun σ H Q0 => ∃ B F α ρ Q, Rel K B F H α σ ρ ∧ t ρ Q ∧ ∀ F' H' s ρ' v, Rel K B F' H' α σ ρ' → Sub F F' → RepS K F' α s v → Q s ρ' → Q0 v H'
def canC (K : PySem.W.Frag) (t : ZC) : TT := fun σ H Q0 => ∃ B F α ρ Q, Rel K B F H α σ ρ ∧ t ρ Q ∧ ∀ F' H' b ρ', Rel K B F' H' α σ ρ' → Sub F F' → Q b ρ' → Q0 b H'
def canG (K : PySem.W.Frag) (g : ZG) (vs : List Nat) : TG := fun v σ H Q0 => ∃ B F α ρ d Q, Rel K B F H α σ ρ ∧ Is K F d v ∧ g d ρ Q ∧ ∀ σ' ρ', L2.wipe σ' vs = L2.wipe σ vs → Rel K B F H α σ' ρ' → Q ρ' → Q0 σ' H
theorem wipe_get (σ : L2.St) : ∀ (vs : List Nat) (j : Nat), (L2.wipe σ vs)[j]? = if j ∈ vs then (if j < σ.length then some none else none) else σ[j]?
  | [], j => by simp [L2.wipe]
  | v :: vs, j => by
    show ((L2.wipe σ vs).set v none)[j]? = _
    rw [List.getElem?_set, wipe_get σ vs j, wipe_length]
    by_cases q : v = j
    · subst q
      simp
    · rw [if_neg q]
      have : (j ∈ v :: vs) ↔ j ∈ vs := by
        rw [List.mem_cons]
        exact ⟨fun h => h.resolve_left (fun e => q e.symm), .inr⟩
      simp only [this]
theorem wipe_set {σ : L2.St} {i : Nat} {x : Option V} {vs : List Nat} (h : i ∈ vs) : L2.wipe (σ.set i x) vs = L2.wipe σ vs := by
  refine List.ext_getElem? fun j => ?_
  rw [wipe_get, wipe_get, List.length_set]
  by_cases q : j ∈ vs
  · rw [if_pos q, if_pos q]
  · rw [if_neg q, if_neg q, List.getElem?_set_ne (fun e => q (by rw [← e]; exact h))]
/-- a target whose names are the block's own -/
structure ZGv (X : Cx) (tg : Expr) (g : ZG) (vs : List Nat) : Prop where
  ok : ∃ g0, PG X tg g0 ∧ ∀ (B : Base) (F H : Hp) (α : Nat → Addr) (σ : L2.St) (ρ : Env) (d : D) (v : V) (Q0 : L2.St → Hp → Prop) (Q : Env → Prop), Rel X.K B F H α σ ρ → Is X.K F d v → g d ρ Q →
    (∀ σ' ρ', L2.wipe σ' vs = L2.wipe σ vs → Rel X.K B F H α σ' ρ' → Q ρ' → Q0 σ' H) → g0 v σ H Q0
structure ZGw (X : Cx) (tg : List Expr) (g : ZGL) (vs : List Nat) : Prop where
  ok : ∃ g0, PGs X tg g0 ∧ ∀ (B : Base) (F H : Hp) (α : Nat → Addr) (σ : L2.St) (ρ : Env) (d : List D) (v : List V) (Q0 : L2.St → Hp → Prop) (Q : Env → Prop), Rel X.K B F H α σ ρ → IsL X.K F d v → g d ρ Q →
    (∀ σ' ρ', L2.wipe σ' vs = L2.wipe σ vs → Rel X.K B F H α σ' ρ' → Q ρ' → Q0 σ' H) → g0 v σ H Q0
theorem zv_name (i : Nat) {vs : List Nat} {X : Cx} {x : Str} {pos : Pos} (hN : X.N.Nodup) (hi : X.N[i]? = some x := by rfl) (hx : Loc X.env.scope x := by first | exact .inl rfl | exact .inr rfl) (hf : X.fn x = true ∨ X.env.scope.names.lookup x = some .local := by first | exact .inl rfl | exact .inr rfl | assumption) (hm : i ∈ vs := by decide) : ZGv X (.Name x pos) (zgName i) vs :=
  ⟨_, pg_name hN hi hx hf, fun B F H α σ ρ d v Q0 Q R i h k => k _ _ (wipe_set hm) (R.put (s := .val d) i) h⟩
theorem zw_nil {X : Cx} {vs : List Nat} : ZGw X [] zgNil vs := ⟨_, pgs_nil, fun B F H α σ ρ ds ws Q0 Q R i h k => by
  obtain ⟨rfl, h⟩ := h
  exact ⟨i, k _ _ rfl R h⟩⟩
theorem zw_cons {X : Cx} {vs : List Nat} {e : Expr} {es : List Expr} {g : ZG} {gs : ZGL} (h1 : ZGv X e g vs) (h2 : ZGw X es gs vs) (hs : (assignEach (e :: es) X.env).map (·.2) = assign e X.env :: (assignEach es X.env).map (·.2) := by rfl) : ZGw X (e :: es) (zgCons g gs) vs := by
  obtain ⟨g0, p0, s0⟩ := h1.ok
  obtain ⟨g1, p1, s1⟩ := h2.ok
  refine ⟨_, pgs_cons p0 p1 hs, fun B F H α σ ρ ds ws Q0 Q R i h k => ?_⟩
  cases ds with
  | nil => exact h.elim
  | cons d r =>
    obtain ⟨v, vr, rfl, h1, h2⟩ := i
    refine ⟨v, vr, rfl, s0 B F H α σ ρ d v _ _ R h1 h fun σ' ρ' ew R' q => ?_⟩
    exact s1 B F H α σ' ρ' r vr _ _ R' h2 q fun σ2 ρ2 ew2 R2 q2 => k σ2 ρ2 (ew2.trans ew) R2 q2
theorem zv_tup {X : Cx} {vs : List Nat} {pos : Pos} {es : List Expr} {k : Nat} {gs : ZGL} {n : Nat} (hc : X.calm = true) (h : ZGw X es gs vs) (hn : (assignEach es X.env).length = n := by rfl) (hst : (assignEach es X.env).findIdx? (·.1) = none := by rfl) : ZGv X (.Tuple es k pos) (zgTup n gs) vs := by
  obtain ⟨g0, p0, s0⟩ := h.ok
  refine ⟨_, pg_tup hc p0 hn hst, fun B F H α σ ρ d v Q0 Q R i h k => ?_⟩
  cases d with
  | tup ds =>
    obtain ⟨a, ws, rfl, h1, h2⟩ := i
    exact ⟨a, ws, rfl, .inl (.inl (R.sub _ _ h1)), by rw [h2.length]; exact h.1, s0 B F H α σ ρ ds ws _ _ R h2 h.2 k⟩
  | _ => exact h.elim
theorem ZE.can {X : Cx} {e : Expr} {t : ZT} (h : ZE X e t) : PE X e (canE X.K t) := by
  obtain ⟨t0, p, s⟩ := h.ok
  exact ⟨fun pins st σ H Q0 I ⟨B, F, α, ρ, Q, R, q, k⟩ => p.run pins st σ H Q0 I (s B F H α σ ρ Q0 Q R q k)⟩
theorem ZTs.can {X : Cx} {e : List Expr} {t : ZC} (h : ZTs X e t) : PTs X e (canC X.K t) := by
  obtain ⟨t0, p, s⟩ := h.ok
  exact ⟨fun pins st σ H Q0 I ⟨B, F, α, ρ, Q, R, q, k⟩ => p.run pins st σ H Q0 I (s B F H α σ ρ Q0 Q R q k)⟩
theorem ZGv.can {X : Cx} {e : Expr} {g : ZG} {vs : List Nat} (h : ZGv X e g vs) : PG X e (canG X.K g vs) := by
  obtain ⟨t0, p, s⟩ := h.ok
  exact ⟨fun pins st σ H v u Q0 I r ⟨B, F, α, ρ, d, Q, R, i, q, k⟩ => p.run pins st σ H v u Q0 I r (s B F H α σ ρ d v Q0 Q R i q k)⟩
section
variable {X : Cx} {pos : Pos} {ta : ZT} {te : ZT} {tt : ZC} {g : ZG}
theorem lc_turn {K : PySem.W.Frag} {B : Base} {F1 H1 : Hp} {α : Nat → Addr} {σ : L2.St} {ρ1 : Env} (R1 : Rel K B F1 H1 α σ ρ1) {vs : List Nat} {W : Nat → List D → Env → Prop} {ds : List D} {i : Nat} {p : Addr} {d : D} {x : V} {F H : Hp} {ρ2 : Env} {acc : List D}
    (turn : ∀ (i : Nat) acc ρ2 d, W i acc ρ2 → ds[i]? = some d → ρ2.sl = ρ1.sl ∧ ρ2.ce.length = ρ1.ce.length ∧ ρ2.io = ρ1.io ∧ ρ2.noLoc ρ1.ce.length = true ∧ ρ1.io ≤ ρ1.ce.length ∧ g d ((ρ2.push acc).wipes vs) fun ρ3 => tt ρ3 fun b ρ4 =>
      if b = true then te ρ4 fun y ρ5 => ∃ z, y = .val z ∧ acc.length < 1000000 ∧ ρ5.grown ρ1 acc ∧ W (i + 1) (acc ++ [z]) (ρ5.back ρ1)
      else ρ4.grown ρ1 acc ∧ W (i + 1) acc (ρ4.back ρ1))
    (R : Rel K B F H α σ ρ2) (sb : Sub F1 F) (f : Fsh K B F H α ρ2 p acc) (w : W i acc ρ2) (hd : ds[i]? = some d) (hx : Is K F d x) :
    canG K g vs x (L2.wipe σ vs) H fun σ2 H2 => L2.wipe σ2 vs = L2.wipe σ vs ∧ canC K tt σ2 H2 fun b H3 => if b = true then canE K te σ2 H3 fun y H4 => ∃ acc', H4 p = some (.lst acc') ∧ acc'.length < sizeLine ∧
      (∃ F' acc2 ρ', Rel K B F' (upd H4 p (.lst (acc' ++ [y]))) α σ ρ' ∧ Sub F1 F' ∧ Fsh K B F' (upd H4 p (.lst (acc' ++ [y]))) α ρ' p acc2 ∧ W (i + 1) acc2 ρ')
      else ∃ F' acc2 ρ', Rel K B F' H3 α σ ρ' ∧ Sub F1 F' ∧ Fsh K B F' H3 α ρ' p acc2 ∧ W (i + 1) acc2 ρ' := by
  obtain ⟨e1, e2, e3, e4, e5, tg⟩ := turn i acc ρ2 d w hd
  have hio2 : ρ2.io ≤ ρ2.ce.length := by rw [e3, e2]; exact e5
  have RP := (R.push f hio2 (by rw [e2]; exact e4)).wipes vs
  refine ⟨B, F, _, _, d, _, RP, hx, tg, fun σ3 ρ3 ew R3 q3 => ?_⟩
  have idem : L2.wipe (L2.wipe σ vs) vs = L2.wipe σ vs := by
    refine List.ext_getElem? fun j => ?_
    rw [wipe_get, wipe_get, wipe_length]
    split <;> rfl
  refine ⟨ew.trans idem, ?_⟩
  refine ⟨B, F, _, _, _, R3, q3, fun F4 H4 b ρ4 R4 sb4 q4 => ?_⟩
  have hα : (fun m => if m = ρ2.ce.length then p else α m) = fun m => if m = ρ1.ce.length then p else α m := by rw [e2]
  cases b with
  | true =>
    refine ⟨B, F4, _, _, _, R4, q4, fun F5 H5 y ρ5 v R5 sb5 r5 q5 => ?_⟩
    obtain ⟨z, rfl, hl, gr, w'⟩ := q5
    have last : ρ5.ce[ρ1.ce.length]? = some (some (.lst acc)) := by
      have := gr.last
      rw [List.getLast?_eq_getElem?, gr.len] at this
      exact this
    obtain ⟨lf, vs', hv, iv⟩ := R5.ce _ _ last
    have ep : (if ρ1.ce.length = ρ2.ce.length then p else α ρ1.ce.length) = p := if_pos e2.symm
    have hv' : H5 (if ρ1.ce.length = ρ2.ce.length then p else α ρ1.ce.length) = some (.lst vs') := hv
    rw [ep] at hv'
    refine ⟨vs', hv', size_lt (by rw [iv.length]; omega), ?_⟩
    have R6 := R5.setC (n := ρ1.ce.length) (c := .lst (acc ++ [z])) (o := .lst (vs' ++ [v])) last ⟨vs' ++ [v], upd_same, iv.append (IsL.one r5)⟩
    have R6' : Rel K B F5 (upd H5 p (.lst (vs' ++ [v]))) (fun m => if m = ρ2.ce.length then p else α m) σ3 (ρ5.setCe ρ1.ce.length (.lst (acc ++ [z]))) := by
      have h : Rel K B F5 (upd H5 (if ρ1.ce.length = ρ2.ce.length then p else α ρ1.ce.length) (.lst (vs' ++ [v]))) (fun m => if m = ρ2.ce.length then p else α m) σ3 (ρ5.setCe ρ1.ce.length (.lst (acc ++ [z]))) := R6
      rw [ep] at h
      exact h
    have gr' : (ρ5.setCe ρ1.ce.length (.lst (acc ++ [z]))).grown ρ1 (acc ++ [z]) := by
      refine ⟨?_, ?_, ?_⟩
      · show (ρ5.ce.set ρ1.ce.length (some (.lst (acc ++ [z])))).getLast? = _
        rw [List.getLast?_eq_getElem?, List.length_set, gr.len]
        show (ρ5.ce.set ρ1.ce.length (some (.lst (acc ++ [z]))))[ρ1.ce.length]? = _
        rw [List.getElem?_set_self (by rw [gr.len]; omega)]
      · show (ρ5.ce.set ρ1.ce.length _).length = _
        rw [List.length_set]; exact gr.len
      · show (ρ5.ce.set ρ1.ce.length (some (.lst (acc ++ [z])))).all _ = true
        refine List.all_eq_true.mpr fun o ho => ?_
        rcases List.mem_or_eq_of_mem_set ho with h | h
        · exact List.all_eq_true.mp gr.no o h
        · subst h; rfl
    obtain ⟨R7, f7⟩ := R1.pop ((sb.trans sb4).trans sb5) hα R6' gr' e5
    have eb : (ρ5.setCe ρ1.ce.length (.lst (acc ++ [z]))).back ρ1 = ρ5.back ρ1 := by
      show ({ sl := ρ1.sl, ce := (ρ5.ce.set ρ1.ce.length (some (.lst (acc ++ [z])))).dropLast, io := ρ5.io } : Env) = { sl := ρ1.sl, ce := ρ5.ce.dropLast, io := ρ5.io }
      congr 1
      rw [List.dropLast_eq_take, List.dropLast_eq_take, List.length_set, gr.len]
      show (ρ5.ce.set ρ1.ce.length _).take ρ1.ce.length = ρ5.ce.take ρ1.ce.length
      rw [List.take_set_of_le (Nat.le_refl _)]
    rw [eb] at R7 f7
    exact ⟨F5, acc ++ [z], ρ5.back ρ1, R7, (sb.trans sb4).trans sb5, f7, w'⟩
  | false =>
    obtain ⟨gr, w'⟩ := q4
    obtain ⟨R7, f7⟩ := R1.pop (sb.trans sb4) hα R4 gr e5
    exact ⟨F4, acc, ρ4.back ρ1, R7, sb.trans sb4, f7, w'⟩
theorem snd_lcL {K : PySem.W.Frag} {i0 : TE} {vs0 : List Nat} (si : SndE K i0 ta) : SndL K (tLc (iList K i0) (canG K g vs0) (canC K tt) (canE K te) vs0) (zLc false ta g tt te vs0) := by
  refine fun B F H α σ ρ Q0 Q R h k => si B F H α σ ρ _ _ R h fun F1 H1 s ρ1 v R1 sb1 r1 q1 => ?_
  obtain ⟨ds, rfl, W, w0, turn, done⟩ := q1
  obtain ⟨a, vs, rfl, ha, hl⟩ := r1
  refine ⟨a, rfl, ⟨vs, .inl (.inl (R1.sub _ _ ha))⟩, fun p hp => ⟨fun i m H' => m = ds.length - i ∧ i ≤ ds.length ∧ ∃ F' acc ρ', Rel K B F' H' α σ ρ' ∧ Sub F1 F' ∧ Fsh K B F' H' α ρ' p acc ∧ W i acc ρ', ⟨ds.length, rfl, Nat.zero_le _, F1, [], ρ1, R1.ext (Ext.temp R1.sub hp), Sub.refl F1, ⟨⟨[], upd_same, rfl⟩, R1.sub.none hp, R1.bnone hp, R1.cne hp⟩, w0⟩, ?_⟩⟩
  rintro i m H' ⟨rfl, hi, F', acc, ρ', R', sb', f', w'⟩
  have hseq : SqL K H' a vs := .inl (.inl (R'.sub _ _ (sb' _ _ ha)))
  by_cases hlt : i < ds.length
  · obtain ⟨x, ex, ix⟩ := hl.get (List.getElem?_eq_getElem hlt)
    refine .inr ⟨⟨vs, x, hseq, ex⟩, fun H2 => ∃ F' acc2 ρ', Rel K B F' H2 α σ ρ' ∧ Sub F1 F' ∧ Fsh K B F' H2 α ρ' p acc2 ∧ W (i + 1) acc2 ρ', fun H2 z => ⟨ds.length - (i + 1), by omega, rfl, hlt, z⟩, fun y H2 hy => ?_⟩
    obtain ⟨rfl, hy⟩ := hy
    have ey := hy vs hseq
    rw [ex] at ey
    cases ey
    exact lc_turn R1 turn R' sb' f' w' (List.getElem?_eq_getElem hlt) (Is.mono sb' _ _ ix)
  · have e : i = ds.length := by omega
    subst e
    refine .inl ⟨⟨vs, hseq, by rw [hl.length]; exact Nat.le_refl _⟩, ?_⟩
    obtain ⟨_, _, q⟩ := done acc ρ' w'
    exact k F' H' acc ρ' p R' (sb1.trans sb') f' q
theorem snd_lcT {K : PySem.W.Frag} {i0 : TE} {vs0 : List Nat} (si : SndE K i0 ta) : SndL K (tLc (iTup K i0) (canG K g vs0) (canC K tt) (canE K te) vs0) (zLc true ta g tt te vs0) := by
  refine fun B F H α σ ρ Q0 Q R h k => si B F H α σ ρ _ _ R h fun F1 H1 s ρ1 v R1 sb1 r1 q1 => ?_
  obtain ⟨ds, rfl, W, w0, turn, done⟩ := q1
  obtain ⟨a, vs, rfl, ha, hl⟩ := r1
  refine ⟨a, rfl, ⟨vs, .inl (.inl (R1.sub _ _ ha))⟩, fun p hp => ⟨fun i m H' => m = ds.length - i ∧ i ≤ ds.length ∧ ∃ F' acc ρ', Rel K B F' H' α σ ρ' ∧ Sub F1 F' ∧ Fsh K B F' H' α ρ' p acc ∧ W i acc ρ', ⟨ds.length, rfl, Nat.zero_le _, F1, [], ρ1, R1.ext (Ext.temp R1.sub hp), Sub.refl F1, ⟨⟨[], upd_same, rfl⟩, R1.sub.none hp, R1.bnone hp, R1.cne hp⟩, w0⟩, ?_⟩⟩
  rintro i m H' ⟨rfl, hi, F', acc, ρ', R', sb', f', w'⟩
  have hseq : SqT K H' a vs := .inl (.inl (R'.sub _ _ (sb' _ _ ha)))
  by_cases hlt : i < ds.length
  · obtain ⟨x, ex, ix⟩ := hl.get (List.getElem?_eq_getElem hlt)
    refine .inr ⟨⟨vs, x, hseq, ex⟩, fun H2 => ∃ F' acc2 ρ', Rel K B F' H2 α σ ρ' ∧ Sub F1 F' ∧ Fsh K B F' H2 α ρ' p acc2 ∧ W (i + 1) acc2 ρ', fun H2 z => ⟨ds.length - (i + 1), by omega, rfl, hlt, z⟩, fun y H2 hy => ?_⟩
    obtain ⟨rfl, hy⟩ := hy
    have ey := hy vs hseq
    rw [ex] at ey
    cases ey
    exact lc_turn R1 turn R' sb' f' w' (List.getElem?_eq_getElem hlt) (Is.mono sb' _ _ ix)
  · have e : i = ds.length := by omega
    subst e
    refine .inl ⟨⟨vs, hseq, by rw [hl.length]; exact Nat.le_refl _⟩, ?_⟩
    obtain ⟨_, _, q⟩ := done acc ρ' w'
    exact k F' H' acc ρ' p R' (sb1.trans sb') f' q
theorem zf_lc (isT : Bool) {elt tg iter : Expr} {ifs : List Expr} {scope : Scope} (own : List (Str × Nat)) (hc : X.calm = true) (hN : X.N.Nodup) (hi : ZE X iter ta) (ok : BlkOk X.N X.env.scope scope own)
    (hg : ∀ (s : Shared) (H : Hp) (C : Addr) (cl : List (Str × Addr)) (fp : List Addr), ZGv (X.blk s H scope (compEnvC scope cl C X.env) fp) tg g (own.map (·.2)))
    (ht : ∀ (s : Shared) (H : Hp) (C : Addr) (cl : List (Str × Addr)) (fp : List Addr), ZTs (X.blk s H scope (compEnvC scope cl C X.env) fp) ifs tt)
    (he : ∀ (s : Shared) (H : Hp) (C : Addr) (cl : List (Str × Addr)) (fp : List Addr), ZE (X.blk s H scope (compEnvC scope cl C X.env) fp) elt te)
    (hs : ∀ x, foldedSetIterable iter X.env x = pure x := by intro _; rfl) : ZF X (.ListComp elt [⟨tg, iter, ifs, 0⟩] scope pos) (zLc isT ta g tt te (own.map (·.2))) := by
  obtain ⟨i0, pi, si⟩ := hi.ok
  have pg : ∀ (s : Shared) (H : Hp) (C : Addr) (cl : List (Str × Addr)) (fp : List Addr), PG (X.blk s H scope (compEnvC scope cl C X.env) fp) tg (canG X.K g (own.map (·.2))) := fun s H C cl fp => (hg s H C cl fp).can
  have pt : ∀ (s : Shared) (H : Hp) (C : Addr) (cl : List (Str × Addr)) (fp : List Addr), PTs (X.blk s H scope (compEnvC scope cl C X.env) fp) ifs (canC X.K tt) := fun s H C cl fp => (ht s H C cl fp).can
  have pe : ∀ (s : Shared) (H : Hp) (C : Addr) (cl : List (Str × Addr)) (fp : List Addr), PE (X.blk s H scope (compEnvC scope cl C X.env) fp) elt (canE X.K te) := fun s H C cl fp => (he s H C cl fp).can
  cases isT with
  | false => exact ⟨_, pe_lc hc hN (pi_list pi) ok pg pt pe hs, snd_lcL si⟩
  | true => exact ⟨_, pe_lc hc hN (pi_tup pi) ok pg pt pe hs, snd_lcT si⟩
/-- y = [..] -/
theorem zs_setLc (i : Nat) (isT : Bool) {y : Str} {py spos : Pos} {elt tg iter : Expr} {ifs : List Expr} {scope : Scope} (own : List (Str × Nat)) (hc : X.calm = true) (hN : X.N.Nodup) (hi : ZE X iter ta) (ok : BlkOk X.N X.env.scope scope own)
    (hg : ∀ (s : Shared) (H : Hp) (C : Addr) (cl : List (Str × Addr)) (fp : List Addr), ZGv (X.blk s H scope (compEnvC scope cl C X.env) fp) tg g (own.map (·.2)))
    (ht : ∀ (s : Shared) (H : Hp) (C : Addr) (cl : List (Str × Addr)) (fp : List Addr), ZTs (X.blk s H scope (compEnvC scope cl C X.env) fp) ifs tt)
    (he : ∀ (s : Shared) (H : Hp) (C : Addr) (cl : List (Str × Addr)) (fp : List Addr), ZE (X.blk s H scope (compEnvC scope cl C X.env) fp) elt te)
    (hy : X.N[i]? = some y := by rfl) (hyl : X.env.scope.names.lookup y = some .local := by rfl)
    (hsw : swapsWith (.ListComp elt [⟨tg, iter, ifs, 0⟩] scope pos) (some (.Name y py)) spos.line X.env = pure true := by exact sw_true rfl rfl rfl (by decide +kernel))
    (hs : ∀ x, foldedSetIterable iter X.env x = pure x := by intro _; rfl) : ZSt X (.Assign [.Name y py] (.ListComp elt [⟨tg, iter, ifs, 0⟩] scope pos) spos) (zAsg (zE (zLc isT ta g tt te (own.map (·.2)))) i) := by
  obtain ⟨i0, pi, si⟩ := hi.ok
  have pg : ∀ (s : Shared) (H : Hp) (C : Addr) (cl : List (Str × Addr)) (fp : List Addr), PG (X.blk s H scope (compEnvC scope cl C X.env) fp) tg (canG X.K g (own.map (·.2))) := fun s H C cl fp => (hg s H C cl fp).can
  have pt : ∀ (s : Shared) (H : Hp) (C : Addr) (cl : List (Str × Addr)) (fp : List Addr), PTs (X.blk s H scope (compEnvC scope cl C X.env) fp) ifs (canC X.K tt) := fun s H C cl fp => (ht s H C cl fp).can
  have pe : ∀ (s : Shared) (H : Hp) (C : Addr) (cl : List (Str × Addr)) (fp : List Addr), PE (X.blk s H scope (compEnvC scope cl C X.env) fp) elt (canE X.K te) := fun s H C cl fp => (he s H C cl fp).can
  have fin : ∀ {t0 : TE}, SndL X.K t0 (zLc isT ta g tt te (own.map (·.2))) → SndS X.K (tAsg t0 (gName i)) (zAsg (zE (zLc isT ta g tt te (own.map (·.2)))) i) := fun {t0} s B F H α σ ρ D0 D R h k => s B F H α σ ρ _ _ R h fun F1 H1 ds ρ1 p R1 sb f q => by
    obtain ⟨ws, hw, iw⟩ := f.h
    exact k.nx _ H1 α _ _ ((R1.know hw f.f f.b f.c).put (s := .val (.lst ds)) ⟨p, ws, rfl, upd_same, IsL.mono (Sub.self f.f) _ _ iw⟩) (sb.trans (Sub.self f.f)) q
  cases isT with
  | false => exact ⟨_, ps_setLc hc hN hy hyl hsw (pi_list pi) ok pg pt pe hs, fin (snd_lcL si)⟩
  | true => exact ⟨_, ps_setLc hc hN hy hyl hsw (pi_tup pi) ok pg pt pe hs, fin (snd_lcT si)⟩
end
end Z

set_option Elab.async false
set_option linter.all false
set_option maxRecDepth 100000
namespace Z
open PySem PySem.Spec PyProof.Rows L2

/-! ### operators of one's own classes -/
/-- what stands of an operator's method -/
structure OwnT (P : Program) (w : World) (K : PySem.W.Frag) (mg : Str → Option Value) (base : Heap) (k : Nat) (C : Addr) (m : Str) (g : G) : Prop where
  ok : ∃ (f : Addr) (fd : FuncData) (ps : List Str), PySem.W.findIn K (.ref C) m = some (some (.ref f)) ∧ PySem.W.isFn K (.ref f) = true ∧ FnOk P w K mg base CX0 k f fd ps (spZ K g) ∧ Binds K fd ps []
structure Own (X : Cx) (k : Nat) (C : Addr) (m : Str) (g : G) : Prop where
  ok : ∃ (CX : CXT) (f : Addr) (fd : FuncData) (ps : List Str), PySem.W.findIn X.K (.ref C) m = some (some (.ref f)) ∧ PySem.W.isFn X.K (.ref f) = true ∧ FnOk X.prog X.w X.K X.mg X.base CX k f fd ps (spZ X.K g) ∧ Binds X.K fd ps [] ∧ Passes CX X E0
theorem OwnT.ow {X : Cx} {k : Nat} {C : Addr} {m : Str} {g : G} (h : OwnT X.prog X.w X.K X.mg X.base k C m g) : Own X k C m g := by
  obtain ⟨f, fd, ps, a, b, c, d⟩ := h.ok
  exact ⟨CX0, f, fd, ps, a, b, c, d, pass0⟩
/-- two instances of the class at C, handed to a method of it -/
def rOwn2 (K : PySem.W.Frag) (C : Addr) (g : G) : R2 := fun x y H Q => ∃ a b dx dy fs gs, x = .ref a ∧ y = .ref b ∧ H a = some (.ins C dx fs) ∧ H b = some (.ins C dy gs) ∧ spZ K g [x, y] H Q E0
def gOwn2 (C : Addr) (g : G) : D → D → (D → Prop) → Prop
  | .ins A ns ds, .ins A' ms es, P => A = C ∧ A' = C ∧ g [.val (.ins A ns ds), .val (.ins A' ms es)] [] (fun r _ => match r with
    | .val z => P z
    | .fr _ => False) (fun _ _ => False)
  | _, _, _ => False
theorem oz_own2 {K : PySem.W.Frag} {C : Addr} {g : G} : OpZ K (rOwn2 K C g) (gOwn2 C g) := by
  intro F H x y u v P Q sb hx hy h k
  unfold gOwn2 at h
  split at h
  · rename_i A ns ds A' ms es
    obtain ⟨rfl, rfl, h⟩ := h
    obtain ⟨a, dx, vs, rfl, h1, h2, h3⟩ := id hx
    obtain ⟨b, dy, ws, rfl, h4, h5, h6⟩ := id hy
    refine ⟨a, b, dx, dy, _, _, rfl, rfl, sb _ _ h1, sb _ _ h4, ?_⟩
    exact pr_sp F H [.ins _ ns ds, .ins _ ms es] [.ref a, .ref b] P Q sb ⟨.ref a, _, rfl, hx, .ref b, _, rfl, hy, rfl⟩ h k
  · exact h.elim
section
variable {X : Cx} {k : Nat} {C : Addr} {g : G}
theorem run_own {CX : CXT} {f : Addr} {fd : FuncData} {ps : List Str} {sp : Sp} {vs : List V} {us : List Value} {pins : List (Addr × Obj)} {σ : L2.St} {H : Hp} {s : Shared} {Q : VK} (F : FnOk X.prog X.w X.K X.mg X.base CX k f fd ps sp) (hr : Room k X.A) (hb : Binds X.K fd ps []) (hx : Passes CX X E0)
    (I : Inv X pins σ H s) (r : Vals vs us) (h : sp vs H Q E0) : wpAny (model X.prog X.w) X.A (call (.ref f) us) (EP X pins σ Q) X.xe s :=
  run_fn (dvs := []) (ds := []) F hr hb .nil hx I r (by rw [List.append_nil]; exact h)
theorem notImpl_of {pins : List (Addr × Obj)} {σ : L2.St} {Q : VK} {v : Value} {s' : Shared} (h : EP X pins σ Q v s') : PySem.W.CmpBack (EP X pins σ Q) v s' := by
  obtain ⟨x, H, I, r, q⟩ := h
  cases v <;> first
    | exact ⟨x, H, I, r, q⟩
    | (exfalso; cases x <;> first | (cases r; done) | (obtain ⟨t, z⟩ := r; cases z; done) | (have z := r; cases z))
theorem op_eqOwn (O : Own X k C "__eq__" g) (hr : Room k X.A) : OpR X (compareOp .Eq) (rOwn2 X.K C g) := by
  obtain ⟨CX, f, fd, ps, hs, hf, F, hb, hx⟩ := O.ok
  intro pins s σ H x y v u Q I rx ry h
  obtain ⟨a, b, dx, dy, fs, gs, rfl, rfl, ha, hb', hsp⟩ := h
  cases rx
  cases ry
  obtain ⟨mA, J, _⟩ := ins_get I.hok ha
  obtain ⟨mB, J', _⟩ := ins_get I.hok hb'
  obtain ⟨od, J, _⟩ := J.look
  obtain ⟨od', J', _⟩ := J'.look
  obtain ⟨m, hF⟩ := I.fr
  show wpAny (model X.prog X.w) X.A (richCompare .Eq (.ref a) (.ref b)) _ _ _
  refine PySem.W.cmp_K (op := .Eq) (tb := .ref C) hr.units0 hF I.ok.mod.kin J J'.type (by simp [PySem.W.notFirst]) hs hf ?_
  exact wpAny_mono (run_own F hr hb hx I (show Vals [V.ref a, V.ref b] [Value.ref a, Value.ref b] from .cons rfl (.cons rfl .nil)) hsp) (fun v s' h => notImpl_of h) fun _ _ z => z
theorem op_binOwn {op : Operator} (O : Own X k C (PySem.dunder op.info.2) g) (hc : PySem.W.selfFirst X.K C = true) (hr : Room k X.A) : OpR X (binaryOp op) (rOwn2 X.K C g) := by
  obtain ⟨CX, f, fd, ps, hs, hf, F, hb, hx⟩ := O.ok
  intro pins s σ H x y v u Q I rx ry h
  obtain ⟨a, b, dx, dy, fs, gs, rfl, rfl, ha, hb', hsp⟩ := h
  cases rx
  cases ry
  obtain ⟨mA, J, _⟩ := ins_get I.hok ha
  obtain ⟨mB, J', _⟩ := ins_get I.hok hb'
  obtain ⟨od, J, _⟩ := J.look
  obtain ⟨od', J', _⟩ := J'.look
  obtain ⟨m, hF⟩ := I.fr
  refine PySem.W.binop_K hF I.ok.mod.kin J J'.type hc hs hf ?_
  exact wpAny_mono (run_own F hr hb hx I (show Vals [V.ref a, V.ref b] [Value.ref a, Value.ref b] from .cons rfl (.cons rfl .nil)) hsp) (fun v s' h => notImpl_of h) fun _ _ z => z

/-! ### keyword-only makers -/
structure ZK (X : Cx) (kws : List Keyword) (t : ZR) : Prop where
  ok : ∃ t0, PK X kws t0 ∧ SndR X.K t0 t
theorem zk_nil : ZK X [] zNil := ⟨_, pk_nil, fun B F H α σ ρ Q0 Q R h k => k F H [] ρ [] R (Sub.refl F) rfl h⟩
theorem zk_cons {e : Expr} {nm : Option Str} {kpos : Pos} {kws : List Keyword} {ta : ZT} {tr : ZR} (ha : ZE X e ta) (hr : ZK X kws tr) : ZK X (⟨nm, e, kpos⟩ :: kws) (zCons ta tr) := by
  obtain ⟨t0, p0, s0⟩ := ha.ok
  obtain ⟨u0, p1, s1⟩ := hr.ok
  refine ⟨_, pk_cons p0 p1, fun B F H α σ ρ Q0 Q R h k => ?_⟩
  refine s0 B F H α σ ρ _ _ R h fun F1 H1 s ρ1 u R1 sb1 r1 q1 => ?_
  refine s1 B F1 H1 α σ ρ1 _ _ R1 q1 fun F2 H2 ss ρ2 vs R2 sb2 r2 q2 => ?_
  exact k F2 H2 (s :: ss) ρ2 (u :: vs) R2 (sb1.trans sb2) ⟨u, vs, rfl, r1.mono sb2, r2⟩ q2
/-- C(k = v, ..), every keyword given in the parameters' order -/
structure MkKT (P : Program) (w : World) (K : PySem.W.Frag) (mg : Str → Option Value) (base : Heap) (k : Nat) (x : Str) (C : Addr) (ks : List Str) (g : G) : Prop where
  ok : ∃ (f : Addr) (fd : FuncData) (ps : List Str) (g' : List Value → List Value → List Value), Mk K C f ∧ FnOk P w K mg base CX0 k f fd ps (spZ K g) ∧ mg x = some (.ref C) ∧ KBn K fd ps 1 ks g' (fun vs zs => vs ++ zs)
theorem ze_makeK0 {x : Str} {p pos : Pos} {kws : List Keyword} {ks : List Str} {tr : ZR} (M : MkKT X.prog X.w X.K X.mg X.base k x C ks g) (hr : Room (k + 1) X.A) (ha : ZK X kws tr) (hg : Gl X x := by rfl)
    (hall : (backToKw pos (keywordEach kws X.env)).all (·.1.isSome) = true := by rfl) (hks : (backToKw pos (keywordEach kws X.env)).filterMap (·.1) = ks := by rfl) (hdb : (x == ("__debug__" : Str)) = false := by decide)
    (hpl : ((backTo pos (starEach [] X.env)).any (·.1) || (backToKw pos (keywordEach kws X.env)).any (·.1.isNone)) = false := by rfl) :
    ZE X (.Call (.Name x p) [] kws pos) (zCB (fun ds P => ds.length = ks.length ∧ gMake C g ds P) tr) := by
  obtain ⟨t0, p0, s0⟩ := ha.ok
  obtain ⟨f, fd, ps, g', M, F, hm, hb⟩ := M.ok
  refine ⟨_, pe_makeK0 M F hr hg hm hb pass0 p0 hall hks hdb hpl, fun B F' H α σ ρ Q0 Q R h k => ?_⟩
  refine snd_cb (r := fun vs H Q => ([] : List V).length = 0 ∧ vs.length = ks.length ∧ ∀ x dx, H x = none → H dx = none → dx ≠ x → spZ X.K g (.ref x :: vs) (upd (upd H dx (.own x)) x (.ins C dx [])) (fun v H2 => v = .non ∧ Q (.ref x) H2) E0) s0 ?_ B F' H α σ ρ Q0 Q R h k
  intro F1 H1 ds vs P Q1 sb i ⟨hl, hq⟩ kk
  exact ⟨rfl, by rw [i.length]; exact hl, pr_make F1 H1 ds vs P Q1 sb i hq kk⟩
end
end Z

set_option Elab.async false
set_option linter.all false
set_option maxRecDepth 100000
namespace Z
open PySem PySem.Spec PyProof.Rows L2

section
variable {K : PySem.W.Frag}
/-! ### + and * of any kind, as a value -/
def gAdd : D → D → (D → Prop) → Prop
  | .int i, .int j, P => P (.int (i + j))
  | .str a, .str b, P => a.length + b.length ≤ 1000000 ∧ P (.str (a ++ b))
  | .lst a, .lst b, P => a.length + b.length ≤ 1000000 ∧ P (.lst (a ++ b))
  | _, _, _ => False
def rAddZ (K : PySem.W.Frag) : R2 := fun x y H Q => rI0 (fun i j => .int (i + j)) x y H Q ∨ (∃ i j, x = .str i ∧ y = .str j ∧ i.length + j.length ≤ sizeLine ∧ Q (.str (i ++ j)) H) ∨ rCat x y H Q
theorem op_addZ {X : Cx} : OpR X (binaryOp .Add) (rAddZ X.K) := OpR.or op_add (OpR.or op_add_str op_cat)
theorem oz_addZ : OpZ K (rAddZ K) gAdd := by
  intro F H x y u v P Q sb hx hy h k
  unfold gAdd at h
  split at h
  · exact .inl ⟨_, _, hx, hy, k _ F H _ h (Ext.refl sb) rfl⟩
  · exact .inr (.inl ⟨_, _, hx, hy, size_ok h.1, k _ F H _ h.2 (Ext.refl sb) rfl⟩)
  · rename_i a b
    refine .inr (.inr (ol_cat F H (.lst a) (.lst b) u v (fun z => P (.lst z)) Q sb hx hy h fun zs F' H' p ws hP e hp hf hw i => ?_))
    refine k (.lst zs) (upd F' p (.lst ws)) H' (.ref p) hP ⟨e.f.trans (Sub.self hf), e.h, ?_, fun b hb n => ?_⟩ ⟨p, ws, rfl, upd_same, IsL.mono (Sub.self hf) _ _ i⟩
    · intro a u ea
      by_cases z : a = p
      · subst z; rw [upd_same] at ea; rw [hw]; exact ea
      · rw [upd_ne z] at ea; exact e.fh a u ea
    · rw [upd_ne (fun z => hb (by rw [z]; exact hp))]
      exact e.fr b hb n
  · exact h.elim
theorem isL_flat {F : Hp} {ds : List D} {vs : List V} (h : IsL K F ds vs) : ∀ n : Nat, IsL K F (List.replicate n ds).flatten (List.replicate n vs).flatten
  | 0 => rfl
  | n + 1 => by
    rw [List.replicate_succ, List.replicate_succ, List.flatten_cons, List.flatten_cons]
    exact h.append (isL_flat h n)
theorem ol_rep : OpL K rRep gRep := by
  intro F H x y u v P Q sb hx hy h k
  unfold gRep at h
  split at h
  · rename_i a n
    obtain ⟨p, vs, rfl, h1, h2⟩ := hx
    obtain ⟨g1, g2, g3, g4⟩ := h
    refine ⟨p, n, vs, rfl, hy, sb _ _ h1, by omega, by omega, size_ok (by rw [h2.length]; exact g3), fun r hr => ?_⟩
    exact k _ F _ r _ g4 (Ext.temp sb hr) hr (sb.none hr) upd_same (isL_flat h2 _)
  · exact h.elim
/-! ### slices -/
def cutD (xs : List D) (lo hi : Option Int) : List D := (xs.drop (HT.sIx xs.length 0 lo)).take (HT.sIx xs.length xs.length hi - HT.sIx xs.length 0 lo)
theorem isL_cut {F : Hp} {ds : List D} {vs : List V} (h : IsL K F ds vs) (lo hi : Option Int) : IsL K F (cutD ds lo hi) (cutV vs lo hi) := by
  unfold cutD cutV
  rw [h.length]
  exact (h.drop _).take _
end
/-- a part of a slice -/
abbrev ZO := Env → (Option Int → Env → Prop) → Prop
def SndO (K : PySem.W.Frag) (t0 : TO) (t : ZO) : Prop := ∀ (B : Base) (F H : Hp) (α : Nat → Addr) (σ : L2.St) (ρ : Env) (Q0 : Option Int → Hp → Prop) (Q : Option Int → Env → Prop), Rel K B F H α σ ρ → t ρ Q → (∀ F' H' o ρ', Rel K B F' H' α σ ρ' → Sub F F' → Q o ρ' → Q0 o H') → t0 σ H Q0
structure ZPo (X : Cx) (e : Option Expr) (t : ZO) : Prop where
  ok : ∃ t0, PO X e t0 ∧ SndO X.K t0 t
section
variable {X : Cx} {pos p2 : Pos} {a b c e o : Expr} {ta tb tc : ZT} {tl : ZL} {tr : ZR} {lo hi : Option Expr} {ol oh : ZO}
def zoNone : ZO := fun ρ Q => Q none ρ
theorem zo_none : ZPo X none zoNone := ⟨_, po_none, fun B F H α σ ρ Q0 Q R h k => k F H none ρ R (Sub.refl F) h⟩
def zoSome (ta : ZT) : ZO := fun ρ Q => ta ρ fun s ρ1 => ∃ i, s = .val (.int i) ∧ Q (some i) ρ1
theorem zo_some (ha : ZE X e ta) : ZPo X (some e) (zoSome ta) := by
  obtain ⟨t0, p0, s0⟩ := ha.ok
  refine ⟨_, po_some p0, fun B F H α σ ρ Q0 Q R h k => s0 B F H α σ ρ _ _ R h fun F1 H1 s ρ1 v R1 sb r q => ?_⟩
  obtain ⟨i, rfl, q⟩ := q
  exact ⟨i, r, k F1 H1 (some i) ρ1 R1 sb q⟩
/-- the items of a list that is read -/
def D.items : D → Option (List D)
  | .lst ds => some ds
  | .scr ns => some (ns.map .int)
  | _ => none
def zSl (ta : ZT) (ol oh : ZO) : ZL := fun ρ Q => ta ρ fun s ρ1 => ol ρ1 fun lo ρ2 => oh ρ2 fun hi ρ3 => s.vw ρ3 fun d p => ∃ ds, d.items = some ds ∧ okL p (cutD ds lo hi) ∧ Q (cutD ds lo hi) ρ3
theorem items_is {K : PySem.W.Frag} {F : Hp} {d : D} {v : V} {ds : List D} (h : Is K F d v) (e : d.items = some ds) : ∃ a vs, v = .ref a ∧ SqL K F a vs ∧ IsL K F ds vs := by
  cases d with
  | lst l =>
    cases e
    obtain ⟨a, vs, rfl, h1, h2⟩ := h
    exact ⟨a, vs, rfl, .inl (.inl h1), h2⟩
  | scr ns =>
    cases e
    obtain ⟨a, rfl, h1⟩ := h
    exact ⟨a, _, rfl, h1, IsL.of_ints ns⟩
  | _ => cases e
theorem zf_sl (he : ZE X e ta) (hl : ZPo X lo ol) (hh : ZPo X hi oh) : ZF X (.Subscript e (.Slice lo hi none p2) pos) (zSl ta ol oh) := by
  obtain ⟨t0, p0, s0⟩ := he.ok
  obtain ⟨l0, pl, sl⟩ := hl.ok
  obtain ⟨h0, ph, sh⟩ := hh.ok
  refine ⟨_, pe_slice sl_list p0 pl ph, fun B F H α σ ρ Q0 Q R h k => s0 B F H α σ ρ _ _ R h fun F1 H1 s ρ1 v R1 sb1 r1 q1 => sl B F1 H1 α σ ρ1 _ _ R1 q1 fun F2 H2 lo' ρ2 R2 sb2 q2 => sh B F2 H2 α σ ρ2 _ _ R2 q2 fun F3 H3 hi' ρ3 R3 sb3 q3 => ?_⟩
  obtain ⟨d, p, i1, i2, ds, e1, n, q⟩ := R3.vw (r1.mono (sb2.trans sb3)) q3
  cases p with
  | false =>
    obtain ⟨a, vs, rfl, h1, h2⟩ := items_is (i2 rfl) e1
    refine ⟨a, vs, rfl, R3.sub.sqL h1, fun q' hq => ?_⟩
    have ex := Ext.temp (o := .lst (cutV vs lo' hi')) R3.sub hq
    exact k _ _ _ ρ3 q' (R3.ext ex) ((sb1.trans sb2).trans sb3) ⟨⟨_, upd_same, isL_cut h2 lo' hi'⟩, R3.sub.none hq, R3.bnone hq, R3.cne hq⟩ q
  | true =>
    obtain ⟨a, vs, rfl, h1, h2⟩ := items_is i1 e1
    refine ⟨a, vs, rfl, R3.peek_h.sqL h1, fun q' hq => ?_⟩
    have ex := Ext.temp (o := .lst (cutV vs lo' hi')) R3.peek_h hq
    have ex' := R3.unpeek ex
    refine k _ _ _ ρ3 q' (R3.ext ex') (((sb1.trans sb2).trans sb3).trans ex'.f) ⟨⟨_, upd_same, ?_⟩, ?_, R3.bnone hq, R3.cne hq⟩ q
    · refine IsL.cut (fun b hb o ho => ?_) _ _ (n rfl) (isL_cut h2 lo' hi')
      obtain ⟨ws, hv⟩ := R3.pkH hb
      have h3 := R3.peek_h _ _ ho
      rw [hv] at h3
      exact ⟨ws, (Option.some.inj h3).symm⟩
    · by_cases q : PkA α ρ3 q'
      · exact cut_in q
      · rw [cut_out q]; exact R3.peek_h.none hq
/-- a part of a text -/
def zSlS (ta : ZT) (ol oh : ZO) : ZT := fun ρ Q => ta ρ fun s ρ1 => ol ρ1 fun lo ρ2 => oh ρ2 fun hi ρ3 => ∃ z, s = .val (.str z) ∧ z.length ≤ 1000000 ∧ Q (.val (.str (cutS z lo hi))) ρ3
theorem ze_slS (he : ZE X e ta) (hl : ZPo X lo ol) (hh : ZPo X hi oh) : ZE X (.Subscript e (.Slice lo hi none p2) pos) (zSlS ta ol oh) := by
  obtain ⟨t0, p0, s0⟩ := he.ok
  obtain ⟨l0, pl, sl⟩ := hl.ok
  obtain ⟨h0, ph, sh⟩ := hh.ok
  refine ⟨_, pe_slice sl_str p0 pl ph, fun B F H α σ ρ Q0 Q R h k => s0 B F H α σ ρ _ _ R h fun F1 H1 s ρ1 v R1 sb1 r1 q1 => sl B F1 H1 α σ ρ1 _ _ R1 q1 fun F2 H2 lo' ρ2 R2 sb2 q2 => sh B F2 H2 α σ ρ2 _ _ R2 q2 fun F3 H3 hi' ρ3 R3 sb3 q3 => ?_⟩
  obtain ⟨z, rfl, hz, q⟩ := q3
  exact ⟨z, r1, size_ok hz, k F3 H3 (.val (.str (cutS z lo' hi'))) ρ3 _ R3 ((sb1.trans sb2).trans sb3) rfl q⟩
end
section
variable {K : PySem.W.Frag}
/-! ### in, not in: flat items -/
def D.flat : D → Option V
  | .non => some .non
  | .bl b => some (.bl b)
  | .int i => some (.int i)
  | .str s => some (.str s)
  | _ => none
def flats : List D → Option (List V)
  | [] => some []
  | d :: ds => match d.flat, flats ds with
    | some v, some vs => some (v :: vs)
    | _, _ => none
theorem flat_is {F : Hp} {d : D} {u v : V} (e : d.flat = some v) (h : Is K F d u) : u = v ∧ flatV u = true := by
  cases d <;> first
    | (cases e; cases h; exact ⟨rfl, rfl⟩)
    | (cases e)
theorem flats_is {F : Hp} : ∀ {ds : List D} {us vs : List V}, flats ds = some vs → IsL K F ds us → us = vs ∧ us.all flatV = true
  | [], _, _, e, h => by cases e; cases h; exact ⟨rfl, rfl⟩
  | d :: ds, _, _, e, ⟨u, r, eu, h1, h2⟩ => by
    subst eu
    simp only [flats] at e
    split at e
    · rename_i v vs e1 e2
      cases e
      obtain ⟨a1, a2⟩ := flat_is e1 h1
      obtain ⟨b1, b2⟩ := flats_is e2 h2
      exact ⟨by rw [a1, b1], by rw [List.all_cons, a2, b2] <;> rfl⟩
    · cases e
def D.seq : D → Option (List D)
  | .lst ds => some ds
  | .tup ds => some ds
  | .ktup ds => some ds
  | .scr ns => some (ns.map .int)
  | _ => none
def gIn (neg : Bool) : D → D → (D → Prop) → Prop := fun x y P => ∃ ds v vs, y.seq = some ds ∧ x.flat = some v ∧ flats ds = some vs ∧ P (.bl (if neg then !inV v vs else inV v vs))
theorem seq_is {F H : Hp} (sb : Sub F H) {d : D} {v : V} {ds : List D} (h : Is K F d v) (e : d.seq = some ds) : ∃ a vs, v = .ref a ∧ (SqL K H a vs ∨ SqT K H a vs) ∧ IsL K F ds vs := by
  cases d with
  | lst l => cases e; obtain ⟨a, vs, rfl, h1, h2⟩ := h; exact ⟨a, vs, rfl, .inl (.inl (.inl (sb _ _ h1))), h2⟩
  | tup l => cases e; obtain ⟨a, vs, rfl, h1, h2⟩ := h; exact ⟨a, vs, rfl, .inr (.inl (.inl (sb _ _ h1))), h2⟩
  | ktup l => cases e; obtain ⟨a, vs, rfl, h1, h2⟩ := h; exact ⟨a, vs, rfl, .inr (sb.sqT h1), h2⟩
  | scr ns => cases e; obtain ⟨a, rfl, h1⟩ := h; exact ⟨a, _, rfl, .inl (sb.sqL h1), IsL.of_ints ns⟩
  | _ => cases e
theorem oz_in {neg : Bool} : OpZ K (rIn K neg) (gIn neg) := by
  intro F H x y u v P Q sb hx hy h k
  obtain ⟨ds, v', vs, e1, e2, e3, h⟩ := h
  obtain ⟨a, ws, rfl, h1, h2⟩ := seq_is sb hy e1
  obtain ⟨a1, a2⟩ := flat_is e2 hx
  obtain ⟨b1, b2⟩ := flats_is e3 h2
  subst a1 b1
  exact ⟨a, ws, rfl, h1, a2, b2, k _ F H _ h (Ext.refl sb) rfl⟩
/-! ### isinstance -/
def D.tyN : D → Option String
  | .non => some "NoneType"
  | .bl _ => some "bool"
  | .int _ => some "int"
  | .str _ => some "str"
  | .tup _ => some "tuple"
  | .lst _ => some "list"
  | .dct _ _ => some "dict"
  | _ => none
def gIsi : List D → (D → Prop) → Prop
  | [x, .ty T], P => ∃ n b, x.tyN = some n ∧ kitB n T = some b ∧ P (.bl b)
  | _, _ => False
def gIsC (C : Addr) : List D → (D → Prop) → Prop
  | [.ins A _ _, .cls A'], P => A = C ∧ A' = C ∧ P (.bl true)
  | _, _ => False
theorem tyN_is {F H : Hp} (sb : Sub F H) {d : D} {v : V} {n : String} (h : Is K F d v) (e : d.tyN = some n) : TyX K H v (.type n) := by
  cases d with
  | non => cases e; cases h; exact .base .non
  | bl b => cases e; cases h; exact .base (.bl b)
  | int i => cases e; cases h; exact .base (.int i)
  | str i => cases e; cases h; exact .base (.str i)
  | tup l => cases e; obtain ⟨a, vs, rfl, h1, _⟩ := h; exact .base (.tup (sb _ _ h1))
  | lst l => cases e; obtain ⟨a, vs, rfl, h1, _⟩ := h; exact .base (.lst (sb _ _ h1))
  | dct l ds => cases e; obtain ⟨a, vs, rfl, h1, _⟩ := h; exact .base (.dK (sb _ _ h1))
  | _ => cases e
theorem pz_isi : PrZ K (rIsi K) gIsi := by
  intro F H ds vs P Q sb hi h k
  unfold gIsi at h
  split at h
  · obtain ⟨n, b, e1, e2, h⟩ := h
    obtain ⟨v, w, rfl, i1, i2⟩ := isL_two hi
    have i2' : w = .ty _ := i2
    subst i2'
    exact ⟨v, _, _, _, b, rfl, .ty _, tyN_is sb i1 e1, kit_ty e2, k _ F H _ h (Ext.refl sb) rfl⟩
  · exact h.elim
theorem pz_isC {C : Addr} : PrZ K (fun xs H Q => ∃ a dx fs, xs = [.ref a, .ref C] ∧ H a = some (.ins C dx fs) ∧ Q (.bl true) H) (gIsC C) := by
  intro F H ds vs P Q sb hi h k
  unfold gIsC at h
  split at h
  · obtain ⟨rfl, rfl, h⟩ := h
    obtain ⟨v, w, rfl, ⟨a, dx, ws, rfl, h1, _⟩, i2⟩ := isL_two hi
    have i2' : w = .ref _ := i2
    subst i2'
    exact ⟨a, dx, _, rfl, sb _ _ h1, k _ F H _ h (Ext.refl sb) rfl⟩
  · exact h.elim
end
section
variable {X : Cx} {pos : Pos}
theorem ze_bltn {x : Str} {u : Value} {v : V} {d : D} (hg : Gl X x) (hm : X.mg x = none) (hv : bootBuiltins x = some u) (r : RelV v u) (hi : ∀ F, Is X.K F d v) (hn : x ≠ "__name__" := by decide) (hd : (x == ("__debug__" : Str)) = false := by decide) : ZE X (.Name x pos) (zC d) :=
  ⟨_, pe_bltn hg hm hv r (hd := hd) (hn := hn), fun B F H α σ ρ Q0 Q R h k => k F H (.val d) ρ _ R (Sub.refl F) (hi F) h⟩
theorem ze_ty {x : Str} (T : String) (hm : X.mg x = none) (hg : Gl X x := by rfl) (hv : bootBuiltins x = some (.type T) := by decide +kernel) (hn : x ≠ "__name__" := by decide) (hd : (x == ("__debug__" : Str)) = false := by decide) : ZE X (.Name x pos) (zC (.ty T)) :=
  ze_bltn hg hm hv (v := .ty T) rfl (fun F => rfl) hn hd
theorem ze_cls {x : Str} {C : Addr} (hm : X.mg x = some (.ref C)) (hg : Gl X x := by rfl) (hd : (x == ("__debug__" : Str)) = false := by decide) : ZE X (.Name x pos) (zC (.cls C)) :=
  ze_glob hg hm (v := .ref C) rfl (fun F => rfl) hd
theorem ze_cint {x : Str} {i : Int} {tk : Tok} (hm : X.mg x = some (.int i tk)) (hg : Gl X x := by rfl) (hd : (x == ("__debug__" : Str)) = false := by decide) : ZE X (.Name x pos) (zC (.int i)) :=
  ze_glob hg hm (v := .int i) ⟨_, rfl⟩ (fun F => rfl) hd
end
end Z

set_option Elab.async false
set_option linter.all false
set_option maxRecDepth 100000
namespace Z
open PySem PySem.Spec PyProof.Rows L2
section
variable {X : Cx} {st : Stmt} {rest : List Stmt} {t u : ZS}
/-- a statement, then the rest, with a word between them -/
def zCut (t u : ZS) : ZS := fun D ρ => ∃ Mid : Env → Prop, t { D with nx := Mid } ρ ∧ ∀ ρ', Mid ρ' → u D ρ'
theorem zss_cut (h1 : ZSt X st t) (h2 : ZSs X rest u) : ZSs X (st :: rest) (zCut t u) := by
  obtain ⟨t0, p0, s0⟩ := h1.ok
  obtain ⟨u0, p1, s1⟩ := h2.ok
  refine ⟨_, pss_cons p0 p1, fun B F H α σ ρ D0 D R h k => ?_⟩
  obtain ⟨Mid, h1, h2⟩ := h
  refine s0 B F H α σ ρ _ _ R h1 ⟨fun F' H' α' σ' ρ' R' sb q => ?_, k.rt, k.bk, k.ct⟩
  exact s1 B F' H' α' σ' ρ' _ _ R' (h2 ρ' q) (k.mono sb)
end
theorem fin0 {P : RS → List Ce → Prop} {r : RS} {ρ : Env} : fin 0 P r ρ ↔ P r [] := by
  refine ⟨fun ⟨cs', h1, h2, h3, h4⟩ => ?_, fun h => ⟨[], by simp, rfl, rfl, h⟩⟩
  cases cs' with
  | nil => exact h4
  | cons c cs => simp at h2
theorem fin1 {P : RS → List Ce → Prop} {r : RS} {sl : List (Option S)} {c : Ce} {rest : List (Option Ce)} {io : Nat} : fin 1 P r ⟨sl, some c :: rest, io⟩ ↔ okC 1 c = true ∧ P r [c] := by
  refine ⟨fun ⟨cs', h1, h2, h3, h4⟩ => ?_, fun h => ⟨[c], rfl, rfl, by simp [h.1], h.2⟩⟩
  simp only [List.take_succ_cons, List.take_zero] at h1
  cases cs' with
  | nil => simp at h2
  | cons d cs =>
    cases cs with
    | nil =>
      simp at h1 h3
      subst h1
      exact ⟨h3, h4⟩
    | cons _ _ => simp at h2
theorem ixN_0 {n : Nat} : ixN (n + 1) 0 = some 0 := by
  unfold ixN
  rw [if_pos (by omega), if_pos (by omega)]; rfl
theorem ixN_1 {n : Nat} : ixN (n + 1 + 1) 1 = some 1 := by
  unfold ixN
  rw [if_pos (by omega), if_pos (by omega)]; rfl
theorem ixN_2 {n : Nat} : ixN (n + 1 + 1 + 1) 2 = some 2 := by
  unfold ixN
  rw [if_pos (by omega), if_pos (by omega)]; rfl
theorem atI_0 {α : Type} {x : α} {xs : List α} : atI (x :: xs) 0 = some x := by
  unfold atI
  rw [List.length_cons, ixN_0]; rfl
theorem atI_1 {α : Type} {x y : α} {xs : List α} : atI (x :: y :: xs) 1 = some y := by
  unfold atI
  rw [List.length_cons, List.length_cons, ixN_1]; rfl
theorem atI_2 {α : Type} {x y z : α} {xs : List α} : atI (x :: y :: z :: xs) 2 = some z := by
  unfold atI
  rw [List.length_cons, List.length_cons, List.length_cons, ixN_2]; rfl
theorem atI_get {α : Type} {xs : List α} {i : Int} (h0 : 0 ≤ i) (h1 : i < xs.length) : ∃ z, atI xs i = some z ∧ z ∈ xs := by
  have e : i.toNat < xs.length := by omega
  refine ⟨xs[i.toNat], ?_, List.getElem_mem e⟩
  unfold atI ixN
  rw [if_pos h0, if_pos h1]
  exact List.getElem?_eq_getElem e
theorem kb1 : kitB "tuple" "tuple" = some true := by decide
theorem kb2 : kitB "int" "int" = some true := by decide
theorem kb3 : kitB "int" "bool" = some false := by decide
theorem kb4 : kitB "bool" "bool" = some true := by decide
theorem kb5 : kitB "bool" "int" = some true := by decide
end Z

set_option Elab.async false
set_option linter.all false
set_option maxRecDepth 100000
namespace Z
open PySem PySem.Spec PyProof.Rows L2
/-- a comprehension with one variable, whose parts change nothing -/
theorem lc_pure {α : Type} {isT : Bool} {v : Nat} {ta : ZT} {tt : ZC} {te : ZT} {ρ : Env} {Q : List D → Env → Prop} (L : List α) (e : α → D) (f : α → Bool) (h : α → D)
    (hta : ∀ Q' : S → Env → Prop, Q' (.val (if isT then .tup (L.map e) else .lst (L.map e))) ρ → ta ρ Q')
    (hno : ρ.noLoc ρ.ce.length = true) (hio : ρ.io ≤ ρ.ce.length) (hL : L.length ≤ 1000000)
    (ht : ∀ (ρ' : Env) x (Q' : Bool → Env → Prop), ρ'.sl = ρ.sl.set v (some (.val (e x))) → x ∈ L → Q' (f x) ρ' → tt ρ' Q')
    (he : ∀ (ρ' : Env) x (Q' : S → Env → Prop), ρ'.sl = ρ.sl.set v (some (.val (e x))) → x ∈ L → Q' (.val (h x)) ρ' → te ρ' Q')
    (hQ : Q ((L.filter f).map h) ρ) : zLc isT ta (zgName v) tt te [v] ρ Q := by
  refine hta _ ⟨L.map e, rfl, fun i acc ρ2 => ρ2 = ρ ∧ acc = ((L.take i).filter f).map h, ⟨rfl, by simp⟩, ?_, ?_⟩
  · rintro i acc ρ2 d ⟨e2, hacc⟩ hd
    have e3 := e2.symm
    subst e3
    refine ⟨rfl, rfl, rfl, hno, hio, ?_⟩
    rw [List.getElem?_map] at hd
    obtain ⟨x, hx, rfl⟩ : ∃ x, L[i]? = some x ∧ e x = d := by
      cases q : L[i]? with
      | none => rw [q] at hd; cases hd
      | some x => rw [q] at hd; exact ⟨x, rfl, Option.some.inj hd⟩
    have hm : x ∈ L := List.mem_of_getElem? hx
    have hi : i < L.length := (List.getElem?_eq_some_iff.mp hx).1
    have hal : acc.length < 1000000 := by
      rw [hacc, List.length_map]
      have := List.length_filter_le f (L.take i)
      rw [List.length_take] at this
      omega
    have hce : ρ.ce.all (fun o => match o with
      | some c => !c.has ρ.ce.length
      | none => true) = true := by
      unfold Env.noLoc at hno
      rw [Bool.and_eq_true] at hno
      exact hno.2
    have gr : Env.grown { sl := ρ.sl.set v (some (.val (e x))), ce := ρ.ce ++ [some (.lst acc)], io := ρ.io } ρ acc := by
      refine ⟨?_, ?_, ?_⟩
      · show (ρ.ce ++ [some (Ce.lst acc)]).getLast? = _
        rw [List.getLast?_concat]
      · show (ρ.ce ++ [some (Ce.lst acc)]).length = _
        rw [List.length_append]; rfl
      · show (ρ.ce ++ [some (Ce.lst acc)]).all _ = true
        rw [List.all_append, Bool.and_eq_true]
        exact ⟨hce, rfl⟩
    have bk : Env.back { sl := ρ.sl.set v (some (.val (e x))), ce := ρ.ce ++ [some (.lst acc)], io := ρ.io } ρ = ρ := by
      show ({ sl := ρ.sl, ce := (ρ.ce ++ [some (Ce.lst acc)]).dropLast, io := ρ.io } : Env) = ρ
      rw [List.dropLast_concat]
    have st : ((((ρ.push acc).wipes [v]).put v (.val (e x))) : Env) = { sl := ρ.sl.set v (some (.val (e x))), ce := ρ.ce ++ [some (.lst acc)], io := ρ.io } := by
      show ({ sl := (ρ.sl.set v none).set v (some (.val (e x))), ce := ρ.ce ++ [some (.lst acc)], io := ρ.io } : Env) = _
      rw [List.set_set]
    have tk : L.take (i + 1) = L.take i ++ [x] := by rw [List.take_add_one, hx]; rfl
    show tt (((ρ.push acc).wipes [v]).put v (.val (e x))) _
    rw [st]
    refine ht _ x _ rfl hm ?_
    by_cases hf : f x = true
    · rw [if_pos hf]
      refine he _ x _ rfl hm ⟨h x, rfl, hal, gr, ?_, ?_⟩
      · exact bk
      · rw [tk, List.filter_append, List.map_append, hacc]
        simp [hf]
    · rw [if_neg hf]
      refine ⟨gr, bk, ?_⟩
      rw [tk, List.filter_append, List.map_append, hacc]
      simp [hf]
  · rintro acc ρ2 ⟨e2, hacc⟩
    have e3 := e2.symm
    subst e3
    refine ⟨rfl, rfl, ?_⟩
    rw [List.length_map, List.take_length] at hacc
    rw [hacc]
    exact hQ
theorem noLoc_of {ρ : Env} {n : Nat} (h1 : ∀ s, some s ∈ ρ.sl → s.isL n = false) (h2 : ∀ c, some c ∈ ρ.ce → c.has n = false) : ρ.noLoc n = true := by
  unfold Env.noLoc
  rw [Bool.and_eq_true, List.all_eq_true, List.all_eq_true]
  refine ⟨fun o ho => ?_, fun o ho => ?_⟩
  · cases o with
    | none => rfl
    | some s => show (!s.isL n) = true; rw [h1 s ho]; rfl
  · cases o with
    | none => rfl
    | some s => show (!s.has n) = true; rw [h2 s ho]; rfl
end Z

set_option Elab.async false
set_option linter.all false
set_option maxRecDepth 100000
set_option maxHeartbeats 0
namespace K18
open PySem PySem.Spec PyProof.Rows L2 Z
def topS (i : Nat) : Stmt := PySem.Challenge.pw_callplans_k18_whole_contracts_are_what_t.main.body.getD i (.Pass ⟨0, 0, 0, 0⟩)
abbrev s_is_integer : Stmt := topS 4
theorem sc_is_integer : FnScope ["value"] ["value"] (defScope s_is_integer) := ⟨rfl, rfl, rfl, by decide +kernel, rfl, by decide +kernel, by decide +kernel⟩
abbrev s_is_range : Stmt := topS 5
theorem sc_is_range : FnScope ["value", "least", "low", "high"] ["value", "least"] (defScope s_is_range) := ⟨rfl, rfl, rfl, by decide +kernel, rfl, by decide +kernel, by decide +kernel⟩
abbrev s_is_reply : Stmt := topS 9
theorem sc_is_reply : FnScope ["value"] ["value"] (defScope s_is_reply) := ⟨rfl, rfl, rfl, by decide +kernel, rfl, by decide +kernel, by decide +kernel⟩
abbrev s_is_contract_range : Stmt := topS 10
theorem sc_is_contract_range : FnScope ["value"] ["value"] (defScope s_is_contract_range) := ⟨rfl, rfl, rfl, by decide +kernel, rfl, by decide +kernel, by decide +kernel⟩
abbrev s_Contract_u_init : Stmt := inClass (topS 11) 0
theorem sc_Contract_u_init : FnScope ["self", "ok", "fail", "hang"] ["self", "ok", "fail", "hang"] (defScope s_Contract_u_init) := ⟨rfl, rfl, rfl, by decide +kernel, rfl, by decide +kernel, by decide +kernel⟩
abbrev s_Contract_u_eq : Stmt := inClass (topS 11) 1
theorem sc_Contract_u_eq : FnScope ["self", "other"] ["self", "other"] (defScope s_Contract_u_eq) := ⟨rfl, rfl, rfl, by decide +kernel, rfl, by decide +kernel, by decide +kernel⟩
abbrev s_Contract_allows : Stmt := inClass (topS 11) 2
theorem sc_Contract_allows : FnScope ["self", "reply", "span"] ["self", "reply"] (defScope s_Contract_allows) := ⟨rfl, rfl, rfl, by decide +kernel, rfl, by decide +kernel, by decide +kernel⟩
abbrev s_law_feed : Stmt := topS 13
theorem sc_law_feed : FnScope ["script", "k", "seed", "digits"] ["script", "k"] (defScope s_law_feed) := ⟨rfl, rfl, rfl, by decide +kernel, rfl, by decide +kernel, by decide +kernel⟩
abbrev s_law_take : Stmt := topS 14
theorem sc_law_take : FnScope ["feed", "size", "digit"] ["feed", "size"] (defScope s_law_take) := ⟨rfl, rfl, rfl, by decide +kernel, rfl, by decide +kernel, by decide +kernel⟩
abbrev s_law_pick : Stmt := topS 15
theorem sc_law_pick : FnScope ["feed", "choices"] ["feed", "choices"] (defScope s_law_pick) := ⟨rfl, rfl, rfl, by decide +kernel, rfl, by decide +kernel, by decide +kernel⟩
abbrev s_law_contract : Stmt := topS 16
theorem sc_law_contract : FnScope ["feed", "great", "found", "turn", "low", "may"] ["feed", "great"] (defScope s_law_contract) := ⟨rfl, rfl, rfl, by decide +kernel, rfl, by decide +kernel, by decide +kernel⟩
abbrev s_law_made : Stmt := topS 17
theorem sc_law_made : FnScope ["contract"] ["contract"] (defScope s_law_made) := ⟨rfl, rfl, rfl, by decide +kernel, rfl, by decide +kernel, by decide +kernel⟩
abbrev s_law_near : Stmt := topS 18
theorem sc_law_near : FnScope ["feed", "contract", "fine", "wrong", "may", "case"] ["feed", "contract"] (defScope s_law_near) := ⟨rfl, rfl, rfl, by decide +kernel, rfl, by decide +kernel, by decide +kernel⟩
abbrev s_law : Stmt := topS 19
theorem sc_law : FnScope ["script", "index", "feed", "turn", "first", "second", "one", "other", "replies", "some", "time", "word", "reply", "unlike", "wide", "wider"] ["script"] (defScope s_law) := ⟨rfl, rfl, rfl, by decide +kernel, rfl, by decide +kernel, by decide +kernel⟩

/-! ### facts of the text -/
structure Txt (K : PySem.W.Frag) (mg : Str → Option Value) (C : Addr) : Prop where
  cl : Cls K C
  isc : C8.InsC K C
  n_ok : NoAttr K C "ok"
  n_fail : NoAttr K C "fail"
  n_hang : NoAttr K C "hang"
  c_Contract : mg "Contract" = some (.ref C)
  k_first : ∃ tk, mg "FIRST_TIME" = some (.int 1 tk)
  k_last : ∃ tk, mg "LAST_TIME" = some (.int 1000000 tk)
  m_isinstance : mg "isinstance" = none
  m_len : mg "len" = none
  m_int : mg "int" = none
  m_bool : mg "bool" = none
  m_tuple : mg "tuple" = none
  m_list : mg "list" = none
  m_max : mg "max" = none
  m_min : mg "min" = none
  m_abs : mg "abs" = none
  m_range : mg "range" = none
/-! ### the data -/
abbrev Rng := Option (Int × Int)
def rng : Rng → D
  | none => .non
  | some (a, b) => .tup [.int a, .int b]
structure Ct where
  ok : Rng
  fl : Rng
  hang : Bool
deriving DecidableEq
def okR (B : Int) : Rng → Prop
  | none => True
  | some (a, b) => 1 ≤ a ∧ a ≤ b ∧ b ≤ B
def Ct.fine (B : Int) (c : Ct) : Prop := okR B c.ok ∧ okR B c.fl ∧ ¬ (c.ok = none ∧ c.fl = none ∧ c.hang = false)
def Ct.d (c : Ct) : D := .tup [rng c.ok, rng c.fl, .bl c.hang]
def insC (C : Addr) (c : Ct) : D := .ins C ["ok", "fail", "hang"] [rng c.ok, rng c.fl, .bl c.hang]
inductive Rp where
  | never
  | at (b : Bool) (t : Int)
def Rp.d : Rp → D
  | .never => .tup [.str "never"]
  | .at b t => .tup [.str (if b then "ok" else "fail"), .int t]
def Rp.pos : Rp → Prop
  | .never => True
  | .at _ t => 0 < t
def inR (o : Rng) (t : Int) : Bool := match o with
  | none => false
  | some (a, b) => decide (a ≤ t) && decide (t ≤ b)
def Ct.al (c : Ct) : Rp → Bool
  | .never => c.hang
  | .at b t => inR (if b then c.ok else c.fl) t
/-! ### what the defs do -/
def D.isInt : D → Bool
  | .int _ => true
  | _ => false
def gIsInt : G := fun ss cs P _ => ∃ d n, ss = [.val d] ∧ cs = [] ∧ d.tyN = some n ∧ P (.val (.bl (D.isInt d))) []
def gIsRange : G := fun ss cs P _ => ∃ a b l, ss = [.val (.tup [.int a, .int b]), .val (.int l)] ∧ cs = [] ∧ P (.val (.bl (decide (l ≤ a) && decide (a ≤ b)))) []
def gIsReply : G := fun ss cs P _ => ∃ r : Rp, ss = [.val r.d] ∧ cs = [] ∧ r.pos ∧ P (.val (.bl true)) []
def gIsCR : G := fun ss cs P _ => ∃ o, ss = [.val (rng o)] ∧ cs = [] ∧ okR 1000000 o ∧ P (.val (.bl true)) []
def gInit (C : Addr) : G := fun ss cs P _ => ∃ c : Ct, ss = [.loc 0, .val (rng c.ok), .val (rng c.fl), .val (.bl c.hang)] ∧ cs = [.ins C [] []] ∧ c.fine 1000000 ∧
  P (.val .non) [.ins C ["ok", "fail", "hang"] [.val (rng c.ok), .val (rng c.fl), .val (.bl c.hang)]]
def gEqC (C : Addr) : G := fun ss cs P _ => ∃ c c' : Ct, ss = [.val (insC C c), .val (insC C c')] ∧ cs = [] ∧ P (.val (.bl (decide (c = c')))) []
def gAllows (C : Addr) : G := fun ss cs P _ => ∃ (c : Ct) (r : Rp), ss = [.val (insC C c), .val r.d] ∧ cs = [] ∧ r.pos ∧ P (.val (.bl (c.al r))) []
def gFeed : G := fun ss cs P _ => ∃ ns k, ss = [.val (.scr ns), .val (.int k)] ∧ cs = [] ∧ 0 ≤ k ∧ k ≤ 3 ∧ ∀ a b, P (.fr [.int a, .int b]) []
def gTake : G := fun ss cs P _ => ∃ a b n, ss = [.loc 0, .val (.int n)] ∧ cs = [.lst [.int a, .int b]] ∧ 0 < n ∧ n ≤ 1000000 ∧ ∀ r a' b', 0 ≤ r → r < n → P (.val (.int r)) [.lst [.int a', .int b']]
def gPick : G := fun ss cs P _ => ∃ a b ds, ss = [.loc 0, .val (.lst ds)] ∧ cs = [.lst [.int a, .int b]] ∧ ds ≠ [] ∧ ds.length ≤ 1000000 ∧ ∀ d ∈ ds, ∀ a' b', P (.val d) [.lst [.int a', .int b']]
def gContract : G := fun ss cs P _ => ∃ a b, ss = [.loc 0, .val (.int 0)] ∧ cs = [.lst [.int a, .int b]] ∧ ∀ c : Ct, c.fine 20 → ∀ a' b', P (.val c.d) [.lst [.int a', .int b']]
def gMade (C : Addr) : G := fun ss cs P _ => ∃ c : Ct, ss = [.val c.d] ∧ cs = [] ∧ c.fine 1000000 ∧ P (.val (insC C c)) []
def gNear : G := fun ss cs P _ => ∃ a b, ∃ c : Ct, ss = [.loc 0, .val c.d] ∧ cs = [.lst [.int a, .int b]] ∧ c.fine 20 ∧ ∀ c' : Ct, c'.fine 30 → ∀ a' b', P (.val c'.d) [.lst [.int a', .int b']]
def gLaw : G := fun ss cs P _ => ∃ ns, ss = [.val (.scr ns)] ∧ cs = [] ∧ ns.length ≤ 63 ∧ P (.val (.bl true)) []
section
variable {P : Program} {w : World} {K : PySem.W.Frag} {mg : Str → Option Value} {base : Heap} {C : Addr}
def t_is_integer (C : Addr) : ZS :=
  (zRet (zAndV (zCB gIsi (zCons (zVar 0) (zCons (zC (.ty "int")) zNil))) (zNotV (zCB gIsi (zCons (zVar 0) (zCons (zC (.ty "bool")) zNil))))))
theorem d_is_integer (C : Addr) (T : Txt K mg C) {f : Addr} {cdv : Value} {A : Around} {outer : List PySem.Env} {s : Shared} {H : Hp} {E : XK} (hr : Room 0 (A.deeper (envOfC "is_integer" (defScope s_is_integer) s.heap.objs.size f cdv))) :
    ZSs (cxOf CX0 P w K mg base ["value"] "is_integer" (defScope s_is_integer) f cdv A outer s H E).nox (defBody s_is_integer) (t_is_integer C) :=
  (zss_one (zs_ret (ze_and (ze_callB call_isi pz_isi T.m_isinstance (za_cons (ze_var 0) (za_cons (ze_ty "int" T.m_int) za_nil))) (ze_one (ze_not (ze_callB call_isi pz_isi T.m_isinstance (za_cons (ze_var 0) (za_cons (ze_ty "bool" T.m_bool) za_nil))))))))

def t_is_range (C : Addr) : ZS :=
  (zSeq (zIfS (zOr (zNot (zB (zCB gIsi (zCons (zVar 0) (zCons (zC (.ty "tuple")) zNil))))) (zB (zOp (gEq true) (zCB gLen (zCons (zVar 0) zNil)) (zC (.int 2))))) (zRet (zC (.bl false))) zNext)
    (zSeq (zAsgG (zVar 0) (zgTup 2 (zgCons (zgName 2) (zgCons (zgName 3) zgNil))))
    (zRet (zAndV (zCall gIsInt (zCons (zVar 2) zNil)) (zAndV (zCall gIsInt (zCons (zVar 3) zNil)) (zChain (gI0 fun i j => .bl (decide (i ≤ j))) (gI0 fun i j => .bl (decide (i ≤ j))) (zVar 1) (zVar 2) (zVar 3)))))))
theorem d_is_range (C : Addr) (T : Txt K mg C) (f_int : FnT P w K mg base 1 "is_integer" gIsInt) {f : Addr} {cdv : Value} {A : Around} {outer : List PySem.Env} {s : Shared} {H : Hp} {E : XK} (hr : Room 1 (A.deeper (envOfC "is_range" (defScope s_is_range) s.heap.objs.size f cdv))) :
    ZSs (cxOf CX0 P w K mg base ["value", "least", "low", "high"] "is_range" (defScope s_is_range) f cdv A outer s H E).nox (defBody s_is_range) (t_is_range C) :=
  (zss_cons (zs_if ((zw_or (zq_not (zq_val (ze_callB call_isi pz_isi T.m_isinstance (za_cons (ze_var 0) (za_cons (ze_ty "tuple" T.m_tuple) za_nil))))) (zw_one (zq_cmp (op_neZ (hu64 hr)) oz_ne (ze_callB call_lenZ pz_len T.m_len (za_cons (ze_var 0) za_nil)) ze_int)))).q (zss_one (zs_ret ze_bl)) zss_nil)
    (zss_cons (zs_asg (ze_var 0) (zg_tup rfl (zgs_cons (zg_name 2 sc_is_range.nd) (zgs_cons (zg_name 3 sc_is_range.nd) zgs_nil))))
    (zss_one (zs_ret (ze_and (ze_call f_int.fn (hr.mono (by decide)) (za_cons (ze_var 2) za_nil)) (ze_and (ze_call f_int.fn (hr.mono (by decide)) (za_cons (ze_var 3) za_nil)) (ze_one (ze_chain op_le op_le oz_B0 oz_B0 (ze_var 1) (ze_var 2) (ze_var 3)))))))))

def t_is_reply (C : Addr) : ZS :=
  (zSeq (zIfS (zNot (zB (zCB gIsi (zCons (zVar 0) (zCons (zC (.ty "tuple")) zNil))))) (zRet (zC (.bl false))) zNext)
    (zSeq (zIfS (zB (zOp (gEq false) (zCB gLen (zCons (zVar 0) zNil)) (zC (.int 2)))) (zRet (zAndV (zOp (gIn false) (zOp gIx (zVar 0) (zC (.int 0))) (zTup (zCons (zC (.str "ok")) (zCons (zC (.str "fail")) zNil)))) (zAndV (zCall gIsInt (zCons (zOp gIx (zVar 0) (zC (.int 1))) zNil)) (zOp (gI0 fun i j => .bl (decide (j ≤ i))) (zOp gIx (zVar 0) (zC (.int 1))) (zC (.int 1)))))) zNext)
    (zRet (zOp (gEq false) (zVar 0) (zTup (zCons (zC (.str "never")) zNil))))))
theorem d_is_reply (C : Addr) (T : Txt K mg C) (f_int : FnT P w K mg base 1 "is_integer" gIsInt) {f : Addr} {cdv : Value} {A : Around} {outer : List PySem.Env} {s : Shared} {H : Hp} {E : XK} (hr : Room 1 (A.deeper (envOfC "is_reply" (defScope s_is_reply) s.heap.objs.size f cdv))) :
    ZSs (cxOf CX0 P w K mg base ["value"] "is_reply" (defScope s_is_reply) f cdv A outer s H E).nox (defBody s_is_reply) (t_is_reply C) :=
  (zss_cons (zs_if (zq_not (zq_val (ze_callB call_isi pz_isi T.m_isinstance (za_cons (ze_var 0) (za_cons (ze_ty "tuple" T.m_tuple) za_nil))))) (zss_one (zs_ret ze_bl)) zss_nil)
    (zss_cons (zs_if (zq_cmp (op_eqZ (hu64 hr)) oz_eq (ze_callB call_lenZ pz_len T.m_len (za_cons (ze_var 0) za_nil)) ze_int) (zss_one (zs_ret (ze_and (ze_cmp op_in_seq oz_in (ze_ix ix_seq oz_ix (ze_var 0) ze_int) (ze_tup (za_cons ze_str (za_cons ze_str za_nil)))) (ze_and (ze_call f_int.fn (hr.mono (by decide)) (za_cons (ze_ix ix_seq oz_ix (ze_var 0) ze_int) za_nil)) (ze_one (ze_cmp op_ge oz_B0 (ze_ix ix_seq oz_ix (ze_var 0) ze_int) (ze_cint T.k_first.choose_spec))))))) zss_nil)
    (zss_one (zs_ret (ze_cmp (op_eqZ (hu64 hr)) oz_eq (ze_var 0) (ze_tup (za_cons ze_str za_nil)))))))

def t_is_contract_range (C : Addr) : ZS :=
  (zRet (zOrV (zOp (gIsN false) (zVar 0) (zC .non)) (zAndV (zCall gIsRange (zCons (zVar 0) (zCons (zC (.int 1)) zNil))) (zOp (gI0 fun i j => .bl (decide (i ≤ j))) (zOp gIx (zVar 0) (zC (.int 1))) (zC (.int 1000000))))))
theorem d_is_contract_range (C : Addr) (T : Txt K mg C) (f_range : FnT P w K mg base 2 "is_range" gIsRange) {f : Addr} {cdv : Value} {A : Around} {outer : List PySem.Env} {s : Shared} {H : Hp} {E : XK} (hr : Room 2 (A.deeper (envOfC "is_contract_range" (defScope s_is_contract_range) s.heap.objs.size f cdv))) :
    ZSs (cxOf CX0 P w K mg base ["value"] "is_contract_range" (defScope s_is_contract_range) f cdv A outer s H E).nox (defBody s_is_contract_range) (t_is_contract_range C) :=
  (zss_one (zs_ret (ze_or (ze_cmp op_isN oz_isN (ze_var 0) ze_non) (ze_one (ze_and (ze_call f_range.fn (hr.mono (by decide)) (za_cons (ze_var 0) (za_cons (ze_cint T.k_first.choose_spec) za_nil))) (ze_one (ze_cmp op_le oz_B0 (ze_ix ix_seq oz_ix (ze_var 0) ze_int) (ze_cint T.k_last.choose_spec))))))))

def t_Contract_u_init (C : Addr) : ZS :=
  (zSeq (zIfS (zOr (zNot (zB (zCall gIsCR (zCons (zVar 1) zNil)))) (zNot (zB (zCall gIsCR (zCons (zVar 2) zNil))))) zNever zNext)
    (zSeq (zIfS (zNot (zB (zCB gIsi (zCons (zVar 3) (zCons (zC (.ty "bool")) zNil))))) zNever zNext)
    (zSeq (zIfS (zAnd (zB (zOp (gIsN false) (zVar 1) (zC .non))) (zAnd (zB (zOp (gIsN false) (zVar 2) (zC .non))) (zNot (zB (zVar 3))))) zNever zNext)
    (zSeq (zSetF C "ok" (zVar 1) (zVar 0))
    (zSeq (zSetF C "fail" (zVar 2) (zVar 0))
    (zSetF C "hang" (zVar 3) (zVar 0)))))))
theorem d_Contract_u_init (C : Addr) (T : Txt K mg C) (f_cr : FnT P w K mg base 3 "is_contract_range" gIsCR) {f : Addr} {cdv : Value} {A : Around} {outer : List PySem.Env} {s : Shared} {H : Hp} {E : XK} (hr : Room 3 (A.deeper (envOfC "Contract.__init__" (defScope s_Contract_u_init) s.heap.objs.size f cdv))) :
    ZSs (cxOf CX0 P w K mg base ["self", "ok", "fail", "hang"] "Contract.__init__" (defScope s_Contract_u_init) f cdv A outer s H E).nox (defBody s_Contract_u_init) (t_Contract_u_init C) :=
  (zss_cons (zs_if ((zw_or (zq_not (zq_val (ze_call f_cr.fn (hr.mono (by decide)) (za_cons (ze_var 1) za_nil)))) (zw_one (zq_not (zq_val (ze_call f_cr.fn (hr.mono (by decide)) (za_cons (ze_var 2) za_nil))))))).q (zss_one zs_never) zss_nil)
    (zss_cons (zs_if (zq_not (zq_val (ze_callB call_isi pz_isi T.m_isinstance (za_cons (ze_var 3) (za_cons (ze_ty "bool" T.m_bool) za_nil))))) (zss_one zs_never) zss_nil)
    (zss_cons (zs_if ((zw_and (zq_cmp op_isN oz_isN (ze_var 1) ze_non) (zw_and (zq_cmp op_isN oz_isN (ze_var 2) ze_non) (zw_one (zq_not (zq_val (ze_var 3))))))).q (zss_one zs_never) zss_nil)
    (zss_cons (zs_setF T.cl T.n_ok (ze_var 0) (ze_var 1))
    (zss_cons (zs_setF T.cl T.n_fail (ze_var 0) (ze_var 2))
    (zss_one (zs_setF T.cl T.n_hang (ze_var 0) (ze_var 3))))))))

def t_Contract_u_eq (C : Addr) : ZS :=
  (zRet (zAndV (zCB (gIsC C) (zCons (zVar 1) (zCons (zC (.cls C)) zNil))) (zAndV (zOp (gEq false) (zFld C "ok" (zVar 0)) (zFld C "ok" (zVar 1))) (zAndV (zOp (gEq false) (zFld C "fail" (zVar 0)) (zFld C "fail" (zVar 1))) (zOp (gEq false) (zFld C "hang" (zVar 0)) (zFld C "hang" (zVar 1)))))))
theorem d_Contract_u_eq (C : Addr) (T : Txt K mg C) {f : Addr} {cdv : Value} {A : Around} {outer : List PySem.Env} {s : Shared} {H : Hp} {E : XK} (hr : Room 0 (A.deeper (envOfC "Contract.__eq__" (defScope s_Contract_u_eq) s.heap.objs.size f cdv))) :
    ZSs (cxOf CX0 P w K mg base ["self", "other"] "Contract.__eq__" (defScope s_Contract_u_eq) f cdv A outer s H E).nox (defBody s_Contract_u_eq) (t_Contract_u_eq C) :=
  (zss_one (zs_ret (ze_and (ze_callB (C8.call_isC T.isc) pz_isC T.m_isinstance (za_cons (ze_var 1) (za_cons (ze_cls T.c_Contract) za_nil))) (ze_and (ze_cmp (op_eqZ (hu64 hr)) oz_eq (ze_fld T.cl T.n_ok (ze_var 0)) (ze_fld T.cl T.n_ok (ze_var 1))) (ze_and (ze_cmp (op_eqZ (hu64 hr)) oz_eq (ze_fld T.cl T.n_fail (ze_var 0)) (ze_fld T.cl T.n_fail (ze_var 1))) (ze_one (ze_cmp (op_eqZ (hu64 hr)) oz_eq (ze_fld T.cl T.n_hang (ze_var 0)) (ze_fld T.cl T.n_hang (ze_var 1)))))))))

def t_Contract_allows (C : Addr) : ZS :=
  (zSeq (zIfS (zNot (zB (zCall gIsReply (zCons (zVar 1) zNil)))) (zRet (zC (.bl false))) zNext)
    (zSeq (zIfS (zB (zOp (gEq false) (zVar 1) (zTup (zCons (zC (.str "never")) zNil)))) (zRet (zFld C "hang" (zVar 0))) zNext)
    (zSeq (zAsg (zIf (zB (zOp (gEq false) (zOp gIx (zVar 1) (zC (.int 0))) (zC (.str "ok")))) (zFld C "ok" (zVar 0)) (zFld C "fail" (zVar 0))) 2)
    (zRet (zAndV (zOp (gIsN true) (zVar 2) (zC .non)) (zChain (gI0 fun i j => .bl (decide (i ≤ j))) (gI0 fun i j => .bl (decide (i ≤ j))) (zOp gIx (zVar 2) (zC (.int 0))) (zOp gIx (zVar 1) (zC (.int 1))) (zOp gIx (zVar 2) (zC (.int 1)))))))))
theorem d_Contract_allows (C : Addr) (T : Txt K mg C) (f_reply : FnT P w K mg base 2 "is_reply" gIsReply) {f : Addr} {cdv : Value} {A : Around} {outer : List PySem.Env} {s : Shared} {H : Hp} {E : XK} (hr : Room 2 (A.deeper (envOfC "Contract.allows" (defScope s_Contract_allows) s.heap.objs.size f cdv))) :
    ZSs (cxOf CX0 P w K mg base ["self", "reply", "span"] "Contract.allows" (defScope s_Contract_allows) f cdv A outer s H E).nox (defBody s_Contract_allows) (t_Contract_allows C) :=
  (zss_cons (zs_if (zq_not (zq_val (ze_call f_reply.fn (hr.mono (by decide)) (za_cons (ze_var 1) za_nil)))) (zss_one (zs_ret ze_bl)) zss_nil)
    (zss_cons (zs_if (zq_cmp (op_eqZ (hu64 hr)) oz_eq (ze_var 1) (ze_tup (za_cons ze_str za_nil))) (zss_one (zs_ret (ze_fld T.cl T.n_hang (ze_var 0)))) zss_nil)
    (zss_cons (zs_set 2 sc_Contract_allows.nd (ze_if (zq_cmp (op_eqZ (hu64 hr)) oz_eq (ze_ix ix_seq oz_ix (ze_var 1) ze_int) ze_str) (ze_fld T.cl T.n_ok (ze_var 0)) (ze_fld T.cl T.n_fail (ze_var 0))))
    (zss_one (zs_ret (ze_and (ze_cmp op_notN oz_notN (ze_var 2) ze_non) (ze_one (ze_chain op_le op_le oz_B0 oz_B0 (ze_ix ix_seq oz_ix (ze_var 2) ze_int) (ze_ix ix_seq oz_ix (ze_var 1) ze_int) (ze_ix ix_seq oz_ix (ze_var 2) ze_int)))))))))

def t_law_feed (C : Addr) : ZS :=
  (zSeq (zAsg (zOp gIx (zOp gAdd (zE (zCBL gList (zCons (zE (zSl (zVar 0) (zoSome (zVar 1)) (zoSome (zOp gAdd (zVar 1) (zC (.int 1)))))) zNil))) (zE (zLst (zCons (zOp gAdd (zOp (gI CMul fun i j => .int (i * j)) (zC (.int 71)) (zVar 1)) (zC (.int 23))) zNil)))) (zC (.int 0))) 2)
    (zSeq (zAsg (zCB gMax2 (zCons (zC (.int 0)) (zCons (zOp (gI0 fun i j => .int (i - j)) (zCB gAbs (zCons (zVar 2) zNil)) (zOp (gI CPow fun i j => .int (i ^ j.toNat)) (zC (.int 10)) (zC (.int 18)))) zNil))) 3)
    (zRetL (zLst (zCons (zVar 3) (zCons (zOp (gI (fun _ j => 0 < j) fun i j => .int (i % j)) (zOp gAdd (zOp gAdd (zOp (gI CMul fun i j => .int (i * j)) (zOp (gI (fun _ j => 0 < j) fun i j => .int (i % j)) (zCB gAbs (zCons (zVar 2) zNil)) (zC (.int 1000003))) (zC (.int 7919))) (zOp (gI CMul fun i j => .int (i * j)) (zC (.int 31)) (zVar 1))) (zC (.int 17))) (zC (.int 1000033))) zNil))))))
theorem d_law_feed (C : Addr) (T : Txt K mg C) {f : Addr} {cdv : Value} {A : Around} {outer : List PySem.Env} {s : Shared} {H : Hp} {E : XK} (hr : Room 0 (A.deeper (envOfC "_law_feed" (defScope s_law_feed) s.heap.objs.size f cdv))) :
    ZSs (cxOf CX0 P w K mg base ["script", "k", "seed", "digits"] "_law_feed" (defScope s_law_feed) f cdv A outer s H E).nox (defBody s_law_feed) (t_law_feed C) :=
  (zss_cons (zs_set 2 sc_law_feed.nd (ze_ix ix_seq oz_ix (ze_op op_addZ oz_addZ ((zf_callTy call_list_of pl_list T.m_list (za_cons ((zf_sl (ze_var 0) (zo_some (ze_var 1)) (zo_some (ze_op op_addZ oz_addZ (ze_var 1) ze_int)))).e za_nil))).e ((zf_lst (za_cons (ze_op op_addZ oz_addZ (ze_op op_mul oz_I ze_int (ze_var 1)) ze_int) za_nil))).e) ze_int))
    (zss_cons (zs_set 3 sc_law_feed.nd (ze_callB (call_max2 rfl) pz_max2 T.m_max (za_cons ze_int (za_cons (ze_op op_sub oz_I0 (ze_callB call_abs pz_abs T.m_abs (za_cons (ze_var 2) za_nil)) (ze_op op_pow oz_I ze_int ze_int)) za_nil))))
    (zss_one (zs_retL (zf_lst (za_cons (ze_var 3) (za_cons (ze_op op_mod oz_I (ze_op op_addZ oz_addZ (ze_op op_addZ oz_addZ (ze_op op_mul oz_I (ze_op op_mod oz_I (ze_callB call_abs pz_abs T.m_abs (za_cons (ze_var 2) za_nil)) ze_int) ze_int) (ze_op op_mul oz_I ze_int (ze_var 1))) ze_int) ze_int) za_nil)))))))

def t_law_take (C : Addr) : ZS :=
  (zSeq (zIfS (zB (zOp (gI0 fun i j => .bl (decide (j < i))) (zOp gIx (zVar 0) (zC (.int 0))) (zC (.int 0)))) (zSeq (zAsg (zOp (gI (fun _ j => 0 < j) fun i j => .int (i % j)) (zOp gIx (zVar 0) (zC (.int 0))) (zVar 1)) 2)
    (zSeq (zSetI (zOp (gI CDiv fun i j => .int (i / j)) (zOp gIx (zVar 0) (zC (.int 0))) (zVar 1)) (zVar 0) (zC (.int 0)))
    (zRet (zVar 2)))) zNext)
    (zSeq (zSetI (zOp (gI (fun _ j => 0 < j) fun i j => .int (i % j)) (zOp gAdd (zOp (gI CMul fun i j => .int (i * j)) (zOp gIx (zVar 0) (zC (.int 1))) (zC (.int 69069))) (zC (.int 12345))) (zC (.int 4294967311))) (zVar 0) (zC (.int 1)))
    (zRet (zOp (gI (fun _ j => 0 < j) fun i j => .int (i % j)) (zOp (gI CDiv fun i j => .int (i / j)) (zOp gIx (zVar 0) (zC (.int 1))) (zC (.int 65536))) (zVar 1)))))
theorem d_law_take (C : Addr) (T : Txt K mg C) {f : Addr} {cdv : Value} {A : Around} {outer : List PySem.Env} {s : Shared} {H : Hp} {E : XK} (hr : Room 0 (A.deeper (envOfC "_law_take" (defScope s_law_take) s.heap.objs.size f cdv))) :
    ZSs (cxOf CX0 P w K mg base ["feed", "size", "digit"] "_law_take" (defScope s_law_take) f cdv A outer s H E).nox (defBody s_law_take) (t_law_take C) :=
  (zss_cons (zs_if (zq_cmp op_gt oz_B0 (ze_ix ix_seq oz_ix (ze_var 0) ze_int) ze_int) (zss_cons (zs_set 2 sc_law_take.nd (ze_op op_mod oz_I (ze_ix ix_seq oz_ix (ze_var 0) ze_int) (ze_var 1)))
    (zss_cons (zs_setI (ze_op op_fdiv oz_I (ze_ix ix_seq oz_ix (ze_var 0) ze_int) (ze_var 1)) (ze_var 0) ze_int)
    (zss_one (zs_ret (ze_var 2))))) zss_nil)
    (zss_cons (zs_setI (ze_op op_mod oz_I (ze_op op_addZ oz_addZ (ze_op op_mul oz_I (ze_ix ix_seq oz_ix (ze_var 0) ze_int) ze_int) ze_int) ze_int) (ze_var 0) ze_int)
    (zss_one (zs_ret (ze_op op_mod oz_I (ze_op op_fdiv oz_I (ze_ix ix_seq oz_ix (ze_var 0) ze_int) ze_int) (ze_var 1))))))

def t_law_pick (C : Addr) : ZS :=
  (zRet (zOp gIx (zVar 1) (zCallIO [0] gTake (zCons (zVar 0) (zCons (zCB gLen (zCons (zVar 1) zNil)) zNil)))))
theorem d_law_pick (C : Addr) (T : Txt K mg C) (f_take : FnT P w K mg base 1 "_law_take" gTake) {f : Addr} {cdv : Value} {A : Around} {outer : List PySem.Env} {s : Shared} {H : Hp} {E : XK} (hr : Room 1 (A.deeper (envOfC "_law_pick" (defScope s_law_pick) s.heap.objs.size f cdv))) :
    ZSs (cxOf CX0 P w K mg base ["feed", "choices"] "_law_pick" (defScope s_law_pick) f cdv A outer s H E).nox (defBody s_law_pick) (t_law_pick C) :=
  (zss_one (zs_ret (ze_ix ix_seq oz_ix (ze_var 1) (ze_callIO [0] f_take.fn (hr.mono (by decide)) (za_cons (ze_var 0) (za_cons (ze_callB call_lenZ pz_len T.m_len (za_cons (ze_var 1) za_nil)) za_nil))))))

def t_law_contract (C : Addr) : ZS :=
  (zSeq (zNew (zLst zNil) 2 1)
    (zSeq (zForR (zCons (zC (.int 2)) zNil) (zgName 3) (zSeq (zAsg (zCallIO [0] gPick (zCons (zVar 0) (zCons (zOp gAdd (zE (zLst (zCons (zC (.int 1)) (zCons (zC (.int 1)) (zCons (zC (.int 2)) (zCons (zC (.int 3)) (zCons (zC (.int 5)) (zCons (zC (.int 9)) zNil)))))))) (zE (zOpL gRep (zE (zLst (zCons (zC (.int 999990)) zNil))) (zVar 1)))) zNil))) 4)
    (zDrop (zMut eApp (zVar 2) (zCons (zCallIO [0] gPick (zCons (zVar 0) (zCons (zE (zLst (zCons (zC .non) (zCons (zTup (zCons (zVar 4) (zCons (zVar 4) zNil))) (zCons (zTup (zCons (zVar 4) (zCons (zOp gAdd (zVar 4) (zCallIO [0] gTake (zCons (zVar 0) (zCons (zC (.int 4)) zNil)))) zNil))) zNil))))) zNil))) zNil)))))
    (zSeq (zAsg (zOrV (zOp (gEq false) (zCallIO [0] gTake (zCons (zVar 0) (zCons (zC (.int 4)) zNil))) (zC (.int 0))) (zOp (gEq false) (zVar 2) (zE (zLst (zCons (zC .non) (zCons (zC .non) zNil)))))) 5)
    (zRet (zTup (zCons (zOp gIx (zVar 2) (zC (.int 0))) (zCons (zOp gIx (zVar 2) (zC (.int 1))) (zCons (zVar 5) zNil))))))))
theorem d_law_contract (C : Addr) (T : Txt K mg C) (f_take : FnT P w K mg base 1 "_law_take" gTake) (f_pick : FnT P w K mg base 2 "_law_pick" gPick) {f : Addr} {cdv : Value} {A : Around} {outer : List PySem.Env} {s : Shared} {H : Hp} {E : XK} (hr : Room 2 (A.deeper (envOfC "_law_contract" (defScope s_law_contract) s.heap.objs.size f cdv))) :
    ZSs (cxOf CX0 P w K mg base ["feed", "great", "found", "turn", "low", "may"] "_law_contract" (defScope s_law_contract) f cdv A outer s H E).nox (defBody s_law_contract) (t_law_contract C) :=
  (zss_cons (zs_new 2 1 sc_law_contract.nd (zf_lst za_nil))
    (zss_cons (zs_forR PassesOwn.never rfl T.m_range (za_cons ze_int za_nil) (zg_name 3 sc_law_contract.nd) (zss_cons (zs_set 4 sc_law_contract.nd (ze_callIO [0] f_pick.fn (hr.mono (by decide)) (za_cons (ze_var 0) (za_cons (ze_op op_addZ oz_addZ ((zf_lst (za_cons ze_int (za_cons ze_int (za_cons ze_int (za_cons ze_int (za_cons ze_int (za_cons ze_int za_nil)))))))).e ((zf_op op_rep ol_rep ((zf_lst (za_cons ze_int za_nil))).e (ze_var 1))).e) za_nil))))
    (zss_one (zs_expr (ze_mut PySem.F.plainAttrs_list PySem.F.slot_list_append PySem.F.type_list_append mt_append mz_append (ze_var 2) (za_cons (ze_callIO [0] f_pick.fn (hr.mono (by decide)) (za_cons (ze_var 0) (za_cons ((zf_lst (za_cons ze_non (za_cons (ze_tup (za_cons (ze_var 4) (za_cons (ze_var 4) za_nil))) (za_cons (ze_tup (za_cons (ze_var 4) (za_cons (ze_op op_addZ oz_addZ (ze_var 4) (ze_callIO [0] f_take.fn (hr.mono (by decide)) (za_cons (ze_var 0) (za_cons ze_int za_nil)))) za_nil))) za_nil))))).e za_nil))) za_nil))))))
    (zss_cons (zs_set 5 sc_law_contract.nd (ze_or (ze_cmp (op_eqZ (hu64 hr)) oz_eq (ze_callIO [0] f_take.fn (hr.mono (by decide)) (za_cons (ze_var 0) (za_cons ze_int za_nil))) ze_int) (ze_one (ze_cmp (op_eqZ (hu64 hr)) oz_eq (ze_var 2) ((zf_lst (za_cons ze_non (za_cons ze_non za_nil)))).e))))
    (zss_one (zs_ret (ze_tup (za_cons (ze_ix ix_seq oz_ix (ze_var 2) ze_int) (za_cons (ze_ix ix_seq oz_ix (ze_var 2) ze_int) (za_cons (ze_var 5) za_nil)))))))))

def t_law_near (C : Addr) : ZS :=
  (zSeq (zAsgG (zVar 1) (zgTup 3 (zgCons (zgName 2) (zgCons (zgName 3) (zgCons (zgName 4) zgNil)))))
    (zSeq (zAsg (zCallIO [0] gTake (zCons (zVar 0) (zCons (zC (.int 6)) zNil))) 5)
    (zCut (zIfS (zAnd (zB (zOp (gEq false) (zVar 5) (zC (.int 0)))) (zB (zOp (gIsN true) (zVar 2) (zC .non)))) (zAsg (zTup (zCons (zOp gIx (zVar 2) (zC (.int 0))) (zCons (zOp gAdd (zOp gIx (zVar 2) (zC (.int 1))) (zC (.int 1))) zNil))) 2) zNext)
    (zCut (zIfS (zAnd (zB (zOp (gEq false) (zVar 5) (zC (.int 1)))) (zB (zOp (gIsN true) (zVar 3) (zC .non)))) (zAsg (zTup (zCons (zCB gMax2 (zCons (zC (.int 1)) (zCons (zOp (gI0 fun i j => .int (i - j)) (zOp gIx (zVar 3) (zC (.int 0))) (zC (.int 1))) zNil))) (zCons (zOp gIx (zVar 3) (zC (.int 1))) zNil))) 3) zNext)
    (zCut (zIfS (zB (zOp (gEq false) (zVar 5) (zC (.int 2)))) (zAsg (zC (.bl true)) 4) zNext)
    (zCut (zIfS (zAnd (zB (zOp (gEq false) (zVar 5) (zC (.int 3)))) (zOr (zB (zOp (gIsN true) (zVar 3) (zC .non))) (zB (zVar 4)))) (zAsg (zC .non) 2) zNext)
    (zCut (zIfS (zAnd (zB (zOp (gEq false) (zVar 5) (zC (.int 4)))) (zB (zOp (gIsN true) (zVar 2) (zC .non)))) (zPar 2 3 (zCons (zVar 3) (zCons (zVar 2) zNil))) zNext)
    (zRet (zTup (zCons (zVar 2) (zCons (zVar 3) (zCons (zVar 4) zNil))))))))))))
theorem d_law_near (C : Addr) (T : Txt K mg C) (f_take : FnT P w K mg base 1 "_law_take" gTake) {f : Addr} {cdv : Value} {A : Around} {outer : List PySem.Env} {s : Shared} {H : Hp} {E : XK} (hr : Room 1 (A.deeper (envOfC "_law_near" (defScope s_law_near) s.heap.objs.size f cdv))) :
    ZSs (cxOf CX0 P w K mg base ["feed", "contract", "fine", "wrong", "may", "case"] "_law_near" (defScope s_law_near) f cdv A outer s H E).nox (defBody s_law_near) (t_law_near C) :=
  (zss_cons (zs_asg (ze_var 1) (zg_tup rfl (zgs_cons (zg_name 2 sc_law_near.nd) (zgs_cons (zg_name 3 sc_law_near.nd) (zgs_cons (zg_name 4 sc_law_near.nd) zgs_nil)))))
    (zss_cons (zs_set 5 sc_law_near.nd (ze_callIO [0] f_take.fn (hr.mono (by decide)) (za_cons (ze_var 0) (za_cons ze_int za_nil))))
    (zss_cut (zs_if ((zw_and (zq_cmp (op_eqZ (hu64 hr)) oz_eq (ze_var 5) ze_int) (zw_one (zq_cmp op_notN oz_notN (ze_var 2) ze_non)))).q (zss_one (zs_set 2 sc_law_near.nd (ze_tup (za_cons (ze_ix ix_seq oz_ix (ze_var 2) ze_int) (za_cons (ze_op op_addZ oz_addZ (ze_ix ix_seq oz_ix (ze_var 2) ze_int) ze_int) za_nil))))) zss_nil)
    (zss_cut (zs_if ((zw_and (zq_cmp (op_eqZ (hu64 hr)) oz_eq (ze_var 5) ze_int) (zw_one (zq_cmp op_notN oz_notN (ze_var 3) ze_non)))).q (zss_one (zs_set 3 sc_law_near.nd (ze_tup (za_cons (ze_callB (call_max2 rfl) pz_max2 T.m_max (za_cons ze_int (za_cons (ze_op op_sub oz_I0 (ze_ix ix_seq oz_ix (ze_var 3) ze_int) ze_int) za_nil))) (za_cons (ze_ix ix_seq oz_ix (ze_var 3) ze_int) za_nil))))) zss_nil)
    (zss_cut (zs_if (zq_cmp (op_eqZ (hu64 hr)) oz_eq (ze_var 5) ze_int) (zss_one (zs_set 4 sc_law_near.nd ze_bl)) zss_nil)
    (zss_cut (zs_if ((zw_and (zq_cmp (op_eqZ (hu64 hr)) oz_eq (ze_var 5) ze_int) (zw_one ((zw_or (zq_cmp op_notN oz_notN (ze_var 3) ze_non) (zw_one (zq_val (ze_var 4))))).q))).q (zss_one (zs_set 2 sc_law_near.nd ze_non)) zss_nil)
    (zss_cut (zs_if ((zw_and (zq_cmp (op_eqZ (hu64 hr)) oz_eq (ze_var 5) ze_int) (zw_one (zq_cmp op_notN oz_notN (ze_var 2) ze_non)))).q (zss_one (zs_par 2 3 rfl sc_law_near.nd (za_cons (ze_var 3) (za_cons (ze_var 2) za_nil)))) zss_nil)
    (zss_one (zs_ret (ze_tup (za_cons (ze_var 2) (za_cons (ze_var 3) (za_cons (ze_var 4) za_nil)))))))))))))

end
end K18

set_option Elab.async false
set_option linter.all false
set_option maxRecDepth 100000
set_option maxHeartbeats 0
namespace K18
open PySem PySem.Spec PyProof.Rows L2 Z
section
variable {P : Program} {w : World} {K : PySem.W.Frag} {mg : Str → Option Value} {base : Heap} {C : Addr}
def t_law_made (C : Addr) : ZS :=
  (zRet (zCB (fun ds P => ds.length = (["ok", "fail", "hang"] : List Str).length ∧ gMake C (gInit C) ds P) (zCons (zOp gIx (zVar 0) (zC (.int 0))) (zCons (zOp gIx (zVar 0) (zC (.int 1))) (zCons (zOp gIx (zVar 0) (zC (.int 2))) zNil)))))
theorem d_law_made (C : Addr) (T : Txt K mg C) (mk_Contract : MkKT P w K mg base 4 "Contract" C ["ok", "fail", "hang"] (gInit C)) {f : Addr} {cdv : Value} {A : Around} {outer : List PySem.Env} {s : Shared} {H : Hp} {E : XK} (hr : Room 5 (A.deeper (envOfC "_law_made" (defScope s_law_made) s.heap.objs.size f cdv))) :
    ZSs (cxOf CX0 P w K mg base ["contract"] "_law_made" (defScope s_law_made) f cdv A outer s H E).nox (defBody s_law_made) (t_law_made C) :=
  (zss_one (zs_ret (ze_makeK0 mk_Contract (hr.mono (by decide)) (zk_cons (ze_ix ix_seq oz_ix (ze_var 0) ze_int) (zk_cons (ze_ix ix_seq oz_ix (ze_var 0) ze_int) (zk_cons (ze_ix ix_seq oz_ix (ze_var 0) ze_int) zk_nil))))))

end
end K18

set_option Elab.async false
set_option linter.all false
set_option maxRecDepth 100000
set_option maxHeartbeats 0
namespace K18
open PySem PySem.Spec PyProof.Rows L2 Z
section
variable {P : Program} {w : World} {K : PySem.W.Frag} {mg : Str → Option Value} {base : Heap} {C : Addr}
def t_law (C : Addr) : ZS :=
  (zCut (zForR (zCons (zCB gMax2 (zCons (zC (.int 1)) (zCons (zCB gMin2 (zCons (zC (.int 4)) (zCons (zCB gLen (zCons (zVar 0) zNil)) zNil))) zNil))) zNil) (zgName 1) (zCut (zNew (zCallF gFeed (zCons (zVar 0) (zCons (zVar 1) zNil))) 2 0)
    (zForR (zCons (zC (.int 4)) zNil) (zgName 3) (zCut (zAsg (zCallIO [0] gContract (zCons (zVar 2) (zCons (zC (.int 0)) zNil))) 4)
    (zCut (zAsg (zIf (zB (zOp (gI0 fun i j => .bl (decide (j < i))) (zCallIO [0] gTake (zCons (zVar 2) (zCons (zC (.int 3)) zNil))) (zC (.int 0)))) (zCallIO [0] gNear (zCons (zVar 2) (zCons (zVar 4) zNil))) (zCallIO [0] gContract (zCons (zVar 2) (zCons (zC (.int 0)) zNil)))) 5)
    (zCut (zAsgG (zTup (zCons (zCall (gMade C) (zCons (zVar 4) zNil)) (zCons (zCall (gMade C) (zCons (zVar 5) zNil)) zNil))) (zgTup 2 (zgCons (zgName 6) (zgCons (zgName 7) zgNil))))
    (zCut (zAsg (zE (zLst (zCons (zTup (zCons (zC (.str "never")) zNil)) zNil))) 8)
    (zCut (zFor true (zTup (zCons (zOp gIx (zVar 4) (zC (.int 0))) (zCons (zOp gIx (zVar 4) (zC (.int 1))) (zCons (zOp gIx (zVar 5) (zC (.int 0))) (zCons (zOp gIx (zVar 5) (zC (.int 1))) zNil))))) (zgName 9) (zFor false (zIf (zB (zOp (gIsN false) (zVar 9) (zC .non))) (zE (zLst zNil)) (zE (zLst (zCons (zOp (gI0 fun i j => .int (i - j)) (zOp gIx (zVar 9) (zC (.int 0))) (zC (.int 1))) (zCons (zOp gIx (zVar 9) (zC (.int 0))) (zCons (zOp gIx (zVar 9) (zC (.int 1))) (zCons (zOp gAdd (zOp gIx (zVar 9) (zC (.int 1))) (zC (.int 1))) zNil))))))) (zgName 10) (zAsg (zOp gAdd (zVar 8) (zE (zLc true (zTup (zCons (zC (.str "ok")) (zCons (zC (.str "fail")) zNil))) (zgName 11) (zB (zOp (gI0 fun i j => .bl (decide (j < i))) (zVar 10) (zC (.int 0)))) (zTup (zCons (zVar 11) (zCons (zVar 10) zNil))) [11]))) 8)))
    (zCut (zAsg (zE (zLc false (zVar 8) (zgName 12) (zB (zOp (gEq true) (zMeth C "allows" (gAllows C) (zVar 6) (zCons (zVar 12) zNil)) (zMeth C "allows" (gAllows C) (zVar 7) (zCons (zVar 12) zNil)))) (zVar 12) [12])) 13)
    (zCut (zIfS (zOr (zB (zOp (gEq true) (zOp (gOwn2 C (gEqC C)) (zVar 6) (zVar 7)) (zOp (gEq false) (zVar 13) (zE (zLst zNil))))) (zB (zOp (gEq false) (zE (zLc false (zVar 8) (zgName 12) (zB (zMeth C "allows" (gAllows C) (zVar 6) (zCons (zVar 12) zNil))) (zVar 12) [12])) (zE (zLst zNil))))) (zRet (zC (.bl false))) zNext)
    (zCut (zNew (zLst zNil) 14 1)
    (zCut (zFor true (zTup (zCons (zOp gIx (zVar 4) (zC (.int 0))) (zCons (zOp gIx (zVar 4) (zC (.int 1))) zNil))) (zgName 9) (zDrop (zMut eApp (zVar 14) (zCons (zIf (zB (zOp (gIsN false) (zVar 9) (zC .non))) (zC .non) (zTup (zCons (zCB gMax2 (zCons (zC (.int 1)) (zCons (zOp (gI0 fun i j => .int (i - j)) (zOp gIx (zVar 9) (zC (.int 0))) (zC (.int 1))) zNil))) (zCons (zOp gAdd (zOp gIx (zVar 9) (zC (.int 1))) (zCallIO [0] gTake (zCons (zVar 2) (zCons (zC (.int 3)) zNil)))) zNil)))) zNil))))
    (zCut (zAsg (zCB (fun ds P => ds.length = (["ok", "fail", "hang"] : List Str).length ∧ gMake C (gInit C) ds P) (zCons (zOp gIx (zVar 14) (zC (.int 0))) (zCons (zOp gIx (zVar 14) (zC (.int 1))) (zCons (zOrV (zOp gIx (zVar 4) (zC (.int 2))) (zOp (gEq false) (zCallIO [0] gTake (zCons (zVar 2) (zCons (zC (.int 2)) zNil))) (zC (.int 0)))) zNil)))) 15)
    (zIfS (zB (zOp (gEq true) (zE (zLc false (zVar 8) (zgName 12) (zAnd (zB (zMeth C "allows" (gAllows C) (zVar 6) (zCons (zVar 12) zNil))) (zNot (zB (zMeth C "allows" (gAllows C) (zVar 15) (zCons (zVar 12) zNil))))) (zVar 12) [12])) (zE (zLst zNil)))) (zRet (zC (.bl false))) zNext))))))))))))))
    (zRet (zC (.bl true))))
theorem d_law (C : Addr) (T : Txt K mg C) (f_feed : FnT P w K mg base 1 "_law_feed" gFeed) (f_take : FnT P w K mg base 1 "_law_take" gTake) (f_contract : FnT P w K mg base 3 "_law_contract" gContract) (f_made : FnT P w K mg base 6 "_law_made" (gMade C)) (f_near : FnT P w K mg base 2 "_law_near" gNear) (mk_Contract : MkKT P w K mg base 4 "Contract" C ["ok", "fail", "hang"] (gInit C)) (m_allows : MthT P w K mg base 3 C "allows" (gAllows C)) (m_eq : OwnT P w K mg base 1 C "__eq__" (gEqC C)) {f : Addr} {cdv : Value} {A : Around} {outer : List PySem.Env} {s : Shared} {H : Hp} {E : XK} (hr : Room 6 (A.deeper (envOfC "law" (defScope s_law) s.heap.objs.size f cdv))) :
    ZSs (cxOf CX0 P w K mg base ["script", "index", "feed", "turn", "first", "second", "one", "other", "replies", "some", "time", "word", "reply", "unlike", "wide", "wider"] "law" (defScope s_law) f cdv A outer s H E).nox (defBody s_law) (t_law C) :=
  (zss_cut (zs_forR PassesOwn.never rfl T.m_range (za_cons (ze_callB (call_max2 rfl) pz_max2 T.m_max (za_cons ze_int (za_cons (ze_callB (call_min2 rfl) pz_min2 T.m_min (za_cons ze_int (za_cons (ze_callB call_lenZ pz_len T.m_len (za_cons (ze_var 0) za_nil)) za_nil))) za_nil))) za_nil) (zg_name 1 sc_law.nd) (zss_cut (zs_new 2 0 sc_law.nd (zf_call f_feed.fn (hr.mono (by decide)) (za_cons (ze_var 0) (za_cons (ze_var 1) za_nil))))
    (zss_one (zs_forR PassesOwn.never rfl T.m_range (za_cons ze_int za_nil) (zg_name 3 sc_law.nd) (zss_cut (zs_set 4 sc_law.nd (ze_callIO [0] f_contract.fn (hr.mono (by decide)) (za_cons (ze_var 2) (za_cons ze_int za_nil))))
    (zss_cut (zs_set 5 sc_law.nd (ze_if (zq_cmp op_gt oz_B0 (ze_callIO [0] f_take.fn (hr.mono (by decide)) (za_cons (ze_var 2) (za_cons ze_int za_nil))) ze_int) (ze_callIO [0] f_near.fn (hr.mono (by decide)) (za_cons (ze_var 2) (za_cons (ze_var 4) za_nil))) (ze_callIO [0] f_contract.fn (hr.mono (by decide)) (za_cons (ze_var 2) (za_cons ze_int za_nil)))))
    (zss_cut (zs_asg (ze_tup (za_cons (ze_call f_made.fn (hr.mono (by decide)) (za_cons (ze_var 4) za_nil)) (za_cons (ze_call f_made.fn (hr.mono (by decide)) (za_cons (ze_var 5) za_nil)) za_nil))) (zg_tup rfl (zgs_cons (zg_name 6 sc_law.nd) (zgs_cons (zg_name 7 sc_law.nd) zgs_nil))))
    (zss_cut (zs_set 8 sc_law.nd ((zf_lst (za_cons (ze_tup (za_cons ze_str za_nil)) za_nil))).e)
    (zss_cut (zs_for PassesOwn.never rfl (ze_tup (za_cons (ze_ix ix_seq oz_ix (ze_var 4) ze_int) (za_cons (ze_ix ix_seq oz_ix (ze_var 4) ze_int) (za_cons (ze_ix ix_seq oz_ix (ze_var 5) ze_int) (za_cons (ze_ix ix_seq oz_ix (ze_var 5) ze_int) za_nil))))) (zg_name 9 sc_law.nd) (zss_one (zs_for PassesOwn.never rfl (ze_if (zq_cmp op_isN oz_isN (ze_var 9) ze_non) ((zf_lst za_nil)).e ((zf_lst (za_cons (ze_op op_sub oz_I0 (ze_ix ix_seq oz_ix (ze_var 9) ze_int) ze_int) (za_cons (ze_ix ix_seq oz_ix (ze_var 9) ze_int) (za_cons (ze_ix ix_seq oz_ix (ze_var 9) ze_int) (za_cons (ze_op op_addZ oz_addZ (ze_ix ix_seq oz_ix (ze_var 9) ze_int) ze_int) za_nil)))))).e) (zg_name 10 sc_law.nd) (zss_one (zs_set 8 sc_law.nd (ze_op op_addZ oz_addZ (ze_var 8) ((zf_lc true [("word", 11)] rfl sc_law.nd (ze_tup (za_cons ze_str (za_cons ze_str za_nil))) (blkOk_by (own := [("word", 11)]) (N := ["script", "index", "feed", "turn", "first", "second", "one", "other", "replies", "some", "time", "word", "reply", "unlike", "wide", "wider"]) (sc := defScope s_law) (by decide +kernel)) (fun _ _ _ _ _ => (zv_name 11 sc_law.nd)) (fun _ _ _ _ _ => (zts_one (zq_cmp op_gt oz_B0 (ze_var 10) ze_int))) (fun _ _ _ _ _ => (ze_tup (za_cons (ze_var 11) (za_cons (ze_var 10) za_nil)))))).e))) (isT := false))) (isT := true))
    (zss_cut (zs_setLc 13 false [("reply", 12)] rfl sc_law.nd (ze_var 8) (blkOk_by (own := [("reply", 12)]) (N := ["script", "index", "feed", "turn", "first", "second", "one", "other", "replies", "some", "time", "word", "reply", "unlike", "wide", "wider"]) (sc := defScope s_law) (by decide +kernel)) (fun _ _ _ _ _ => (zv_name 12 sc_law.nd)) (fun _ _ _ _ _ => (zts_one (zq_cmp (op_neZ (hu64 hr)) oz_ne (ze_meth m_allows.mt (hr.mono (by decide)) (ze_var 6) (za_cons (ze_var 12) za_nil)) (ze_meth m_allows.mt (hr.mono (by decide)) (ze_var 7) (za_cons (ze_var 12) za_nil))))) (fun _ _ _ _ _ => (ze_var 12)))
    (zss_cut (zs_if ((zw_or (zq_cmp (op_neZ (hu64 hr)) oz_ne (ze_cmp (op_eqOwn m_eq.ow (hr.mono (by decide))) oz_own2 (ze_var 6) (ze_var 7)) (ze_cmp (op_eqZ (hu64 hr)) oz_eq (ze_var 13) ((zf_lst za_nil)).e)) (zw_one (zq_cmp (op_eqZ (hu64 hr)) oz_eq ((zf_lc false [("reply", 12)] rfl sc_law.nd (ze_var 8) (blkOk_by (own := [("reply", 12)]) (N := ["script", "index", "feed", "turn", "first", "second", "one", "other", "replies", "some", "time", "word", "reply", "unlike", "wide", "wider"]) (sc := defScope s_law) (by decide +kernel)) (fun _ _ _ _ _ => (zv_name 12 sc_law.nd)) (fun _ _ _ _ _ => (zts_one (zq_val (ze_meth m_allows.mt (hr.mono (by decide)) (ze_var 6) (za_cons (ze_var 12) za_nil))))) (fun _ _ _ _ _ => (ze_var 12)))).e ((zf_lst za_nil)).e)))).q (zss_one (zs_ret ze_bl)) zss_nil)
    (zss_cut (zs_new 14 1 sc_law.nd (zf_lst za_nil))
    (zss_cut (zs_for PassesOwn.never rfl (ze_tup (za_cons (ze_ix ix_seq oz_ix (ze_var 4) ze_int) (za_cons (ze_ix ix_seq oz_ix (ze_var 4) ze_int) za_nil))) (zg_name 9 sc_law.nd) (zss_one (zs_expr (ze_mut PySem.F.plainAttrs_list PySem.F.slot_list_append PySem.F.type_list_append mt_append mz_append (ze_var 14) (za_cons (ze_if (zq_cmp op_isN oz_isN (ze_var 9) ze_non) ze_non (ze_tup (za_cons (ze_callB (call_max2 rfl) pz_max2 T.m_max (za_cons ze_int (za_cons (ze_op op_sub oz_I0 (ze_ix ix_seq oz_ix (ze_var 9) ze_int) ze_int) za_nil))) (za_cons (ze_op op_addZ oz_addZ (ze_ix ix_seq oz_ix (ze_var 9) ze_int) (ze_callIO [0] f_take.fn (hr.mono (by decide)) (za_cons (ze_var 2) (za_cons ze_int za_nil)))) za_nil)))) za_nil)))) (isT := true))
    (zss_cut (zs_set 15 sc_law.nd (ze_makeK0 mk_Contract (hr.mono (by decide)) (zk_cons (ze_ix ix_seq oz_ix (ze_var 14) ze_int) (zk_cons (ze_ix ix_seq oz_ix (ze_var 14) ze_int) (zk_cons (ze_or (ze_ix ix_seq oz_ix (ze_var 4) ze_int) (ze_one (ze_cmp (op_eqZ (hu64 hr)) oz_eq (ze_callIO [0] f_take.fn (hr.mono (by decide)) (za_cons (ze_var 2) (za_cons ze_int za_nil))) ze_int))) zk_nil)))))
    (zss_one (zs_if (zq_cmp (op_neZ (hu64 hr)) oz_ne ((zf_lc false [("reply", 12)] rfl sc_law.nd (ze_var 8) (blkOk_by (own := [("reply", 12)]) (N := ["script", "index", "feed", "turn", "first", "second", "one", "other", "replies", "some", "time", "word", "reply", "unlike", "wide", "wider"]) (sc := defScope s_law) (by decide +kernel)) (fun _ _ _ _ _ => (zv_name 12 sc_law.nd)) (fun _ _ _ _ _ => (zts_one ((zw_and (zq_val (ze_meth m_allows.mt (hr.mono (by decide)) (ze_var 6) (za_cons (ze_var 12) za_nil))) (zw_one (zq_not (zq_val (ze_meth m_allows.mt (hr.mono (by decide)) (ze_var 15) (za_cons (ze_var 12) za_nil))))))).q)) (fun _ _ _ _ _ => (ze_var 12)))).e ((zf_lst za_nil)).e) (zss_one (zs_ret ze_bl)) zss_nil))))))))))))))))
    (zss_one (zs_ret ze_bl)))

end
end K18

set_option Elab.async false
set_option linter.all false
set_option maxRecDepth 100000
set_option maxHeartbeats 400000
namespace K18
open PySem PySem.Spec PyProof.Rows L2 Z
abbrev EndD (n : Nat) (P : RS → List Ce → Prop) : ZD := ⟨fun ρ => fin n P (.val .non) ρ, fun r ρ => fin n P r ρ, fun _ => False, fun _ => False⟩
theorem st1 : ((Str.ofString "ok") == (Str.ofString "fail")) = false := by decide
theorem st2 : ((Str.ofString "fail") == (Str.ofString "ok")) = false := by decide
theorem st3 : (Str.ofString "ok" = Str.ofString "fail") = False := by
  simp only [eq_iff_iff, iff_false]; decide
theorem st4 : (Str.ofString "fail" = Str.ofString "ok") = False := by
  simp only [eq_iff_iff, iff_false]; decide
theorem se1 : ((Str.ofString "ok") == (Str.ofString "ok")) = true := by decide
theorem se2 : ((Str.ofString "fail") == (Str.ofString "fail")) = true := by decide
theorem se3 : ((Str.ofString "hang") == (Str.ofString "hang")) = true := by decide
theorem se4 : ((Str.ofString "never") == (Str.ofString "never")) = true := by decide
theorem st5 : ((Str.ofString "hang") == (Str.ofString "ok")) = false := by decide
theorem st6 : ((Str.ofString "hang") == (Str.ofString "fail")) = false := by decide
theorem st7 : ((Str.ofString "ok") == (Str.ofString "hang")) = false := by decide
theorem st8 : ((Str.ofString "fail") == (Str.ofString "hang")) = false := by decide
theorem st9 : (Str.ofString "never" = Str.ofString "ok") = False := by
  simp only [eq_iff_iff, iff_false]; decide
theorem st10 : (Str.ofString "ok" = Str.ofString "hang") = False := by
  simp only [eq_iff_iff, iff_false]; decide
theorem st11 : (Str.ofString "fail" = Str.ofString "hang") = False := by
  simp only [eq_iff_iff, iff_false]; decide
theorem so1 : PyData.strOk (Str.ofString "ok") = true := by decide +kernel
theorem so2 : PyData.strOk (Str.ofString "fail") = true := by decide +kernel
theorem so3 : PyData.strOk (Str.ofString "never") = true := by decide +kernel
theorem isInt_iff {i : Int} {P : RS → List Ce → Prop} {PX : Value → List Ce → Prop} : gIsInt [.val (.int i)] [] P PX ↔ P (.val (.bl true)) [] := by
  refine ⟨fun ⟨d, n, h1, h2, h3, h4⟩ => ?_, fun h => ⟨.int i, "int", rfl, rfl, rfl, h⟩⟩
  simp only [List.cons.injEq, S.val.injEq, and_true] at h1
  subst h1
  exact h4
theorem isRange_iff {a b l : Int} {P : RS → List Ce → Prop} {PX : Value → List Ce → Prop} : gIsRange [.val (.tup [.int a, .int b]), .val (.int l)] [] P PX ↔ P (.val (.bl (decide (l ≤ a) && decide (a ≤ b)))) [] := by
  refine ⟨fun ⟨a', b', l', h1, h2, h4⟩ => ?_, fun h => ⟨a, b, l, rfl, rfl, h⟩⟩
  simp only [List.cons.injEq, S.val.injEq, D.tup.injEq, D.int.injEq, and_true] at h1
  obtain ⟨⟨rfl, rfl⟩, rfl⟩ := h1
  exact h4
theorem isReply_never {P : RS → List Ce → Prop} {PX : Value → List Ce → Prop} : gIsReply [.val (.tup [.str "never"])] [] P PX ↔ P (.val (.bl true)) [] :=
  ⟨fun ⟨_, _, _, _, h⟩ => h, fun h => ⟨.never, rfl, rfl, trivial, h⟩⟩
theorem isReply_ok {t : Int} (ht : 0 < t) {P : RS → List Ce → Prop} {PX : Value → List Ce → Prop} : gIsReply [.val (.tup [.str "ok", .int t])] [] P PX ↔ P (.val (.bl true)) [] :=
  ⟨fun ⟨_, _, _, _, h⟩ => h, fun h => ⟨.at true t, rfl, rfl, ht, h⟩⟩
theorem isReply_fail {t : Int} (ht : 0 < t) {P : RS → List Ce → Prop} {PX : Value → List Ce → Prop} : gIsReply [.val (.tup [.str "fail", .int t])] [] P PX ↔ P (.val (.bl true)) [] :=
  ⟨fun ⟨_, _, _, _, h⟩ => h, fun h => ⟨.at false t, rfl, rfl, ht, h⟩⟩
theorem isCR_non {P : RS → List Ce → Prop} {PX : Value → List Ce → Prop} : gIsCR [.val .non] [] P PX ↔ P (.val (.bl true)) [] :=
  ⟨fun ⟨_, _, _, _, h⟩ => h, fun h => ⟨none, rfl, rfl, trivial, h⟩⟩
theorem isCR_tup {a b : Int} (h0 : 1 ≤ a ∧ a ≤ b ∧ b ≤ 1000000) {P : RS → List Ce → Prop} {PX : Value → List Ce → Prop} : gIsCR [.val (.tup [.int a, .int b])] [] P PX ↔ P (.val (.bl true)) [] :=
  ⟨fun ⟨_, _, _, _, h⟩ => h, fun h => ⟨some (a, b), rfl, rfl, h0, h⟩⟩
theorem w_is_integer {C : Addr} : ∀ ss cs P PX, gIsInt ss cs P PX → t_is_integer C (EndD cs.length P) (entry 1 0 ss cs) := by
  rintro _ _ P PX ⟨d, n, rfl, rfl, e, h⟩
  cases d <;> first
    | (cases e; done)
    | (cases e; simp [t_is_integer, zRet, zRetL, zRetN, zSeq, zNext, zAsg, zAsgG, zPar, zPar_k, zNew, zIfS, zB, S.asB, zNot, zAnd, zOr, zAndV, zOrV, zNotV, zIf, zTru, zOp, zOpL, zUn, zE, zVar, zC, zCons, zNil, zTup, zLst, zCB, zCBL, zCall, zCallF, zCallIO, zCallIOF, zMeth, zMethF, zFld, fldK, zSetF, zSetI, zMut, zDrop, zChain, zgName, zgTup, zgCons, zgNil, zSl, zoNone, zoSome, S.vw, vwL, okP, okL, D.noLst, noLsts, Env.put, Env.setCe, Env.fresh, Env.kill, Z.Env.cells, Env.setCells, keepS, keepC, S.isL, Ce.has, reS, reL, reC, unS, unC, gIx, atI_0, atI_1, atI_2, ixN_0, ixN_1, fin0, fin1, gI0, gI, gU, gIsi, gIsC, gIsN, gLen, gAdd, gCat, gMax2, gMin2, gAbs, gList, eApp, D.tyN, D.items, entry, okC, okS, zNever, zYes, kb2, kb3, kb4, kb5, show kitB "NoneType" "int" = some false by decide, show kitB "str" "int" = some false by decide, show kitB "tuple" "int" = some false by decide, show kitB "list" "int" = some false by decide, show kitB "dict" "int" = some false by decide]; exact h)
theorem w_is_range {C : Addr} : ∀ ss cs P PX, gIsRange ss cs P PX → t_is_range C (EndD cs.length P) (entry 4 0 ss cs) := by
  rintro _ _ P PX ⟨a, b, l, rfl, rfl, h⟩
  simp [t_is_range, zRet, zRetL, zRetN, zSeq, zNext, zAsg, zAsgG, zPar, zPar_k, zNew, zIfS, zB, S.asB, zNot, zAnd, zOr, zAndV, zOrV, zNotV, zIf, zTru, zOp, zOpL, zUn, zE, zVar, zC, zCons, zNil, zTup, zLst, zCB, zCBL, zCall, zCallF, zCallIO, zCallIOF, zMeth, zMethF, zFld, fldK, zSetF, zSetI, zMut, zDrop, zChain, zgName, zgTup, zgCons, zgNil, zSl, zoNone, zoSome, S.vw, vwL, okP, okL, D.noLst, noLsts, Env.put, Env.setCe, Env.fresh, Env.kill, Z.Env.cells, Env.setCells, keepS, keepC, S.isL, Ce.has, reS, reL, reC, unS, unC, gIx, atI_0, atI_1, atI_2, ixN_0, ixN_1, fin0, fin1, gI0, gI, gU, gIsi, gIsC, gIsN, gLen, gAdd, gCat, gMax2, gMin2, gAbs, gList, eApp, D.tyN, D.items, entry, okC, okS, zNever, zYes, kb1, gIsInt, D.isInt, gEq]
  by_cases h1 : l ≤ a
  · simp [h1] at h; exact .inr ⟨h1, h⟩
  · simp [h1] at h; exact .inl ⟨by omega, h⟩
theorem w_is_reply {C : Addr} : ∀ ss cs P PX, gIsReply ss cs P PX → t_is_reply C (EndD cs.length P) (entry 1 0 ss cs) := by
  rintro _ _ P PX ⟨r, rfl, rfl, hp, h⟩
  cases r with
  | never =>
    simp [t_is_reply, Rp.d, zRet, zRetL, zRetN, zSeq, zNext, zAsg, zAsgG, zPar, zPar_k, zNew, zIfS, zB, S.asB, zNot, zAnd, zOr, zAndV, zOrV, zNotV, zIf, zTru, zOp, zOpL, zUn, zE, zVar, zC, zCons, zNil, zTup, zLst, zCB, zCBL, zCall, zCallF, zCallIO, zCallIOF, zMeth, zMethF, zFld, fldK, zSetF, zSetI, zMut, zDrop, zChain, zgName, zgTup, zgCons, zgNil, zSl, zoNone, zoSome, S.vw, vwL, okP, okL, D.noLst, noLsts, Env.put, Env.setCe, Env.fresh, Env.kill, Z.Env.cells, Env.setCells, keepS, keepC, S.isL, Ce.has, reS, reL, reC, unS, unC, gIx, atI_0, atI_1, atI_2, ixN_0, ixN_1, fin0, fin1, gI0, gI, gU, gIsi, gIsC, gIsN, gLen, gAdd, gCat, gMax2, gMin2, gAbs, gList, eApp, D.tyN, D.items, entry, okC, okS, zNever, zYes, kb1, gIsInt, D.isInt, gEq, gIn, D.seq, flats, D.flat, inV, D.toPy, toPys, SeqAt.shaped, PyData.canLay0, PyData.canLayAll0, so3, PyData.depth, PyData.depthAll, PyData.eqv, PyData.eqvAll]
    exact h
  | «at» b t =>
    have hp : 0 < t := hp
    have hp1 : 1 ≤ t := hp
    cases b <;> simp [t_is_reply, Rp.d, zRet, zRetL, zRetN, zSeq, zNext, zAsg, zAsgG, zPar, zPar_k, zNew, zIfS, zB, S.asB, zNot, zAnd, zOr, zAndV, zOrV, zNotV, zIf, zTru, zOp, zOpL, zUn, zE, zVar, zC, zCons, zNil, zTup, zLst, zCB, zCBL, zCall, zCallF, zCallIO, zCallIOF, zMeth, zMethF, zFld, fldK, zSetF, zSetI, zMut, zDrop, zChain, zgName, zgTup, zgCons, zgNil, zSl, zoNone, zoSome, S.vw, vwL, okP, okL, D.noLst, noLsts, Env.put, Env.setCe, Env.fresh, Env.kill, Z.Env.cells, Env.setCells, keepS, keepC, S.isL, Ce.has, reS, reL, reC, unS, unC, gIx, atI_0, atI_1, atI_2, ixN_0, ixN_1, fin0, fin1, gI0, gI, gU, gIsi, gIsC, gIsN, gLen, gAdd, gCat, gMax2, gMin2, gAbs, gList, eApp, D.tyN, D.items, entry, okC, okS, zNever, zYes, kb1, gIsInt, D.isInt, gEq, gIn, D.seq, flats, D.flat, inV, eqV, hp1] <;> exact h
theorem rng_inj {a b : Rng} : rng a = rng b ↔ a = b := by
  cases a with
  | none =>
    cases b with
    | none => simp
    | some q => obtain ⟨x, y⟩ := q; simp [rng]
  | some p =>
    obtain ⟨x, y⟩ := p
    cases b with
    | none => simp [rng]
    | some q => obtain ⟨x', y'⟩ := q; simp [rng]
theorem w_is_contract_range {C : Addr} : ∀ ss cs P PX, gIsCR ss cs P PX → t_is_contract_range C (EndD cs.length P) (entry 1 0 ss cs) := by
  rintro _ _ P PX ⟨o, rfl, rfl, hp, h⟩
  cases o with
  | none => simp [t_is_contract_range, rng, zRet, zRetL, zRetN, zSeq, zNext, zAsg, zAsgG, zPar, zPar_k, zNew, zIfS, zB, S.asB, zNot, zAnd, zOr, zAndV, zOrV, zNotV, zIf, zTru, zOp, zOpL, zUn, zE, zVar, zC, zCons, zNil, zTup, zLst, zCB, zCBL, zCall, zCallF, zCallIO, zCallIOF, zMeth, zMethF, zFld, fldK, zSetF, zSetI, zMut, zDrop, zChain, zgName, zgTup, zgCons, zgNil, zSl, zoNone, zoSome, S.vw, vwL, okP, okL, D.noLst, noLsts, Env.put, Env.setCe, Env.fresh, Env.kill, Z.Env.cells, Env.setCells, keepS, keepC, S.isL, Ce.has, reS, reL, reC, unS, unC, gIx, atI_0, atI_1, atI_2, ixN_0, ixN_1, fin0, fin1, gI0, gI, gU, gIsi, gIsC, gIsN, gLen, gAdd, gCat, gMax2, gMin2, gAbs, gList, eApp, D.tyN, D.items, entry, okC, okS, zNever, zYes]; exact h
  | some p =>
    obtain ⟨a, b⟩ := p
    obtain ⟨h1, h2, h3⟩ := hp
    simp [t_is_contract_range, rng, zRet, zRetL, zRetN, zSeq, zNext, zAsg, zAsgG, zPar, zPar_k, zNew, zIfS, zB, S.asB, zNot, zAnd, zOr, zAndV, zOrV, zNotV, zIf, zTru, zOp, zOpL, zUn, zE, zVar, zC, zCons, zNil, zTup, zLst, zCB, zCBL, zCall, zCallF, zCallIO, zCallIOF, zMeth, zMethF, zFld, fldK, zSetF, zSetI, zMut, zDrop, zChain, zgName, zgTup, zgCons, zgNil, zSl, zoNone, zoSome, S.vw, vwL, okP, okL, D.noLst, noLsts, Env.put, Env.setCe, Env.fresh, Env.kill, Z.Env.cells, Env.setCells, keepS, keepC, S.isL, Ce.has, reS, reL, reC, unS, unC, gIx, atI_0, atI_1, atI_2, ixN_0, ixN_1, fin0, fin1, gI0, gI, gU, gIsi, gIsC, gIsN, gLen, gAdd, gCat, gMax2, gMin2, gAbs, gList, eApp, D.tyN, D.items, entry, okC, okS, zNever, zYes, isRange_iff, h1, h2, h3]
    exact h
theorem w_init {C : Addr} : ∀ ss cs P PX, gInit C ss cs P PX → t_Contract_u_init C (EndD cs.length P) (entry 4 0 ss cs) := by
  rintro _ _ P PX ⟨⟨o, f, g⟩, rfl, rfl, ⟨h1, h2, h3⟩, h⟩
  cases o with
  | none =>
    cases f with
    | none =>
      cases g with
      | false => exact absurd ⟨rfl, rfl, rfl⟩ h3
      | true => simp [t_Contract_u_init, rng, zRet, zRetL, zRetN, zSeq, zNext, zAsg, zAsgG, zPar, zPar_k, zNew, zIfS, zB, S.asB, zNot, zAnd, zOr, zAndV, zOrV, zNotV, zIf, zTru, zOp, zOpL, zUn, zE, zVar, zC, zCons, zNil, zTup, zLst, zCB, zCBL, zCall, zCallF, zCallIO, zCallIOF, zMeth, zMethF, zFld, fldK, zSetF, zSetI, zMut, zDrop, zChain, zgName, zgTup, zgCons, zgNil, zSl, zoNone, zoSome, S.vw, vwL, okP, okL, D.noLst, noLsts, Env.put, Env.setCe, Env.fresh, Env.kill, Z.Env.cells, Env.setCells, keepS, keepC, S.isL, Ce.has, reS, reL, reC, unS, unC, gIx, atI_0, atI_1, atI_2, ixN_0, ixN_1, fin0, fin1, gI0, gI, gU, gIsi, gIsC, gIsN, gLen, gAdd, gCat, gMax2, gMin2, gAbs, gList, eApp, D.tyN, D.items, entry, okC, okS, zNever, zYes, isCR_non, kb4, putN, st1, st2, st3, st4, st5, st6, st7, st8, st9, st10, st11, se1, se2, se3, se4, so1, so2, so3, and_assoc]; exact h
    | some q =>
      obtain ⟨x, y⟩ := q
      simp [t_Contract_u_init, rng, zRet, zRetL, zRetN, zSeq, zNext, zAsg, zAsgG, zPar, zPar_k, zNew, zIfS, zB, S.asB, zNot, zAnd, zOr, zAndV, zOrV, zNotV, zIf, zTru, zOp, zOpL, zUn, zE, zVar, zC, zCons, zNil, zTup, zLst, zCB, zCBL, zCall, zCallF, zCallIO, zCallIOF, zMeth, zMethF, zFld, fldK, zSetF, zSetI, zMut, zDrop, zChain, zgName, zgTup, zgCons, zgNil, zSl, zoNone, zoSome, S.vw, vwL, okP, okL, D.noLst, noLsts, Env.put, Env.setCe, Env.fresh, Env.kill, Z.Env.cells, Env.setCells, keepS, keepC, S.isL, Ce.has, reS, reL, reC, unS, unC, gIx, atI_0, atI_1, atI_2, ixN_0, ixN_1, fin0, fin1, gI0, gI, gU, gIsi, gIsC, gIsN, gLen, gAdd, gCat, gMax2, gMin2, gAbs, gList, eApp, D.tyN, D.items, entry, okC, okS, zNever, zYes, isCR_non, isCR_tup h2, kb4, putN, st1, st2, st3, st4, st5, st6, st7, st8, st9, st10, st11, se1, se2, se3, se4, so1, so2, so3, and_assoc]; exact h
  | some p =>
    obtain ⟨x, y⟩ := p
    cases f with
    | none => simp [t_Contract_u_init, rng, zRet, zRetL, zRetN, zSeq, zNext, zAsg, zAsgG, zPar, zPar_k, zNew, zIfS, zB, S.asB, zNot, zAnd, zOr, zAndV, zOrV, zNotV, zIf, zTru, zOp, zOpL, zUn, zE, zVar, zC, zCons, zNil, zTup, zLst, zCB, zCBL, zCall, zCallF, zCallIO, zCallIOF, zMeth, zMethF, zFld, fldK, zSetF, zSetI, zMut, zDrop, zChain, zgName, zgTup, zgCons, zgNil, zSl, zoNone, zoSome, S.vw, vwL, okP, okL, D.noLst, noLsts, Env.put, Env.setCe, Env.fresh, Env.kill, Z.Env.cells, Env.setCells, keepS, keepC, S.isL, Ce.has, reS, reL, reC, unS, unC, gIx, atI_0, atI_1, atI_2, ixN_0, ixN_1, fin0, fin1, gI0, gI, gU, gIsi, gIsC, gIsN, gLen, gAdd, gCat, gMax2, gMin2, gAbs, gList, eApp, D.tyN, D.items, entry, okC, okS, zNever, zYes, isCR_non, isCR_tup h1, kb4, putN, st1, st2, st3, st4, st5, st6, st7, st8, st9, st10, st11, se1, se2, se3, se4, so1, so2, so3, and_assoc]; exact h
    | some q =>
      obtain ⟨x, y⟩ := q
      simp [t_Contract_u_init, rng, zRet, zRetL, zRetN, zSeq, zNext, zAsg, zAsgG, zPar, zPar_k, zNew, zIfS, zB, S.asB, zNot, zAnd, zOr, zAndV, zOrV, zNotV, zIf, zTru, zOp, zOpL, zUn, zE, zVar, zC, zCons, zNil, zTup, zLst, zCB, zCBL, zCall, zCallF, zCallIO, zCallIOF, zMeth, zMethF, zFld, fldK, zSetF, zSetI, zMut, zDrop, zChain, zgName, zgTup, zgCons, zgNil, zSl, zoNone, zoSome, S.vw, vwL, okP, okL, D.noLst, noLsts, Env.put, Env.setCe, Env.fresh, Env.kill, Z.Env.cells, Env.setCells, keepS, keepC, S.isL, Ce.has, reS, reL, reC, unS, unC, gIx, atI_0, atI_1, atI_2, ixN_0, ixN_1, fin0, fin1, gI0, gI, gU, gIsi, gIsC, gIsN, gLen, gAdd, gCat, gMax2, gMin2, gAbs, gList, eApp, D.tyN, D.items, entry, okC, okS, zNever, zYes, isCR_non, isCR_tup h1, isCR_tup h2, kb4, putN, st1, st2, st3, st4, st5, st6, st7, st8, st9, st10, st11, se1, se2, se3, se4, so1, so2, so3, and_assoc]; exact h
/-- == of ranges -/
theorem gEq_rng {o p : Rng} {P : D → Prop} (h : P (.bl (decide (o = p)))) : gEq false (rng o) (rng p) P := by
  cases o with
  | none =>
    cases p with
    | none => simp [gEq, rng, D.toPy, SeqAt.shaped, PyData.canLay0, PyData.depth, PyData.eqv] at h ⊢; exact h
    | some q =>
      obtain ⟨x, y⟩ := q
      simp [gEq, rng, D.toPy, toPys, SeqAt.shaped, PyData.canLay0, PyData.canLayAll0, PyData.depth, PyData.depthAll, PyData.eqv] at h ⊢; exact h
  | some q =>
    obtain ⟨x, y⟩ := q
    cases p with
    | none => simp [gEq, rng, D.toPy, toPys, SeqAt.shaped, PyData.canLay0, PyData.canLayAll0, PyData.depth, PyData.depthAll, PyData.eqv] at h ⊢; exact h
    | some q =>
      obtain ⟨x', y'⟩ := q
      simp [gEq, rng, D.toPy, toPys, SeqAt.shaped, PyData.canLay0, PyData.canLayAll0, PyData.depth, PyData.depthAll, PyData.eqv, PyData.eqvAll] at h ⊢
      have e : (x == x' && y == y') = decide (x = x' ∧ y = y') := by
        by_cases a : x = x' <;> by_cases b : y = y' <;> simp [a, b]
      rw [e, Bool.decide_and]
      exact h
theorem w_eq {C : Addr} : ∀ ss cs P PX, gEqC C ss cs P PX → t_Contract_u_eq C (EndD cs.length P) (entry 2 0 ss cs) := by
  rintro _ _ P PX ⟨c, c', rfl, rfl, h⟩
  obtain ⟨o, f, g⟩ := c
  obtain ⟨o', f', g'⟩ := c'
  simp [t_Contract_u_eq, insC, zRet, zRetL, zRetN, zSeq, zNext, zAsg, zAsgG, zPar, zPar_k, zNew, zIfS, zB, S.asB, zNot, zAnd, zOr, zAndV, zOrV, zNotV, zIf, zTru, zOp, zOpL, zUn, zE, zVar, zC, zCons, zNil, zTup, zLst, zCB, zCBL, zCall, zCallF, zCallIO, zCallIOF, zMeth, zMethF, zFld, fldK, zSetF, zSetI, zMut, zDrop, zChain, zgName, zgTup, zgCons, zgNil, zSl, zoNone, zoSome, S.vw, vwL, okP, okL, D.noLst, noLsts, Env.put, Env.setCe, Env.fresh, Env.kill, Z.Env.cells, Env.setCells, keepS, keepC, S.isL, Ce.has, reS, reL, reC, unS, unC, gIx, atI_0, atI_1, atI_2, ixN_0, ixN_1, fin0, fin1, gI0, gI, gU, gIsi, gIsC, gIsN, gLen, gAdd, gCat, gMax2, gMin2, gAbs, gList, eApp, D.tyN, D.items, entry, okC, okS, zNever, zYes, List.lookup, st1, st2, st3, st4, st5, st6, st7, st8, st9, st10, st11, se1, se2, se3, se4, so1, so2, so3]
  refine gEq_rng ?_
  simp
  by_cases a : o = o'
  · rw [if_pos a]
    refine gEq_rng ?_
    simp
    by_cases b : f = f'
    · rw [if_pos b]
      simp [gEq]
      simp [a, b] at h
      exact h
    · rw [if_neg b]
      simp [a, b] at h
      exact h
  · rw [if_neg a]
    simp [a] at h
    exact h
theorem w_allows {C : Addr} : ∀ ss cs P PX, gAllows C ss cs P PX → t_Contract_allows C (EndD cs.length P) (entry 3 0 ss cs) := by
  rintro _ _ P PX ⟨⟨o, f, g⟩, r, rfl, rfl, hp, h⟩
  cases r with
  | never =>
    simp [t_Contract_allows, insC, Rp.d, zRet, zRetL, zRetN, zSeq, zNext, zAsg, zAsgG, zPar, zPar_k, zNew, zIfS, zB, S.asB, zNot, zAnd, zOr, zAndV, zOrV, zNotV, zIf, zTru, zOp, zOpL, zUn, zE, zVar, zC, zCons, zNil, zTup, zLst, zCB, zCBL, zCall, zCallF, zCallIO, zCallIOF, zMeth, zMethF, zFld, fldK, zSetF, zSetI, zMut, zDrop, zChain, zgName, zgTup, zgCons, zgNil, zSl, zoNone, zoSome, S.vw, vwL, okP, okL, D.noLst, noLsts, Env.put, Env.setCe, Env.fresh, Env.kill, Z.Env.cells, Env.setCells, keepS, keepC, S.isL, Ce.has, reS, reL, reC, unS, unC, gIx, atI_0, atI_1, atI_2, ixN_0, ixN_1, fin0, fin1, gI0, gI, gU, gIsi, gIsC, gIsN, gLen, gAdd, gCat, gMax2, gMin2, gAbs, gList, eApp, D.tyN, D.items, entry, okC, okS, zNever, zYes, isReply_never, List.lookup, st1, st2, st3, st4, st5, st6, st7, st8, st9, st10, st11, se1, se2, se3, se4, so1, so2, so3, gEq, D.toPy, toPys, SeqAt.shaped, PyData.canLay0, PyData.canLayAll0, PyData.depth, PyData.depthAll, PyData.eqv, PyData.eqvAll]
    exact h
  | «at» b t =>
    have hp : 0 < t := hp
    cases b with
    | true =>
      cases o with
      | none =>
        simp [t_Contract_allows, insC, Rp.d, rng, zRet, zRetL, zRetN, zSeq, zNext, zAsg, zAsgG, zPar, zPar_k, zNew, zIfS, zB, S.asB, zNot, zAnd, zOr, zAndV, zOrV, zNotV, zIf, zTru, zOp, zOpL, zUn, zE, zVar, zC, zCons, zNil, zTup, zLst, zCB, zCBL, zCall, zCallF, zCallIO, zCallIOF, zMeth, zMethF, zFld, fldK, zSetF, zSetI, zMut, zDrop, zChain, zgName, zgTup, zgCons, zgNil, zSl, zoNone, zoSome, S.vw, vwL, okP, okL, D.noLst, noLsts, Env.put, Env.setCe, Env.fresh, Env.kill, Z.Env.cells, Env.setCells, keepS, keepC, S.isL, Ce.has, reS, reL, reC, unS, unC, gIx, atI_0, atI_1, atI_2, ixN_0, ixN_1, fin0, fin1, gI0, gI, gU, gIsi, gIsC, gIsN, gLen, gAdd, gCat, gMax2, gMin2, gAbs, gList, eApp, D.tyN, D.items, entry, okC, okS, zNever, zYes, isReply_ok hp, List.lookup, st1, st2, st3, st4, st5, st6, st7, st8, st9, st10, st11, se1, se2, se3, se4, so1, so2, so3, gEq, D.toPy, toPys, SeqAt.shaped, PyData.canLay0, PyData.canLayAll0, PyData.depth, PyData.depthAll, PyData.eqv, PyData.eqvAll]
        exact h
      | some q =>
        obtain ⟨x, y⟩ := q
        simp [t_Contract_allows, insC, Rp.d, rng, zRet, zRetL, zRetN, zSeq, zNext, zAsg, zAsgG, zPar, zPar_k, zNew, zIfS, zB, S.asB, zNot, zAnd, zOr, zAndV, zOrV, zNotV, zIf, zTru, zOp, zOpL, zUn, zE, zVar, zC, zCons, zNil, zTup, zLst, zCB, zCBL, zCall, zCallF, zCallIO, zCallIOF, zMeth, zMethF, zFld, fldK, zSetF, zSetI, zMut, zDrop, zChain, zgName, zgTup, zgCons, zgNil, zSl, zoNone, zoSome, S.vw, vwL, okP, okL, D.noLst, noLsts, Env.put, Env.setCe, Env.fresh, Env.kill, Z.Env.cells, Env.setCells, keepS, keepC, S.isL, Ce.has, reS, reL, reC, unS, unC, gIx, atI_0, atI_1, atI_2, ixN_0, ixN_1, fin0, fin1, gI0, gI, gU, gIsi, gIsC, gIsN, gLen, gAdd, gCat, gMax2, gMin2, gAbs, gList, eApp, D.tyN, D.items, entry, okC, okS, zNever, zYes, isReply_ok hp, List.lookup, st1, st2, st3, st4, st5, st6, st7, st8, st9, st10, st11, se1, se2, se3, se4, so1, so2, so3, gEq, D.toPy, toPys, SeqAt.shaped, PyData.canLay0, PyData.canLayAll0, PyData.depth, PyData.depthAll, PyData.eqv, PyData.eqvAll]
        by_cases a : x ≤ t
        · simp [Ct.al, inR, a] at h; exact .inr ⟨a, h⟩
        · simp [Ct.al, inR, a] at h; exact .inl ⟨by omega, h⟩
    | false =>
      cases f with
      | none =>
        simp [t_Contract_allows, insC, Rp.d, rng, zRet, zRetL, zRetN, zSeq, zNext, zAsg, zAsgG, zPar, zPar_k, zNew, zIfS, zB, S.asB, zNot, zAnd, zOr, zAndV, zOrV, zNotV, zIf, zTru, zOp, zOpL, zUn, zE, zVar, zC, zCons, zNil, zTup, zLst, zCB, zCBL, zCall, zCallF, zCallIO, zCallIOF, zMeth, zMethF, zFld, fldK, zSetF, zSetI, zMut, zDrop, zChain, zgName, zgTup, zgCons, zgNil, zSl, zoNone, zoSome, S.vw, vwL, okP, okL, D.noLst, noLsts, Env.put, Env.setCe, Env.fresh, Env.kill, Z.Env.cells, Env.setCells, keepS, keepC, S.isL, Ce.has, reS, reL, reC, unS, unC, gIx, atI_0, atI_1, atI_2, ixN_0, ixN_1, fin0, fin1, gI0, gI, gU, gIsi, gIsC, gIsN, gLen, gAdd, gCat, gMax2, gMin2, gAbs, gList, eApp, D.tyN, D.items, entry, okC, okS, zNever, zYes, isReply_fail hp, List.lookup, st1, st2, st3, st4, st5, st6, st7, st8, st9, st10, st11, se1, se2, se3, se4, so1, so2, so3, gEq, D.toPy, toPys, SeqAt.shaped, PyData.canLay0, PyData.canLayAll0, PyData.depth, PyData.depthAll, PyData.eqv, PyData.eqvAll]
        exact h
      | some q =>
        obtain ⟨x, y⟩ := q
        simp [t_Contract_allows, insC, Rp.d, rng, zRet, zRetL, zRetN, zSeq, zNext, zAsg, zAsgG, zPar, zPar_k, zNew, zIfS, zB, S.asB, zNot, zAnd, zOr, zAndV, zOrV, zNotV, zIf, zTru, zOp, zOpL, zUn, zE, zVar, zC, zCons, zNil, zTup, zLst, zCB, zCBL, zCall, zCallF, zCallIO, zCallIOF, zMeth, zMethF, zFld, fldK, zSetF, zSetI, zMut, zDrop, zChain, zgName, zgTup, zgCons, zgNil, zSl, zoNone, zoSome, S.vw, vwL, okP, okL, D.noLst, noLsts, Env.put, Env.setCe, Env.fresh, Env.kill, Z.Env.cells, Env.setCells, keepS, keepC, S.isL, Ce.has, reS, reL, reC, unS, unC, gIx, atI_0, atI_1, atI_2, ixN_0, ixN_1, fin0, fin1, gI0, gI, gU, gIsi, gIsC, gIsN, gLen, gAdd, gCat, gMax2, gMin2, gAbs, gList, eApp, D.tyN, D.items, entry, okC, okS, zNever, zYes, isReply_fail hp, List.lookup, st1, st2, st3, st4, st5, st6, st7, st8, st9, st10, st11, se1, se2, se3, se4, so1, so2, so3, gEq, D.toPy, toPys, SeqAt.shaped, PyData.canLay0, PyData.canLayAll0, PyData.depth, PyData.depthAll, PyData.eqv, PyData.eqvAll]
        by_cases a : x ≤ t
        · simp [Ct.al, inR, a] at h; exact .inr ⟨a, h⟩
        · simp [Ct.al, inR, a] at h; exact .inl ⟨by omega, h⟩
theorem w_made {C : Addr} : ∀ ss cs P PX, gMade C ss cs P PX → t_law_made C (EndD cs.length P) (entry 1 0 ss cs) := by
  rintro _ _ P PX ⟨c, rfl, rfl, hf, h⟩
  simp [t_law_made, Ct.d, zRet, zRetL, zRetN, zSeq, zNext, zAsg, zAsgG, zPar, zPar_k, zNew, zIfS, zB, S.asB, zNot, zAnd, zOr, zAndV, zOrV, zNotV, zIf, zTru, zOp, zOpL, zUn, zE, zVar, zC, zCons, zNil, zTup, zLst, zCB, zCBL, zCall, zCallF, zCallIO, zCallIOF, zMeth, zMethF, zFld, fldK, zSetF, zSetI, zMut, zDrop, zChain, zgName, zgTup, zgCons, zgNil, zSl, zoNone, zoSome, S.vw, vwL, okP, okL, D.noLst, noLsts, Env.put, Env.setCe, Env.fresh, Env.kill, Z.Env.cells, Env.setCells, keepS, keepC, S.isL, Ce.has, reS, reL, reC, unS, unC, gIx, atI_0, atI_1, atI_2, ixN_0, ixN_1, fin0, fin1, gI0, gI, gU, gIsi, gIsC, gIsN, gLen, gAdd, gCat, gMax2, gMin2, gAbs, gList, eApp, D.tyN, D.items, entry, okC, okS, zNever, zYes, gMake, gInit]
  exact ⟨c, ⟨rfl, rfl, rfl⟩, hf, _, [rng c.ok, rng c.fl, .bl c.hang], ⟨rfl, rfl⟩, h⟩
theorem w_feed {C : Addr} : ∀ ss cs P PX, gFeed ss cs P PX → t_law_feed C (EndD cs.length P) (entry 4 0 ss cs) := by
  rintro _ _ P PX ⟨ns, k, rfl, rfl, h1, h2, h⟩
  have c1 : CMul 71 k := .inl (by omega)
  have c2 : CMul 31 k := .inl (by omega)
  have c3 : CPow 10 18 := by unfold CPow; decide
  obtain ⟨i, hl, ha⟩ : ∃ i, (Z.cutD (ns.map D.int) (some k) (some (k + 1))).length ≤ 999999 ∧ atI (Z.cutD (ns.map D.int) (some k) (some (k + 1)) ++ [D.int (71 * k + 23)]) 0 = some (D.int i) := by
    have q : HT.sIx (ns.map D.int).length (ns.map D.int).length (some (k + 1)) - HT.sIx (ns.map D.int).length 0 (some k) ≤ 1 := by
      unfold HT.sIx
      simp
      split <;> split <;> omega
    have hl : (Z.cutD (ns.map D.int) (some k) (some (k + 1))).length ≤ 1 := by
      unfold Z.cutD
      rw [List.length_take]
      omega
    have hm : ∀ d ∈ Z.cutD (ns.map D.int) (some k) (some (k + 1)), ∃ i, d = D.int i := by
      intro d hd
      unfold Z.cutD at hd
      have hd := List.mem_of_mem_drop (List.mem_of_mem_take hd)
      obtain ⟨i, _, e⟩ := List.mem_map.mp hd
      exact ⟨i, e.symm⟩
    revert hl hm
    generalize Z.cutD (ns.map D.int) (some k) (some (k + 1)) = l
    intro hl hm
    cases l with
    | nil => exact ⟨71 * k + 23, by simp, atI_0⟩
    | cons d l =>
      obtain ⟨i, rfl⟩ := hm d (List.mem_cons_self ..)
      exact ⟨i, by omega, atI_0⟩
  simp [t_law_feed, zRet, zRetL, zRetN, zSeq, zNext, zAsg, zAsgG, zPar, zPar_k, zNew, zIfS, zB, S.asB, zNot, zAnd, zOr, zAndV, zOrV, zNotV, zIf, zTru, zOp, zOpL, zUn, zE, zVar, zC, zCons, zNil, zTup, zLst, zCB, zCBL, zCall, zCallF, zCallIO, zCallIOF, zMeth, zMethF, zFld, fldK, zSetF, zSetI, zMut, zDrop, zChain, zgName, zgTup, zgCons, zgNil, zSl, zoNone, zoSome, S.vw, vwL, okP, okL, D.noLst, noLsts, Env.put, Env.setCe, Env.fresh, Env.kill, Z.Env.cells, Env.setCells, keepS, keepC, S.isL, Ce.has, reS, reL, reC, unS, unC, gIx, atI_0, atI_1, atI_2, ixN_0, ixN_1, fin0, fin1, gI0, gI, gU, gIsi, gIsC, gIsN, gLen, gAdd, gCat, gMax2, gMin2, gAbs, gList, eApp, D.tyN, D.items, entry, okC, okS, zNever, zYes, c1, c2, c3, hl, ha]
  exact ⟨.inr (by decide), h _ _⟩
theorem w_take {C : Addr} : ∀ ss cs P PX, gTake ss cs P PX → t_law_take C (EndD cs.length P) (entry 3 0 ss cs) := by
  rintro _ _ P PX ⟨a, b, n, rfl, rfl, h1, h2, h⟩
  have c1 : CDiv a n := ⟨h1, by omega⟩
  have c2 : ∀ x, CMul x 69069 := fun x => .inr (by decide)
  have c3 : ∀ x, CDiv x 65536 := fun x => ⟨by decide, by decide⟩
  simp [t_law_take, zRet, zRetL, zRetN, zSeq, zNext, zAsg, zAsgG, zPar, zPar_k, zNew, zIfS, zB, S.asB, zNot, zAnd, zOr, zAndV, zOrV, zNotV, zIf, zTru, zOp, zOpL, zUn, zE, zVar, zC, zCons, zNil, zTup, zLst, zCB, zCBL, zCall, zCallF, zCallIO, zCallIOF, zMeth, zMethF, zFld, fldK, zSetF, zSetI, zMut, zDrop, zChain, zgName, zgTup, zgCons, zgNil, zSl, zoNone, zoSome, S.vw, vwL, okP, okL, D.noLst, noLsts, Env.put, Env.setCe, Env.fresh, Env.kill, Z.Env.cells, Env.setCells, keepS, keepC, S.isL, Ce.has, reS, reL, reC, unS, unC, gIx, atI_0, atI_1, atI_2, ixN_0, ixN_1, fin0, fin1, gI0, gI, gU, gIsi, gIsC, gIsN, gLen, gAdd, gCat, gMax2, gMin2, gAbs, gList, eApp, D.tyN, D.items, entry, okC, okS, zNever, zYes, c1, c2, c3, h1, and_assoc]
  split
  · exact h _ _ _ (Int.emod_nonneg _ (by omega)) (Int.emod_lt_of_pos _ h1)
  · exact h _ _ _ (Int.emod_nonneg _ (by omega)) (Int.emod_lt_of_pos _ h1)
theorem w_pick {C : Addr} : ∀ ss cs P PX, gPick ss cs P PX → t_law_pick C (EndD cs.length P) (entry 2 0 ss cs) := by
  rintro _ _ P PX ⟨a, b, ds, rfl, rfl, h1, h2, h⟩
  simp [t_law_pick, zRet, zRetL, zRetN, zSeq, zNext, zAsg, zAsgG, zPar, zPar_k, zNew, zIfS, zB, S.asB, zNot, zAnd, zOr, zAndV, zOrV, zNotV, zIf, zTru, zOp, zOpL, zUn, zE, zVar, zC, zCons, zNil, zTup, zLst, zCB, zCBL, zCall, zCallF, zCallIO, zCallIOF, zMeth, zMethF, zFld, fldK, zSetF, zSetI, zMut, zDrop, zChain, zgName, zgTup, zgCons, zgNil, zSl, zoNone, zoSome, S.vw, vwL, okP, okL, D.noLst, noLsts, Env.put, Env.setCe, Env.fresh, Env.kill, Z.Env.cells, Env.setCells, keepS, keepC, S.isL, Ce.has, reS, reL, reC, unS, unC, gIx, atI_0, atI_1, atI_2, ixN_0, ixN_1, fin0, fin1, gI0, gI, gU, gIsi, gIsC, gIsN, gLen, gAdd, gCat, gMax2, gMin2, gAbs, gList, eApp, D.tyN, D.items, entry, okC, okS, zNever, zYes, gTake]
  refine ⟨List.length_pos_iff.mpr h1, by omega, fun r a' b' g0 g1 => ?_⟩
  obtain ⟨z, e, m⟩ := atI_get g0 g1
  exact ⟨z, e, h z m a' b'⟩
end K18

set_option Elab.async false
set_option linter.all false
set_option maxRecDepth 100000
set_option maxHeartbeats 400000
namespace K18
open PySem PySem.Spec PyProof.Rows L2 Z
theorem take_of {n a b : Int} {P : RS → List Ce → Prop} {PX : Value → List Ce → Prop} (h1 : 0 < n) (h2 : n ≤ 1000000) (h : ∀ r a' b', 0 ≤ r → r < n → P (.val (.int r)) [.lst [.int a', .int b']]) : gTake [.loc 0, .val (.int n)] [.lst [.int a, .int b]] P PX := ⟨a, b, n, rfl, rfl, h1, h2, h⟩
def NearM (B : Int) (ρ : Z.Env) : Prop := ∃ (c0 : Option S) (c : Ct) (r a b : Int), c.fine B ∧ ρ = ⟨[some (.loc 0), c0, some (.val (rng c.ok)), some (.val (rng c.fl)), some (.val (.bl c.hang)), some (.val (.int r))], [some (.lst [.int a, .int b])], 1⟩
theorem okR_up {B B' : Int} (hb : B ≤ B') {o : Rng} (h : okR B o) : okR B' o := by
  rcases o with _ | ⟨x, y⟩
  · trivial
  · obtain ⟨z1, z2, z3⟩ := h
    exact ⟨z1, z2, by omega⟩
theorem near_step {B : Int} {c0 : Option S} {r a b : Int} (o f : Rng) (g : Bool) (h : (⟨o, f, g⟩ : Ct).fine B) : NearM B ⟨[some (.loc 0), c0, some (.val (rng o)), some (.val (rng f)), some (.val (.bl g)), some (.val (.int r))], [some (.lst [.int a, .int b])], 1⟩ := ⟨c0, ⟨o, f, g⟩, r, a, b, h, rfl⟩
theorem w_near {C : Addr} : ∀ ss cs P PX, gNear ss cs P PX → t_law_near C (EndD cs.length P) (entry 6 0 ss cs) := by
  rintro _ _ P PX ⟨a, b, ⟨o, f, g⟩, rfl, rfl, hf, h⟩
  simp only [t_law_near]
  simp only [Ct.d, zSeq, zAsg, zAsgG, zgTup, zgCons, zgName, zgNil, zVar, zCallIO, zCons, zNil, zC, Env.put, entry, List.map, List.length, List.replicate, List.getElem?_cons_zero, List.getElem?_cons_succ, List.cons_append, List.nil_append, List.set_cons_zero, List.set_cons_succ, Z.Env.cells, reL, reS, reC]
  simp [Env.setCells, reS, and_assoc]
  refine take_of (by decide) (by decide) fun r a' b' g0 g1 => ?_
  simp [Env.setCells, unC]
  refine ⟨NearM 21, ?_, ?_⟩
  · rcases o with _ | ⟨x, y⟩
    · simp [zRet, zRetL, zRetN, zSeq, zNext, zAsg, zAsgG, zPar, zPar_k, zNew, zIfS, zB, S.asB, zNot, zAnd, zOr, zAndV, zOrV, zNotV, zIf, zTru, zOp, zOpL, zUn, zE, zVar, zC, zCons, zNil, zTup, zLst, zCB, zCBL, zCall, zCallF, zCallIO, zCallIOF, zMeth, zMethF, zFld, fldK, zSetF, zSetI, zMut, zDrop, zChain, zgName, zgTup, zgCons, zgNil, zSl, zoNone, zoSome, S.vw, vwL, okP, okL, D.noLst, noLsts, Env.put, Env.setCe, Env.fresh, Env.kill, Z.Env.cells, Env.setCells, keepS, keepC, S.isL, Ce.has, reS, reL, reC, unS, unC, gIx, atI_0, atI_1, atI_2, ixN_0, ixN_1, fin0, fin1, gI0, gI, gU, gIsi, gIsC, gIsN, gLen, gAdd, gCat, gMax2, gMin2, gAbs, gList, eApp, D.tyN, D.items, entry, okC, okS, zNever, zYes, gEq, rng]
      exact near_step none f g ⟨trivial, okR_up (by decide) hf.2.1, hf.2.2⟩
    · obtain ⟨⟨z1, z2, z3⟩, hf2, hf3⟩ := hf
      simp [zRet, zRetL, zRetN, zSeq, zNext, zAsg, zAsgG, zPar, zPar_k, zNew, zIfS, zB, S.asB, zNot, zAnd, zOr, zAndV, zOrV, zNotV, zIf, zTru, zOp, zOpL, zUn, zE, zVar, zC, zCons, zNil, zTup, zLst, zCB, zCBL, zCall, zCallF, zCallIO, zCallIOF, zMeth, zMethF, zFld, fldK, zSetF, zSetI, zMut, zDrop, zChain, zgName, zgTup, zgCons, zgNil, zSl, zoNone, zoSome, S.vw, vwL, okP, okL, D.noLst, noLsts, Env.put, Env.setCe, Env.fresh, Env.kill, Z.Env.cells, Env.setCells, keepS, keepC, S.isL, Ce.has, reS, reL, reC, unS, unC, gIx, atI_0, atI_1, atI_2, ixN_0, ixN_1, fin0, fin1, gI0, gI, gU, gIsi, gIsC, gIsN, gLen, gAdd, gCat, gMax2, gMin2, gAbs, gList, eApp, D.tyN, D.items, entry, okC, okS, zNever, zYes, gEq, rng]
      split
      · exact near_step (some (x, y + 1)) f g ⟨⟨z1, by omega, by omega⟩, okR_up (by decide) hf2, fun q => by cases q.1⟩
      · exact near_step (some (x, y)) f g ⟨⟨z1, z2, by omega⟩, okR_up (by decide) hf2, fun q => by cases q.1⟩
  rintro _ ⟨c0, ⟨o, f, g⟩, r, a, b, hf, rfl⟩
  refine ⟨NearM 22, ?_, ?_⟩
  · rcases f with _ | ⟨x, y⟩
    · simp [zRet, zRetL, zRetN, zSeq, zNext, zAsg, zAsgG, zPar, zPar_k, zNew, zIfS, zB, S.asB, zNot, zAnd, zOr, zAndV, zOrV, zNotV, zIf, zTru, zOp, zOpL, zUn, zE, zVar, zC, zCons, zNil, zTup, zLst, zCB, zCBL, zCall, zCallF, zCallIO, zCallIOF, zMeth, zMethF, zFld, fldK, zSetF, zSetI, zMut, zDrop, zChain, zgName, zgTup, zgCons, zgNil, zSl, zoNone, zoSome, S.vw, vwL, okP, okL, D.noLst, noLsts, Env.put, Env.setCe, Env.fresh, Env.kill, Z.Env.cells, Env.setCells, keepS, keepC, S.isL, Ce.has, reS, reL, reC, unS, unC, gIx, atI_0, atI_1, atI_2, ixN_0, ixN_1, fin0, fin1, gI0, gI, gU, gIsi, gIsC, gIsN, gLen, gAdd, gCat, gMax2, gMin2, gAbs, gList, eApp, D.tyN, D.items, entry, okC, okS, zNever, zYes, gEq, rng]
      exact near_step o none g ⟨okR_up (by decide) hf.1, trivial, hf.2.2⟩
    · obtain ⟨hf1, ⟨z1, z2, z3⟩, hf3⟩ := hf
      simp [zRet, zRetL, zRetN, zSeq, zNext, zAsg, zAsgG, zPar, zPar_k, zNew, zIfS, zB, S.asB, zNot, zAnd, zOr, zAndV, zOrV, zNotV, zIf, zTru, zOp, zOpL, zUn, zE, zVar, zC, zCons, zNil, zTup, zLst, zCB, zCBL, zCall, zCallF, zCallIO, zCallIOF, zMeth, zMethF, zFld, fldK, zSetF, zSetI, zMut, zDrop, zChain, zgName, zgTup, zgCons, zgNil, zSl, zoNone, zoSome, S.vw, vwL, okP, okL, D.noLst, noLsts, Env.put, Env.setCe, Env.fresh, Env.kill, Z.Env.cells, Env.setCells, keepS, keepC, S.isL, Ce.has, reS, reL, reC, unS, unC, gIx, atI_0, atI_1, atI_2, ixN_0, ixN_1, fin0, fin1, gI0, gI, gU, gIsi, gIsC, gIsN, gLen, gAdd, gCat, gMax2, gMin2, gAbs, gList, eApp, D.tyN, D.items, entry, okC, okS, zNever, zYes, gEq, rng]
      split
      · exact near_step o (some (_, y)) g ⟨okR_up (by decide) hf1, ⟨by split <;> omega, by split <;> omega, by omega⟩, fun q => by cases q.2.1⟩
      · exact near_step o (some (x, y)) g ⟨okR_up (by decide) hf1, ⟨z1, z2, by omega⟩, fun q => by cases q.2.1⟩
  clear hf
  rintro _ ⟨c0, ⟨o, f, g⟩, r, a, b, hf, rfl⟩
  refine ⟨NearM 22, ?_, ?_⟩
  · simp [zRet, zRetL, zRetN, zSeq, zNext, zAsg, zAsgG, zPar, zPar_k, zNew, zIfS, zB, S.asB, zNot, zAnd, zOr, zAndV, zOrV, zNotV, zIf, zTru, zOp, zOpL, zUn, zE, zVar, zC, zCons, zNil, zTup, zLst, zCB, zCBL, zCall, zCallF, zCallIO, zCallIOF, zMeth, zMethF, zFld, fldK, zSetF, zSetI, zMut, zDrop, zChain, zgName, zgTup, zgCons, zgNil, zSl, zoNone, zoSome, S.vw, vwL, okP, okL, D.noLst, noLsts, Env.put, Env.setCe, Env.fresh, Env.kill, Z.Env.cells, Env.setCells, keepS, keepC, S.isL, Ce.has, reS, reL, reC, unS, unC, gIx, atI_0, atI_1, atI_2, ixN_0, ixN_1, fin0, fin1, gI0, gI, gU, gIsi, gIsC, gIsN, gLen, gAdd, gCat, gMax2, gMin2, gAbs, gList, eApp, D.tyN, D.items, entry, okC, okS, zNever, zYes, gEq]
    split
    · exact near_step o f true ⟨hf.1, hf.2.1, fun q => by cases q.2.2⟩
    · exact near_step o f g hf
  clear hf
  rintro _ ⟨c0, ⟨o, f, g⟩, r, a, b, hf, rfl⟩
  refine ⟨NearM 22, ?_, ?_⟩
  · rcases f with _ | ⟨x, y⟩
    · cases g with
      | false =>
        simp [zRet, zRetL, zRetN, zSeq, zNext, zAsg, zAsgG, zPar, zPar_k, zNew, zIfS, zB, S.asB, zNot, zAnd, zOr, zAndV, zOrV, zNotV, zIf, zTru, zOp, zOpL, zUn, zE, zVar, zC, zCons, zNil, zTup, zLst, zCB, zCBL, zCall, zCallF, zCallIO, zCallIOF, zMeth, zMethF, zFld, fldK, zSetF, zSetI, zMut, zDrop, zChain, zgName, zgTup, zgCons, zgNil, zSl, zoNone, zoSome, S.vw, vwL, okP, okL, D.noLst, noLsts, Env.put, Env.setCe, Env.fresh, Env.kill, Z.Env.cells, Env.setCells, keepS, keepC, S.isL, Ce.has, reS, reL, reC, unS, unC, gIx, atI_0, atI_1, atI_2, ixN_0, ixN_1, fin0, fin1, gI0, gI, gU, gIsi, gIsC, gIsN, gLen, gAdd, gCat, gMax2, gMin2, gAbs, gList, eApp, D.tyN, D.items, entry, okC, okS, zNever, zYes, gEq, rng]
        exact near_step o none false hf
      | true =>
        simp [zRet, zRetL, zRetN, zSeq, zNext, zAsg, zAsgG, zPar, zPar_k, zNew, zIfS, zB, S.asB, zNot, zAnd, zOr, zAndV, zOrV, zNotV, zIf, zTru, zOp, zOpL, zUn, zE, zVar, zC, zCons, zNil, zTup, zLst, zCB, zCBL, zCall, zCallF, zCallIO, zCallIOF, zMeth, zMethF, zFld, fldK, zSetF, zSetI, zMut, zDrop, zChain, zgName, zgTup, zgCons, zgNil, zSl, zoNone, zoSome, S.vw, vwL, okP, okL, D.noLst, noLsts, Env.put, Env.setCe, Env.fresh, Env.kill, Z.Env.cells, Env.setCells, keepS, keepC, S.isL, Ce.has, reS, reL, reC, unS, unC, gIx, atI_0, atI_1, atI_2, ixN_0, ixN_1, fin0, fin1, gI0, gI, gU, gIsi, gIsC, gIsN, gLen, gAdd, gCat, gMax2, gMin2, gAbs, gList, eApp, D.tyN, D.items, entry, okC, okS, zNever, zYes, gEq, rng]
        split
        · exact near_step none none true ⟨trivial, trivial, fun q => by cases q.2.2⟩
        · exact near_step o none true hf
    · simp [zRet, zRetL, zRetN, zSeq, zNext, zAsg, zAsgG, zPar, zPar_k, zNew, zIfS, zB, S.asB, zNot, zAnd, zOr, zAndV, zOrV, zNotV, zIf, zTru, zOp, zOpL, zUn, zE, zVar, zC, zCons, zNil, zTup, zLst, zCB, zCBL, zCall, zCallF, zCallIO, zCallIOF, zMeth, zMethF, zFld, fldK, zSetF, zSetI, zMut, zDrop, zChain, zgName, zgTup, zgCons, zgNil, zSl, zoNone, zoSome, S.vw, vwL, okP, okL, D.noLst, noLsts, Env.put, Env.setCe, Env.fresh, Env.kill, Z.Env.cells, Env.setCells, keepS, keepC, S.isL, Ce.has, reS, reL, reC, unS, unC, gIx, atI_0, atI_1, atI_2, ixN_0, ixN_1, fin0, fin1, gI0, gI, gU, gIsi, gIsC, gIsN, gLen, gAdd, gCat, gMax2, gMin2, gAbs, gList, eApp, D.tyN, D.items, entry, okC, okS, zNever, zYes, gEq, rng]
      split
      · exact near_step none (some (x, y)) g ⟨trivial, hf.2.1, fun q => by cases q.2.1⟩
      · exact near_step o (some (x, y)) g hf
  clear hf
  rintro _ ⟨c0, ⟨o, f, g⟩, r, a, b, hf, rfl⟩
  refine ⟨NearM 22, ?_, ?_⟩
  · rcases o with _ | ⟨x, y⟩
    · simp [zRet, zRetL, zRetN, zSeq, zNext, zAsg, zAsgG, zPar, zPar_k, zNew, zIfS, zB, S.asB, zNot, zAnd, zOr, zAndV, zOrV, zNotV, zIf, zTru, zOp, zOpL, zUn, zE, zVar, zC, zCons, zNil, zTup, zLst, zCB, zCBL, zCall, zCallF, zCallIO, zCallIOF, zMeth, zMethF, zFld, fldK, zSetF, zSetI, zMut, zDrop, zChain, zgName, zgTup, zgCons, zgNil, zSl, zoNone, zoSome, S.vw, vwL, okP, okL, D.noLst, noLsts, Env.put, Env.setCe, Env.fresh, Env.kill, Z.Env.cells, Env.setCells, keepS, keepC, S.isL, Ce.has, reS, reL, reC, unS, unC, gIx, atI_0, atI_1, atI_2, ixN_0, ixN_1, fin0, fin1, gI0, gI, gU, gIsi, gIsC, gIsN, gLen, gAdd, gCat, gMax2, gMin2, gAbs, gList, eApp, D.tyN, D.items, entry, okC, okS, zNever, zYes, gEq, rng]
      exact near_step none f g hf
    · simp [zRet, zRetL, zRetN, zSeq, zNext, zAsg, zAsgG, zPar, zPar_k, zNew, zIfS, zB, S.asB, zNot, zAnd, zOr, zAndV, zOrV, zNotV, zIf, zTru, zOp, zOpL, zUn, zE, zVar, zC, zCons, zNil, zTup, zLst, zCB, zCBL, zCall, zCallF, zCallIO, zCallIOF, zMeth, zMethF, zFld, fldK, zSetF, zSetI, zMut, zDrop, zChain, zgName, zgTup, zgCons, zgNil, zSl, zoNone, zoSome, S.vw, vwL, okP, okL, D.noLst, noLsts, Env.put, Env.setCe, Env.fresh, Env.kill, Z.Env.cells, Env.setCells, keepS, keepC, S.isL, Ce.has, reS, reL, reC, unS, unC, gIx, atI_0, atI_1, atI_2, ixN_0, ixN_1, fin0, fin1, gI0, gI, gU, gIsi, gIsC, gIsN, gLen, gAdd, gCat, gMax2, gMin2, gAbs, gList, eApp, D.tyN, D.items, entry, okC, okS, zNever, zYes, gEq, rng]
      split
      · exact near_step f (some (x, y)) g ⟨hf.2.1, hf.1, fun q => by cases q.2.1⟩
      · exact near_step (some (x, y)) f g hf
  clear hf
  rintro _ ⟨c0, c, r, a, b, hf, rfl⟩
  simp [zRet, zRetL, zRetN, zSeq, zNext, zAsg, zAsgG, zPar, zPar_k, zNew, zIfS, zB, S.asB, zNot, zAnd, zOr, zAndV, zOrV, zNotV, zIf, zTru, zOp, zOpL, zUn, zE, zVar, zC, zCons, zNil, zTup, zLst, zCB, zCBL, zCall, zCallF, zCallIO, zCallIOF, zMeth, zMethF, zFld, fldK, zSetF, zSetI, zMut, zDrop, zChain, zgName, zgTup, zgCons, zgNil, zSl, zoNone, zoSome, S.vw, vwL, okP, okL, D.noLst, noLsts, Env.put, Env.setCe, Env.fresh, Env.kill, Z.Env.cells, Env.setCells, keepS, keepC, S.isL, Ce.has, reS, reL, reC, unS, unC, gIx, atI_0, atI_1, atI_2, ixN_0, ixN_1, fin0, fin1, gI0, gI, gU, gIsi, gIsC, gIsN, gLen, gAdd, gCat, gMax2, gMin2, gAbs, gList, eApp, D.tyN, D.items, entry, okC, okS, zNever, zYes]
  exact h c ⟨okR_up (by decide) hf.1, okR_up (by decide) hf.2.1, hf.2.2⟩ a b
end K18

set_option Elab.async false
set_option linter.all false
set_option maxRecDepth 100000
set_option maxHeartbeats 400000
namespace K18
open PySem PySem.Spec PyProof.Rows L2 Z
theorem pick_of {ds : List D} {a b : Int} {P : RS → List Ce → Prop} {PX : Value → List Ce → Prop} (h1 : ds ≠ []) (h2 : ds.length ≤ 1000000) (h : ∀ d ∈ ds, ∀ a' b', P (.val d) [.lst [.int a', .int b']]) : gPick [.loc 0, .val (.lst ds)] [.lst [.int a, .int b]] P PX := ⟨a, b, ds, rfl, rfl, h1, h2, h⟩
def ConW (i : Nat) (ρ : Z.Env) : Prop := ∃ (s3 s4 s5 : Option S) (a b : Int) (l : List Rng), l.length = i ∧ (∀ o ∈ l, okR 20 o) ∧ ρ = ⟨[some (.loc 0), some (.val (.int 0)), some (.loc 1), s3, s4, s5], [some (.lst [.int a, .int b]), some (.lst (l.map rng))], 1⟩
theorem con_turn {i : Nat} {ρ : Z.Env} {rt : RS → Z.Env → Prop} {bk : Z.Env → Prop} (hW : ConW i ρ) (hi : (i : Int) < 2) : zgName 3 (D.int i) ρ fun ρ' => (zSeq (zAsg (zCallIO [0] gPick (zCons (zVar 0) (zCons (zOp gAdd (zE (zLst (zCons (zC (.int 1)) (zCons (zC (.int 1)) (zCons (zC (.int 2)) (zCons (zC (.int 3)) (zCons (zC (.int 5)) (zCons (zC (.int 9)) zNil)))))))) (zE (zOpL gRep (zE (zLst (zCons (zC (.int 999990)) zNil))) (zVar 1)))) zNil))) 4)
    (zDrop (zMut eApp (zVar 2) (zCons (zCallIO [0] gPick (zCons (zVar 0) (zCons (zE (zLst (zCons (zC .non) (zCons (zTup (zCons (zVar 4) (zCons (zVar 4) zNil))) (zCons (zTup (zCons (zVar 4) (zCons (zOp gAdd (zVar 4) (zCallIO [0] gTake (zCons (zVar 0) (zCons (zC (.int 4)) zNil)))) zNil))) zNil))))) zNil))) zNil)))) ⟨ConW (i + 1), rt, bk, ConW (i + 1)⟩ ρ' := by
    obtain ⟨s3, s4, s5, a, b, l, hl, ho, rfl⟩ := hW
    simp only [zRet, zRetL, zRetN, zSeq, zNext, zAsg, zAsgG, zPar, zPar_k, zNew, zIfS, zB, S.asB, zNot, zAnd, zOr, zAndV, zOrV, zNotV, zIf, zTru, zOp, zOpL, zUn, zE, zVar, zC, zCons, zNil, zTup, zLst, zCB, zCBL, zCall, zCallF, zCallIO, zCallIOF, zMeth, zMethF, zFld, fldK, zSetF, zSetI, zMut, zDrop, zChain, zgName, zgTup, zgCons, zgNil, zSl, zoNone, zoSome, S.vw, vwL, okP, okL, D.noLst, noLsts, Env.put, Env.setCe, Env.fresh, Env.kill, Z.Env.cells, Env.setCells, keepS, keepC, S.isL, Ce.has, reS, reL, reC, unS, unC, gIx, atI_0, atI_1, atI_2, ixN_0, ixN_1, fin0, fin1, gI0, gI, gU, gIsi, gIsC, gIsN, gLen, gAdd, gCat, gMax2, gMin2, gAbs, gList, eApp, D.tyN, D.items, entry, okC, okS, zNever, zYes, List.set_cons_zero, List.set_cons_succ, List.getElem?_cons_zero, List.getElem?_cons_succ, exists_eq_left, exists_eq_left', true_and, List.map, List.length, List.replicate, List.cons_append, List.nil_append, List.append_nil, gRep]
    refine ⟨rfl, by decide, rfl, by decide, by decide, by decide, by decide, fun h => by simp at h, by decide, fun h => by simp at h, _, _, rfl, rfl, by decide, pick_of (by simp) (by simp) fun d hd a' b' => ?_⟩
    obtain ⟨low, rfl, q1, q2⟩ : ∃ low : Int, d = .int low ∧ 1 ≤ low ∧ low ≤ 9 := by
      simp at hd
      rcases hd with rfl | rfl | rfl | rfl | rfl <;> exact ⟨_, rfl, by omega, by omega⟩
    clear hd
    simp only [zRet, zRetL, zRetN, zSeq, zNext, zAsg, zAsgG, zPar, zPar_k, zNew, zIfS, zB, S.asB, zNot, zAnd, zOr, zAndV, zOrV, zNotV, zIf, zTru, zOp, zOpL, zUn, zE, zVar, zC, zCons, zNil, zTup, zLst, zCB, zCBL, zCall, zCallF, zCallIO, zCallIOF, zMeth, zMethF, zFld, fldK, zSetF, zSetI, zMut, zDrop, zChain, zgName, zgTup, zgCons, zgNil, zSl, zoNone, zoSome, S.vw, vwL, okP, okL, D.noLst, noLsts, Env.put, Env.setCe, Env.fresh, Env.kill, Z.Env.cells, Env.setCells, keepS, keepC, S.isL, Ce.has, reS, reL, reC, unS, unC, gIx, atI_0, atI_1, atI_2, ixN_0, ixN_1, fin0, fin1, gI0, gI, gU, gIsi, gIsC, gIsN, gLen, gAdd, gCat, gMax2, gMin2, gAbs, gList, eApp, D.tyN, D.items, entry, okC, okS, zNever, zYes, List.set_cons_zero, List.set_cons_succ, List.getElem?_cons_zero, List.getElem?_cons_succ, exists_eq_left, exists_eq_left', true_and, List.map, List.length, List.replicate, List.cons_append, List.nil_append, List.append_nil]
    refine ⟨_, _, rfl, rfl, rfl, by decide, _, _, rfl, rfl, by decide, take_of (by omega) (by omega) fun r a' b' g0 g1 => ?_⟩
    simp only [zRet, zRetL, zRetN, zSeq, zNext, zAsg, zAsgG, zPar, zPar_k, zNew, zIfS, zB, S.asB, zNot, zAnd, zOr, zAndV, zOrV, zNotV, zIf, zTru, zOp, zOpL, zUn, zE, zVar, zC, zCons, zNil, zTup, zLst, zCB, zCBL, zCall, zCallF, zCallIO, zCallIOF, zMeth, zMethF, zFld, fldK, zSetF, zSetI, zMut, zDrop, zChain, zgName, zgTup, zgCons, zgNil, zSl, zoNone, zoSome, S.vw, vwL, okP, okL, D.noLst, noLsts, Env.put, Env.setCe, Env.fresh, Env.kill, Z.Env.cells, Env.setCells, keepS, keepC, S.isL, Ce.has, reS, reL, reC, unS, unC, gIx, atI_0, atI_1, atI_2, ixN_0, ixN_1, fin0, fin1, gI0, gI, gU, gIsi, gIsC, gIsN, gLen, gAdd, gCat, gMax2, gMin2, gAbs, gList, eApp, D.tyN, D.items, entry, okC, okS, zNever, zYes, List.set_cons_zero, List.set_cons_succ, List.getElem?_cons_zero, List.getElem?_cons_succ, exists_eq_left, exists_eq_left', true_and, List.map, List.length, List.replicate, List.cons_append, List.nil_append, List.append_nil]
    refine ⟨fun h => by simp at h, rfl, by decide, rfl, by decide, _, _, rfl, rfl, by decide, pick_of (by simp) (by simp) fun d hd a' b' => ?_⟩
    obtain ⟨o, rfl, ho'⟩ : ∃ o, d = rng o ∧ okR 20 o := by
      simp at hd
      rcases hd with rfl | rfl | rfl
      · exact ⟨none, rfl, trivial⟩
      · exact ⟨some (low, low), rfl, by omega, by omega, by omega⟩
      · exact ⟨some (low, low + r), rfl, by omega, by omega, by omega⟩
    clear hd
    simp only [zRet, zRetL, zRetN, zSeq, zNext, zAsg, zAsgG, zPar, zPar_k, zNew, zIfS, zB, S.asB, zNot, zAnd, zOr, zAndV, zOrV, zNotV, zIf, zTru, zOp, zOpL, zUn, zE, zVar, zC, zCons, zNil, zTup, zLst, zCB, zCBL, zCall, zCallF, zCallIO, zCallIOF, zMeth, zMethF, zFld, fldK, zSetF, zSetI, zMut, zDrop, zChain, zgName, zgTup, zgCons, zgNil, zSl, zoNone, zoSome, S.vw, vwL, okP, okL, D.noLst, noLsts, Env.put, Env.setCe, Env.fresh, Env.kill, Z.Env.cells, Env.setCells, keepS, keepC, S.isL, Ce.has, reS, reL, reC, unS, unC, gIx, atI_0, atI_1, atI_2, ixN_0, ixN_1, fin0, fin1, gI0, gI, gU, gIsi, gIsC, gIsN, gLen, gAdd, gCat, gMax2, gMin2, gAbs, gList, eApp, D.tyN, D.items, entry, okC, okS, zNever, zYes, List.set_cons_zero, List.set_cons_succ, List.getElem?_cons_zero, List.getElem?_cons_succ, exists_eq_left, exists_eq_left', true_and, List.map, List.length, List.replicate, List.cons_append, List.nil_append, List.append_nil]
    refine ⟨rfl, _, rfl, by rw [List.length_map]; omega, _, _, _, _, _, l ++ [o], by simp [hl], ?_, by rw [List.map_append]; rfl⟩
    intro o' m
    rcases List.mem_append.mp m with m | m
    · exact ho _ m
    · simp at m; subst m; exact ho'
theorem gEq_int {i j : Int} {P : D → Prop} : gEq false (.int i) (.int j) P = P (.bl (decide (i = j))) := by simp [gEq]
theorem eq_nn {o f : Rng} {P : D → Prop} (h : P (.bl (decide (o = none ∧ f = none)))) : gEq false (D.lst [rng o, rng f]) (D.lst [D.non, D.non]) P := by
  rcases o with _ | ⟨x, y⟩ <;> rcases f with _ | ⟨x', y'⟩ <;> simp [gEq, rng, D.toPy, toPys, SeqAt.shaped, PyData.canLay0, PyData.canLayAll0, PyData.depth, PyData.depthAll, PyData.eqv, PyData.eqvAll] at h ⊢ <;> exact h
theorem rng_no (o : Rng) : (rng o).noLst = true := by
  rcases o with _ | ⟨x, y⟩ <;> simp [rng, D.noLst, noLsts]
theorem w_contract {C : Addr} : ∀ ss cs P PX, gContract ss cs P PX → t_law_contract C (EndD cs.length P) (entry 6 1 ss cs) := by
  rintro _ _ P PX ⟨a, b, rfl, rfl, h⟩
  simp only [t_law_contract, zSeq]
  simp [zNew, zLst, zNil, vwL, entry, Env.fresh, keepS, keepC, S.isL, Ce.has, Env.put, zForR, zCons, zC]
  refine ⟨2, rfl, ⟨by omega, by omega⟩, ConW, ⟨_, _, _, a, b, [], rfl, by simp, rfl⟩, fun i ρ hW hi => con_turn hW hi, ?_⟩
  rintro _ ⟨s3, s4, s5, a, b, l, hl, ho, rfl⟩
  obtain ⟨o, f, rfl⟩ : ∃ o f, l = [o, f] := by
    match l, hl with
    | [o, f], _ => exact ⟨o, f, rfl⟩
  have ho1 := ho o (by simp)
  have ho2 := ho f (by simp)
  simp only [zRet, zRetL, zRetN, zSeq, zNext, zAsg, zAsgG, zPar, zPar_k, zNew, zIfS, zB, S.asB, zNot, zAnd, zOr, zAndV, zOrV, zNotV, zIf, zTru, zOp, zOpL, zUn, zE, zVar, zC, zCons, zNil, zTup, zLst, zCB, zCBL, zCall, zCallF, zCallIO, zCallIOF, zMeth, zMethF, zFld, fldK, zSetF, zSetI, zMut, zDrop, zChain, zgName, zgTup, zgCons, zgNil, zSl, zoNone, zoSome, S.vw, vwL, okP, okL, D.noLst, noLsts, Env.put, Env.setCe, Env.fresh, Env.kill, Z.Env.cells, Env.setCells, keepS, keepC, S.isL, Ce.has, reS, reL, reC, unS, unC, gIx, atI_0, atI_1, atI_2, ixN_0, ixN_1, fin0, fin1, gI0, gI, gU, gIsi, gIsC, gIsN, gLen, gAdd, gCat, gMax2, gMin2, gAbs, gList, eApp, D.tyN, D.items, entry, okC, okS, zNever, zYes, List.set_cons_zero, List.set_cons_succ, List.getElem?_cons_zero, List.getElem?_cons_succ, exists_eq_left, exists_eq_left', true_and, List.map, List.length, List.replicate, List.cons_append, List.nil_append, List.append_nil]
  refine ⟨_, _, rfl, rfl, by decide, take_of (by omega) (by omega) fun r a' b' g0 g1 => ?_⟩
  simp only [zRet, zRetL, zRetN, zSeq, zNext, zAsg, zAsgG, zPar, zPar_k, zNew, zIfS, zB, S.asB, zNot, zAnd, zOr, zAndV, zOrV, zNotV, zIf, zTru, zOp, zOpL, zUn, zE, zVar, zC, zCons, zNil, zTup, zLst, zCB, zCBL, zCall, zCallF, zCallIO, zCallIOF, zMeth, zMethF, zFld, fldK, zSetF, zSetI, zMut, zDrop, zChain, zgName, zgTup, zgCons, zgNil, zSl, zoNone, zoSome, S.vw, vwL, okP, okL, D.noLst, noLsts, Env.put, Env.setCe, Env.fresh, Env.kill, Z.Env.cells, Env.setCells, keepS, keepC, S.isL, Ce.has, reS, reL, reC, unS, unC, gIx, atI_0, atI_1, atI_2, ixN_0, ixN_1, fin0, fin1, gI0, gI, gU, gIsi, gIsC, gIsN, gLen, gAdd, gCat, gMax2, gMin2, gAbs, gList, eApp, D.tyN, D.items, entry, okC, okS, zNever, zYes, List.set_cons_zero, List.set_cons_succ, List.getElem?_cons_zero, List.getElem?_cons_succ, exists_eq_left, exists_eq_left', true_and, List.map, List.length, List.replicate, List.cons_append, List.nil_append, List.append_nil, gEq_int]
  by_cases hr : r = 0
  · subst hr
    simp [zRet, zRetL, zRetN, zSeq, zNext, zAsg, zAsgG, zPar, zPar_k, zNew, zIfS, zB, S.asB, zNot, zAnd, zOr, zAndV, zOrV, zNotV, zIf, zTru, zOp, zOpL, zUn, zE, zVar, zC, zCons, zNil, zTup, zLst, zCB, zCBL, zCall, zCallF, zCallIO, zCallIOF, zMeth, zMethF, zFld, fldK, zSetF, zSetI, zMut, zDrop, zChain, zgName, zgTup, zgCons, zgNil, zSl, zoNone, zoSome, S.vw, vwL, okP, okL, D.noLst, noLsts, Env.put, Env.setCe, Env.fresh, Env.kill, Z.Env.cells, Env.setCells, keepS, keepC, S.isL, Ce.has, reS, reL, reC, unS, unC, gIx, atI_0, atI_1, atI_2, ixN_0, ixN_1, fin0, fin1, gI0, gI, gU, gIsi, gIsC, gIsN, gLen, gAdd, gCat, gMax2, gMin2, gAbs, gList, eApp, D.tyN, D.items, entry, okC, okS, zNever, zYes, rng_no]
    exact h ⟨o, f, true⟩ ⟨ho1, ho2, fun q => by cases q.2.2⟩ _ _
  · simp [hr]
    refine eq_nn ?_
    simp [zRet, zRetL, zRetN, zSeq, zNext, zAsg, zAsgG, zPar, zPar_k, zNew, zIfS, zB, S.asB, zNot, zAnd, zOr, zAndV, zOrV, zNotV, zIf, zTru, zOp, zOpL, zUn, zE, zVar, zC, zCons, zNil, zTup, zLst, zCB, zCBL, zCall, zCallF, zCallIO, zCallIOF, zMeth, zMethF, zFld, fldK, zSetF, zSetI, zMut, zDrop, zChain, zgName, zgTup, zgCons, zgNil, zSl, zoNone, zoSome, S.vw, vwL, okP, okL, D.noLst, noLsts, Env.put, Env.setCe, Env.fresh, Env.kill, Z.Env.cells, Env.setCells, keepS, keepC, S.isL, Ce.has, reS, reL, reC, unS, unC, gIx, atI_0, atI_1, atI_2, ixN_0, ixN_1, fin0, fin1, gI0, gI, gU, gIsi, gIsC, gIsN, gLen, gAdd, gCat, gMax2, gMin2, gAbs, gList, eApp, D.tyN, D.items, entry, okC, okS, zNever, zYes, rng_no]
    have := h ⟨o, f, decide (o = none ∧ f = none)⟩ ⟨ho1, ho2, fun q => absurd (⟨q.1, q.2.1⟩ : o = none ∧ f = none) (of_decide_eq_false q.2.2)⟩ a' b'
    simp [Ct.d] at this
    exact this
end K18

set_option Elab.async false
set_option linter.all false
set_option maxRecDepth 100000
set_option maxHeartbeats 400000
namespace K18
open PySem PySem.Spec PyProof.Rows L2 Z
/-! ### the mathematics -/
def Rp.near (o : Rng) (r : Rp) : Prop := match o, r with
  | some (a, b), .at _ t => (t = a - 1 ∨ t = a ∨ t = b ∨ t = b + 1) ∧ 0 < t
  | _, _ => False
structure Good (L : List Rp) (n : Nat) : Prop where
  pos : ∀ r ∈ L, r.pos
  nev : Rp.never ∈ L
  len : L.length ≤ n
def Has (L : List Rp) (o : Rng) : Prop := ∀ r : Rp, r.near o → r ∈ L
theorem near_lo {a b : Int} {B : Int} (h : okR B (some (a, b))) (w : Bool) : (Rp.at w a).near (some (a, b)) := ⟨.inr (.inl rfl), by have := h.1; show 0 < a; omega⟩
theorem near_hi {a b : Int} {B : Int} (h : okR B (some (a, b))) (w : Bool) : (Rp.at w b).near (some (a, b)) := ⟨.inr (.inr (.inl rfl)), by have := h.1; have := h.2.1; show 0 < b; omega⟩
theorem rng_diff {B : Int} {o p : Rng} (ho : okR B o) (hp : okR B p) (w : Bool) (h : ∀ r : Rp, (r.near o ∨ r.near p) → (match r with
    | .at w' t => w' = w → inR o t = inR p t
    | .never => True)) : o = p := by
  have key : ∀ {B : Int} {x y : Int} {p : Rng}, okR B (some (x, y)) → okR B p → (∀ r : Rp, (r.near (some (x, y)) ∨ r.near p) → (match r with
    | .at w' t => w' = w → inR (some (x, y)) t = inR p t
    | .never => True)) → some (x, y) = p := by
    intro B x y p ho hp h
    have h1 := h (.at w x) (.inl (near_lo ho w)) rfl
    have h2 := h (.at w y) (.inl (near_hi ho w)) rfl
    rcases p with _ | ⟨u, v⟩
    · have := ho.2.1
      simp [inR] at h1
      omega
    · have h3 := h (.at w u) (.inr (near_lo hp w)) rfl
      have h4 := h (.at w v) (.inr (near_hi hp w)) rfl
      have := ho.2.1
      have := hp.2.1
      have g1 : ∀ {a b t : Int}, a ≤ t → t ≤ b → inR (some (a, b)) t = true := fun p q => by simp [inR]; exact ⟨p, q⟩
      have g2 : ∀ {a b t : Int}, inR (some (a, b)) t = true → a ≤ t ∧ t ≤ b := fun p => by simpa [inR] using p
      have k1 := g2 (h1.symm.trans (g1 (by omega) (by omega)))
      have k2 := g2 (h2.symm.trans (g1 (by omega) (by omega)))
      have k3 := g2 (h3.trans (g1 (by omega) (by omega)))
      have k4 := g2 (h4.trans (g1 (by omega) (by omega)))
      have e1 : x = u := by omega
      have e2 : y = v := by omega
      rw [e1, e2]
  rcases o with _ | ⟨x, y⟩
  · rcases p with _ | ⟨u, v⟩
    · rfl
    · exact (key hp (p := none) trivial fun r hr => by
        have := h r hr.symm
        cases r with
        | never => trivial
        | «at» w' t => exact fun e => (this e).symm).symm
  · exact key ho hp h
theorem math1 {c c' : Ct} {L : List Rp} {n : Nat} (hc : c.fine 20) (hc' : c'.fine 30) (g : Good L n) (h1 : Has L c.ok) (h2 : Has L c.fl) (h3 : Has L c'.ok) (h4 : Has L c'.fl) : (L.filter fun r => c.al r != c'.al r) = [] ↔ c = c' := by
  constructor
  · intro h
    have al : ∀ r ∈ L, c.al r = c'.al r := fun r hr => by
      rw [List.filter_eq_nil_iff] at h
      have := h r hr
      simpa using this
    have hh : c.hang = c'.hang := al _ g.nev
    have e1 : c.ok = c'.ok := rng_diff (B := 30) (okR_up (by decide) hc.1) hc'.1 true fun r hr => by
      have hm : r ∈ L := by rcases hr with q | q
                            · exact h1 r q
                            · exact h3 r q
      have := al r hm
      cases r with
      | never => trivial
      | «at» w t => exact fun e => by subst e; exact this
    have e2 : c.fl = c'.fl := rng_diff (B := 30) (okR_up (by decide) hc.2.1) hc'.2.1 false fun r hr => by
      have hm : r ∈ L := by rcases hr with q | q
                            · exact h2 r q
                            · exact h4 r q
      have := al r hm
      cases r with
      | never => trivial
      | «at» w t => exact fun e => by subst e; exact this
    cases c; cases c'
    simp_all
  · rintro rfl
    rw [List.filter_eq_nil_iff]
    simp
theorem math2 {c : Ct} {L : List Rp} {n : Nat} (hc : c.fine 20) (g : Good L n) (h1 : Has L c.ok) (h2 : Has L c.fl) : (L.filter fun r => c.al r) ≠ [] := by
  intro h
  rw [List.filter_eq_nil_iff] at h
  obtain ⟨o, f, hg⟩ := c
  rcases o with _ | ⟨x, y⟩
  · rcases f with _ | ⟨x, y⟩
    · cases hg with
      | true => exact h _ g.nev rfl
      | false => exact hc.2.2 ⟨rfl, rfl, rfl⟩
    · refine h _ (h2 _ (near_lo hc.2.1 false)) ?_
      have := hc.2.1.2.1
      simp [Ct.al, inR]; exact this
  · refine h _ (h1 _ (near_lo hc.1 true)) ?_
    have := hc.1.2.1
    simp [Ct.al, inR]; exact this
def wider (o p : Rng) : Prop := ∀ t, inR o t = true → inR p t = true
theorem math3 {c c' : Ct} {L : List Rp} (h1 : wider c.ok c'.ok) (h2 : wider c.fl c'.fl) (h3 : c.hang = true → c'.hang = true) : (L.filter fun r => c.al r && !c'.al r) = [] := by
  rw [List.filter_eq_nil_iff]
  intro r _
  cases r with
  | never =>
    show ¬ (c.hang && !c'.hang) = true
    cases h : c.hang
    · simp
    · rw [h3 h]; simp
  | «at» w t =>
    cases w
    · show ¬ (inR c.fl t && !inR c'.fl t) = true
      cases h : inR c.fl t
      · simp
      · rw [h2 t h]; simp
    · show ¬ (inR c.ok t && !inR c'.ok t) = true
      cases h : inR c.ok t
      · simp
      · rw [h1 t h]; simp
end K18

set_option Elab.async false
set_option linter.all false
set_option maxRecDepth 100000
set_option maxHeartbeats 400000
namespace K18
open PySem PySem.Spec PyProof.Rows L2 Z
def vd : Option D → Option S
  | none => none
  | some d => some (.val d)
def E (ns : List Int) (k a b : Int) (x : Nat → Option D) (s : Bool) (l : Option (List D)) : Z.Env :=
  ⟨[some (.val (.scr ns)), some (.val (.int k)), some (.loc 0), vd (x 3), vd (x 4), vd (x 5), vd (x 6), vd (x 7), vd (x 8), vd (x 9), vd (x 10), vd (x 11), vd (x 12), vd (x 13), if s then some (.loc 1) else none, vd (x 15)], [some (.lst [.int a, .int b]), l.map .lst], 0⟩
def up (x : Nat → Option D) (j : Nat) (d : D) : Nat → Option D := fun i => if i = j then some d else x i
def St (ns : List Int) (k : Int) (p : (Nat → Option D) → Prop) (ρ : Z.Env) : Prop := ∃ a b x s l, p x ∧ ρ = E ns k a b x s l
theorem rd {ρ : Z.Env} {j : Nat} {d : D} {Q : S → Z.Env → Prop} (hs : ρ.sl[j]? = some (some (.val d))) (h : Q (.val d) ρ) : zVar j ρ Q := by
  unfold zVar
  rw [hs]
  exact h
theorem vd_some {x : Option D} {d : D} (h : x = some d) : some (vd x) = some (some (S.val d)) := by rw [h]; rfl
section
variable {ns : List Int} {k a b : Int} {x : Nat → Option D} {s : Bool} {l : Option (List D)} {C : Addr}
theorem vd_no {y : Option D} {t : S} {n : Nat} (h : some t = vd y) : t.isL n = false := by
  cases y with
  | none => cases h
  | some d => cases h; rfl
theorem E_no : (E ns k a b x s l).noLoc (E ns k a b x s l).ce.length = true := by
  refine noLoc_of (fun t ht => ?_) (fun c hc => ?_)
  · simp only [E, List.mem_cons, List.not_mem_nil, or_false] at ht
    rcases ht with h | h | h | h | h | h | h | h | h | h | h | h | h | h | h | h
    · cases h; rfl
    · cases h; rfl
    · cases h; rfl
    · exact vd_no h
    · exact vd_no h
    · exact vd_no h
    · exact vd_no h
    · exact vd_no h
    · exact vd_no h
    · exact vd_no h
    · exact vd_no h
    · exact vd_no h
    · exact vd_no h
    · exact vd_no h
    · cases s
      · cases h
      · cases h; rfl
    · exact vd_no h
  · simp only [E, List.mem_cons, List.not_mem_nil, or_false] at hc
    rcases hc with h | h
    · cases h; rfl
    · cases l with
      | none => cases h
      | some l => cases h; rfl
/-- a call that is handed the feed -/
theorem call_E {g : G} {d : D} {te : ZT} {R : D → Prop} {Q : S → Z.Env → Prop} (hte : ∀ Q' : S → Z.Env → Prop, Q' (.val d) (E ns k a b x s l) → te (E ns k a b x s l) Q')
    (hg : ∀ (P : RS → List Ce → Prop) PX, (∀ z a' b', R z → P (.val z) [.lst [.int a', .int b']]) → g [.loc 0, .val d] [.lst [.int a, .int b]] P PX)
    (h : ∀ z a' b', R z → Q (.val z) (E ns k a' b' x s l)) : zCallIO [0] g (zCons (zVar 2) (zCons te zNil)) (E ns k a b x s l) Q := by
  unfold zCallIO zCons
  show te (E ns k a b x s l) _
  refine hte _ ⟨[.loc 0, .val d], [.lst [.int a, .int b]], rfl, rfl, by decide, hg _ _ fun z a' b' hz => ?_⟩
  exact h z a' b' hz
theorem take_E {n : Int} {Q : S → Z.Env → Prop} (h1 : 0 < n) (h2 : n ≤ 1000000) (h : ∀ r a' b', 0 ≤ r → r < n → Q (.val (.int r)) (E ns k a' b' x s l)) : zCallIO [0] gTake (zCons (zVar 2) (zCons (zC (.int n)) zNil)) (E ns k a b x s l) Q := by
  refine call_E (d := .int n) (R := fun z => ∃ r, z = .int r ∧ 0 ≤ r ∧ r < n) (fun Q' h => h) (fun P PX hp => ⟨a, b, n, rfl, rfl, h1, h2, fun r a' b' q1 q2 => hp _ _ _ ⟨r, rfl, q1, q2⟩⟩) ?_
  rintro _ a' b' ⟨r, rfl, q1, q2⟩
  exact h r a' b' q1 q2
theorem contract_E {Q : S → Z.Env → Prop} (h : ∀ (c : Ct) a' b', c.fine 20 → Q (.val c.d) (E ns k a' b' x s l)) : zCallIO [0] gContract (zCons (zVar 2) (zCons (zC (.int 0)) zNil)) (E ns k a b x s l) Q := by
  refine call_E (d := .int 0) (R := fun z => ∃ c : Ct, z = c.d ∧ c.fine 20) (fun Q' h => h) (fun P PX hp => ⟨a, b, rfl, rfl, fun c hc a' b' => hp _ _ _ ⟨c, rfl, hc⟩⟩) ?_
  rintro _ a' b' ⟨c, rfl, hc⟩
  exact h c a' b' hc
theorem near_E {c : Ct} {Q : S → Z.Env → Prop} (h4 : x 4 = some c.d) (hc : c.fine 20) (h : ∀ (c : Ct) a' b', c.fine 30 → Q (.val c.d) (E ns k a' b' x s l)) : zCallIO [0] gNear (zCons (zVar 2) (zCons (zVar 4) zNil)) (E ns k a b x s l) Q := by
  refine call_E (d := c.d) (R := fun z => ∃ c : Ct, z = c.d ∧ c.fine 30) (fun Q' h => rd (vd_some h4) h) (fun P PX hp => ⟨a, b, c, rfl, rfl, hc, fun c hc a' b' => hp _ _ _ ⟨c, rfl, hc⟩⟩) ?_
  rintro _ a' b' ⟨c, rfl, hc⟩
  exact h c a' b' hc
theorem made_E {ρ : Z.Env} {j : Nat} {c : Ct} {Q : S → Z.Env → Prop} (hs : ρ.sl[j]? = some (some (.val c.d))) (hc : c.fine 1000000) (h : Q (.val (insC C c)) ρ) : zCall (gMade C) (zCons (zVar j) zNil) ρ Q := by
  unfold zCall zCons
  exact rd hs ⟨c, rfl, rfl, hc, fun h => by simp at h, h⟩
theorem allows_E {ρ : Z.Env} {i j : Nat} {c : Ct} {r : Rp} {Q : S → Z.Env → Prop} (hi : ρ.sl[i]? = some (some (.val (insC C c)))) (hj : ρ.sl[j]? = some (some (.val r.d))) (hp : r.pos) (h : Q (.val (.bl (c.al r))) ρ) : zMeth C "allows" (gAllows C) (zVar i) (zCons (zVar j) zNil) ρ Q := by
  unfold zMeth zCons
  exact rd hi ⟨_, _, rfl, by decide, rd hj ⟨c, r, rfl, rfl, hp, fun h => by simp at h, h⟩⟩
theorem own_E {c c' : Ct} {P : D → Prop} (h : P (.bl (decide (c = c')))) : gOwn2 C (gEqC C) (insC C c) (insC C c') P := ⟨rfl, rfl, c, c', rfl, rfl, h⟩
theorem reps_nil {L : List Rp} {P : D → Prop} {neg : Bool} (h : P (.bl (if neg then !decide (L = []) else decide (L = [])))) : gEq neg (.lst (L.map Rp.d)) (.lst []) P := by
  have key : ∀ L : List Rp, ∃ ps, toPys (L.map Rp.d) = some ps ∧ SeqAt.shaped (.list ps) = true ∧ (ps = [] ↔ L = []) := by
    intro L
    have k2 : ∃ ps, toPys (L.map Rp.d) = some ps ∧ PyData.canLayAll0 ps = true ∧ PyData.depthAll ps ≤ 1 ∧ (ps = [] ↔ L = []) := by
      induction L with
      | nil => exact ⟨[], rfl, rfl, by simp [PyData.depthAll], by simp⟩
      | cons r L ih =>
        obtain ⟨ps, e1, e2, e3, _⟩ := ih
        obtain ⟨p, q1, q2, q3⟩ : ∃ p, (r.d).toPy = some p ∧ p.canLay0 = true ∧ p.depth ≤ 1 := by
          cases r with
          | never => exact ⟨.tuple [.str "never"], rfl, by simp [PyData.canLay0, PyData.canLayAll0, so3], by simp [PyData.depth, PyData.depthAll]⟩
          | «at» w t => cases w
                        · exact ⟨.tuple [.str "fail", .int t], rfl, by simp [PyData.canLay0, PyData.canLayAll0, so2], by simp [PyData.depth, PyData.depthAll]⟩
                        · exact ⟨.tuple [.str "ok", .int t], rfl, by simp [PyData.canLay0, PyData.canLayAll0, so1], by simp [PyData.depth, PyData.depthAll]⟩
        refine ⟨p :: ps, by simp [toPys, q1, e1], by simp [PyData.canLayAll0, q2, e2], ?_, by simp⟩
        simp only [PyData.depthAll]
        omega
    obtain ⟨ps, e1, e2, e3, e4⟩ := k2
    exact ⟨ps, e1, by simp [SeqAt.shaped, PyData.canLay0, e2, PyData.depth]; omega, e4⟩
  obtain ⟨ps, e1, e2, e3⟩ := key L
  refine ⟨.list ps, .list [], by simp [D.toPy, e1], by simp [D.toPy, toPys], e2, by simp [SeqAt.shaped, PyData.canLay0, PyData.canLayAll0, PyData.depth, PyData.depthAll], ?_⟩
  have e : PyData.eqv (.list ps) (.list []) = decide (L = []) := by
    cases ps with
    | nil => rw [e3.mp rfl]; simp [PyData.eqv, PyData.eqvAll]
    | cons p ps =>
      have : L ≠ [] := fun z => by have := e3.mpr z; cases this
      simp [PyData.eqv, PyData.eqvAll, this]
  rw [e]
  exact h
end
end K18

set_option Elab.async false
set_option linter.all false
set_option maxRecDepth 100000
set_option maxHeartbeats 400000
namespace K18
open PySem PySem.Spec PyProof.Rows L2 Z
section
variable {ns : List Int} {k a b : Int} {x : Nat → Option D} {s : Bool} {l : Option (List D)} {C : Addr}
/-! ### the replies -/
def times : Rng → List Int
  | none => []
  | some (a, b) => [a - 1, a, b, b + 1]
theorem times_near {o : Rng} {w : Bool} {t : Int} (h : (Rp.at w t).near o) : t ∈ times o ∧ 0 < t := by
  rcases o with _ | ⟨x, y⟩
  · exact h.elim
  · obtain ⟨h, h0⟩ := h
    exact ⟨by simp [times]; exact h, h0⟩
theorem near_never {o : Rng} (h : Rp.never.near o) : False := by
  rcases o with _ | ⟨x, y⟩ <;> exact h.elim
theorem times_len (o : Rng) : (times o).length ≤ 4 := by
  rcases o with _ | ⟨x, y⟩ <;> simp [times]
/-- what the inner loop keeps -/
structure In (L0 : List Rp) (ts : List Int) (i : Nat) (L : List Rp) : Prop where
  sub : ∀ r ∈ L0, r ∈ L
  pos : ∀ r ∈ L, r.pos
  len : L.length ≤ L0.length + 2 * i
  has : ∀ t ∈ ts.take i, 0 < t → ∀ w, Rp.at w t ∈ L
def addW (t : Int) : List Rp := if 0 < t then [Rp.at true t, Rp.at false t] else []
theorem In.step {L0 L : List Rp} {ts : List Int} {i : Nat} {t : Int} (h : In L0 ts i L) (ht : ts[i]? = some t) : In L0 ts (i + 1) (L ++ addW t) := by
  refine ⟨fun r hr => List.mem_append_left _ (h.sub r hr), fun r hr => ?_, ?_, fun t' ht' h0 w => ?_⟩
  · rcases List.mem_append.mp hr with q | q
    · exact h.pos r q
    · unfold addW at q
      split at q
      · rename_i h0
        simp at q
        rcases q with rfl | rfl <;> exact h0
      · simp at q
  · have := h.len
    rw [List.length_append]
    have : (addW t).length ≤ 2 := by unfold addW; split <;> simp
    omega
  · rw [List.take_add_one, ht] at ht'
    rcases List.mem_append.mp ht' with q | q
    · exact List.mem_append_left _ (h.has t' q h0 w)
    · simp at q
      subst q
      refine List.mem_append_right _ ?_
      unfold addW
      rw [if_pos h0]
      cases w <;> simp
/-- replies + [(word, time) for word in .. if time > 0] -/
theorem add_E {L : List Rp} {t : Int} {Q : S → Z.Env → Prop} (h8 : x 8 = some (.lst (L.map Rp.d))) (h10 : x 10 = some (.int t)) (hL : L.length ≤ 1000) (h : Q (.val (.lst ((L ++ addW t).map Rp.d))) (E ns k a b x s l)) :
    zOp gAdd (zVar 8) (zE (zLc true (zTup (zCons (zC (.str "ok")) (zCons (zC (.str "fail")) zNil))) (zgName 11) (zB (zOp (gI0 fun i j => .bl (decide (j < i))) (zVar 10) (zC (.int 0)))) (zTup (zCons (zVar 11) (zCons (zVar 10) zNil))) [11])) (E ns k a b x s l) Q := by
  unfold zOp
  refine rd (vd_some h8) ?_
  unfold zE
  refine lc_pure (isT := true) [true, false] (fun w => D.str (if w then "ok" else "fail")) (fun _ => decide (0 < t)) (fun w => (Rp.at w t).d) ?_ E_no (Nat.zero_le _) (by simp) ?_ ?_ ?_
  · intro Q' h
    exact ⟨rfl, by decide, h⟩
  · intro ρ' w Q' hs _ h
    simp only [zB]
    refine rd (d := .int t) ?_ ?_
    · rw [hs]; exact vd_some h10
    · exact ⟨fun h => by simp at h, h⟩
  · intro ρ' w Q' hs _ h
    unfold zTup zCons
    refine rd (d := .str (if w then "ok" else "fail")) (by rw [hs]; rfl) (rd (d := .int t) (by rw [hs]; exact vd_some h10) ?_)
    exact ⟨rfl, by simp, h⟩
  · refine ⟨?_, fun h => by simp at h, ?_⟩
    · rw [List.length_map, List.length_map]
      have := List.length_filter_le (fun _ => decide (0 < t)) [true, false]
      simp at this ⊢
      omega
    · rw [List.map_append] at h
      have e : (addW t).map Rp.d = (([true, false].filter fun _ => decide (0 < t)).map fun w => (Rp.at w t).d) := by
        unfold addW
        by_cases q : 0 < t
        · rw [if_pos q]; simp [q]
        · rw [if_neg q]; simp [q]
      rw [e] at h
      exact h
def InW (ns : List Int) (k : Int) (y : Nat → Option D) (s : Bool) (l : Option (List D)) (a b : Int) (L0 : List Rp) (ts : List Int) (i : Nat) (ρ : Z.Env) : Prop :=
  ∃ (x : Nat → Option D) (L : List Rp), In L0 ts i L ∧ x 8 = some (.lst (L.map Rp.d)) ∧ (∀ j, j ≠ 8 → j ≠ 10 → x j = y j) ∧ ρ = E ns k a b x s l
theorem inner {L0 : List Rp} {o : Rng} {D0 : ZD} (hp : ∀ r ∈ L0, r.pos) (h8 : x 8 = some (.lst (L0.map Rp.d))) (h9 : x 9 = some (rng o)) (hL : L0.length ≤ 500)
    (h : ∀ y L, In L0 (times o) (times o).length L → y 8 = some (.lst (L.map Rp.d)) → (∀ j, j ≠ 8 → j ≠ 10 → y j = x j) → D0.nx (E ns k a b y s l)) :
    zFor false (zIf (zB (zOp (gIsN false) (zVar 9) (zC .non))) (zE (zLst zNil)) (zE (zLst (zCons (zOp (gI0 fun i j => .int (i - j)) (zOp gIx (zVar 9) (zC (.int 0))) (zC (.int 1))) (zCons (zOp gIx (zVar 9) (zC (.int 0))) (zCons (zOp gIx (zVar 9) (zC (.int 1))) (zCons (zOp gAdd (zOp gIx (zVar 9) (zC (.int 1))) (zC (.int 1))) zNil))))))) (zgName 10) (zAsg (zOp gAdd (zVar 8) (zE (zLc true (zTup (zCons (zC (.str "ok")) (zCons (zC (.str "fail")) zNil))) (zgName 11) (zB (zOp (gI0 fun i j => .bl (decide (j < i))) (zVar 10) (zC (.int 0)))) (zTup (zCons (zVar 11) (zCons (zVar 10) zNil))) [11]))) 8) D0 (E ns k a b x s l) := by
  have src : ∀ Q : S → Z.Env → Prop, Q (.val (.lst ((times o).map D.int))) (E ns k a b x s l) → (zIf (zB (zOp (gIsN false) (zVar 9) (zC .non))) (zE (zLst zNil)) (zE (zLst (zCons (zOp (gI0 fun i j => .int (i - j)) (zOp gIx (zVar 9) (zC (.int 0))) (zC (.int 1))) (zCons (zOp gIx (zVar 9) (zC (.int 0))) (zCons (zOp gIx (zVar 9) (zC (.int 1))) (zCons (zOp gAdd (zOp gIx (zVar 9) (zC (.int 1))) (zC (.int 1))) zNil))))))) (E ns k a b x s l) Q := by
    intro Q h
    have h9' := vd_some h9
    have g9 : (E ns k a b x s l).sl[9]? = some (vd (x 9)) := rfl
    rw [h9'] at g9
    rcases o with _ | ⟨u, v⟩
    · unfold zIf zB zOp
      refine rd g9 ⟨fun h => by simp at h, ?_⟩
      exact ⟨rfl, by decide, h⟩
    · unfold zIf zB zOp
      refine rd g9 ⟨fun h => by simp at h, ?_⟩
      simp only [zE, zLst, zCons, zNil, zVar, g9, rng, zC, S.vw, gIx, atI_0, atI_1, gI0, gAdd, okP, vwL]
      simp
      exact h
  unfold zFor
  refine src _ ⟨(times o).map D.int, rfl, InW ns k x s l a b L0 (times o), ⟨x, L0, ⟨fun r h => h, hp, by omega, by simp⟩, h8, fun j _ _ => rfl, rfl⟩, ?_, ?_⟩
  · rintro i _ d ⟨y, L, hI, hy8, hy, rfl⟩ hd
    obtain ⟨t, ht, rfl⟩ : ∃ t, (times o)[i]? = some t ∧ d = D.int t := by
      rw [List.getElem?_map] at hd
      cases q : (times o)[i]? with
      | none => rw [q] at hd; cases hd
      | some t => rw [q] at hd; exact ⟨t, rfl, (Option.some.inj hd).symm⟩
    have hi : i < 4 := Nat.lt_of_lt_of_le (List.getElem?_eq_some_iff.mp ht).1 (times_len o)
    show zAsg _ 8 _ (E ns k a b (up y 10 (.int t)) s l)
    unfold zAsg
    refine add_E (L := L) (t := t) (show up y 10 (.int t) 8 = _ from hy8) rfl (by have := hI.len; omega) ?_
    refine ⟨up (up y 10 (.int t)) 8 (.lst ((L ++ addW t).map Rp.d)), L ++ addW t, hI.step ht, rfl, fun j h1 h2 => ?_, rfl⟩
    unfold up
    rw [if_neg h1, if_neg h2]
    exact hy j h1 h2
  · rintro _ ⟨y, L, hI, hy8, hy, rfl⟩
    rw [List.length_map] at hI
    exact h y L hI hy8 hy
end
end K18

set_option Elab.async false
set_option linter.all false
set_option maxRecDepth 100000
set_option maxHeartbeats 400000
namespace K18
open PySem PySem.Spec PyProof.Rows L2 Z
section
variable {ns : List Int} {k a b : Int} {x : Nat → Option D} {s : Bool} {l : Option (List D)} {C : Addr}
def OutW (ns : List Int) (k : Int) (y : Nat → Option D) (s : Bool) (l : Option (List D)) (a b : Int) (os : List Rng) (i : Nat) (ρ : Z.Env) : Prop :=
  ∃ (x : Nat → Option D) (L : List Rp), Good L (1 + 8 * i) ∧ (∀ o ∈ os.take i, Has L o) ∧ x 8 = some (.lst (L.map Rp.d)) ∧ (∀ j, j ≠ 8 → j ≠ 9 → j ≠ 10 → x j = y j) ∧ ρ = E ns k a b x s l
theorem zfor_up {isT : Bool} {ta : ZT} {g : ZG} {t : ZS} {D0 : ZD} {ρ : Z.Env} (h : zFor isT ta g t D0 ρ) : zFor isT ta g t D0 ρ := h
theorem outer {c c' : Ct} {D0 : ZD} {body : ZS} (h4 : x 4 = some c.d) (h5 : x 5 = some c'.d) (h8 : x 8 = some (.lst ([Rp.never].map Rp.d)))
    (hb : ∀ {x : Nat → Option D} {L0 : List Rp} {o : Rng} {D0 : ZD}, (∀ r ∈ L0, r.pos) → x 8 = some (.lst (L0.map Rp.d)) → x 9 = some (rng o) → L0.length ≤ 500 →
      (∀ y L, In L0 (times o) (times o).length L → y 8 = some (.lst (L.map Rp.d)) → (∀ j, j ≠ 8 → j ≠ 10 → y j = x j) → D0.nx (E ns k a b y s l)) → body D0 (E ns k a b x s l))
    (h : ∀ y L, Good L 33 → (∀ o ∈ [c.ok, c.fl, c'.ok, c'.fl], Has L o) → y 8 = some (.lst (L.map Rp.d)) → (∀ j, j ≠ 8 → j ≠ 9 → j ≠ 10 → y j = x j) → D0.nx (E ns k a b y s l)) :
    zFor true (zTup (zCons (zOp gIx (zVar 4) (zC (.int 0))) (zCons (zOp gIx (zVar 4) (zC (.int 1))) (zCons (zOp gIx (zVar 5) (zC (.int 0))) (zCons (zOp gIx (zVar 5) (zC (.int 1))) zNil))))) (zgName 9) body D0 (E ns k a b x s l) := by
  have g4 : (E ns k a b x s l).sl[4]? = some (some (.val (.tup [rng c.ok, rng c.fl, .bl c.hang]))) := (show (E ns k a b x s l).sl[4]? = some (vd (x 4)) from rfl).trans (vd_some h4)
  have g5 : (E ns k a b x s l).sl[5]? = some (some (.val (.tup [rng c'.ok, rng c'.fl, .bl c'.hang]))) := (show (E ns k a b x s l).sl[5]? = some (vd (x 5)) from rfl).trans (vd_some h5)
  unfold zFor
  simp only [zTup, zCons, zOp, zNil, zVar, g4, g5, zC, S.vw, gIx, atI_0, atI_1, okP, vwL]
  refine ⟨_, rfl, fun h => by simp at h, _, rfl, fun h => by simp at h, _, rfl, fun h => by simp at h, _, rfl, fun h => by simp at h, rfl, by simp, ?_⟩
  refine ⟨[c.ok, c.fl, c'.ok, c'.fl].map rng, rfl, OutW ns k x s l a b [c.ok, c.fl, c'.ok, c'.fl], ⟨x, [Rp.never], ⟨fun r hr => by simp at hr; subst hr; trivial, by simp, by simp⟩, by simp, h8, fun j _ _ _ => rfl, rfl⟩, ?_, ?_⟩
  · rintro i _ d ⟨y, L, hG, hH, hy8, hy, rfl⟩ hd
    obtain ⟨o, ho, rfl⟩ : ∃ o, [c.ok, c.fl, c'.ok, c'.fl][i]? = some o ∧ d = rng o := by
      rw [List.getElem?_map] at hd
      cases q : [c.ok, c.fl, c'.ok, c'.fl][i]? with
      | none => rw [q] at hd; cases hd
      | some t => rw [q] at hd; exact ⟨t, rfl, (Option.some.inj hd).symm⟩
    have hi : i < 4 := (List.getElem?_eq_some_iff.mp ho).1
    show body _ (E ns k a b (up y 9 (rng o)) s l)
    refine hb hG.pos (show up y 9 (rng o) 8 = _ from hy8) rfl (by have := hG.len; omega) fun z L' hI hz8 hz => ?_
    refine ⟨z, L', ⟨hI.pos, hI.sub _ hG.nev, ?_⟩, fun p hp r hr => ?_, hz8, fun j h1 h2 h3 => ?_, rfl⟩
    · have := hI.len
      have := hG.len
      have := times_len o
      omega
    · rw [List.take_add_one, ho] at hp
      rcases List.mem_append.mp hp with q | q
      · exact hI.sub _ (hH p q r hr)
      · simp at q
        subst q
        cases r with
        | never => exact (near_never hr).elim
        | «at» w t =>
          obtain ⟨q1, q2⟩ := times_near hr
          exact hI.has t (by rw [List.take_length]; exact q1) q2 w
    · rw [hz j h1 h3]
      unfold up
      rw [if_neg h2]
      exact hy j h1 h2 h3
  · rintro _ ⟨y, L, hG, hH, hy8, hy, rfl⟩
    exact h y L hG (fun o ho => hH o (by rw [List.length_map, List.take_length]; exact ho)) hy8 hy
/-- the comprehension over the replies -/
theorem comp {tt : ZC} {f : Rp → Bool} {Q : List D → Z.Env → Prop} {L : List Rp} (h8 : x 8 = some (.lst (L.map Rp.d))) (hL : L.length ≤ 1000)
    (ht : ∀ (ρ' : Z.Env) r (Q' : Bool → Z.Env → Prop), ρ'.sl = (E ns k a b x s l).sl.set 12 (some (.val (Rp.d r))) → r ∈ L → Q' (f r) ρ' → tt ρ' Q')
    (h : Q ((L.filter f).map Rp.d) (E ns k a b x s l)) : zLc false (zVar 8) (zgName 12) tt (zVar 12) [12] (E ns k a b x s l) Q := by
  refine lc_pure (isT := false) L Rp.d f Rp.d (fun Q' h => rd (vd_some h8) h) E_no (Nat.zero_le _) (by omega) ht ?_ h
  intro ρ' r Q' hs _ h
  refine rd (d := r.d) (by rw [hs]; rfl) h
theorem s7 {c c' : Ct} {L : List Rp} {D0 : ZD} (hc : c.fine 20) (hc' : c'.fine 30) (g : Good L 33) (hH : ∀ o ∈ [c.ok, c.fl, c'.ok, c'.fl], Has L o) (h8 : x 8 = some (.lst (L.map Rp.d))) (h6 : x 6 = some (insC C c)) (h7 : x 7 = some (insC C c'))
    (h13 : x 13 = some (.lst ((L.filter fun r => c.al r != c'.al r).map Rp.d))) (h : D0.nx (E ns k a b x s l)) :
    (zIfS (zOr (zB (zOp (gEq true) (zOp (gOwn2 C (gEqC C)) (zVar 6) (zVar 7)) (zOp (gEq false) (zVar 13) (zE (zLst zNil))))) (zB (zOp (gEq false) (zE (zLc false (zVar 8) (zgName 12) (zB (zMeth C "allows" (gAllows C) (zVar 6) (zCons (zVar 12) zNil))) (zVar 12) [12])) (zE (zLst zNil))))) (zRet (zC (.bl false))) zNext) D0 (E ns k a b x s l) := by
  have hne : (E ns k a b x s l).ce.length = 2 := rfl
  simp only [zIfS, zOr, zB, zOp]
  refine rd (vd_some h6) (rd (vd_some h7) ?_)
  refine own_E ⟨fun h => by simp at h, rd (vd_some h13) ?_⟩
  refine ⟨rfl, by simp, ?_⟩
  simp only [S.vw]
  refine reps_nil ⟨fun h => by simp at h, ?_⟩
  have m1 := math1 hc hc' g (hH _ (by simp)) (hH _ (by simp)) (hH _ (by simp)) (hH _ (by simp))
  have e : decide (c = c') = decide ((L.filter fun r => c.al r != c'.al r) = []) := by
    by_cases q : c = c'
    · rw [decide_eq_true q, decide_eq_true (m1.mpr q)]
    · rw [decide_eq_false q, decide_eq_false fun z => q (m1.mp z)]
  simp only [Bool.false_eq_true, if_false]
  rw [e]
  have key : ∀ (bb : Bool) (P : D → Prop), P (.bl false) → gEq true (.bl bb) (.bl bb) P := fun bb P hp => by
    show P (.bl (if true then !decide (bb = bb) else decide (bb = bb)))
    simp
    exact hp
  refine key _ _ ⟨fun h => by simp at h, ?_⟩
  simp only [S.asB, Bool.false_eq_true, if_false, zE]
  refine comp (f := fun r => c.al r) h8 (by have := g.len; omega) ?_ ?_
  · intro ρ' r Q' hs hm hq
    refine allows_E (c := c) (r := r) (by rw [hs]; exact vd_some h6) (by rw [hs]; rfl) (g.pos r hm) hq
  · refine ⟨rfl, by simp, ?_⟩
    try simp only [S.vw]
    refine reps_nil ⟨fun h => by simp at h, ?_⟩
    have m2 := math2 hc g (hH _ (by simp)) (hH _ (by simp))
    simp only [Bool.false_eq_true, if_false, decide_eq_false m2]
    exact h
/-! ### the wider contract -/
def wid (o w : Rng) : Prop := okR 40 w ∧ wider o w ∧ (w = none → o = none)
theorem wid_none : wid none none := ⟨trivial, fun t h => h, fun _ => rfl⟩
theorem wid_some {u v r : Int} (h : okR 20 (some (u, v))) (h0 : 0 ≤ r) (h1 : r < 3) : wid (some (u, v)) (some (if u - 1 > 1 then u - 1 else 1, v + r)) := by
  obtain ⟨z1, z2, z3⟩ := h
  refine ⟨⟨by split <;> omega, by split <;> omega, by omega⟩, fun t ht => ?_, fun h => by cases h⟩
  simp [inR] at ht ⊢
  constructor
  · split <;> omega
  · omega
def WideW (ns : List Int) (k : Int) (y : Nat → Option D) (os : List Rng) (i : Nat) (ρ : Z.Env) : Prop :=
  ∃ (a b : Int) (x : Nat → Option D) (ws : List Rng), ws.length = i ∧ (∀ (j : Nat) o w, os[j]? = some o → ws[j]? = some w → wid o w) ∧ (∀ j, j ≠ 9 → x j = y j) ∧ ρ = E ns k a b x true (some (ws.map rng))
theorem wide_loop {c : Ct} {D0 : ZD} (hc : c.fine 20) (h4 : x 4 = some c.d)
    (h : ∀ a b y w1 w2, wid c.ok w1 → wid c.fl w2 → (∀ j, j ≠ 9 → y j = x j) → D0.nx (E ns k a b y true (some [rng w1, rng w2]))) :
    (zFor true (zTup (zCons (zOp gIx (zVar 4) (zC (.int 0))) (zCons (zOp gIx (zVar 4) (zC (.int 1))) zNil))) (zgName 9) (zDrop (zMut eApp (zVar 14) (zCons (zIf (zB (zOp (gIsN false) (zVar 9) (zC .non))) (zC .non) (zTup (zCons (zCB gMax2 (zCons (zC (.int 1)) (zCons (zOp (gI0 fun i j => .int (i - j)) (zOp gIx (zVar 9) (zC (.int 0))) (zC (.int 1))) zNil))) (zCons (zOp gAdd (zOp gIx (zVar 9) (zC (.int 1))) (zCallIO [0] gTake (zCons (zVar 2) (zCons (zC (.int 3)) zNil)))) zNil)))) zNil)))) D0 (E ns k a b x true (some [])) := by
  have g4 : (E ns k a b x true (some [])).sl[4]? = some (some (.val (.tup [rng c.ok, rng c.fl, .bl c.hang]))) := (show (E ns k a b x true (some [])).sl[4]? = some (vd (x 4)) from rfl).trans (vd_some h4)
  unfold zFor
  simp only [zTup, zCons, zOp, zNil, zVar, g4, zC, S.vw, gIx, atI_0, atI_1, okP, vwL]
  refine ⟨_, rfl, fun h => by simp at h, _, rfl, fun h => by simp at h, rfl, by simp, ?_⟩
  refine ⟨[c.ok, c.fl].map rng, rfl, WideW ns k x [c.ok, c.fl], ⟨a, b, x, [], rfl, by simp, fun j _ => rfl, rfl⟩, ?_, ?_⟩
  · rintro i _ d ⟨a, b, y, ws, hl, hw, hy, rfl⟩ hd
    obtain ⟨o, ho, rfl⟩ : ∃ o, [c.ok, c.fl][i]? = some o ∧ d = rng o := by
      rw [List.getElem?_map] at hd
      cases q : [c.ok, c.fl][i]? with
      | none => rw [q] at hd; cases hd
      | some t => rw [q] at hd; exact ⟨t, rfl, (Option.some.inj hd).symm⟩
    have hi : i < 2 := (List.getElem?_eq_some_iff.mp ho).1
    have hok : okR 20 o := by
      have := List.mem_of_getElem? ho
      simp at this
      rcases this with rfl | rfl
      · exact hc.1
      · exact hc.2.1
    have done : ∀ a b w, wid o w → WideW ns k x [c.ok, c.fl] (i + 1) ((E ns k a b (up y 9 (rng o)) true (some (ws.map rng))).setCe 1 (.lst (ws.map rng ++ [rng w]))) := by
      intro a b w hww
      refine ⟨a, b, up y 9 (rng o), ws ++ [w], by simp [hl], fun j o' w' h1 h2 => ?_, fun j hj => ?_, by rw [List.map_append]; rfl⟩
      · by_cases q : j < ws.length
        · rw [List.getElem?_append_left q] at h2
          exact hw j o' w' h1 h2
        · have q2 : j = ws.length := by
            have := (List.getElem?_eq_some_iff.mp h2).1
            rw [List.length_append] at this
            simp at this
            omega
          subst q2
          rw [hl, ho] at h1
          cases h1
          simp at h2
          subst h2
          exact hww
      · unfold up
        rw [if_neg hj]
        exact hy j hj
    show zDrop _ _ (E ns k a b (up y 9 (rng o)) true (some (ws.map rng)))
    have g9 : (E ns k a b (up y 9 (rng o)) true (some (ws.map rng))).sl[9]? = some (some (.val (rng o))) := rfl
    refine ⟨1, ws.map rng, rfl, rfl, ?_⟩
    unfold zCons zIf zB zOp
    refine rd g9 ?_
    rcases o with _ | ⟨u, v⟩
    · refine ⟨fun h => by simp at h, rfl, ws.map rng, rfl, by rw [List.length_map]; omega, done a b none wid_none⟩
    · refine ⟨fun h => by simp at h, ?_⟩
      simp only [zTup, zCons, zNil, zVar, g9, rng, zC, S.vw, gIx, atI_0, atI_1, gI0, okP, vwL, zCB, gMax2, zOp]
      refine ⟨_, rfl, fun h => by simp at h, fun h => by simp at h, fun h => by simp at h, _, rfl, fun h => by simp at h, ?_⟩
      refine take_E (by omega) (by omega) fun r a' b' q0 q1 => ?_
      simp only [gAdd, S.vw, okP]
      refine ⟨fun h => by simp at h, rfl, by simp, rfl, ws.map rng, rfl, by rw [List.length_map]; omega, ?_⟩
      exact done a' b' (some (_, _)) (wid_some hok q0 q1)
  · rintro _ ⟨a, b, y, ws, hl, hw, hy, rfl⟩
    obtain ⟨w1, w2, rfl⟩ : ∃ w1 w2, ws = [w1, w2] := by
      match ws, hl with
      | [o, f], _ => exact ⟨o, f, rfl⟩
    exact h a b y w1 w2 (hw 0 _ _ rfl rfl) (hw 1 _ _ rfl rfl) hy
end
end K18

set_option Elab.async false
set_option linter.all false
set_option maxRecDepth 100000
set_option maxHeartbeats 400000
namespace K18
open PySem PySem.Spec PyProof.Rows L2 Z
section
variable {ns : List Int} {k a b : Int} {x : Nat → Option D} {s : Bool} {l : Option (List D)} {C : Addr}
theorem keep_vd {n : Nat} {y : Option D} : keepS n (vd y) = vd y := by cases y <;> rfl
theorem keep_l {n : Nat} {l : Option (List D)} : keepC n (l.map Ce.lst) = l.map Ce.lst := by cases l <;> rfl
theorem E_fresh1 : ((E ns k a b x s l).fresh 1 (.lst [])).put 14 (.loc 1) = E ns k a b x true (some []) := by
  simp only [E, Env.fresh, Env.put, List.map, keep_vd, keep_l, List.set_cons_zero, List.set_cons_succ, if_true]
  rfl
theorem make_E {c : Ct} {P : D → Prop} (hc : c.fine 1000000) (h : P (insC C c)) : gMake C (gInit C) [rng c.ok, rng c.fl, .bl c.hang] P := ⟨c, rfl, rfl, hc, _, [rng c.ok, rng c.fl, .bl c.hang], rfl, rfl, h⟩
theorem s10 {c : Ct} {w1 w2 : Rng} {D0 : ZD} (hc : c.fine 20) (h1 : wid c.ok w1) (h2 : wid c.fl w2) (h4 : x 4 = some c.d)
    (h : ∀ a b hh, (c.hang = true → hh = true) → D0.nx (E ns k a b (up x 15 (insC C ⟨w1, w2, hh⟩)) true (some [rng w1, rng w2]))) :
    (zAsg (zCB (fun ds P => ds.length = (["ok", "fail", "hang"] : List Str).length ∧ gMake C (gInit C) ds P) (zCons (zOp gIx (zVar 14) (zC (.int 0))) (zCons (zOp gIx (zVar 14) (zC (.int 1))) (zCons (zOrV (zOp gIx (zVar 4) (zC (.int 2))) (zOp (gEq false) (zCallIO [0] gTake (zCons (zVar 2) (zCons (zC (.int 2)) zNil))) (zC (.int 0)))) zNil)))) 15) D0 (E ns k a b x true (some [rng w1, rng w2])) := by
  have g4 : ∀ {a b}, (E ns k a b x true (some [rng w1, rng w2])).sl[4]? = some (some (.val (.tup [rng c.ok, rng c.fl, .bl c.hang]))) := fun {a b} => (show (E ns k a b x true (some [rng w1, rng w2])).sl[4]? = some (vd (x 4)) from rfl).trans (vd_some h4)
  have g14 : (E ns k a b x true (some [rng w1, rng w2])).sl[14]? = some (some (.loc 1)) := rfl
  have gc : (E ns k a b x true (some [rng w1, rng w2])).ce[1]? = some (some (.lst [rng w1, rng w2])) := rfl
  have fine : ∀ hh, (c.hang = true → hh = true) → (⟨w1, w2, hh⟩ : Ct).fine 1000000 := fun hh hi => ⟨okR_up (by decide) h1.1, okR_up (by decide) h2.1, fun q => by
    have q1 : w1 = none := q.1
    have q2 : w2 = none := q.2.1
    have q3 : hh = false := q.2.2
    refine hc.2.2 ⟨h1.2.2 q1, h2.2.2 q2, ?_⟩
    cases e : c.hang
    · rfl
    · rw [hi e] at q3; cases q3⟩
  simp only [zAsg, zCB, zCons, zOp, zNil, zVar, g14, gc, zC, S.vw, gIx, atI_0, atI_1, okP, vwL]
  refine ⟨_, rfl, _, rfl, fun _ => rng_no w1, ?_⟩
  refine ⟨_, rfl, _, rfl, fun _ => rng_no w2, ?_⟩
  simp only [zOrV, zOp]
  refine rd g4 ⟨_, atI_2, fun h => by simp at h, ?_⟩
  simp only [S.asB]
  have fin : ∀ a b hh, (c.hang = true → hh = true) → ([rng w1, rng w2, .bl hh] : List D).length = (["ok", "fail", "hang"] : List Str).length ∧ gMake C (gInit C) [rng w1, rng w2, .bl hh] fun z => ((false || (false || (false || false))) = true → z.noLst = true) ∧ D0.nx ((E ns k a b x true (some [rng w1, rng w2])).put 15 (.val z)) := fun a b hh hi =>
    ⟨rfl, make_E (c := ⟨w1, w2, hh⟩) (fine hh hi) ⟨fun h => by simp at h, h a b hh hi⟩⟩
  by_cases e : c.hang = true
  · simp only [e, if_true]
    exact fin a b true fun _ => rfl
  · rw [if_neg e]
    refine take_E (n := 2) (by omega) (by omega) fun r a' b' q0 q1 => ?_
    refine ⟨fun h => by simp at h, ?_⟩
    exact fin a' b' _ fun h => absurd h e
theorem s11 {c w : Ct} {L : List Rp} {D0 : ZD} (g : Good L 33) (h1 : wider c.ok w.ok) (h2 : wider c.fl w.fl) (h3 : c.hang = true → w.hang = true) (h8 : x 8 = some (.lst (L.map Rp.d))) (h6 : x 6 = some (insC C c)) (h15 : x 15 = some (insC C w)) (h : D0.nx (E ns k a b x s l)) :
    (zIfS (zB (zOp (gEq true) (zE (zLc false (zVar 8) (zgName 12) (zAnd (zB (zMeth C "allows" (gAllows C) (zVar 6) (zCons (zVar 12) zNil))) (zNot (zB (zMeth C "allows" (gAllows C) (zVar 15) (zCons (zVar 12) zNil))))) (zVar 12) [12])) (zE (zLst zNil)))) (zRet (zC (.bl false))) zNext) D0 (E ns k a b x s l) := by
  simp only [zIfS, zB, zOp, zE]
  refine comp (f := fun r => c.al r && !w.al r) h8 (by have := g.len; omega) ?_ ?_
  · intro ρ' r Q' hs hm hq
    simp only [zAnd, zNot]
    refine allows_E (c := c) (r := r) (by rw [hs]; exact vd_some h6) (by rw [hs]; rfl) (g.pos r hm) ?_
    simp only [S.asB]
    cases e : c.al r
    · rw [if_neg (by simp)]
      have : (c.al r && !w.al r) = false := by rw [e]; rfl
      rw [this] at hq
      exact hq
    · rw [if_pos rfl]
      refine allows_E (c := w) (r := r) (by rw [hs]; exact vd_some h15) (by rw [hs]; rfl) (g.pos r hm) ?_
      have : (c.al r && !w.al r) = !w.al r := by rw [e]; rfl
      rw [this] at hq
      exact hq
  · refine ⟨rfl, by simp, ?_⟩
    try simp only [S.vw]
    refine reps_nil ⟨fun h => by simp at h, ?_⟩
    rw [math3 h1 h2 h3]
    exact h
def TURN (C : Addr) : ZS := (zCut (zAsg (zCallIO [0] gContract (zCons (zVar 2) (zCons (zC (.int 0)) zNil))) 4)
    (zCut (zAsg (zIf (zB (zOp (gI0 fun i j => .bl (decide (j < i))) (zCallIO [0] gTake (zCons (zVar 2) (zCons (zC (.int 3)) zNil))) (zC (.int 0)))) (zCallIO [0] gNear (zCons (zVar 2) (zCons (zVar 4) zNil))) (zCallIO [0] gContract (zCons (zVar 2) (zCons (zC (.int 0)) zNil)))) 5)
    (zCut (zAsgG (zTup (zCons (zCall (gMade C) (zCons (zVar 4) zNil)) (zCons (zCall (gMade C) (zCons (zVar 5) zNil)) zNil))) (zgTup 2 (zgCons (zgName 6) (zgCons (zgName 7) zgNil))))
    (zCut (zAsg (zE (zLst (zCons (zTup (zCons (zC (.str "never")) zNil)) zNil))) 8)
    (zCut (zFor true (zTup (zCons (zOp gIx (zVar 4) (zC (.int 0))) (zCons (zOp gIx (zVar 4) (zC (.int 1))) (zCons (zOp gIx (zVar 5) (zC (.int 0))) (zCons (zOp gIx (zVar 5) (zC (.int 1))) zNil))))) (zgName 9) (zFor false (zIf (zB (zOp (gIsN false) (zVar 9) (zC .non))) (zE (zLst zNil)) (zE (zLst (zCons (zOp (gI0 fun i j => .int (i - j)) (zOp gIx (zVar 9) (zC (.int 0))) (zC (.int 1))) (zCons (zOp gIx (zVar 9) (zC (.int 0))) (zCons (zOp gIx (zVar 9) (zC (.int 1))) (zCons (zOp gAdd (zOp gIx (zVar 9) (zC (.int 1))) (zC (.int 1))) zNil))))))) (zgName 10) (zAsg (zOp gAdd (zVar 8) (zE (zLc true (zTup (zCons (zC (.str "ok")) (zCons (zC (.str "fail")) zNil))) (zgName 11) (zB (zOp (gI0 fun i j => .bl (decide (j < i))) (zVar 10) (zC (.int 0)))) (zTup (zCons (zVar 11) (zCons (zVar 10) zNil))) [11]))) 8)))
    (zCut (zAsg (zE (zLc false (zVar 8) (zgName 12) (zB (zOp (gEq true) (zMeth C "allows" (gAllows C) (zVar 6) (zCons (zVar 12) zNil)) (zMeth C "allows" (gAllows C) (zVar 7) (zCons (zVar 12) zNil)))) (zVar 12) [12])) 13)
    (zCut (zIfS (zOr (zB (zOp (gEq true) (zOp (gOwn2 C (gEqC C)) (zVar 6) (zVar 7)) (zOp (gEq false) (zVar 13) (zE (zLst zNil))))) (zB (zOp (gEq false) (zE (zLc false (zVar 8) (zgName 12) (zB (zMeth C "allows" (gAllows C) (zVar 6) (zCons (zVar 12) zNil))) (zVar 12) [12])) (zE (zLst zNil))))) (zRet (zC (.bl false))) zNext)
    (zCut (zNew (zLst zNil) 14 1)
    (zCut (zFor true (zTup (zCons (zOp gIx (zVar 4) (zC (.int 0))) (zCons (zOp gIx (zVar 4) (zC (.int 1))) zNil))) (zgName 9) (zDrop (zMut eApp (zVar 14) (zCons (zIf (zB (zOp (gIsN false) (zVar 9) (zC .non))) (zC .non) (zTup (zCons (zCB gMax2 (zCons (zC (.int 1)) (zCons (zOp (gI0 fun i j => .int (i - j)) (zOp gIx (zVar 9) (zC (.int 0))) (zC (.int 1))) zNil))) (zCons (zOp gAdd (zOp gIx (zVar 9) (zC (.int 1))) (zCallIO [0] gTake (zCons (zVar 2) (zCons (zC (.int 3)) zNil)))) zNil)))) zNil))))
    (zCut (zAsg (zCB (fun ds P => ds.length = (["ok", "fail", "hang"] : List Str).length ∧ gMake C (gInit C) ds P) (zCons (zOp gIx (zVar 14) (zC (.int 0))) (zCons (zOp gIx (zVar 14) (zC (.int 1))) (zCons (zOrV (zOp gIx (zVar 4) (zC (.int 2))) (zOp (gEq false) (zCallIO [0] gTake (zCons (zVar 2) (zCons (zC (.int 2)) zNil))) (zC (.int 0)))) zNil)))) 15)
    (zIfS (zB (zOp (gEq true) (zE (zLc false (zVar 8) (zgName 12) (zAnd (zB (zMeth C "allows" (gAllows C) (zVar 6) (zCons (zVar 12) zNil))) (zNot (zB (zMeth C "allows" (gAllows C) (zVar 15) (zCons (zVar 12) zNil))))) (zVar 12) [12])) (zE (zLst zNil)))) (zRet (zC (.bl false))) zNext)))))))))))
theorem turn_E {D0 : ZD} (h : ∀ a b x s l, D0.nx (E ns k a b x s l)) : TURN C D0 (E ns k a b x s l) := by
  unfold TURN
  -- first
  refine ⟨St ns k fun x => ∃ c : Ct, c.fine 20 ∧ x 4 = some c.d, ?_, ?_⟩
  · unfold zAsg
    refine contract_E fun c a' b' hc => ?_
    exact ⟨a', b', up x 4 c.d, s, l, ⟨c, hc, rfl⟩, rfl⟩
  rintro _ ⟨a, b, x, s, l, ⟨c, hc, h4⟩, rfl⟩
  -- second
  refine ⟨St ns k fun x => ∃ c' : Ct, c'.fine 30 ∧ x 4 = some c.d ∧ x 5 = some c'.d, ?_, ?_⟩
  · simp only [zAsg, zIf, zB, zOp]
    refine take_E (by omega) (by omega) fun r a' b' q0 q1 => ?_
    refine ⟨fun h => by simp at h, ?_⟩
    simp only [S.asB]
    by_cases q : 0 < r
    · simp only [q, decide_true, if_true]
      refine near_E h4 hc fun c' a' b' hc' => ?_
      exact ⟨a', b', up x 5 c'.d, s, l, ⟨c', hc', h4, rfl⟩, rfl⟩
    · simp only [q, decide_false, Bool.false_eq_true, if_false]
      refine contract_E fun c' a' b' hc' => ?_
      exact ⟨a', b', up x 5 c'.d, s, l, ⟨c', ⟨okR_up (by decide) hc'.1, okR_up (by decide) hc'.2.1, hc'.2.2⟩, h4, rfl⟩, rfl⟩
  rintro _ ⟨a, b, x, s, l, ⟨c', hc', h4, h5⟩, rfl⟩
  -- one, other
  refine ⟨St ns k fun x => x 4 = some c.d ∧ x 5 = some c'.d ∧ x 6 = some (insC C c) ∧ x 7 = some (insC C c'), ?_, ?_⟩
  · simp only [zAsgG, zTup]
    unfold zCons
    refine made_E (vd_some h4) ⟨okR_up (by decide) hc.1, okR_up (by decide) hc.2.1, hc.2.2⟩ ?_
    refine made_E (vd_some h5) ⟨okR_up (by decide) hc'.1, okR_up (by decide) hc'.2.1, hc'.2.2⟩ ?_
    refine ⟨rfl, by simp, _, rfl, rfl, ?_⟩
    exact ⟨rfl, a, b, up (up x 6 (insC C c)) 7 (insC C c'), s, l, ⟨h4, h5, rfl, rfl⟩, rfl⟩
  rintro _ ⟨a, b, x, s, l, ⟨h4, h5, h6, h7⟩, rfl⟩
  -- replies
  refine ⟨St ns k fun x => x 4 = some c.d ∧ x 5 = some c'.d ∧ x 6 = some (insC C c) ∧ x 7 = some (insC C c') ∧ x 8 = some (.lst ([Rp.never].map Rp.d)), ?_, ?_⟩
  · refine ⟨rfl, by decide, rfl, by simp, ?_⟩
    exact ⟨a, b, up x 8 _, s, l, ⟨h4, h5, h6, h7, rfl⟩, rfl⟩
  rintro _ ⟨a, b, x, s, l, ⟨h4, h5, h6, h7, h8⟩, rfl⟩
  refine ⟨St ns k fun x => x 4 = some c.d ∧ x 6 = some (insC C c) ∧ x 7 = some (insC C c') ∧ ∃ L, Good L 33 ∧ (∀ o ∈ [c.ok, c.fl, c'.ok, c'.fl], Has L o) ∧ x 8 = some (.lst (L.map Rp.d)), ?_, ?_⟩
  · refine outer h4 h5 h8 (fun hp h8 h9 hL hh => inner hp h8 h9 hL hh) fun y L hG hH hy8 hy => ?_
    exact ⟨a, b, y, s, l, ⟨(hy 4 (by decide) (by decide) (by decide)).trans h4, (hy 6 (by decide) (by decide) (by decide)).trans h6, (hy 7 (by decide) (by decide) (by decide)).trans h7, L, hG, hH, hy8⟩, rfl⟩
  rintro _ ⟨a, b, x, s, l, ⟨h4, h6, h7, L, hG, hH, h8⟩, rfl⟩
  -- unlike
  refine ⟨St ns k fun x => x 4 = some c.d ∧ x 6 = some (insC C c) ∧ x 7 = some (insC C c') ∧ x 8 = some (.lst (L.map Rp.d)) ∧ x 13 = some (.lst ((L.filter fun r => c.al r != c'.al r).map Rp.d)), ?_, ?_⟩
  · simp only [zAsg, zE]
    refine comp (f := fun r => c.al r != c'.al r) h8 (by have := hG.len; omega) ?_ ?_
    · intro ρ' r Q' hs hm hq
      simp only [zB, zOp]
      refine allows_E (c := c) (r := r) (by rw [hs]; exact vd_some h6) (by rw [hs]; rfl) (hG.pos r hm) ?_
      refine allows_E (c := c') (r := r) (by rw [hs]; exact vd_some h7) (by rw [hs]; rfl) (hG.pos r hm) ?_
      simp only [S.vw]
      have e : (c.al r != c'.al r) = (!decide (c.al r = c'.al r)) := by cases c.al r <;> cases c'.al r <;> rfl
      rw [e] at hq
      exact ⟨fun h => by simp at h, hq⟩
    · exact ⟨a, b, up x 13 _, s, l, ⟨h4, h6, h7, h8, rfl⟩, rfl⟩
  rintro _ ⟨a, b, x, s, l, ⟨h4, h6, h7, h8, h13⟩, rfl⟩
  -- the first test
  refine ⟨St ns k fun x => x 4 = some c.d ∧ x 6 = some (insC C c) ∧ x 8 = some (.lst (L.map Rp.d)), ?_, ?_⟩
  · exact s7 hc hc' hG hH h8 h6 h7 h13 ⟨a, b, x, s, l, ⟨h4, h6, h8⟩, rfl⟩
  rintro _ ⟨a, b, x, s, l, ⟨h4, h6, h8⟩, rfl⟩
  -- wide
  refine ⟨fun ρ => ∃ a b x, (x 4 = some c.d ∧ x 6 = some (insC C c) ∧ x 8 = some (.lst (L.map Rp.d))) ∧ ρ = E ns k a b x true (some []), ?_, ?_⟩
  · refine ⟨rfl, by simp, Nat.zero_le _, a, b, x, ⟨h4, h6, h8⟩, ?_⟩
    exact E_fresh1
  rintro _ ⟨a, b, x, ⟨h4, h6, h8⟩, rfl⟩
  refine ⟨fun ρ => ∃ a b x w1 w2, (x 4 = some c.d ∧ x 6 = some (insC C c) ∧ x 8 = some (.lst (L.map Rp.d)) ∧ wid c.ok w1 ∧ wid c.fl w2) ∧ ρ = E ns k a b x true (some [rng w1, rng w2]), ?_, ?_⟩
  · refine wide_loop hc h4 fun a b y w1 w2 g1 g2 hy => ?_
    exact ⟨a, b, y, w1, w2, ⟨(hy 4 (by decide)).trans h4, (hy 6 (by decide)).trans h6, (hy 8 (by decide)).trans h8, g1, g2⟩, rfl⟩
  rintro _ ⟨a, b, x, w1, w2, ⟨h4, h6, h8, g1, g2⟩, rfl⟩
  refine ⟨fun ρ => ∃ a b x hh, (x 6 = some (insC C c) ∧ x 8 = some (.lst (L.map Rp.d)) ∧ (c.hang = true → hh = true) ∧ x 15 = some (insC C ⟨w1, w2, hh⟩)) ∧ ρ = E ns k a b x true (some [rng w1, rng w2]), ?_, ?_⟩
  · refine s10 hc g1 g2 h4 fun a b hh hi => ?_
    exact ⟨a, b, up x 15 (insC C ⟨w1, w2, hh⟩), hh, ⟨h6, h8, hi, rfl⟩, rfl⟩
  rintro _ ⟨a, b, x, hh, ⟨h6, h8, hi, h15⟩, rfl⟩
  exact s11 (w := ⟨w1, w2, hh⟩) hG g1.2.1 g2.2.1 hi h8 h6 h15 (h _ _ _ _ _)
end
end K18

set_option Elab.async false
set_option linter.all false
set_option maxRecDepth 100000
set_option maxHeartbeats 400000
namespace K18
open PySem PySem.Spec PyProof.Rows L2 Z
section
variable {C : Addr}
def E0 (ns : List Int) (y1 : Option D) (g : Bool) (f : Option (List D)) (x : Nat → Option D) (s : Bool) (l : Option (List D)) : Z.Env :=
  ⟨[some (.val (.scr ns)), vd y1, if g then some (.loc 0) else none, vd (x 3), vd (x 4), vd (x 5), vd (x 6), vd (x 7), vd (x 8), vd (x 9), vd (x 10), vd (x 11), vd (x 12), vd (x 13), if s then some (.loc 1) else none, vd (x 15)], [f.map .lst, l.map .lst], 0⟩
theorem E0_fresh {ns : List Int} {k a b : Int} {g : Bool} {f : Option (List D)} {x : Nat → Option D} {s : Bool} {l : Option (List D)} : ((E0 ns (some (.int k)) g f x s l).fresh 0 (.lst [.int a, .int b])).put 2 (.loc 0) = E ns k a b x s l := by
  have hs : keepS 0 (if s = true then some (S.loc 1) else none) = if s = true then some (S.loc 1) else none := by cases s <;> rfl
  simp only [E0, Env.fresh, Env.put, List.map, keep_vd, keep_l, hs, List.set_cons_zero, List.set_cons_succ]
  rfl
theorem feed_E {ns : List Int} {k : Int} {ρ : Z.Env} {Q : List D → Z.Env → Prop} (h0 : ρ.sl[0]? = some (some (.val (.scr ns)))) (h1 : ρ.sl[1]? = some (some (.val (.int k)))) (k0 : 0 ≤ k) (k1 : k ≤ 3) (h : ∀ a b, Q [.int a, .int b] ρ) : zCallF gFeed (zCons (zVar 0) (zCons (zVar 1) zNil)) ρ Q := by
  unfold zCallF zCons
  refine rd h0 (rd h1 ?_)
  exact ⟨ns, k, rfl, rfl, k0, k1, fun a b => ⟨fun h => by simp at h, h a b⟩⟩
theorem w_law : ∀ ss cs P PX, gLaw ss cs P PX → t_law C (EndD cs.length P) (entry 16 2 ss cs) := by
  rintro _ _ P PX ⟨ns, rfl, rfl, hl, h⟩
  unfold t_law
  refine ⟨fun _ => True, ?_, fun ρ' _ => fin0.mpr h⟩
  have e0 : entry 16 2 [.val (.scr ns)] [] = E0 ns none false none (fun _ => none) false none := rfl
  rw [e0]
  show zCons _ zNil (E0 ns none false none (fun _ => none) false none) _
  simp only [zCons, zCB, zNil, zC]
  refine rd (d := .scr ns) rfl ?_
  simp only [vwL, S.vw, gLen, gMin2, gMax2, okP]
  refine ⟨fun h => by simp at h, fun h => by simp at h, fun h => by simp at h, _, rfl, ?_⟩
  have hb : (if (if (ns.length : Int) < 4 then (ns.length : Int) else 4) > 1 then (if (ns.length : Int) < 4 then (ns.length : Int) else 4) else 1) ≤ 4 := by split <;> split <;> omega
  have hb0 : 1 ≤ (if (if (ns.length : Int) < 4 then (ns.length : Int) else 4) > 1 then (if (ns.length : Int) < 4 then (ns.length : Int) else 4) else 1) := by split <;> omega
  refine ⟨⟨by omega, by omega⟩, fun _ ρ => ∃ y1 g f x s l, ρ = E0 ns y1 g f x s l, ⟨_, _, _, _, _, _, rfl⟩, ?_, fun _ _ => trivial⟩
  rintro i _ ⟨y1, g, f, x, s, l, rfl⟩ hi
  have hi4 : (i : Int) ≤ 3 := by omega
  show zCut _ _ _ (E0 ns (some (.int i)) g f x s l)
  refine ⟨fun ρ => ∃ a b, ρ = E ns i a b x s l, ?_, ?_⟩
  · unfold zNew
    refine feed_E rfl rfl (by omega) hi4 fun a b => ⟨Nat.zero_le _, a, b, E0_fresh⟩
  rintro _ ⟨a, b, rfl⟩
  refine ⟨4, rfl, ⟨by omega, by omega⟩, fun _ ρ => ∃ a b x s l, ρ = E ns i a b x s l, ⟨a, b, x, s, l, rfl⟩, ?_, ?_⟩
  · rintro j _ ⟨a, b, x, s, l, rfl⟩ hj
    show TURN C _ (E ns i a b (up x 3 (.int j)) s l)
    exact turn_E fun a b x s l => ⟨a, b, x, s, l, rfl⟩
  · rintro _ ⟨a, b, x, s, l, rfl⟩
    exact ⟨some (.int i), true, some [.int a, .int b], x, s, l, rfl⟩
end
end K18

set_option Elab.async false
set_option linter.all false
set_option maxRecDepth 100000
set_option maxHeartbeats 0
namespace K18
open PySem PySem.Spec PyProof.Rows L2 Z

theorem kit_self {K : PySem.W.Frag} {C : Addr} : PySem.W.kitOne K (.ref C) (.ref C) = some true := by
  unfold PySem.W.kitOne
  rw [if_pos (beq_self_eq_true _)]
theorem all_mk {l : PySem.W.OpenLaw} {w : World} {K : PySem.W.Frag} {h : Heap} {mg : Str → Option Value} {fa C : Addr} (X : K.In h) (G : h.Ns mainGlobals mg) (hfa : mg "law" = some (.ref fa)) {tk1 tk2 : Tok}
    {f0 : Addr} {od0 an0 : Option Addr} {sl0 : Array (Option Value)} {oc0 kV0 dc0 pm0 cd0 ct0 : Value}
    {f1 : Addr} {od1 an1 : Option Addr} {sl1 : Array (Option Value)} {oc1 kV1 dc1 pm1 cd1 ct1 : Value}
    {f2 : Addr} {od2 an2 : Option Addr} {sl2 : Array (Option Value)} {oc2 kV2 dc2 pm2 cd2 ct2 : Value}
    {f3 : Addr} {od3 an3 : Option Addr} {sl3 : Array (Option Value)} {oc3 kV3 dc3 pm3 cd3 ct3 : Value}
    {f4 : Addr} {od4 an4 : Option Addr} {sl4 : Array (Option Value)} {oc4 kV4 dc4 pm4 cd4 ct4 : Value}
    {f5 : Addr} {od5 an5 : Option Addr} {sl5 : Array (Option Value)} {oc5 kV5 dc5 pm5 cd5 ct5 : Value}
    {f6 : Addr} {od6 an6 : Option Addr} {sl6 : Array (Option Value)} {oc6 kV6 dc6 pm6 cd6 ct6 : Value}
    {f7 : Addr} {od7 an7 : Option Addr} {sl7 : Array (Option Value)} {oc7 kV7 dc7 pm7 cd7 ct7 : Value}
    {f8 : Addr} {od8 an8 : Option Addr} {sl8 : Array (Option Value)} {oc8 kV8 dc8 pm8 cd8 ct8 : Value}
    {f9 : Addr} {od9 an9 : Option Addr} {sl9 : Array (Option Value)} {oc9 kV9 dc9 pm9 cd9 ct9 : Value}
    {f10 : Addr} {od10 an10 : Option Addr} {sl10 : Array (Option Value)} {oc10 kV10 dc10 pm10 cd10 ct10 : Value}
    {f11 : Addr} {od11 an11 : Option Addr} {sl11 : Array (Option Value)} {oc11 kV11 dc11 pm11 cd11 ct11 : Value}
    {f12 : Addr} {od12 an12 : Option Addr} {sl12 : Array (Option Value)} {oc12 kV12 dc12 pm12 cd12 ct12 : Value}
    {f13 : Addr} {od13 an13 : Option Addr} {sl13 : Array (Option Value)} {oc13 kV13 dc13 pm13 cd13 ct13 : Value}
    (aC : PySem.W.nsIn K mainGlobals "Contract" = some (some (.ref C)))
    (a0 : PySem.W.nsIn K mainGlobals "is_integer" = some (some (.ref f0)))
    (l0 : K.lookup f0 = some ⟨oc0, od0, .func (PySem.W.fnOf "is_integer" "is_integer" (defArgs s_is_integer) (defBody s_is_integer) (defScope s_is_integer) .none kV0 dc0 pm0 an0 cd0 ct0), sl0⟩) (c0 : PySem.W.codeIn K cd0 "is_integer" = true) (k0 : PySem.W.keepIn K (.ref f0) = true)
    (a1 : PySem.W.nsIn K mainGlobals "is_range" = some (some (.ref f1)))
    (l1 : K.lookup f1 = some ⟨oc1, od1, .func (PySem.W.fnOf "is_range" "is_range" (defArgs s_is_range) (defBody s_is_range) (defScope s_is_range) .none kV1 dc1 pm1 an1 cd1 ct1), sl1⟩) (c1 : PySem.W.codeIn K cd1 "is_range" = true) (k1 : PySem.W.keepIn K (.ref f1) = true)
    (a2 : PySem.W.nsIn K mainGlobals "is_reply" = some (some (.ref f2)))
    (l2 : K.lookup f2 = some ⟨oc2, od2, .func (PySem.W.fnOf "is_reply" "is_reply" (defArgs s_is_reply) (defBody s_is_reply) (defScope s_is_reply) .none kV2 dc2 pm2 an2 cd2 ct2), sl2⟩) (c2 : PySem.W.codeIn K cd2 "is_reply" = true) (k2 : PySem.W.keepIn K (.ref f2) = true)
    (a3 : PySem.W.nsIn K mainGlobals "is_contract_range" = some (some (.ref f3)))
    (l3 : K.lookup f3 = some ⟨oc3, od3, .func (PySem.W.fnOf "is_contract_range" "is_contract_range" (defArgs s_is_contract_range) (defBody s_is_contract_range) (defScope s_is_contract_range) .none kV3 dc3 pm3 an3 cd3 ct3), sl3⟩) (c3 : PySem.W.codeIn K cd3 "is_contract_range" = true) (k3 : PySem.W.keepIn K (.ref f3) = true)
    (a4 : PySem.W.findIn K (.ref C) "__init__" = some (some (.ref f4))) (i4 : PySem.W.isFn K (.ref f4) = true)
    (l4 : K.lookup f4 = some ⟨oc4, od4, .func (PySem.W.fnOf "__init__" "Contract.__init__" (defArgs s_Contract_u_init) (defBody s_Contract_u_init) (defScope s_Contract_u_init) .none kV4 dc4 pm4 an4 cd4 ct4), sl4⟩) (c4 : PySem.W.codeIn K cd4 "Contract.__init__" = true) (k4 : PySem.W.keepIn K (.ref f4) = true)
    (a5 : PySem.W.findIn K (.ref C) "__eq__" = some (some (.ref f5))) (i5 : PySem.W.isFn K (.ref f5) = true)
    (l5 : K.lookup f5 = some ⟨oc5, od5, .func (PySem.W.fnOf "__eq__" "Contract.__eq__" (defArgs s_Contract_u_eq) (defBody s_Contract_u_eq) (defScope s_Contract_u_eq) .none kV5 dc5 pm5 an5 cd5 ct5), sl5⟩) (c5 : PySem.W.codeIn K cd5 "Contract.__eq__" = true) (k5 : PySem.W.keepIn K (.ref f5) = true)
    (a6 : PySem.W.findIn K (.ref C) "allows" = some (some (.ref f6))) (i6 : PySem.W.isFn K (.ref f6) = true)
    (l6 : K.lookup f6 = some ⟨oc6, od6, .func (PySem.W.fnOf "allows" "Contract.allows" (defArgs s_Contract_allows) (defBody s_Contract_allows) (defScope s_Contract_allows) .none kV6 dc6 pm6 an6 cd6 ct6), sl6⟩) (c6 : PySem.W.codeIn K cd6 "Contract.allows" = true) (k6 : PySem.W.keepIn K (.ref f6) = true)
    (a7 : PySem.W.nsIn K mainGlobals "_law_feed" = some (some (.ref f7)))
    (l7 : K.lookup f7 = some ⟨oc7, od7, .func (PySem.W.fnOf "_law_feed" "_law_feed" (defArgs s_law_feed) (defBody s_law_feed) (defScope s_law_feed) .none kV7 dc7 pm7 an7 cd7 ct7), sl7⟩) (c7 : PySem.W.codeIn K cd7 "_law_feed" = true) (k7 : PySem.W.keepIn K (.ref f7) = true)
    (a8 : PySem.W.nsIn K mainGlobals "_law_take" = some (some (.ref f8)))
    (l8 : K.lookup f8 = some ⟨oc8, od8, .func (PySem.W.fnOf "_law_take" "_law_take" (defArgs s_law_take) (defBody s_law_take) (defScope s_law_take) .none kV8 dc8 pm8 an8 cd8 ct8), sl8⟩) (c8 : PySem.W.codeIn K cd8 "_law_take" = true) (k8 : PySem.W.keepIn K (.ref f8) = true)
    (a9 : PySem.W.nsIn K mainGlobals "_law_pick" = some (some (.ref f9)))
    (l9 : K.lookup f9 = some ⟨oc9, od9, .func (PySem.W.fnOf "_law_pick" "_law_pick" (defArgs s_law_pick) (defBody s_law_pick) (defScope s_law_pick) .none kV9 dc9 pm9 an9 cd9 ct9), sl9⟩) (c9 : PySem.W.codeIn K cd9 "_law_pick" = true) (k9 : PySem.W.keepIn K (.ref f9) = true)
    (a10 : PySem.W.nsIn K mainGlobals "_law_contract" = some (some (.ref f10)))
    (l10 : K.lookup f10 = some ⟨oc10, od10, .func (PySem.W.fnOf "_law_contract" "_law_contract" (defArgs s_law_contract) (defBody s_law_contract) (defScope s_law_contract) .none kV10 dc10 pm10 an10 cd10 ct10), sl10⟩) (c10 : PySem.W.codeIn K cd10 "_law_contract" = true) (k10 : PySem.W.keepIn K (.ref f10) = true)
    (a11 : PySem.W.nsIn K mainGlobals "_law_made" = some (some (.ref f11)))
    (l11 : K.lookup f11 = some ⟨oc11, od11, .func (PySem.W.fnOf "_law_made" "_law_made" (defArgs s_law_made) (defBody s_law_made) (defScope s_law_made) .none kV11 dc11 pm11 an11 cd11 ct11), sl11⟩) (c11 : PySem.W.codeIn K cd11 "_law_made" = true) (k11 : PySem.W.keepIn K (.ref f11) = true)
    (a12 : PySem.W.nsIn K mainGlobals "_law_near" = some (some (.ref f12)))
    (l12 : K.lookup f12 = some ⟨oc12, od12, .func (PySem.W.fnOf "_law_near" "_law_near" (defArgs s_law_near) (defBody s_law_near) (defScope s_law_near) .none kV12 dc12 pm12 an12 cd12 ct12), sl12⟩) (c12 : PySem.W.codeIn K cd12 "_law_near" = true) (k12 : PySem.W.keepIn K (.ref f12) = true)
    (a13 : PySem.W.nsIn K mainGlobals "law" = some (some (.ref f13)))
    (l13 : K.lookup f13 = some ⟨oc13, od13, .func (PySem.W.fnOf "law" "law" (defArgs s_law) (defBody s_law) (defScope s_law) .none kV13 dc13 pm13 an13 cd13 ct13), sl13⟩) (c13 : PySem.W.codeIn K cd13 "law" = true) (k13 : PySem.W.keepIn K (.ref f13) = true)
    (pg : PySem.W.plainGet K C Str.empty = true)
    (hd : PySem.W.hasDictIn K C = true)
    (po : PySem.W.plainOver K C = true)
    (sa : PySem.W.findIn K (.ref C) "__setattr__" = some (some (.builtin "object.__setattr__")))
    (mk : PySem.W.makesIn K C = true)
    (kc : PySem.W.keepIn K (.ref C) = true)
    (n1 : PySem.W.findIn K (.ref C) "ok" = some none)
    (n2 : PySem.W.findIn K (.ref C) "fail" = some none)
    (n3 : PySem.W.findIn K (.ref C) "hang" = some none)
    (e1 : PySem.W.findIn K (.ref C) "__class__" = some (some (.builtin "object.__class__")))
    (e2 : PySem.W.specialIn K (.builtin "object.__class__") "__get__" = some (some (.builtin "getset_descriptor.__get__")))
    (e3 : PySem.W.takesIn K (.builtin "object.__class__") = some true)
    (e4 : PySem.W.mroIn K C (.type "object") = some true)
    (t1 : PySem.W.nsIn K mainGlobals "FIRST_TIME" = some (some (.int 1 tk1)))
    (t2 : PySem.W.nsIn K mainGlobals "LAST_TIME" = some (some (.int 1000000 tk2)))
    (z_isinstance : PySem.W.nsIn K mainGlobals "isinstance" = some none)
    (z_len : PySem.W.nsIn K mainGlobals "len" = some none)
    (z_int : PySem.W.nsIn K mainGlobals "int" = some none)
    (z_bool : PySem.W.nsIn K mainGlobals "bool" = some none)
    (z_tuple : PySem.W.nsIn K mainGlobals "tuple" = some none)
    (z_list : PySem.W.nsIn K mainGlobals "list" = some none)
    (z_max : PySem.W.nsIn K mainGlobals "max" = some none)
    (z_min : PySem.W.nsIn K mainGlobals "min" = some none)
    (z_abs : PySem.W.nsIn K mainGlobals "abs" = some none)
    (z_range : PySem.W.nsIn K mainGlobals "range" = some none)
    : ∃ fd : FuncData, (∀ (s : Shared) (v : Value), BindsTo s fd ⟨[v], []⟩ [("script", v)]) ∧ ∀ base : Heap, K.In base → base.Ns mainGlobals mg → FnOk l.prog w K mg base CX0 7 fa fd ["script"] (spZ K gLaw) := by
  have e := hfa.symm.trans (PySem.W.mg_of X G a13)
  cases e
  have cl : Cls K C := ⟨pg, hd, po, sa⟩
  have T : Txt K mg C := ⟨cl, ⟨cl, e1, e2, e3, e4, kit_self⟩, n1, n2, n3, PySem.W.mg_of X G aC, ⟨tk1, PySem.W.mg_of X G t1⟩, ⟨tk2, PySem.W.mg_of X G t2⟩, PySem.W.mg_none_of X G z_isinstance, PySem.W.mg_none_of X G z_len, PySem.W.mg_none_of X G z_int, PySem.W.mg_none_of X G z_bool, PySem.W.mg_none_of X G z_tuple, PySem.W.mg_none_of X G z_list, PySem.W.mg_none_of X G z_max, PySem.W.mg_none_of X G z_min, PySem.W.mg_none_of X G z_abs, PySem.W.mg_none_of X G z_range⟩
  have F0 := fun_mk (st := s_is_integer) l0 c0 k0
  have b0 := F0.binds (ps := ["value"]) fun _ _ _ _ _ _ us hl => match us, hl with | [_], _ => rfl
  have F1 := fun_mk (st := s_is_range) l1 c1 k1
  have b1 := F1.binds (ps := ["value", "least"]) fun _ _ _ _ _ _ us hl => match us, hl with | [_, _], _ => rfl
  have F2 := fun_mk (st := s_is_reply) l2 c2 k2
  have b2 := F2.binds (ps := ["value"]) fun _ _ _ _ _ _ us hl => match us, hl with | [_], _ => rfl
  have F3 := fun_mk (st := s_is_contract_range) l3 c3 k3
  have b3 := F3.binds (ps := ["value"]) fun _ _ _ _ _ _ us hl => match us, hl with | [_], _ => rfl
  have F4 := fun_mk (st := s_Contract_u_init) l4 c4 k4
  have F5 := fun_mk (st := s_Contract_u_eq) l5 c5 k5
  have b5 := F5.binds (ps := ["self", "other"]) fun _ _ _ _ _ _ us hl => match us, hl with | [_, _], _ => rfl
  have F6 := fun_mk (st := s_Contract_allows) l6 c6 k6
  have b6 := F6.binds (ps := ["self", "reply"]) fun _ _ _ _ _ _ us hl => match us, hl with | [_, _], _ => rfl
  have F7 := fun_mk (st := s_law_feed) l7 c7 k7
  have b7 := F7.binds (ps := ["script", "k"]) fun _ _ _ _ _ _ us hl => match us, hl with | [_, _], _ => rfl
  have F8 := fun_mk (st := s_law_take) l8 c8 k8
  have b8 := F8.binds (ps := ["feed", "size"]) fun _ _ _ _ _ _ us hl => match us, hl with | [_, _], _ => rfl
  have F9 := fun_mk (st := s_law_pick) l9 c9 k9
  have b9 := F9.binds (ps := ["feed", "choices"]) fun _ _ _ _ _ _ us hl => match us, hl with | [_, _], _ => rfl
  have F10 := fun_mk (st := s_law_contract) l10 c10 k10
  have b10 := F10.binds (ps := ["feed", "great"]) fun _ _ _ _ _ _ us hl => match us, hl with | [_, _], _ => rfl
  have F11 := fun_mk (st := s_law_made) l11 c11 k11
  have b11 := F11.binds (ps := ["contract"]) fun _ _ _ _ _ _ us hl => match us, hl with | [_], _ => rfl
  have F12 := fun_mk (st := s_law_near) l12 c12 k12
  have b12 := F12.binds (ps := ["feed", "contract"]) fun _ _ _ _ _ _ us hl => match us, hl with | [_, _], _ => rfl
  have F13 := fun_mk (st := s_law) l13 c13 k13
  refine ⟨PySem.W.fnOf "law" "law" (defArgs s_law) (defBody s_law) (defScope s_law) .none kV13 dc13 pm13 an13 cd13 ct13, fun s v => .of_eq rfl, fun base _ _ => ?_⟩
  have f_int : FnT l.prog w K mg base 1 "is_integer" gIsInt := ⟨_, _, ["value"], fnz (P := l.prog) (w := w) (mg := mg) (base := base) (k := 0) (g := gIsInt) 0 F0 sc_is_integer (by rintro _ _ _ _ ⟨_, _, rfl, _⟩; rfl) fun cdv A outer s H E hr => ⟨_, d_is_integer C T hr, w_is_integer⟩, PySem.W.mg_of X G a0, k0, b0⟩
  have f_range : FnT l.prog w K mg base 2 "is_range" gIsRange := ⟨_, _, ["value", "least"], fnz (P := l.prog) (w := w) (mg := mg) (base := base) (k := 1) (g := gIsRange) 0 F1 sc_is_range (by rintro _ _ _ _ ⟨_, _, _, rfl, _⟩; rfl) fun cdv A outer s H E hr => ⟨_, d_is_range C T f_int hr, w_is_range⟩, PySem.W.mg_of X G a1, k1, b1⟩
  have f_reply : FnT l.prog w K mg base 2 "is_reply" gIsReply := ⟨_, _, ["value"], fnz (P := l.prog) (w := w) (mg := mg) (base := base) (k := 1) (g := gIsReply) 0 F2 sc_is_reply (by rintro _ _ _ _ ⟨_, rfl, _⟩; rfl) fun cdv A outer s H E hr => ⟨_, d_is_reply C T f_int hr, w_is_reply⟩, PySem.W.mg_of X G a2, k2, b2⟩
  have f_cr : FnT l.prog w K mg base 3 "is_contract_range" gIsCR := ⟨_, _, ["value"], fnz (P := l.prog) (w := w) (mg := mg) (base := base) (k := 2) (g := gIsCR) 0 F3 sc_is_contract_range (by rintro _ _ _ _ ⟨_, rfl, _⟩; rfl) fun cdv A outer s H E hr => ⟨_, d_is_contract_range C T f_range hr, w_is_contract_range⟩, PySem.W.mg_of X G a3, k3, b3⟩
  have kb : KBn K (PySem.W.fnOf "__init__" "Contract.__init__" (defArgs s_Contract_u_init) (defBody s_Contract_u_init) (defScope s_Contract_u_init) .none kV4 dc4 pm4 an4 cd4 ct4) ["self", "ok", "fail", "hang"] 1 ["ok", "fail", "hang"] (fun us ws => us ++ ws) (fun vs zs => vs ++ zs) := ⟨fun s us ws _ q1 q2 => match us, ws, q1, q2 with | [_], [_, _, _], _, _ => .of_eq rfl, fun r1 r2 => r1.append r2⟩
  have mk_Contract : MkKT l.prog w K mg base 4 "Contract" C ["ok", "fail", "hang"] (gInit C) := ⟨_, _, ["self", "ok", "fail", "hang"], _, ⟨mk, a4, i4, kc⟩, (fnz (P := l.prog) (w := w) (mg := mg) (base := base) (k := 3) (g := (gInit C)) 0 F4 sc_Contract_u_init (by rintro _ _ _ _ ⟨_, rfl, _⟩; rfl) fun cdv A outer s H E hr => ⟨_, d_Contract_u_init C T f_cr hr, w_init⟩), PySem.W.mg_of X G aC, kb⟩
  have m_eq : OwnT l.prog w K mg base 1 C "__eq__" (gEqC C) := ⟨_, _, ["self", "other"], a5, i5, (fnz (P := l.prog) (w := w) (mg := mg) (base := base) (k := 0) (g := (gEqC C)) 0 F5 sc_Contract_u_eq (by rintro _ _ _ _ ⟨_, _, rfl, _⟩; rfl) fun cdv A outer s H E hr => ⟨_, d_Contract_u_eq C T hr, w_eq⟩), b5⟩
  have m_allows : MthT l.prog w K mg base 3 C "allows" (gAllows C) := ⟨_, _, ["self", "reply"], cl, ⟨a6, i6, k6⟩, (fnz (P := l.prog) (w := w) (mg := mg) (base := base) (k := 2) (g := (gAllows C)) 0 F6 sc_Contract_allows (by rintro _ _ _ _ ⟨_, _, rfl, _⟩; rfl) fun cdv A outer s H E hr => ⟨_, d_Contract_allows C T f_reply hr, w_allows⟩), b6⟩
  have f_feed : FnT l.prog w K mg base 1 "_law_feed" gFeed := ⟨_, _, ["script", "k"], fnz (P := l.prog) (w := w) (mg := mg) (base := base) (k := 0) (g := gFeed) 0 F7 sc_law_feed (by rintro _ _ _ _ ⟨_, _, rfl, _⟩; rfl) fun cdv A outer s H E hr => ⟨_, d_law_feed C T hr, w_feed⟩, PySem.W.mg_of X G a7, k7, b7⟩
  have f_take : FnT l.prog w K mg base 1 "_law_take" gTake := ⟨_, _, ["feed", "size"], fnz (P := l.prog) (w := w) (mg := mg) (base := base) (k := 0) (g := gTake) 0 F8 sc_law_take (by rintro _ _ _ _ ⟨_, _, _, rfl, _⟩; rfl) fun cdv A outer s H E hr => ⟨_, d_law_take C T hr, w_take⟩, PySem.W.mg_of X G a8, k8, b8⟩
  have f_pick : FnT l.prog w K mg base 2 "_law_pick" gPick := ⟨_, _, ["feed", "choices"], fnz (P := l.prog) (w := w) (mg := mg) (base := base) (k := 1) (g := gPick) 0 F9 sc_law_pick (by rintro _ _ _ _ ⟨_, _, _, rfl, _⟩; rfl) fun cdv A outer s H E hr => ⟨_, d_law_pick C T f_take hr, w_pick⟩, PySem.W.mg_of X G a9, k9, b9⟩
  have f_contract : FnT l.prog w K mg base 3 "_law_contract" gContract := ⟨_, _, ["feed", "great"], fnz (P := l.prog) (w := w) (mg := mg) (base := base) (k := 2) (g := gContract) 1 F10 sc_law_contract (by rintro _ _ _ _ ⟨_, _, rfl, _⟩; rfl) fun cdv A outer s H E hr => ⟨_, d_law_contract C T f_take f_pick hr, w_contract⟩, PySem.W.mg_of X G a10, k10, b10⟩
  have f_made : FnT l.prog w K mg base 6 "_law_made" (gMade C) := ⟨_, _, ["contract"], fnz (P := l.prog) (w := w) (mg := mg) (base := base) (k := 5) (g := (gMade C)) 0 F11 sc_law_made (by rintro _ _ _ _ ⟨_, rfl, _⟩; rfl) fun cdv A outer s H E hr => ⟨_, d_law_made C T mk_Contract hr, w_made⟩, PySem.W.mg_of X G a11, k11, b11⟩
  have f_near : FnT l.prog w K mg base 2 "_law_near" gNear := ⟨_, _, ["feed", "contract"], fnz (P := l.prog) (w := w) (mg := mg) (base := base) (k := 1) (g := gNear) 0 F12 sc_law_near (by rintro _ _ _ _ ⟨_, _, _, rfl, _⟩; rfl) fun cdv A outer s H E hr => ⟨_, d_law_near C T f_take hr, w_near⟩, PySem.W.mg_of X G a12, k12, b12⟩
  exact fnz (P := l.prog) (w := w) (mg := mg) (base := base) (k := 6) (g := gLaw) 2 F13 sc_law (by rintro _ _ _ _ ⟨_, rfl, _⟩; rfl) fun cdv A outer s H E hr => ⟨_, d_law C T f_feed f_take f_contract f_made f_near mk_Contract m_allows m_eq hr, w_law⟩
theorem sp_law {K : PySem.W.Frag} {H : Hp} {a : Addr} {ns : List Int} {E : XK} (hl : ns.length ≤ 63) (hS : SqL K H a (ns.map V.int)) : spZ K gLaw [.ref a] H (fun v _ => v = .bl true) E := by
  refine ⟨H, fun _ => 0, [.val (.scr ns)], [], fun r _ => r = .val (.bl true), fun _ _ => False, ⟨Sub.refl H, ⟨.ref a, [], rfl, ⟨a, rfl, hS⟩, rfl⟩, fun n c e => by simp at e, fun n m h => absurd h (Nat.not_lt_zero n)⟩, ⟨ns, rfl, rfl, hl, rfl⟩, ?_, fun _ _ _ _ z _ => z.elim⟩
  rintro r cs' F' H' v rfl _ hr
  exact hr
theorem walk {l : PySem.W.OpenLaw} {q : Program} {loose : List Str} {XP : (Str → Option Value) → Heap → Prop} {YP : World → Heap → Prop} {d : DefRec} {K : Params → PySem.W.Frag} (hn : l.most = some 63) (hdf : d.params.defaults = [])
    (hY : ∀ (w : World) (h : Heap), YP w h → (K w.params).In h)
    (F : ∀ (w : World) (mg : Str → Option Value) (fa : Addr) (h : Heap), (K w.params).In h → h.Ns mainGlobals mg → mg d.name = some (.ref fa) →
      ∃ fd : FuncData, (∀ (s : Shared) (u : Value), BindsTo s fd ⟨[u], []⟩ [("script", u)]) ∧ ∀ base : Heap, (K w.params).In base → base.Ns mainGlobals mg → FnOk l.prog w (K w.params) mg base CX0 7 fa fd ["script"] (spZ (K w.params) gLaw)) :
    PySem.W.WalkO q loose XP YP l.row.toRowW d [] (fun f vs => PySem.call f vs) :=
  L2.walk_of (n := 63) (k := 7) (x := "script") (CX := fun _ => CX0) (sp := fun w => spZ (K w.params) gLaw) hn (by decide) hdf ⟨rfl, by decide, by decide⟩ hY F (fun _ _ a ns hl _ hS => sp_law hl hS) fun _ _ _ _ _ z => z
end K18

open PySem PySem.W PyProof.Rows
set_option maxRecDepth 100000 in
set_option maxHeartbeats 0 in
theorem PySem.Challenge.cw_callplans_k18_whole_contracts_are_what_t_holds : PySem.Challenge.rw_callplans_k18_whole_contracts_are_what_t.Holds := by
  w_on; o_law; k_head; (case hw => w_witness2)
  k_fill
  refine K18.walk (l := PySem.Challenge.rw_callplans_k18_whole_contracts_are_what_t) rfl rfl (fun w h Y => PySem.W.kIn_of Y) ?F
  case F =>
    intro w mg fa h KX G hmg
    refine' K18.all_mk KX G hmg ?aC ?a0 ?l0 ?c0 ?k0 ?a1 ?l1 ?c1 ?k1 ?a2 ?l2 ?c2 ?k2 ?a3 ?l3 ?c3 ?k3 ?a4 ?i4 ?l4 ?c4 ?k4 ?a5 ?i5 ?l5 ?c5 ?k5 ?a6 ?i6 ?l6 ?c6 ?k6 ?a7 ?l7 ?c7 ?k7 ?a8 ?l8 ?c8 ?k8 ?a9 ?l9 ?c9 ?k9 ?a10 ?l10 ?c10 ?k10 ?a11 ?l11 ?c11 ?k11 ?a12 ?l12 ?c12 ?k12 ?a13 ?l13 ?c13 ?k13 ?pg ?hd ?po ?sa ?mk ?kc ?n1 ?n2 ?n3 ?e1 ?e2 ?e3 ?e4 ?t1 ?t2 ?z_isinstance ?z_len ?z_int ?z_bool ?z_tuple ?z_list ?z_max ?z_min ?z_abs ?z_range
    (case aC => k_is)
    (case a0 => k_is)
    (case l0 => k_is)
    (case c0 => k_is)
    (case k0 => k_is)
    (case a1 => k_is)
    (case l1 => k_is)
    (case c1 => k_is)
    (case k1 => k_is)
    (case a2 => k_is)
    (case l2 => k_is)
    (case c2 => k_is)
    (case k2 => k_is)
    (case a3 => k_is)
    (case l3 => k_is)
    (case c3 => k_is)
    (case k3 => k_is)
    (case a4 => k_is)
    (case i4 => k_is)
    (case l4 => k_is)
    (case c4 => k_is)
    (case k4 => k_is)
    (case a5 => k_is)
    (case i5 => k_is)
    (case l5 => k_is)
    (case c5 => k_is)
    (case k5 => k_is)
    (case a6 => k_is)
    (case i6 => k_is)
    (case l6 => k_is)
    (case c6 => k_is)
    (case k6 => k_is)
    (case a7 => k_is)
    (case l7 => k_is)
    (case c7 => k_is)
    (case k7 => k_is)
    (case a8 => k_is)
    (case l8 => k_is)
    (case c8 => k_is)
    (case k8 => k_is)
    (case a9 => k_is)
    (case l9 => k_is)
    (case c9 => k_is)
    (case k9 => k_is)
    (case a10 => k_is)
    (case l10 => k_is)
    (case c10 => k_is)
    (case k10 => k_is)
    (case a11 => k_is)
    (case l11 => k_is)
    (case c11 => k_is)
    (case k11 => k_is)
    (case a12 => k_is)
    (case l12 => k_is)
    (case c12 => k_is)
    (case k12 => k_is)
    (case a13 => k_is)
    (case l13 => k_is)
    (case c13 => k_is)
    (case k13 => k_is)
    (case pg => k_is)
    (case hd => k_is)
    (case po => k_is)
    (case sa => k_is)
    (case mk => k_is)
    (case kc => k_is)
    (case n1 => k_is)
    (case n2 => k_is)
    (case n3 => k_is)
    (case e1 => k_is)
    (case e2 => k_is)
    (case e3 => k_is)
    (case e4 => k_is)
    (case t1 => k_is)
    (case t2 => k_is)
    (case z_isinstance => k_is)
    (case z_len => k_is)
    (case z_int => k_is)
    (case z_bool => k_is)
    (case z_tuple => k_is)
    (case z_list => k_is)
    (case z_max => k_is)
    (case z_min => k_is)
    (case z_abs => k_is)
    (case z_range => k_is)
