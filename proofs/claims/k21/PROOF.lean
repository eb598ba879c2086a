import PyProof.Rows.All
import Wide.All
import OpenK.AllK
import Wide.FinOn
import HandS.ForExc
import HandS.Comp
import HandS.IsInst
import HandS.Property
import HandS.Strs
import HandS.TupSets
import HandS.SetFor
import HandS.ExcInit
import HandS.ExcField
import HandS.Flow
import HandS.Text
import HandS.Iter
import HandS.Wide
import KE.GoesEnum
import KE.GoesMore
import HandS.TupAny
import HandS.FStr
import HandS.FStrTup
import HandS.Conv
import HandS.TryMany
import HandS.ExcOwn
import HandS.TupMul
import HandS.SetBool
import HandS.WideBits
import HandS.SortKw
import PyProof.TupleOfSeq
import PyProof.CollectStr
import HandS.StrMore
import PyProof.ListStr
import KE.GoesZip
import HandS.RepeatKit
import KE.DataMinMax
import KE.SortData
import HandS.Deep
import HandS.TupLe
import HandS.Defaults
import PySem.Challenge.RW_daycubes_k21_whole_papers
set_option Elab.async false
set_option linter.all false
set_option maxRecDepth 100000
set_option maxHeartbeats 4000000
/-! A layer of data over the hand layer: an expression's reading without the heap. -/
namespace L3
open PySem PySem.Spec PyProof.Rows L2

/-- data: values with what stands behind their addresses; rnd: the law's own source of draws -/
inductive D where
  | non | bl (b : Bool) | int (i : Int) | str (x : Str) | lst (ds : List D) | tup (ds : List D) | dic | rnd
  | obj (C : Addr) (ns : List Str) (ds : List D)
  | adr (a : Addr)
  | exc (C : Addr) (ns : List Str) (ds : List D)

/-- a source of draws: a seed and what is left of the great numbers -/
def Rnd (ns : List Int) : Prop := ∃ a b l, ns = a :: b :: l ∧ 0 ≤ a ∧ a < 2147483647 ∧ 0 ≤ b ∧ ∀ x ∈ l, 0 ≤ x
def RndOk (r : Addr) (H : Hp) : Prop := ∃ ns : List Int, H r = some (.lst (ns.map V.int)) ∧ Rnd ns ∧ ns.length ≤ 65

section
variable (K : PySem.W.Frag) (r : Addr) (A : Addr → Prop) (H : Hp)
mutual
/-- v stands for d; nothing that A bars is met -/
inductive DR : V → D → Prop
  | non : DR .non .non
  | bl (b : Bool) : DR (.bl b) (.bl b)
  | int (i : Int) : DR (.int i) (.int i)
  | str (x : Str) : DR (.str x) (.str x)
  | rnd : DR (.ref r) .rnd
  | adr (a : Addr) : DR (.ref a) (.adr a)
  | exc0 {a C : Addr} : ¬ A a → H a = some (exo a C none) → DR (.ref a) (.exc C [] [])
  | exc1 {a C dx : Addr} {f : Str} {v : V} {d : D} : ¬ A a → H a = some (exo a C (some dx)) → ¬ A dx → H dx = some (exd dx [(f, v)]) → DR v d → DR (.ref a) (.exc C [f] [d])
  | lst {a : Addr} {xs : List V} {ds : List D} : ¬ A a → H a = some (.lst xs) → xs.length ≤ sizeLine → DRs xs ds → DR (.ref a) (.lst ds)
  | tup {a : Addr} {xs : List V} {ds : List D} : ¬ A a → H a = some (.tup xs) → xs.length ≤ sizeLine → DRs xs ds → DR (.ref a) (.tup ds)
  | ktup {a : Addr} {xs : List V} {ds : List D} (o : Obj) (its : Array Value) (n : Nat) : K.lookup a = some o → o.cls = .type "tuple" → o.data = .seq its n → its.size ≤ sizeLine → Vals xs its.toList → DRs xs ds → DR (.ref a) (.tup ds)
  | dic {a : Addr} {kvs : List (Key × V)} : ¬ A a → H a = some (.dK kvs) → DR (.ref a) .dic
  | obj {a C dx : Addr} {ns : List Str} {xs : List V} {ds : List D} : ¬ A a → H a = some (.ins C dx (ns.zip xs)) → ns.length = xs.length → DRs xs ds → DR (.ref a) (.obj C ns ds)
inductive DRs : List V → List D → Prop
  | nil : DRs [] []
  | cons {v : V} {vs : List V} {d : D} {ds : List D} : DR v d → DRs vs ds → DRs (v :: vs) (d :: ds)
end
end
/-- all but the source stands as before -/
def Ext (r : Addr) (H H' : Hp) : Prop := ∀ b o, b ≠ r → H b = some o → H' b = some o
theorem Ext.refl {r : Addr} {H : Hp} : Ext r H H := fun _ _ _ h => h
theorem Ext.trans {r : Addr} {H H1 H2 : Hp} (a : Ext r H H1) (b : Ext r H1 H2) : Ext r H H2 := fun c o n h => b c o n (a c o n h)
theorem Ext.upd {r : Addr} {H : Hp} {p : Addr} {o : HO} (n : H p = none) : Ext r H (upd H p o) := fun b u _ h => by
  rw [upd_ne (ne_of_none h n)]; exact h
/-- all that A does not bar stands as before -/
def ExtA (A : Addr → Prop) (H H' : Hp) : Prop := ∀ b o, ¬ A b → H b = some o → H' b = some o
theorem Ext.toA {r : Addr} {A : Addr → Prop} {H H' : Hp} (e : Ext r H H') (ar : A r) : ExtA A H H' := fun b o n h => e b o (fun z => n (z ▸ ar)) h
theorem ExtA.refl {A : Addr → Prop} {H : Hp} : ExtA A H H := fun _ _ _ h => h
theorem ExtA.trans {A : Addr → Prop} {H H1 H2 : Hp} (a : ExtA A H H1) (b : ExtA A H1 H2) : ExtA A H H2 := fun c o n h => b c o n (a c o n h)

section
variable {K : PySem.W.Frag} {r : Addr} {A A' : Addr → Prop} {H H' : Hp}
mutual
theorem DR.ext (e : ExtA A H H') : ∀ {v : V} {d : D}, DR K r A H v d → DR K r A H' v d
  | _, _, .non => .non
  | _, _, .bl b => .bl b
  | _, _, .int b => .int b
  | _, _, .str b => .str b
  | _, _, .rnd => .rnd
  | _, _, .adr a => .adr a
  | _, _, .exc0 n h => .exc0 n (e _ _ n h)
  | _, _, .exc1 n h m k t => .exc1 n (e _ _ n h) m (e _ _ m k) (DR.ext e t)
  | _, _, .lst n h z t => .lst n (e _ _ n h) z (DRs.ext e t)
  | _, _, .tup n h z t => .tup n (e _ _ n h) z (DRs.ext e t)
  | _, _, .ktup o its n h c d z w t => .ktup o its n h c d z w (DRs.ext e t)
  | _, _, .dic n h => .dic n (e _ _ n h)
  | _, _, .obj n h l t => .obj n (e _ _ n h) l (DRs.ext e t)
theorem DRs.ext (e : ExtA A H H') : ∀ {v : List V} {d : List D}, DRs K r A H v d → DRs K r A H' v d
  | _, _, .nil => .nil
  | _, _, .cons a b => .cons (DR.ext e a) (DRs.ext e b)
end
mutual
/-- what is new may be barred too; what was barred may be let -/
theorem DR.bar (e : ∀ b o, A' b → H b = some o → A b) : ∀ {v : V} {d : D}, DR K r A H v d → DR K r A' H v d
  | _, _, .non => .non
  | _, _, .bl b => .bl b
  | _, _, .int b => .int b
  | _, _, .str b => .str b
  | _, _, .rnd => .rnd
  | _, _, .adr a => .adr a
  | _, _, .exc0 n h => .exc0 (fun q => n (e _ _ q h)) h
  | _, _, .exc1 n h m k t => .exc1 (fun q => n (e _ _ q h)) h (fun q => m (e _ _ q k)) k (DR.bar e t)
  | _, _, .lst n h z t => .lst (fun q => n (e _ _ q h)) h z (DRs.bar e t)
  | _, _, .tup n h z t => .tup (fun q => n (e _ _ q h)) h z (DRs.bar e t)
  | _, _, .ktup o its n h c d z w t => .ktup o its n h c d z w (DRs.bar e t)
  | _, _, .dic n h => .dic (fun q => n (e _ _ q h)) h
  | _, _, .obj n h l t => .obj (fun q => n (e _ _ q h)) h l (DRs.bar e t)
theorem DRs.bar (e : ∀ b o, A' b → H b = some o → A b) : ∀ {v : List V} {d : List D}, DRs K r A H v d → DRs K r A' H v d
  | _, _, .nil => .nil
  | _, _, .cons a b => .cons (DR.bar e a) (DRs.bar e b)
end
mutual
/-- what stands through a loop's turns -/
theorem DR.move (e : ExtA A H H') (w : ∀ b o, A' b → H b = some o → A b) : ∀ {v : V} {d : D}, DR K r A H v d → DR K r A' H' v d
  | _, _, .non => .non
  | _, _, .bl b => .bl b
  | _, _, .int b => .int b
  | _, _, .str b => .str b
  | _, _, .rnd => .rnd
  | _, _, .adr a => .adr a
  | _, _, .exc0 n h => .exc0 (fun q => n (w _ _ q h)) (e _ _ n h)
  | _, _, .exc1 n h m k t => .exc1 (fun q => n (w _ _ q h)) (e _ _ n h) (fun q => m (w _ _ q k)) (e _ _ m k) (DR.move e w t)
  | _, _, .lst n h z t => .lst (fun q => n (w _ _ q h)) (e _ _ n h) z (DRs.move e w t)
  | _, _, .tup n h z t => .tup (fun q => n (w _ _ q h)) (e _ _ n h) z (DRs.move e w t)
  | _, _, .ktup o its n h c d z w' t => .ktup o its n h c d z w' (DRs.move e w t)
  | _, _, .dic n h => .dic (fun q => n (w _ _ q h)) (e _ _ n h)
  | _, _, .obj n h l t => .obj (fun q => n (w _ _ q h)) (e _ _ n h) l (DRs.move e w t)
theorem DRs.move (e : ExtA A H H') (w : ∀ b o, A' b → H b = some o → A b) : ∀ {v : List V} {d : List D}, DRs K r A H v d → DRs K r A' H' v d
  | _, _, .nil => .nil
  | _, _, .cons a b => .cons (DR.move e w a) (DRs.move e w b)
end
theorem DRs.length : ∀ {v : List V} {d : List D}, DRs K r A H v d → v.length = d.length
  | _, _, .nil => rfl
  | _, _, .cons _ b => by simp [DRs.length b]
theorem DRs.get : ∀ {v : List V} {d : List D} {i : Nat} {x : D}, DRs K r A H v d → d[i]? = some x → ∃ u, v[i]? = some u ∧ DR K r A H u x
  | _, _, _, _, .nil, e => by simp at e
  | _, _, 0, _, .cons a _, e => by simp at e; subst e; exact ⟨_, rfl, a⟩
  | _, _, i + 1, _, .cons _ t, e => by
    obtain ⟨u, h1, h2⟩ := DRs.get (i := i) t (by simpa using e)
    exact ⟨u, by simpa using h1, h2⟩
theorem DRs.getV : ∀ {v : List V} {d : List D} {i : Nat} {u : V}, DRs K r A H v d → v[i]? = some u → ∃ x, d[i]? = some x ∧ DR K r A H u x
  | _, _, _, _, .nil, e => by simp at e
  | _, _, 0, _, .cons a _, e => by simp at e; subst e; exact ⟨_, rfl, a⟩
  | _, _, i + 1, _, .cons _ t, e => by
    obtain ⟨u, h1, h2⟩ := DRs.getV (i := i) t (by simpa using e)
    exact ⟨u, by simpa using h1, h2⟩
theorem DRs.append : ∀ {v w : List V} {d e : List D}, DRs K r A H v d → DRs K r A H w e → DRs K r A H (v ++ w) (d ++ e)
  | _, _, _, _, .nil, s => s
  | _, _, _, _, .cons a t, s => .cons a (DRs.append t s)
theorem DRs.ints : ∀ {v : List V} {ns : List Int}, DRs K r A H v (ns.map D.int) → v = ns.map V.int
  | _, [], .nil => rfl
  | _, _ :: _, .cons (.int _) t => by rw [List.map_cons, DRs.ints t]
theorem DRs.bls : ∀ {v : List V} {ns : List Bool}, DRs K r A H v (ns.map D.bl) → v = ns.map V.bl
  | _, [], .nil => rfl
  | _, _ :: _, .cons (.bl _) t => by rw [List.map_cons, DRs.bls t]
theorem DRs.strs : ∀ {v : List V} {ns : List Str}, DRs K r A H v (ns.map D.str) → v = ns.map V.str
  | _, [], .nil => rfl
  | _, _ :: _, .cons (.str _) t => by rw [List.map_cons, DRs.strs t]
theorem DRs.of_ints : ∀ {ns : List Int}, DRs K r A H (ns.map V.int) (ns.map D.int)
  | [] => .nil
  | _ :: _ => .cons (.int _) DRs.of_ints
theorem DRs.of_bls : ∀ {ns : List Bool}, DRs K r A H (ns.map V.bl) (ns.map D.bl)
  | [] => .nil
  | _ :: _ => .cons (.bl _) DRs.of_bls
theorem DR.sqT {v : V} {ds : List D} (h : DR K r A H v (.tup ds)) : ∃ a xs, v = .ref a ∧ SqT K H a xs ∧ xs.length ≤ sizeLine ∧ DRs K r A H xs ds := by
  cases h with
  | tup n e z t => exact ⟨_, _, rfl, SqT.of e, z, t⟩
  | ktup o its n e c d z w t =>
    refine ⟨_, _, rfl, .inr ⟨o, its, n, e, c, d, z, w⟩, ?_, t⟩
    have q := w.length
    simp only [Array.length_toList] at q
    omega
theorem DR.sqL {v : V} {ds : List D} (h : DR K r A H v (.lst ds)) : ∃ a xs, v = .ref a ∧ ¬ A a ∧ H a = some (.lst xs) ∧ xs.length ≤ sizeLine ∧ DRs K r A H xs ds := by
  cases h with
  | lst n e z t => exact ⟨_, _, rfl, n, e, z, t⟩
end

/-! ### the slots -/
inductive Sl where
  | emp | val (d : D) | own (ds : List D)
abbrev Env := List Sl

/-- the slots σ hold δ -/
structure ER (K : PySem.W.Frag) (r : Addr) (A : Addr → Prop) (σ : L2.St) (H : Hp) (δ : Env) : Prop where
  rnd : RndOk r H
  ar : A r
  all : ∀ b, A b → H b ≠ none
  len : δ.length = σ.length
  val : ∀ (i : Nat) d, δ[i]? = some (.val d) → ∃ v, σ[i]? = some (some v) ∧ DR K r A H v d
  own : ∀ (i : Nat) ds, δ[i]? = some (.own ds) → ∃ l xs, σ[i]? = some (some (.ref l)) ∧ A l ∧ l ≠ r ∧ H l = some (.lst xs) ∧ xs.length ≤ sizeLine ∧ DRs K r A H xs ds
  sep : ∀ (i j : Nat) ds es l, i ≠ j → δ[i]? = some (.own ds) → δ[j]? = some (.own es) → σ[i]? = some (some (.ref l)) → σ[j]? = some (some (.ref l)) → False
section
variable {K : PySem.W.Frag} {r : Addr} {A A' : Addr → Prop} {σ : L2.St} {H H' : Hp} {δ : Env}
theorem ER.ext (h : ER K r A σ H δ) (e : Ext r H H') (rn : RndOk r H') : ER K r A σ H' δ where
  rnd := rn
  ar := h.ar
  all := fun b hb z => by
    cases q : H b with
    | none => exact h.all b hb q
    | some o =>
      by_cases hr : b = r
      · obtain ⟨ns, e1, _⟩ := rn
        rw [hr, e1] at z; cases z
      · rw [e b o hr q] at z; cases z
  len := h.len
  val := fun i d q => by
    obtain ⟨v, e1, e2⟩ := h.val i d q
    exact ⟨v, e1, e2.ext (e.toA h.ar)⟩
  own := fun i ds q => by
    obtain ⟨l, xs, e1, e2, e3, e4, e5, e6⟩ := h.own i ds q
    exact ⟨l, xs, e1, e2, e3, e _ _ e3 e4, e5, e6.ext (e.toA h.ar)⟩
  sep := h.sep
theorem ER.free (h : ER K r A σ H δ) {p : Addr} (n : H p = none) : ¬ A p := fun q => h.all p q n
/-- a slot gets a value -/
theorem ER.set (h : ER K r A σ H δ) {i : Nat} {v : V} {d : D} (hd : DR K r A H v d) : ER K r A (σ.set i (some v)) H (δ.set i (.val d)) where
  rnd := h.rnd
  ar := h.ar
  all := h.all
  len := by rw [List.length_set, List.length_set]; exact h.len
  val := fun j e q => by
    by_cases hj : i = j
    · subst hj
      by_cases hl : i < δ.length
      · rw [List.getElem?_set_self hl] at q
        cases q
        exact ⟨v, List.getElem?_set_self (by rw [← h.len]; exact hl), hd⟩
      · rw [List.getElem?_eq_none (by rw [List.length_set]; omega)] at q; cases q
    · rw [List.getElem?_set_ne hj] at q
      rw [List.getElem?_set_ne hj]
      exact h.val j e q
  own := fun j es q => by
    by_cases hj : i = j
    · subst hj
      by_cases hl : i < δ.length
      · rw [List.getElem?_set_self hl] at q; cases q
      · rw [List.getElem?_eq_none (by rw [List.length_set]; omega)] at q; cases q
    · rw [List.getElem?_set_ne hj] at q
      rw [List.getElem?_set_ne hj]
      exact h.own j es q
  sep := fun j k es fs l hjk q1 q2 q3 q4 => by
    by_cases hj : i = j
    · subst hj
      by_cases hl : i < δ.length
      · rw [List.getElem?_set_self hl] at q1; cases q1
      · rw [List.getElem?_eq_none (by rw [List.length_set]; omega)] at q1; cases q1
    · by_cases hk : i = k
      · subst hk
        by_cases hl : i < δ.length
        · rw [List.getElem?_set_self hl] at q2; cases q2
        · rw [List.getElem?_eq_none (by rw [List.length_set]; omega)] at q2; cases q2
      · rw [List.getElem?_set_ne hj] at q1 q3
        rw [List.getElem?_set_ne hk] at q2 q4
        exact h.sep j k es fs l hjk q1 q2 q3 q4
/-- slots forgotten -/
theorem ER.weak (h : ER K r A σ H δ) {σ' : L2.St} {δ' : Env} (hl : δ'.length = σ'.length) (w : ∀ (i : Nat) x, δ'[i]? = some x → x = .emp ∨ (δ[i]? = some x ∧ σ'[i]? = σ[i]?)) : ER K r A σ' H δ' where
  rnd := h.rnd
  ar := h.ar
  all := h.all
  len := hl
  val := fun i d q => by
    rcases w i _ q with z | ⟨z1, z2⟩
    · cases z
    · rw [z2]; exact h.val i d z1
  own := fun i d q => by
    rcases w i _ q with z | ⟨z1, z2⟩
    · cases z
    · rw [z2]; exact h.own i d z1
  sep := fun i j es fs l hij q1 q2 q3 q4 => by
    rcases w i _ q1 with z | ⟨z1, z2⟩
    · cases z
    · rcases w j _ q2 with y | ⟨y1, y2⟩
      · cases y
      · exact h.sep i j es fs l hij z1 y1 (z2 ▸ q3) (y2 ▸ q4)
/-- a fresh address is barred besides -/
theorem ER.bar (h : ER K r A σ H δ) {H1 : Hp} {p : Addr} (n : H p = none) (hp : H1 p ≠ none) (e : ∀ b o, b ≠ p → H b = some o → H1 b = some o) : ER K r (fun b => A b ∨ b = p) σ H1 δ := by
  have nr : r ≠ p := fun z => h.all r h.ar (z ▸ n)
  have hA : ExtA A H H1 := fun b o _ q => e b o (ne_of_none q n) q
  have grow : ∀ {v d}, DR K r A H v d → DR K r (fun b => A b ∨ b = p) H1 v d := fun hd => by
    have := DR.bar (A' := fun b => A b ∨ b = p) (fun b o q z => by
      rcases q with q | q
      · exact q
      · rw [q, n] at z; cases z) hd
    exact this.ext (fun b o nb z => e b o (ne_of_none z n) z)
  have growS : ∀ {v d}, DRs K r A H v d → DRs K r (fun b => A b ∨ b = p) H1 v d := fun hd => by
    have := DRs.bar (A' := fun b => A b ∨ b = p) (fun b o q z => by
      rcases q with q | q
      · exact q
      · rw [q, n] at z; cases z) hd
    exact this.ext (fun b o nb z => e b o (ne_of_none z n) z)
  refine ⟨?_, .inl h.ar, fun b hb => ?_, h.len, fun i d q => ?_, fun i ds q => ?_, h.sep⟩
  · obtain ⟨ns, e1, e2⟩ := h.rnd
    exact ⟨ns, e r _ nr e1, e2⟩
  · rcases hb with hb | hb
    · intro z
      cases q : H b with
      | none => exact h.all b hb q
      | some o => rw [e b o (ne_of_none q n) q] at z; cases z
    · rw [hb]; exact hp
  · obtain ⟨v, e1, e2⟩ := h.val i d q
    exact ⟨v, e1, grow e2⟩
  · obtain ⟨l, xs, e1, e2, e3, e4, e5, e6⟩ := h.own i ds q
    exact ⟨l, xs, e1, .inl e2, e3, e l _ (ne_of_none e4 n) e4, e5, growS e6⟩
end

/-! ### exceptions -/
/-- an exception: its class, its field (if it has one) -/
structure Ex where
  cls : Addr
  fs : Option (Str × D)
def XR (K : PySem.W.Frag) (r : Addr) (A : Addr → Prop) (H : Hp) (c : Value) (d : Option Addr) (x : Ex) : Prop :=
  c = .ref x.cls ∧ match x.fs with
    | none => d = none
    | some (f, y) => ∃ dd v, d = some dd ∧ H dd = some (.xd [(f, v)]) ∧ ¬ A dd ∧ DR K r A H v y
theorem XR.bar {K : PySem.W.Frag} {r : Addr} {A A' : Addr → Prop} {H : Hp} (e : ∀ b o, A' b → H b = some o → A b) {c : Value} {d : Option Addr} {x : Ex} (h : XR K r A H c d x) : XR K r A' H c d x := by
  obtain ⟨C, fs⟩ := x
  obtain ⟨h1, h2⟩ := h
  refine ⟨h1, ?_⟩
  cases fs with
  | none => exact h2
  | some p =>
    obtain ⟨dd, v, e1, e2, e3, e4⟩ := h2
    exact ⟨dd, v, e1, e2, fun q => e3 (e _ _ q e2), e4.bar e⟩

/-! ### an expression's reading by data -/
abbrev DP := D → Prop
abbrev XP := Ex → Prop
/-- from the slots, what is wanted of the value, of an exception -/
abbrev DE := Env → DP → XP → Prop
def tE (K : PySem.W.Frag) (E : XK) (f : DE) : TE := fun σ H Q => ∃ r A δ P Z, ER K r A σ H δ ∧ f δ P Z ∧
  (∀ d v H', P d → Ext r H H' → RndOk r H' → DR K r A H' v d → Q v H') ∧
  (∀ x c dd H', Z x → Ext r H H' → RndOk r H' → XR K r A H' c dd x → E c dd H')
theorem PE.imp {X : Cx} {e : Expr} {t t' : TE} (h : PE X e t) (w : ∀ σ H Q, t' σ H Q → t σ H Q) : PE X e t' := ⟨fun pins s σ H Q I q => h.run pins s σ H Q I (w σ H Q q)⟩
theorem PT.imp {X : Cx} {e : Expr} {t t' : TT} (h : PT X e t) (w : ∀ σ H Q, t' σ H Q → t σ H Q) : PT X e t' := ⟨fun pins s σ H Q I q => h.run pins s σ H Q I (w σ H Q q)⟩
theorem PW.imp {X : Cx} {e : Expr} {t t' : TT} (h : PW X e t) (w : ∀ σ H Q, t' σ H Q → t σ H Q) : PW X e t' := ⟨fun wh pins s σ H Q I q => h.run wh pins s σ H Q I (w σ H Q q)⟩
theorem PA.imp {X : Cx} {e : List Expr} {t t' : TA} (h : PA X e t) (w : ∀ σ H Q, t' σ H Q → t σ H Q) : PA X e t' := ⟨fun pos pins s σ H Q I q => h.run pos pins s σ H Q I (w σ H Q q)⟩
theorem PS.imp {X : Cx} {e : Stmt} {t t' : TS} (h : PS X e t) (w : ∀ D σ H, t' D σ H → t D σ H) : PS X e t' := ⟨fun pins s σ H D I q => h.run pins s σ H D I (w D σ H q)⟩
theorem PSs.imp {X : Cx} {e : List Stmt} {t t' : TS} (h : PSs X e t) (w : ∀ D σ H, t' D σ H → t D σ H) : PSs X e t' := ⟨fun pins s σ H D I q => h.run pins s σ H D I (w D σ H q)⟩

/-- a test's -/
abbrev DT := Env → (Bool → Prop) → XP → Prop
def tT (K : PySem.W.Frag) (E : XK) (f : DT) : TT := fun σ H Q => ∃ r A δ P Z, ER K r A σ H δ ∧ f δ P Z ∧
  (∀ b H', P b → Ext r H H' → RndOk r H' → Q b H') ∧
  (∀ x c dd H', Z x → Ext r H H' → RndOk r H' → XR K r A H' c dd x → E c dd H')
/-- arguments' -/
abbrev DA := Env → (List D → Prop) → XP → Prop
def tA (K : PySem.W.Frag) (E : XK) (f : DA) : TA := fun σ H Q => ∃ r A δ P Z, ER K r A σ H δ ∧ f δ P Z ∧
  (∀ ds vs H', P ds → Ext r H H' → RndOk r H' → DRs K r A H' vs ds → Q vs H') ∧
  (∀ x c dd H', Z x → Ext r H H' → RndOk r H' → XR K r A H' c dd x → E c dd H')
end L3

namespace L3
open PySem PySem.Spec PyProof.Rows L2
/-- what holds of the heap besides the slots -/
structure Wd (r : Addr) (A : Addr → Prop) (H : Hp) : Prop where
  rnd : RndOk r H
  ar : A r
  all : ∀ b, A b → H b ≠ none
section
variable {K : PySem.W.Frag} {r : Addr} {A : Addr → Prop} {σ : L2.St} {H H' : Hp} {δ : Env}
theorem ER.wd (h : ER K r A σ H δ) : Wd r A H := ⟨h.rnd, h.ar, h.all⟩
theorem Wd.free (h : Wd r A H) {p : Addr} (n : H p = none) : ¬ A p := fun q => h.all p q n
theorem Wd.ext (h : Wd r A H) (e : Ext r H H') (rn : RndOk r H') : Wd r A H' := ⟨rn, h.ar, fun b hb z => by
    cases q : H b with
    | none => exact h.all b hb q
    | some o =>
      by_cases hr : b = r
      · obtain ⟨ns, e1, _⟩ := rn
        rw [hr, e1] at z; cases z
      · rw [e b o hr q] at z; cases z⟩
theorem RndOk.upd (h : RndOk r H) {p : Addr} {o : HO} (n : H p = none) : RndOk r (upd H p o) := by
  obtain ⟨ns, e1, e2⟩ := h
  exact ⟨ns, by rw [upd_ne (ne_of_none e1 n)]; exact e1, e2⟩
/-- a new tuple, a new list -/
theorem Wd.tup (h : Wd r A H) {p : Addr} {xs : List V} {ds : List D} (n : H p = none) (z : xs.length ≤ sizeLine) (hd : DRs K r A H xs ds) : DR K r A (upd H p (.tup xs)) (.ref p) (.tup ds) :=
  .tup (h.free n) upd_same z (hd.ext ((Ext.upd n).toA h.ar))
theorem Wd.lst (h : Wd r A H) {p : Addr} {xs : List V} {ds : List D} (n : H p = none) (z : xs.length ≤ sizeLine) (hd : DRs K r A H xs ds) : DR K r A (upd H p (.lst xs)) (.ref p) (.lst ds) :=
  .lst (h.free n) upd_same z (hd.ext ((Ext.upd n).toA h.ar))
end

/-! ### operations by data -/
def OpD (K : PySem.W.Frag) (rr : R2) (g : D → D → DP → Prop) : Prop := ∀ (r : Addr) (A : Addr → Prop) (H : Hp) (x y : V) (d e : D) (P : DP) (Q : VK), Wd r A H → DR K r A H x d → DR K r A H y e → g d e P →
  (∀ c v H', P c → Ext r H H' → RndOk r H' → DR K r A H' v c → Q v H') → rr x y H Q
def CallD (K : PySem.W.Frag) (rr : List V → Hp → VK → Prop) (g : List D → DP → Prop) : Prop := ∀ (r : Addr) (A : Addr → Prop) (H : Hp) (xs : List V) (ds : List D) (P : DP) (Q : VK), Wd r A H → DRs K r A H xs ds → g ds P →
  (∀ c v H', P c → Ext r H H' → RndOk r H' → DR K r A H' v c → Q v H') → rr xs H Q
section
variable {X : Cx} {E : XK} {e a b c : Expr} {es : List Expr} {fa fb fc f : DE} {pos : Pos} {i : Nat} {x : Str}
theorem e_var (hN : X.N[i]? = some x) (hv : Vis X.env.scope x) (hd : (x == ("__debug__" : Str)) = false := by decide) (hcd : (x == ("__classdict__" : Str)) = false := by decide) : PE X (.Name x pos) (tE X.K E (fun δ P _ => ∃ d, δ[i]? = some (.val d) ∧ P d)) :=
  PE.imp (pe_var hN hv hd hcd) fun σ H Q ⟨r, A, δ, P, Z, R, ⟨d, h1, h2⟩, hq, _⟩ => by
    obtain ⟨v, e1, e2⟩ := R.val i d h1
    exact ⟨v, e1, hq d v H h2 .refl R.rnd e2⟩
theorem tC_of {v : V} {d : D} (h : ∀ r A H, DR X.K r A H v d) : ∀ σ H Q, tE X.K E (fun _ P _ => P d) σ H Q → tC v σ H Q := fun σ H Q ⟨r, A, δ, P, Z, R, h2, hq, _⟩ => hq d v H h2 .refl R.rnd (h r A H)
theorem e_int {n : Int} {j} : PE X (.Constant (.int n) j pos) (tE X.K E (fun _ P _ => P (.int n))) := PE.imp pe_int (tC_of fun _ _ _ => .int n)
theorem e_bl {n : Bool} {j} : PE X (.Constant (.bool n) j pos) (tE X.K E (fun _ P _ => P (.bl n))) := PE.imp pe_bl (tC_of fun _ _ _ => .bl n)
theorem e_non {j} : PE X (.Constant .none j pos) (tE X.K E (fun _ P _ => P .non)) := PE.imp pe_non (tC_of fun _ _ _ => .non)
theorem e_str {z : Str} {j} : PE X (.Constant (.str z) j pos) (tE X.K E (fun _ P _ => P (.str z))) := PE.imp pe_str (tC_of fun _ _ _ => .str z)
theorem e_glob {u : Value} {v : V} {d : D} (hg : Gl X x) (hm : X.mg x = some u) (rv : RelV v u) (h : ∀ r A H, DR X.K r A H v d) (hd : (x == ("__debug__" : Str)) = false := by decide) : PE X (.Name x pos) (tE X.K E (fun _ P _ => P d)) := PE.imp (pe_glob hg hm rv hd) (tC_of h)

theorem e_imp (h : PE X e (tE X.K E fa)) (w : ∀ δ P Z, fb δ P Z → fa δ P Z) : PE X e (tE X.K E fb) := PE.imp h fun σ H Q ⟨r, A, δ, P, Z, R, h2, hq⟩ => ⟨r, A, δ, P, Z, R, w _ _ _ h2, hq⟩

theorem two_of {rr : R2} {g : D → D → DP → Prop} (hg : OpD X.K rr g) : ∀ σ H Q, tE X.K E (fun δ P Z => fa δ (fun d => fb δ (fun d' => g d d' P) Z) Z) σ H Q → tOp rr (tE X.K E fa) (tE X.K E fb) σ H Q :=
  fun σ H Q ⟨r, A, δ, P, Z, R, h2, hq, hz⟩ => ⟨r, A, δ, _, Z, R, h2, fun d v H1 h3 x1 n1 r1 => ⟨r, A, δ, _, Z, R.ext x1 n1, h3, fun d' v' H2 h4 x2 n2 r2 =>
    hg r A H2 v v' d d' P Q ((R.ext x1 n1).ext x2 n2).wd (r1.ext (x2.toA R.ar)) r2 h4 fun c u H3 h5 x3 n3 r3 => hq c u H3 h5 ((x1.trans x2).trans x3) n3 r3,
    fun x c dd H' q x2 => hz x c dd H' q (x1.trans x2)⟩, hz⟩
theorem e_op {op : Operator} {rr : R2} {g : D → D → DP → Prop} (ho : OpR X (binaryOp op) rr) (hg : OpD X.K rr g) (ha : PE X a (tE X.K E fa)) (hb : PE X b (tE X.K E fb)) :
    PE X (.BinOp a op b pos) (tE X.K E (fun δ P Z => fa δ (fun d => fb δ (fun d' => g d d' P) Z) Z)) := PE.imp (pe_op ho ha hb) (two_of hg)
theorem e_cmp {op : CmpOp} {rr : R2} {g : D → D → DP → Prop} (ho : OpR X (compareOp op) rr) (hg : OpD X.K rr g) (ha : PE X a (tE X.K E fa)) (hb : PE X b (tE X.K E fb)) (hm : behindInMarks op b = false) :
    PE X (.Compare a [op] [b] pos) (tE X.K E (fun δ P Z => fa δ (fun d => fb δ (fun d' => g d d' P) Z) Z)) := PE.imp (pe_cmpR ho ha hb hm) (two_of hg)
theorem test_of {t : TE} {f : DE} (h : ∀ σ H Q, tE X.K E f σ H Q → t σ H Q) : ∀ σ H Q, tT X.K E (fun δ P Z => f δ (fun d => ∃ k, d = .bl k ∧ P k) Z) σ H Q → tTest t σ H Q :=
  fun σ H Q ⟨r, A, δ, P, Z, R, h2, hq, hz⟩ => h σ H _ ⟨r, A, δ, _, Z, R, h2, fun d v H' h3 x1 n1 r1 => by
    obtain ⟨k, rfl, h4⟩ := h3
    cases r1
    exact ⟨k, rfl, hq k H' h4 x1 n1⟩, hz⟩
theorem t_cmp {op : CmpOp} {rr : R2} {g : D → D → DP → Prop} (ho : OpR X (compareOp op) rr) (hg : OpD X.K rr g) (ha : PE X a (tE X.K E fa)) (hb : PE X b (tE X.K E fb)) (hm : behindInMarks op b = false) :
    PT X (.Compare a [op] [b] pos) (tT X.K E (fun δ P Z => fa δ (fun d => fb δ (fun d' => g d d' (fun c => ∃ k, c = .bl k ∧ P k)) Z) Z)) := PT.imp (pt_cmpR ho ha hb hm) (test_of (two_of hg))
/-- a value that is a bool, as a test -/
theorem t_val (h : PE X e (tE X.K E f)) (he : ∀ whole, isTrue e X.env whole = (do let v ← whole; standAt e.pos; holding [v] (truthy v)) := by intro _; rfl) :
    PT X e (tT X.K E (fun δ P Z => f δ (fun d => ∃ k, d = .bl k ∧ P k) Z)) := PT.imp (pt_val h he) fun σ H Q ⟨r, A, δ, P, Z, R, h2, hq, hz⟩ => ⟨r, A, δ, _, Z, R, h2, fun d v H' h3 x1 n1 r1 => by
    obtain ⟨k, rfl, h4⟩ := h3
    cases r1
    exact ⟨k, rfl, hq k H' h4 x1 n1⟩, hz⟩
/-- truth of lists, tuples, ints, None, bools -/
def truD : D → (Bool → Prop) → Prop
  | .non, P => P false
  | .bl b, P => P b
  | .int i, P => P (i != 0)
  | .lst ds, P => P (!ds.isEmpty)
  | .tup ds, P => P (!ds.isEmpty)
  | _, _ => False
theorem DRs.isEmpty {K : PySem.W.Frag} {A : Addr → Prop} {H : Hp} {xs : List V} {ds : List D} (h : DRs K r A H xs ds) : xs.isEmpty = ds.isEmpty := by
  cases h <;> rfl
theorem t_truth (h : PE X e (tE X.K E f)) (he : ∀ whole, isTrue e X.env whole = (do let v ← whole; standAt e.pos; holding [v] (truthy v)) := by intro _; rfl) :
    PT X e (tT X.K E (fun δ P Z => f δ (fun d => truD d P) Z)) := PT.imp (pt_truth h he) fun σ H Q ⟨r, A, δ, P, Z, R, h2, hq, hz⟩ => ⟨r, A, δ, _, Z, R, h2, fun d v H' h3 x1 n1 r1 => by
    have fin : ∀ k, P k → Q k H' := fun k p => hq k H' p x1 n1
    cases d with
    | non => cases r1; exact ⟨_, rfl, fin _ h3⟩
    | bl b => cases r1; exact ⟨_, rfl, fin _ h3⟩
    | int i => cases r1; exact ⟨_, rfl, fin _ h3⟩
    | lst ds =>
      obtain ⟨p, xs, rfl, _, e, z, t⟩ := r1.sqL
      exact ⟨!xs.isEmpty, .inl ⟨xs, SqL.of e, rfl⟩, fin _ (by rw [t.isEmpty]; exact h3)⟩
    | tup ds =>
      obtain ⟨p, xs, rfl, e, z, t⟩ := r1.sqT
      exact ⟨!xs.isEmpty, .inr (.inl ⟨xs, e, rfl⟩), fin _ (by rw [t.isEmpty]; exact h3)⟩
    | _ => exact h3.elim, hz⟩
variable {ga gb : DT} {rest : List Expr}
theorem t_not (ha : PT X a (tT X.K E ga)) : PT X (.UnaryOp .Not a pos) (tT X.K E (fun δ P Z => ga δ (fun b => P (!b)) Z)) := PT.imp (pt_not ha) fun σ H Q ⟨r, A, δ, P, Z, R, h2, hq, hz⟩ => ⟨r, A, δ, _, Z, R, h2, fun b H' h3 => hq _ H' h3, hz⟩
theorem w_one_and (ha : PT X a (tT X.K E ga)) : PW X (.BoolOp .And [a] pos) (tT X.K E ga) := pw_and1 ha
theorem w_one_or (ha : PT X a (tT X.K E ga)) : PW X (.BoolOp .Or [a] pos) (tT X.K E ga) := pw_or1 ha
theorem w_and (ha : PT X a (tT X.K E ga)) (hb : PW X (.BoolOp .And (b :: rest) pos) (tT X.K E gb)) : PW X (.BoolOp .And (a :: b :: rest) pos) (tT X.K E (fun δ P Z => ga δ (fun k => if k = true then gb δ P Z else P false) Z)) :=
  PW.imp (pw_and ha hb) fun σ H Q ⟨r, A, δ, P, Z, R, h2, hq, hz⟩ => ⟨r, A, δ, _, Z, R, h2, fun k H' h3 x1 n1 => by
    cases k with
    | true => exact ⟨r, A, δ, P, Z, R.ext x1 n1, h3, fun b H2 h4 x2 n2 => hq b H2 h4 (x1.trans x2) n2, fun x c dd H2 q x2 => hz x c dd H2 q (x1.trans x2)⟩
    | false => exact hq false H' h3 x1 n1, hz⟩
theorem w_or (ha : PT X a (tT X.K E ga)) (hb : PW X (.BoolOp .Or (b :: rest) pos) (tT X.K E gb)) : PW X (.BoolOp .Or (a :: b :: rest) pos) (tT X.K E (fun δ P Z => ga δ (fun k => if k = true then P true else gb δ P Z) Z)) :=
  PW.imp (pw_or ha hb) fun σ H Q ⟨r, A, δ, P, Z, R, h2, hq, hz⟩ => ⟨r, A, δ, _, Z, R, h2, fun k H' h3 x1 n1 => by
    cases k with
    | false => exact ⟨r, A, δ, P, Z, R.ext x1 n1, h3, fun b H2 h4 x2 n2 => hq b H2 h4 (x1.trans x2) n2, fun x c dd H2 q x2 => hz x c dd H2 q (x1.trans x2)⟩
    | true => exact hq true H' h3 x1 n1, hz⟩
/-- and, or, not as values: all but the last True or False -/
theorem e_one {op} (h : PE X a (tE X.K E fa)) : PE X (.BoolOp op [a] pos) (tE X.K E fa) := pe_one h
theorem e_and (ha : PE X a (tE X.K E fa)) (hb : PE X (.BoolOp .And (b :: rest) pos) (tE X.K E fb)) : PE X (.BoolOp .And (a :: b :: rest) pos) (tE X.K E (fun δ P Z => fa δ (fun d => ∃ k, d = .bl k ∧ if k = true then fb δ P Z else P (.bl false)) Z)) :=
  PE.imp (pe_and ha hb) fun σ H Q ⟨r, A, δ, P, Z, R, h2, hq, hz⟩ => ⟨r, A, δ, _, Z, R, h2, fun d v H' h3 x1 n1 r1 => by
    obtain ⟨k, rfl, h3⟩ := h3
    cases r1
    refine ⟨k, rfl, ?_⟩
    cases k with
    | true => exact ⟨r, A, δ, P, Z, R.ext x1 n1, h3, fun b v H2 h4 x2 n2 => hq b v H2 h4 (x1.trans x2) n2, fun x c dd H2 q x2 => hz x c dd H2 q (x1.trans x2)⟩
    | false => exact hq _ _ H' h3 x1 n1 (.bl false), hz⟩
theorem e_or (ha : PE X a (tE X.K E fa)) (hb : PE X (.BoolOp .Or (b :: rest) pos) (tE X.K E fb)) : PE X (.BoolOp .Or (a :: b :: rest) pos) (tE X.K E (fun δ P Z => fa δ (fun d => ∃ k, d = .bl k ∧ if k = true then P (.bl true) else fb δ P Z) Z)) :=
  PE.imp (pe_or ha hb) fun σ H Q ⟨r, A, δ, P, Z, R, h2, hq, hz⟩ => ⟨r, A, δ, _, Z, R, h2, fun d v H' h3 x1 n1 r1 => by
    obtain ⟨k, rfl, h3⟩ := h3
    cases r1
    refine ⟨k, rfl, ?_⟩
    cases k with
    | false => exact ⟨r, A, δ, P, Z, R.ext x1 n1, h3, fun b v H2 h4 x2 n2 => hq b v H2 h4 (x1.trans x2) n2, fun x c dd H2 q x2 => hz x c dd H2 q (x1.trans x2)⟩
    | true => exact hq _ _ H' h3 x1 n1 (.bl true), hz⟩
theorem e_not (ha : PE X a (tE X.K E fa)) : PE X (.UnaryOp .Not a pos) (tE X.K E (fun δ P Z => fa δ (fun d => ∃ k, d = .bl k ∧ P (.bl (!k))) Z)) :=
  PE.imp (pe_not ha) fun σ H Q ⟨r, A, δ, P, Z, R, h2, hq, hz⟩ => ⟨r, A, δ, _, Z, R, h2, fun d v H' h3 x1 n1 r1 => by
    obtain ⟨k, rfl, h3⟩ := h3
    cases r1
    exact ⟨k, rfl, hq _ _ H' h3 x1 n1 (.bl _)⟩, hz⟩
theorem e_if (hc : PT X c (tT X.K E ga)) (ha : PE X a (tE X.K E fa)) (hb : PE X b (tE X.K E fb)) : PE X (.IfExp c a b pos) (tE X.K E (fun δ P Z => ga δ (fun k => if k = true then fa δ P Z else fb δ P Z) Z)) :=
  PE.imp (pe_ifExp hc ha hb) fun σ H Q ⟨r, A, δ, P, Z, R, h2, hq, hz⟩ => ⟨r, A, δ, _, Z, R, h2, fun k H' h3 x1 n1 => by
    cases k with
    | true => exact ⟨r, A, δ, P, Z, R.ext x1 n1, h3, fun b v H2 h4 x2 n2 => hq b v H2 h4 (x1.trans x2) n2, fun x c dd H2 q x2 => hz x c dd H2 q (x1.trans x2)⟩
    | false => exact ⟨r, A, δ, P, Z, R.ext x1 n1, h3, fun b v H2 h4 x2 n2 => hq b v H2 h4 (x1.trans x2) n2, fun x c dd H2 q x2 => hz x c dd H2 q (x1.trans x2)⟩, hz⟩

/-! ### arguments, displays, calls -/
variable {fs : DA}
theorem a_nil : PA X [] (tA X.K E (fun _ P _ => P [])) := PA.imp pa_nil fun σ H Q ⟨r, A, δ, P, Z, R, h2, hq, hz⟩ => hq [] [] H h2 .refl R.rnd .nil
theorem a_cons (ha : PE X e (tE X.K E fa)) (hr : PA X es (tA X.K E fs)) (hs : starEach (e :: es) X.env = (false, eval e X.env) :: starEach es X.env := by rfl) :
    PA X (e :: es) (tA X.K E (fun δ P Z => fa δ (fun d => fs δ (fun ds => P (d :: ds)) Z) Z)) := PA.imp (pa_cons ha hr hs) fun σ H Q ⟨r, A, δ, P, Z, R, h2, hq, hz⟩ => ⟨r, A, δ, _, Z, R, h2, fun d v H1 h3 x1 n1 r1 =>
      ⟨r, A, δ, _, Z, R.ext x1 n1, h3, fun ds vs H2 h4 x2 n2 r2 => hq _ _ H2 h4 (x1.trans x2) n2 (.cons (r1.ext (x2.toA R.ar)) r2), fun x c dd H2 q x2 => hz x c dd H2 q (x1.trans x2)⟩, hz⟩
theorem e_tup {x1} (h : PA X es (tA X.K E fs)) : PE X (.Tuple es x1 pos) (tE X.K E (fun δ P Z => fs δ (fun ds => ds.length ≤ sizeLine ∧ P (.tup ds)) Z)) := PE.imp (pe_tup h) fun σ H Q ⟨r, A, δ, P, Z, R, h2, hq, hz⟩ =>
  ⟨r, A, δ, _, Z, R, h2, fun ds vs H1 h3 x1 n1 r1 => ⟨by rw [r1.length]; exact h3.1, fun p np => hq _ _ _ h3.2 (x1.trans (Ext.upd np)) (n1.upd np) ((R.ext x1 n1).wd.tup np (by rw [r1.length]; exact h3.1) r1)⟩, hz⟩
theorem e_lst (h : PA X es (tA X.K E fs)) : PE X (.List es pos) (tE X.K E (fun δ P Z => fs δ (fun ds => ds.length ≤ sizeLine ∧ P (.lst ds)) Z)) := PE.imp (pe_lst h) fun σ H Q ⟨r, A, δ, P, Z, R, h2, hq, hz⟩ =>
  ⟨r, A, δ, _, Z, R, h2, fun ds vs H1 h3 x1 n1 r1 => ⟨by rw [r1.length]; exact h3.1, fun p np => hq _ _ _ h3.2 (x1.trans (Ext.upd np)) (n1.upd np) ((R.ext x1 n1).wd.lst np (by rw [r1.length]; exact h3.1) r1)⟩, hz⟩
theorem e_dic : PE X (.Dict [] [] pos) (tE X.K E (fun _ P _ => P .dic)) := PE.imp pe_dnewK fun σ H Q ⟨r, A, δ, P, Z, R, h2, hq, hz⟩ p np => hq _ _ _ h2 (Ext.upd np) (R.rnd.upd np) (.dic (R.free np) upd_same)
/-- a def's promise by data -/
abbrev DF := List D → DP → XP → Prop
def spD (K : PySem.W.Frag) (n : Nat) (f : DF) : Sp := fun vs H Q E => ∃ r A ds P Z, Wd r A H ∧ DRs K r A H vs ds ∧ ds.length = n ∧ f ds P Z ∧
  (∀ d v H', P d → Ext r H H' → RndOk r H' → DR K r A H' v d → Q v H') ∧ (∀ x c dd H', Z x → Ext r H H' → RndOk r H' → XR K r A H' c dd x → E c dd H')
theorem call_of {g : DF} {n : Nat} : ∀ σ H Q, tE X.K E (fun δ P Z => fs δ (fun ds => ds.length = n ∧ g ds P Z) Z) σ H Q → tCall (spD X.K n g) [] E (tA X.K E fs) σ H Q := fun σ H Q ⟨r, A, δ, P, Z, R, h2, hq, hz⟩ =>
  ⟨r, A, δ, _, Z, R, h2, fun ds vs H1 h3 x1 n1 r1 => by
    show spD X.K n g (vs ++ []) H1 Q E
    rw [List.append_nil]
    exact ⟨r, A, ds, P, Z, (R.ext x1 n1).wd, r1, h3.1, h3.2, fun d v H2 h4 x2 n2 r2 => hq d v H2 h4 (x1.trans x2) n2 r2, fun x c dd H2 q x2 => hz x c dd H2 q (x1.trans x2)⟩, hz⟩
/-- f(e, ..) -/
theorem e_call {CX : CXT} {k n : Nat} {fad : Addr} {fd : FuncData} {ps : List Str} {g : DF} {p : Pos} (F : FnOk X.prog X.w X.K X.mg X.base CX k fad fd ps (spD X.K n g)) (hr : Room k X.A) (hg : Gl X x) (hm : X.mg x = some (.ref fad)) (hk : PySem.W.keepIn X.K (.ref fad) = true)
    (hb : Binds X.K fd ps []) (hx : Passes CX X E) (ha : PA X (e :: es) (tA X.K E fs)) (hdb : (x == ("__debug__" : Str)) = false := by decide)
    (he : starEach (e :: es) X.env = (false, eval e X.env) :: starEach es X.env := by rfl) (hpl : (backTo pos (starEach es X.env)).any (·.1) = false := by rfl) :
    PE X (.Call (.Name x p) (e :: es) [] pos) (tE X.K E (fun δ P Z => fs δ (fun ds => ds.length = n ∧ g ds P Z) Z)) := PE.imp (pe_call F hr hg hm hk hb .nil hx ha hdb he hpl) call_of
theorem cb_of {rr : List V → Hp → VK → Prop} {g : List D → DP → Prop} (hg : CallD X.K rr g) : ∀ σ H Q, tE X.K E (fun δ P Z => fs δ (fun ds => g ds P) Z) σ H Q → tCB rr (tA X.K E fs) σ H Q := fun σ H Q ⟨r, A, δ, P, Z, R, h2, hq, hz⟩ =>
  ⟨r, A, δ, _, Z, R, h2, fun ds vs H1 h3 x1 n1 r1 => hg r A H1 vs ds P Q (R.ext x1 n1).wd r1 h3 fun d v H2 h4 x2 n2 r2 => hq d v H2 h4 (x1.trans x2) n2 r2, hz⟩
/-- a builtin, a builtin class by its name -/
theorem e_callB {id : String} {rr : List V → Hp → VK → Prop} {g : List D → DP → Prop} {p : Pos} (hc : CallR X (.builtin id) rr) (hd : CallD X.K rr g) (hg : Gl X x) (hm : X.mg x = none) (hv : bootBuiltins x = some (.builtin id)) (ha : PA X (e :: es) (tA X.K E fs))
    (hn : x ≠ "__name__" := by decide) (hdb : (x == ("__debug__" : Str)) = false := by decide) (he : starEach (e :: es) X.env = (false, eval e X.env) :: starEach es X.env := by rfl) (hpl : (backTo pos (starEach es X.env)).any (·.1) = false := by rfl) :
    PE X (.Call (.Name x p) (e :: es) [] pos) (tE X.K E (fun δ P Z => fs δ (fun ds => g ds P) Z)) := PE.imp (pe_callB hc hg hm hv ha hn hdb he hpl) (cb_of hd)
theorem e_callTy {T : String} {rr : List V → Hp → VK → Prop} {g : List D → DP → Prop} {p : Pos} (hc : CallR X (.type T) rr) (hd : CallD X.K rr g) (hg : Gl X x) (hm : X.mg x = none) (hv : bootBuiltins x = some (.type T)) (ha : PA X (e :: es) (tA X.K E fs))
    (hn : x ≠ "__name__" := by decide) (hdb : (x == ("__debug__" : Str)) = false := by decide) (he : starEach (e :: es) X.env = (false, eval e X.env) :: starEach es X.env := by rfl) (hpl : (backTo pos (starEach es X.env)).any (·.1) = false := by rfl) :
    PE X (.Call (.Name x p) (e :: es) [] pos) (tE X.K E (fun δ P Z => fs δ (fun ds => g ds P) Z)) := PE.imp (pe_callTy hc hg hm hv ha hn hdb he hpl) (cb_of hd)
end
end L3

namespace L3
open PySem PySem.Spec PyProof.Rows L2
open Sem (wp)
open AutoSeq1 (wpAny_loadPart')
/-! enumerate(t) of a tuple -/
/-- the cell that walks a tuple -/
def twC (l : Addr) : Obj := { cls := .type "tuple_iterator", data := .fields #[.ref l, .int 0 0] }
/-- the cell that counts: its walker stands at w0 -/
def cnC (w0 : Addr) : Obj := { cls := .type "enumerate", data := .fields #[.none, .bool false, .ref w0, rawInt 0, .none, .none] }
/-- both cells on a heap -/
def two (h : Heap) (l : Addr) : Heap := (h.push (twC l)).push (cnC h.objs.size)
theorem two_size (h : Heap) (l : Addr) : (h.push (twC l)).objs.size = h.objs.size + 1 := Heap.size_push ..
theorem two_new {l n : Nat} {xs : Array Value} {dc : Option Addr} {so : Array (Option Value)} :
    Meets (Builtin.«enumerate.__new__» ⟨[.type "enumerate", .ref l], []⟩) (fun _ R s => s.heap.get? l = some ⟨.type "tuple", dc, .seq xs n, so⟩ ∧ R (.ok (.ret (.ref (s.heap.push (twC l)).objs.size))) { s with heap := two s.heap l }) :=
  .of_wp fun prog w A R ⟨hp, gs, dr, tk, os⟩ ⟨at_, want⟩ => by
    have sb := sub_enumerate
    have isT : Heap.IsTuple (Shared.heap ⟨hp, gs, dr, tk, os⟩) l xs := ⟨_, at_, rfl, n, rfl⟩
    wp_walk using wpAny_loadPart' at_
    refine wpAny_stack_any fun stk => wpAny_pure ?_
    split
    rotate_left
    · wp_walk using wpAny_loadPart' at_, wpAny_pyIter_tuple isT
      exact ⟨_, rfl, want⟩
    rename_i kl _ _ _ _ _
    cases kl == Value.type "enumerate" <;> (wp_walk using wpAny_loadPart' at_, wpAny_pyIter_tuple isT; exact ⟨_, rfl, want⟩)
theorem two_cnt (h : Heap) (l : Addr) : IsEnum (two h l) (h.objs.size + 1) h.objs.size 0 .none := (two_size h l) ▸ Heap.get?_push_size (h.push (twC l)) (o := cnC h.objs.size) rfl
theorem two_call {prog : Program} {w : World} {A : Around} {E : Value → Shared → Prop} {s : Shared} {l : Addr} {xs : Array Value} {Q : Value → Shared → Prop} (isT : s.heap.IsTuple l xs)
    (go : (two s.heap l).IsTupleIter s.heap.objs.size l 0 → (∀ b o, s.heap.get? b = some o → (two s.heap l).get? b = some o) → Q (.ref (s.heap.objs.size + 1)) { s with heap := two s.heap l }) : wpAny (model prog w) A (call (.type "enumerate") [.ref l]) Q E s := by
  obtain ⟨⟨kl, dc, dat, so⟩, at_, e1, n, e2⟩ := isT
  cases (show kl = .type "tuple" from e1); cases (show dat = .seq xs n from e2)
  refine callType_new F.called_enumerate (by decide) (F.typeCall_enumerate_1 _) (F.newCall_enumerate_1 _) (fun ob => F.args_object_init_2 ob _) F.entry_enumerate_new two_new ⟨at_, ?_⟩
  rw [two_size]
  exact ⟨⟨_, two_cnt _ l, rfl⟩, go ⟨_, Heap.get?_push_of_some _ (Heap.get?_push_size _ rfl), rfl, rfl⟩ fun b o y => Heap.get?_push_of_some _ (Heap.get?_push_of_some _ y)⟩
/-- the tuple at a, each item in a new pair -/
def IteT (K : PySem.W.Frag) (a : Addr) : It :=
  ⟨fun i H => ∃ (xs : List V) (x : V), SqT K H a xs ∧ xs[i]? = some x, fun i H v H' => ∃ T x, v = .ref T ∧ H T = none ∧ H' = upd H T (.tup [.int (i : Nat), x]) ∧ ∀ xs, SqT K H a xs → xs[i]? = some x, fun i H => ∃ xs : List V, SqT K H a xs ∧ xs.length ≤ i⟩
/-- the state of such a walk behind i items -/
def StT (a e t : Addr) (i : Nat) (h : Heap) : Prop := (∃ old, IsEnum h e t ((i : Nat) : Int) old) ∧ h.IsTupleIter t a i ∧ e ≠ t ∧ a ≠ t ∧ e ≠ a
theorem two_mem {e t b : Addr} (h : b ∈ [e, t]) : b = e ∨ b = t := by simpa using h
theorem turn_enumT {P : Program} {w : World} {K : PySem.W.Frag} {elts : List Expr} {kk : Nat} {tpos : Pos} (a e t : Addr) : Turn P w K (.Tuple elts kk tpos) (IteT K a) [e, t] e (StT a e t) where
  mem := List.mem_cons_self
  obj := fun i h ⟨⟨ol, ce⟩, ⟨ob, co, k1, k2⟩, _⟩ b hb => by
    cases two_mem hb with
    | inl z => subst z; exact ⟨_, ce, fun _ y => nomatch y⟩
    | inr z => subst z; exact ⟨ob, co, fun _ y => by rw [k2] at y; cases y⟩
  keep := fun i h h' ⟨⟨ol, ce⟩, ct, sep⟩ k => ⟨⟨ol, k e List.mem_cons_self _ ce⟩, ct.at fun ob y => k t (List.mem_cons_of_mem _ List.mem_cons_self) ob y, sep⟩
  self := fun A i s Q E ⟨⟨_, ce⟩, _⟩ h => wpAny_pyIter_enum ce h
  item := by
    rintro X rfl rfl rfl cl i pins s σ H E I fp ⟨⟨ol, ce⟩, ct, ne1, ne2, ne3⟩ ⟨xs, x, hT, hx⟩
    obtain ⟨us, rus, isT, _⟩ := I.tuple hT
    obtain ⟨u, hu, rxu⟩ := rus.get hx
    have isT' : s.heap.IsTuple a us.toArray := isT
    have eLt := Heap.lt_size ce
    have tLt : t < s.heap.objs.size := let ⟨_, y, _⟩ := ct; Heap.lt_size y
    have iLt : i < us.toArray.size := by simpa using (List.getElem?_eq_some_iff.mp hu).1
    have arr : us.toArray[i]? = some u := by simpa using hu
    have dr := Draws.tuple (prog := X.prog) (w := X.w) (A := X.A.in1) (show X.A.in1.handled = none from I.ok.hd cl) t a ne2 us.toArray
    refine wpAny_pyNext_enum_itemD dr ce ⟨ct, isT'⟩ iLt ne1 (by simp [ne1, ne3]) fun v h1 tk hv own ct1 newT _ kp => ?_
    obtain rfl : u = v := Option.some.inj (arr.symm.trans hv)
    refine ⟨_, rfl, wpAny_letOwnedTupleGo_enum (s := { s with heap := h1, toks := tk + 1 }) own fun h2 ce2 ob2 => ?_⟩
    have pairAt := (ob2.2 _ (Nat.ne_of_gt eLt)).trans newT
    have okP : ObjOk X.prog X.w (upd H s.heap.objs.size (.tup [.int (i : Nat), x])) h2 s.heap.objs.size (.tup [.int (i : Nat), x]) := ⟨by show 2 ≤ sizeLine; decide, [.int i tk, u], .cons ⟨_, rfl⟩ (.cons rxu .nil), ⟨_, pairAt, rfl, _, rfl⟩⟩
    have old : ∀ b ob, b ∉ [e, t] → s.heap.get? b = some ob → h2.get? b = some ob := fun b ob hb y => by
      have nE : b ≠ e := fun z => hb (by simp [z])
      have nT : b ≠ t := fun z => hb (by simp [z])
      exact (ob2.2 b nE).trans (kp b ob nE (by simpa using nT) y)
    have I2 : Inv X pins σ (upd H s.heap.objs.size (.tup [.int (i : Nat), x])) { s with heap := h2, toks := tk + 1 } := I.turnedNew (ch := [e, t]) old fp (Nat.le_refl _) okP
    refine ⟨.ref s.heap.objs.size, _, I2, rfl, ⟨_, x, rfl, I.hok.fresh (Nat.le_refl _), rfl, fun ys hy => (I.tuple_inj hy hT) ▸ hx⟩, ⟨⟨u, ?_⟩, ct1.1.at fun ob y => (ob2.2 t (Ne.symm ne1)).trans y, ne1, ne2, ne3⟩, fun b hb => ?_⟩
    · rw [show ((i + 1 : Nat) : Int) = (i : Int) + 1 from by omega]
      exact ce2
    · rw [upd_ne (Nat.ne_of_lt (by cases two_mem hb with
        | inl z => rw [z]; exact eLt
        | inr z => rw [z]; exact tLt))]
      exact (fp b hb).1
  done := by
    rintro X rfl rfl rfl cl i pins s σ H E I fp ⟨⟨ol, ce⟩, ct, _, _, _⟩ ⟨xs, hT, hx⟩
    obtain ⟨us, rus, isT, _⟩ := I.tuple hT
    obtain ⟨f0, f1, _, f3, f4, f5⟩ := fp t (List.mem_cons_of_mem _ List.mem_cons_self)
    have isT' : s.heap.IsTuple a us.toArray := isT
    have few := rus.length
    have ty : s.TypeIs (.ref e) "enumerate" := ⟨_, ce, rfl⟩
    have body := F.args_enumerate_next_1 (.ref e)
    unfold pyNext
    refine wpAny_bind (wpAny_attempt (wpAny_callSpecial?_slot (name := Str.ofString "__next__") ty F.slot_enumerate_next (wpAny_call_entry F.slot_enumerate_next ty F.entry_enumerate_next ?_ body)))
    show wpAny _ _ (field (.ref e) 2 >>= fun _ => _) _ _ _
    refine wpAny_bind (wpAny_field ce rfl (x := .ref t) rfl (wpAny_bind (wpAny_nextOf_tuple_end (I.ok.hd cl) ct isT' (by simp; omega) fun h1 stop kp ⟨ob, co, cs⟩ => ?_)))
    exact wpAny_bind (wpAny_isInstance (T := "StopIteration") (b := true) ⟨ob, co, cs⟩ isSubtype_stop (wpAny_pure ⟨rfl, I.turned (t' := s.toks) (fun b o hb y => kp b o hb y) f0 f1 f3 f4 f5⟩))
def iEnumT (K : PySem.W.Frag) (ta : TA) : TI := fun σ H R => ta σ H fun vs H1 => ∃ a xs, vs = [.ref a] ∧ SqT K H1 a xs ∧ R (IteT K a) H1
theorem pi_enumT {X : Cx} {e : Expr} {ta : TA} {p pos tpos : Pos} {elts : List Expr} {kk : Nat} (hg : Gl X "enumerate") (hm : X.mg "enumerate" = none) (ha : PA X [e] ta) (hs : starEach [e] X.env = [(false, eval e X.env)] := by rfl) :
    PI X (.Tuple elts kk tpos) (.Call (.Name "enumerate" p) [e] [] pos) (iEnumT X.K ta) := by
  refine ⟨fun pins s σ H R I h => Call_ (ld_blt I hg hm boot_enumerate (PyProof.Rows.callWith_type1 (thn (ha.run pos pins s σ H _ I h) ?_) hs rfl))⟩
  rintro us s1 ⟨vs, H1, I1, r1, a, xs, rfl, hT, q⟩
  obtain ⟨u, rfl, rfl⟩ : ∃ u, us = [u] ∧ u = Value.ref a := by
    cases r1 with
    | cons r rr => cases rr; cases r; exact ⟨_, rfl, rfl⟩
  obtain ⟨its, _, isT, _⟩ := I1.tuple hT
  have aLt : a < s1.heap.objs.size := isT.lt
  refine two_call (show s1.heap.IsTuple a its.toArray from isT) fun ct kp => wpAny_pyIter_enum (two_cnt _ a) ?_
  refine ⟨s1.heap.objs.size + 1, [s1.heap.objs.size + 1, s1.heap.objs.size], _, _, H1, rfl, I1.kept (t' := s1.toks) kp, turn_enumT a _ s1.heap.objs.size, ⟨⟨.none, two_cnt _ a⟩, ct, Nat.succ_ne_self _, Nat.ne_of_lt aLt, Nat.ne_of_gt (Nat.lt_succ_of_lt aLt)⟩, fun b hb => ?_, q⟩
  have far : s1.heap.objs.size ≤ b := by
    cases two_mem hb with
    | inl z => rw [z]; exact Nat.le_add_right _ _
    | inr z => rw [z]; exact Nat.le_refl _
  exact I1.fpOk far (I1.hok.fresh far)
end L3

namespace L3
open PySem PySem.Spec PyProof.Rows L2
/-! ### what a loop walks -/
def YD (K : PySem.W.Frag) (r : Addr) (A : Addr → Prop) (J : It) (ds : List D) (H1 : Hp) : Prop := ∀ (i : Nat) (H : Hp) (A' : Addr → Prop), ExtA A H1 H → Wd r A' H → (∀ b o, A' b → H1 b = some o → A b) →
  (ds.length ≤ i → J.stop i H) ∧ ∀ d, ds[i]? = some d → J.go i H ∧ ∀ x H', J.yld i H x H' → Ext r H H' ∧ RndOk r H' ∧ DR K r A' H' x d
/-- an iterable's reading -/
abbrev DI := Env → (List D → Prop) → XP → Prop
def tI (K : PySem.W.Frag) (E : XK) (f : DI) : TI := fun σ H R => ∃ r A δ P Z, ER K r A σ H δ ∧ f δ P Z ∧
  (∀ ds J H1, P ds → Ext r H H1 → RndOk r H1 → YD K r A J ds H1 → R J H1) ∧
  (∀ x c dd H', Z x → Ext r H H' → RndOk r H' → XR K r A H' c dd x → E c dd H')
theorem PI.imp {X : Cx} {tg e : Expr} {t t' : TI} (h : PI X tg e t) (w : ∀ σ H Q, t' σ H Q → t σ H Q) : PI X tg e t' := ⟨fun pins s σ H Q I q => h.run pins s σ H Q I (w σ H Q q)⟩
section
variable {X : Cx} {E : XK} {e tg : Expr} {f : DE}
def itL : D → (List D → Prop) → Prop
  | .lst ds, P => P ds
  | _, _ => False
def itT : D → (List D → Prop) → Prop
  | .tup ds, P => P ds
  | _, _ => False
theorem i_list (h : PE X e (tE X.K E f)) : PI X tg e (tI X.K E (fun δ P Z => f δ (fun d => itL d P) Z)) := PI.imp (pi_list h) fun σ H R ⟨r, A, δ, P, Z, R0, h2, hq, hz⟩ =>
  ⟨r, A, δ, _, Z, R0, h2, fun d v H1 h3 x1 n1 r1 => by
    cases d with
    | lst ds =>
      obtain ⟨a, xs, rfl, na, e1, z, t⟩ := r1.sqL
      refine ⟨a, rfl, ⟨xs, SqL.of e1⟩, hq ds _ H1 h3 x1 n1 fun i H2 A' ea w wa => ⟨fun hl => ⟨xs, SqL.of (ea a _ na e1), by rw [t.length]; exact hl⟩, fun d hd => ?_⟩⟩
      obtain ⟨u, hu, ru⟩ := t.get hd
      refine ⟨⟨xs, u, SqL.of (ea a _ na e1), hu⟩, ?_⟩
      rintro x H' ⟨rfl, hx⟩
      have := hx xs (SqL.of (ea a _ na e1))
      rw [hu] at this
      cases this
      exact ⟨.refl, w.rnd, ru.move ea wa⟩
    | _ => exact h3.elim, hz⟩
theorem i_tup (h : PE X e (tE X.K E f)) : PI X tg e (tI X.K E (fun δ P Z => f δ (fun d => itT d P) Z)) := PI.imp (pi_tup h) fun σ H R ⟨r, A, δ, P, Z, R0, h2, hq, hz⟩ =>
  ⟨r, A, δ, _, Z, R0, h2, fun d v H1 h3 x1 n1 r1 => by
    cases d with
    | tup ds =>
      obtain ⟨a, xs, rfl, t, keep, e1⟩ : ∃ a xs, v = .ref a ∧ DRs X.K r A H1 xs ds ∧ (∀ H2, ExtA A H1 H2 → SqT X.K H2 a xs) ∧ SqT X.K H1 a xs := by
        cases r1 with
        | tup n e1 z t => exact ⟨_, _, rfl, t, fun H2 ea => SqT.of (ea _ _ n e1), SqT.of e1⟩
        | ktup o its n e1 c d z w t => exact ⟨_, _, rfl, t, fun H2 ea => .inr ⟨o, its, n, e1, c, d, z, w⟩, .inr ⟨o, its, n, e1, c, d, z, w⟩⟩
      refine ⟨a, rfl, ⟨xs, e1⟩, hq ds _ H1 h3 x1 n1 fun i H2 A' ea w wa => ⟨fun hl => ⟨xs, keep _ ea, by rw [t.length]; exact hl⟩, fun d hd => ?_⟩⟩
      obtain ⟨u, hu, ru⟩ := t.get hd
      refine ⟨⟨xs, u, keep _ ea, hu⟩, ?_⟩
      rintro x H' ⟨rfl, hx⟩
      have := hx xs (keep _ ea)
      rw [hu] at this
      cases this
      exact ⟨.refl, w.rnd, ru.move ea wa⟩
    | _ => exact h3.elim, hz⟩
def itS : D → (List D → Prop) → Prop
  | .str x, P => P (x.cps.toList.map fun c => D.str ⟨#[c]⟩)
  | _, _ => False
theorem i_str (h : PE X e (tE X.K E f)) : PI X tg e (tI X.K E (fun δ P Z => f δ (fun d => itS d P) Z)) := PI.imp (pi_str h) fun σ H R ⟨r, A, δ, P, Z, R0, h2, hq, hz⟩ =>
  ⟨r, A, δ, _, Z, R0, h2, fun d v H1 h3 x1 n1 r1 => by
    cases d with
    | str x =>
      cases r1
      refine ⟨x, rfl, hq _ _ H1 h3 x1 n1 fun i H2 A' ea w wa => ⟨fun hl => by show x.cps.size ≤ i; simpa using hl, fun d hd => ?_⟩⟩
      rw [List.getElem?_map] at hd
      cases hc : x.cps.toList[i]? with
      | none => rw [hc] at hd; cases hd
      | some c =>
        rw [hc] at hd
        cases hd
        have hi := (List.getElem?_eq_some_iff.mp hc).1
        refine ⟨by show i < x.cps.size; simpa using hi, ?_⟩
        rintro y H' ⟨rfl, c', hc', rfl⟩
        have : c' = c := by
          have q : x.cps.toList[i]? = some c' := by simpa using hc'
          rw [hc] at q; cases q; rfl
        subst this
        exact ⟨.refl, w.rnd, .str _⟩
    | _ => exact h3.elim, hz⟩
/-- lo, lo + 1, .. -/
def rngD (lo : Int) (n : Nat) : List D := (List.range n).map fun i => D.int (lo + (i : Nat))
theorem yd_rng {K : PySem.W.Frag} {r : Addr} {A : Addr → Prop} {H : Hp} {lo : Int} {n : Nat} : YD K r A (Itr lo n) (rngD lo n) H := fun i H2 A' ea w wa => ⟨fun hl => by
    show n ≤ i
    simpa [rngD] using hl, fun d hd => by
    unfold rngD at hd
    rw [List.getElem?_map] at hd
    cases hc : (List.range n)[i]? with
    | none => rw [hc] at hd; cases hd
    | some c =>
      rw [hc] at hd
      cases hd
      obtain ⟨hi, e⟩ := List.getElem?_eq_some_iff.mp hc
      rw [List.getElem_range] at e
      subst e
      refine ⟨by show i < n; simpa using hi, ?_⟩
      rintro y H' ⟨rfl, rfl⟩
      exact ⟨.refl, w.rnd, .int _⟩⟩
variable {p pos : Pos} {es : List Expr} {fs : DA}
def itR1 : List D → (List D → Prop) → Prop
  | [.int j], P => -1073741824 ≤ j ∧ j ≤ 1073741824 ∧ P (rngD 0 j.toNat)
  | _, _ => False
def itR2 : List D → (List D → Prop) → Prop
  | [.int i, .int j], P => -1073741824 ≤ i ∧ i ≤ 1073741824 ∧ -1073741824 ≤ j ∧ j ≤ 1073741824 ∧ P (rngD i (j - i).toNat)
  | _, _ => False

theorem i_range1 {a : Expr} (hg : Gl X "range") (hm : X.mg "range" = none) (ha : PA X [a] (tA X.K E fs)) (hs : starEach [a] X.env = [(false, eval a X.env)] := by rfl) :
    PI X tg (.Call (.Name "range" p) [a] [] pos) (tI X.K E (fun δ P Z => fs δ (fun ds => itR1 ds P) Z)) := PI.imp (pi_range1 hg hm ha hs) fun σ H R ⟨r, A, δ, P, Z, R0, h2, hq, hz⟩ =>
  ⟨r, A, δ, _, Z, R0, h2, fun ds vs H1 h3 x1 n1 r1 => by
    match ds, h3 with
    | [.int j], h3 =>
      cases r1 with
      | cons a b => cases a; cases b; (obtain ⟨b1, b2, h3⟩ : -1073741824 ≤ j ∧ j ≤ 1073741824 ∧ P (rngD 0 j.toNat) := h3); exact ⟨j, rfl, by omega, by omega, hq _ _ H1 h3 x1 n1 yd_rng⟩, hz⟩
theorem i_range2 {a b : Expr} (hg : Gl X "range") (hm : X.mg "range" = none) (ha : PA X [a, b] (tA X.K E fs)) (hs : starEach [a, b] X.env = [(false, eval a X.env), (false, eval b X.env)] := by rfl) (hs2 : starEach [b] X.env = [(false, eval b X.env)] := by rfl) :
    PI X tg (.Call (.Name "range" p) [a, b] [] pos) (tI X.K E (fun δ P Z => fs δ (fun ds => itR2 ds P) Z)) := PI.imp (pi_range2 hg hm ha hs hs2) fun σ H R ⟨r, A, δ, P, Z, R0, h2, hq, hz⟩ =>
  ⟨r, A, δ, _, Z, R0, h2, fun ds vs H1 h3 x1 n1 r1 => by
    match ds, h3 with
    | [.int i, .int j], h3 =>
      cases r1 with
      | cons a b =>
        cases a
        cases b with
        | cons a b =>
          cases a; cases b
          (obtain ⟨b1, b2, b3, b4, h3⟩ : -1073741824 ≤ i ∧ i ≤ 1073741824 ∧ -1073741824 ≤ j ∧ j ≤ 1073741824 ∧ P (rngD i (j - i).toNat) := h3); exact ⟨i, j, rfl, ⟨by omega, by omega, by omega, by omega⟩, hq _ _ H1 h3 x1 n1 yd_rng⟩, hz⟩
/-- 0, x; 1, y; .. -/
def enumD (ds : List D) : List D := ds.mapIdx fun i d => .tup [.int (i : Nat), d]
theorem enumD_length (ds : List D) : (enumD ds).length = ds.length := by simp [enumD]
theorem enumD_get {ds : List D} {i : Nat} {d : D} (h : (enumD ds)[i]? = some d) : ∃ y, ds[i]? = some y ∧ d = .tup [.int (i : Nat), y] := by
  unfold enumD at h
  rw [List.getElem?_mapIdx] at h
  cases e : ds[i]? with
  | none => rw [e] at h; cases h
  | some y => rw [e] at h; exact ⟨y, rfl, (Option.some.inj h).symm⟩
def itE : List D → (List D → Prop) → Prop
  | [.tup ds], P => P (enumD ds)
  | _, _ => False
def itEL : List D → (List D → Prop) → Prop
  | [.lst ds], P => P (enumD ds)
  | _, _ => False
theorem i_enumT {a : Expr} {elts : List Expr} {kk : Nat} {tpos : Pos} (hg : Gl X "enumerate") (hm : X.mg "enumerate" = none) (ha : PA X [a] (tA X.K E fs)) (hs : starEach [a] X.env = [(false, eval a X.env)] := by rfl) :
    PI X (.Tuple elts kk tpos) (.Call (.Name "enumerate" p) [a] [] pos) (tI X.K E (fun δ P Z => fs δ (fun ds => itE ds P) Z)) := PI.imp (pi_enumT hg hm ha hs) fun σ H R ⟨r, A, δ, P, Z, R0, h2, hq, hz⟩ =>
  ⟨r, A, δ, _, Z, R0, h2, fun ds vs H1 h3 x1 n1 r1 => by
    match ds, h3 with
    | [.tup ds], h3 =>
      cases r1 with
      | @cons v _ _ _ r1 b =>
        cases b
        obtain ⟨a, xs, rfl, t, keep, e1⟩ : ∃ a xs, v = V.ref a ∧ DRs X.K r A H1 xs ds ∧ (∀ H2, ExtA A H1 H2 → SqT X.K H2 a xs) ∧ SqT X.K H1 a xs := by
          cases r1 with
          | tup n e1 z t => exact ⟨_, _, rfl, t, fun H2 ea => SqT.of (ea _ _ n e1), SqT.of e1⟩
          | ktup o its n e1 c d z w t => exact ⟨_, _, rfl, t, fun H2 ea => .inr ⟨o, its, n, e1, c, d, z, w⟩, .inr ⟨o, its, n, e1, c, d, z, w⟩⟩
        refine ⟨a, xs, rfl, e1, hq _ _ H1 h3 x1 n1 fun i H2 A' ea w wa => ⟨fun hl => ⟨xs, keep _ ea, by rw [t.length, ← enumD_length]; exact hl⟩, fun d hd => ?_⟩⟩
        obtain ⟨y, hy, rfl⟩ := enumD_get hd
        obtain ⟨u, hu, ru⟩ := t.get hy
        refine ⟨⟨xs, u, keep _ ea, hu⟩, ?_⟩
        rintro x H' ⟨T, z, rfl, nT, rfl, hx⟩
        have := hx xs (keep _ ea)
        rw [hu] at this
        cases this
        exact ⟨Ext.upd nT, w.rnd.upd nT, w.tup nT (by show 2 ≤ sizeLine; decide) (.cons (.int _) (.cons (ru.move ea wa) .nil))⟩, hz⟩
theorem i_enumL {a : Expr} {elts : List Expr} {kk : Nat} {tpos : Pos} (hg : Gl X "enumerate") (hm : X.mg "enumerate" = none) (ha : PA X [a] (tA X.K E fs)) (hs : starEach [a] X.env = [(false, eval a X.env)] := by rfl) :
    PI X (.Tuple elts kk tpos) (.Call (.Name "enumerate" p) [a] [] pos) (tI X.K E (fun δ P Z => fs δ (fun ds => itEL ds P) Z)) := PI.imp (pi_enum hg hm ha hs) fun σ H R ⟨r, A, δ, P, Z, R0, h2, hq, hz⟩ =>
  ⟨r, A, δ, _, Z, R0, h2, fun ds vs H1 h3 x1 n1 r1 => by
    match ds, h3 with
    | [.lst ds], h3 =>
      cases r1 with
      | cons r1 b =>
        cases b
        obtain ⟨a, xs, rfl, na, e1, z, t⟩ := r1.sqL
        refine ⟨a, xs, rfl, SqL.of e1, hq _ _ H1 h3 x1 n1 fun i H2 A' ea w wa => ⟨fun hl => ⟨xs, SqL.of (ea a _ na e1), by rw [t.length, ← enumD_length]; exact hl⟩, fun d hd => ?_⟩⟩
        obtain ⟨y, hy, rfl⟩ := enumD_get hd
        obtain ⟨u, hu, ru⟩ := t.get hy
        refine ⟨⟨xs, u, SqL.of (ea a _ na e1), hu⟩, ?_⟩
        rintro x H' ⟨T, z, rfl, nT, rfl, hx⟩
        have := hx xs (SqL.of (ea a _ na e1))
        rw [hu] at this
        cases this
        exact ⟨Ext.upd nT, w.rnd.upd nT, w.tup nT (by show 2 ≤ sizeLine; decide) (.cons (.int _) (.cons (ru.move ea wa) .nil))⟩, hz⟩
end

/-! ### targets -/
abbrev DG := D → Env → (Env → Prop) → Prop
def tG (K : PySem.W.Frag) (g : DG) (t : TG) : Prop := ∀ (r : Addr) (A : Addr → Prop) (v : V) (d : D) (σ : L2.St) (H : Hp) (δ : Env) (P : Env → Prop) (Q : L2.St → Hp → Prop), ER K r A σ H δ → DR K r A H v d → g d δ P → (∀ δ' σ', P δ' → ER K r A σ' H δ' → Q σ' H) → t v σ H Q
def gN (i : Nat) : DG := fun d δ P => P (δ.set i (.val d))
theorem g_name {K : PySem.W.Frag} (i : Nat) : tG K (gN i) (gName i) := fun r A v d σ H δ P Q R hd h q => q _ _ h (R.set hd)
def gN2 (i j : Nat) : DG := fun d δ P => match d with
  | .tup [x, y] => P ((δ.set i (.val x)).set j (.val y))
  | _ => False
theorem g_two {K : PySem.W.Frag} (i j : Nat) : tG K (gN2 i j) (gTup K 2 (gCons (gName i) (gCons (gName j) gNil))) := fun r A v d σ H δ P Q R hd h q => by
  cases d with
  | tup ds =>
    obtain ⟨a, xs, rfl, e, z, t⟩ := hd.sqT
    match ds, t, h with
    | [x, y], t, h =>
      cases t with
      | cons t1 t => cases t with
        | cons t2 t =>
          cases t
          exact ⟨a, _, rfl, e, rfl, _, _, rfl, _, _, rfl, rfl, q _ _ h ((R.set t1).set t2)⟩
  | _ => exact h.elim
end L3

namespace L3
open PySem PySem.Spec PyProof.Rows L2
/-! ### comprehensions -/
def XF : XP := fun _ => False
def E0 : XK := fun _ _ _ => False
def lcD (g : DG) (tt : DT) (te : DE) (δw : Env) : List D → List D → (List D → Prop) → Prop
  | [], acc, P => P acc
  | d :: ds, acc, P => g d δw fun δ2 => tt δ2 (fun b => if b = true then te δ2 (fun y => lcD g tt te δw ds (acc ++ [y]) P) XF else lcD g tt te δw ds acc P) XF
def wipeE (δ : Env) : List Nat → Env
  | [] => δ
  | v :: vs => (wipeE δ vs).set v .emp
theorem wipeE_length (δ : Env) : ∀ vs : List Nat, (wipeE δ vs).length = δ.length
  | [] => rfl
  | v :: vs => by unfold wipeE; rw [List.length_set, wipeE_length δ vs]
theorem wipe_get (σ : L2.St) : ∀ (vs : List Nat) (j : Nat), (wipe σ vs)[j]? = if j ∈ vs then σ[j]?.map (fun _ => none) else σ[j]?
  | [], j => by simp [wipe]
  | v :: vs, j => by
    unfold wipe
    by_cases h : v = j
    · subst h
      have ih := wipe_get σ vs v
      by_cases hl : v < (wipe σ vs).length
      · rw [List.getElem?_set_self hl]
        rw [wipe_length] at hl
        simp [List.getElem?_eq_getElem hl]
      · rw [List.getElem?_eq_none (by rw [List.length_set]; omega)]
        rw [wipe_length] at hl
        simp [List.getElem?_eq_none (show σ.length ≤ v by omega)]
    · rw [List.getElem?_set_ne h, wipe_get σ vs j]
      have hne : ¬ j = v := fun e => h e.symm
      simp only [List.mem_cons, hne, false_or]
theorem wipeE_get (δ : Env) : ∀ (vs : List Nat) (j : Nat) (x : Sl), (wipeE δ vs)[j]? = some x → x = .emp ∨ (j ∉ vs ∧ δ[j]? = some x)
  | [], j, x, h => .inr ⟨by simp, h⟩
  | v :: vs, j, x, h => by
    unfold wipeE at h
    by_cases e : v = j
    · subst e
      by_cases hl : v < (wipeE δ vs).length
      · rw [List.getElem?_set_self hl] at h
        cases h
        exact .inl rfl
      · rw [List.getElem?_eq_none (by rw [List.length_set]; omega)] at h; cases h
    · rw [List.getElem?_set_ne e] at h
      rcases wipeE_get δ vs j x h with q | ⟨q1, q2⟩
      · exact .inl q
      · have hne : ¬ j = v := fun z => e z.symm
        exact .inr ⟨by simp [hne, q1], q2⟩
theorem wipe_wipe (σ : L2.St) (vs : List Nat) : wipe (wipe σ vs) vs = wipe σ vs := by
  apply List.ext_getElem?
  intro j
  rw [wipe_get, wipe_get]
  by_cases h : j ∈ vs
  · rw [if_pos h, if_pos h, Option.map_map]; rfl
  · rw [if_neg h, if_neg h]
theorem wipe_set (σ : L2.St) {vs : List Nat} {i : Nat} (x : Option V) (hi : i ∈ vs) : wipe (σ.set i x) vs = wipe σ vs := by
  apply List.ext_getElem?
  intro j
  rw [wipe_get, wipe_get]
  by_cases h : j ∈ vs
  · rw [if_pos h, if_pos h]
    by_cases e : i = j
    · subst e
      by_cases hl : i < σ.length
      · rw [List.getElem?_set_self hl, List.getElem?_eq_getElem hl]; rfl
      · rw [List.getElem?_eq_none (by rw [List.length_set]; omega), List.getElem?_eq_none (by omega)]
    · rw [List.getElem?_set_ne e]
  · rw [if_neg h, if_neg h, List.getElem?_set_ne (fun e => h (by rw [← e]; exact hi))]
section
variable {K : PySem.W.Frag} {r : Addr} {A A' : Addr → Prop} {σ σ' : L2.St} {H H' : Hp} {δ δ' : Env}
theorem ER.wipe (h : ER K r A σ H δ) (vs : List Nat) : ER K r A (wipe σ vs) H (wipeE δ vs) := h.weak (by rw [wipeE_length, wipe_length]; exact h.len) fun j x q => by
  rcases wipeE_get δ vs j x q with q | ⟨q1, q2⟩
  · exact .inl q
  · exact .inr ⟨q2, by rw [wipe_get, if_neg q1]⟩
/-- a barred cell p that no slot owns changes -/
theorem ER.extD {p : Addr} (h : ER K r A σ H δ) (hp : A p) (no : ∀ (i : Nat) ds, δ[i]? = some (.own ds) → σ[i]? ≠ some (some (.ref p))) (e : ∀ b o, b ≠ r → b ≠ p → H b = some o → H' b = some o) (hn : H' p ≠ none) (rn : RndOk r H') : ER K r A σ H' δ := by
  have ea : ExtA A H H' := fun b o n q => e b o (fun z => n (z ▸ h.ar)) (fun z => n (z ▸ hp)) q
  refine ⟨rn, h.ar, fun b hb z => ?_, h.len, fun i d q => ?_, fun i ds q => ?_, h.sep⟩
  · by_cases hr : b = r
    · obtain ⟨ns, e1, _⟩ := rn
      rw [hr, e1] at z; cases z
    · by_cases hb' : b = p
      · exact hn (hb' ▸ z)
      · cases q : H b with
        | none => exact h.all b hb q
        | some o => rw [e b o hr hb' q] at z; cases z
  · obtain ⟨v, e1, e2⟩ := h.val i d q
    exact ⟨v, e1, e2.ext ea⟩
  · obtain ⟨l, xs, e1, e2, e3, e4, e5, e6⟩ := h.own i ds q
    exact ⟨l, xs, e1, e2, e3, e l _ e3 (fun z => no i ds q (z ▸ e1)) e4, e5, e6.ext ea⟩
end
/-- no slot is an own list's that wasn't -/
def OwnSub (σ : L2.St) (δ : Env) (σ' : L2.St) (δ' : Env) : Prop := ∀ (j : Nat) (es : List D), δ'[j]? = some (.own es) → δ[j]? = some (.own es) ∧ σ'[j]? = σ[j]?
theorem OwnSub.set (σ : L2.St) (δ : Env) (i : Nat) (v : Option V) (d : D) : OwnSub σ δ (σ.set i v) (δ.set i (.val d)) := fun j es q => by
  by_cases hj : i = j
  · subst hj
    by_cases hl : i < δ.length
    · rw [List.getElem?_set_self hl] at q; cases q
    · rw [List.getElem?_eq_none (by rw [List.length_set]; omega)] at q; cases q
  · rw [List.getElem?_set_ne hj] at q
    exact ⟨q, List.getElem?_set_ne hj⟩
theorem OwnSub.trans {σ σ1 σ2 : L2.St} {δ δ1 δ2 : Env} (a : OwnSub σ δ σ1 δ1) (b : OwnSub σ1 δ1 σ2 δ2) : OwnSub σ δ σ2 δ2 := fun j es q => ⟨(a j es (b j es q).1).1, (b j es q).2.trans (a j es (b j es q).1).2⟩
theorem OwnSub.wipe (σ : L2.St) (δ : Env) (vs : List Nat) : OwnSub σ δ (L2.wipe σ vs) (wipeE δ vs) := fun j es q => by
  rcases wipeE_get δ vs j _ q with z | ⟨z1, z2⟩
  · cases z
  · exact ⟨z2, by rw [wipe_get, if_neg z1]⟩
/-- what a comprehension's target does: it keeps to its own slots -/
def tGc (K : PySem.W.Frag) (vs : List Nat) (g : DG) (t : TG) : Prop := ∀ (r : Addr) (A : Addr → Prop) (v : V) (d : D) (σ : L2.St) (H : Hp) (δ : Env) (P : Env → Prop) (Q : L2.St → Hp → Prop), ER K r A σ H δ → DR K r A H v d → g d δ P → (∀ δ' σ', P δ' → wipe σ' vs = wipe σ vs → OwnSub σ δ σ' δ' → ER K r A σ' H δ' → Q σ' H) → t v σ H Q
theorem gc_name {K : PySem.W.Frag} {vs : List Nat} (i : Nat) (hi : i ∈ vs := by simp) : tGc K vs (gN i) (gName i) := fun r A v d σ H δ P Q R hd h q => q _ _ h (wipe_set _ _ hi) (OwnSub.set _ _ _ _ _) (R.set hd)
theorem gc_two {K : PySem.W.Frag} {vs : List Nat} (i j : Nat) (hi : i ∈ vs := by simp) (hj : j ∈ vs := by simp) : tGc K vs (gN2 i j) (gTup K 2 (gCons (gName i) (gCons (gName j) gNil))) := fun r A v d σ H δ P Q R hd h q => by
  cases d with
  | tup ds =>
    obtain ⟨a, xs, rfl, e, z, t⟩ := hd.sqT
    match ds, t, h with
    | [x, y], t, h =>
      cases t with
      | cons t1 t => cases t with
        | cons t2 t =>
          cases t
          exact ⟨a, _, rfl, e, rfl, _, _, rfl, _, _, rfl, rfl, q _ _ h (by rw [wipe_set _ _ hj, wipe_set _ _ hi]) ((OwnSub.set _ _ _ _ _).trans (OwnSub.set _ _ _ _ _)) ((R.set t1).set t2)⟩
  | _ => exact h.elim
theorem lc_of {K : PySem.W.Frag} {E : XK} {fi : DI} {g : DG} {gt : TG} {tt : DT} {te : DE} {vs : List Nat} (hg : tGc K vs g gt) : ∀ σ H Q,
    tE K E (fun δ P Z => fi δ (fun ds => ds.length ≤ sizeLine ∧ lcD g tt te (wipeE δ vs) ds [] (fun out => P (.lst out))) Z) σ H Q →
    tLc (tI K E fi) gt (tT K E0 tt) (tE K E0 te) vs σ H Q := fun σ H Q ⟨r, A, δ, P, Z, R, h2, hq, hz⟩ =>
  ⟨r, A, δ, _, Z, R, h2, fun ds J H1 h3 x1 n1 y => by
    obtain ⟨hlen, h3⟩ := h3
    intro D nD
    have R1 := R.ext x1 n1
    have nDr : D ≠ r := fun z => by
      obtain ⟨ns, e, _⟩ := n1
      rw [z, e] at nD; cases nD
    have nA : ¬ A D := R1.free nD
    refine ⟨fun i m Hc => m = ds.length - i ∧ i ≤ ds.length ∧ ∃ (acc : List L3.D) (accV : List V), lcD g tt te (wipeE δ vs) (ds.drop i) acc (fun out => P (.lst out)) ∧ Hc D = some (.lst accV) ∧ accV.length ≤ i ∧ DRs K r (fun b => A b ∨ b = D) Hc accV acc ∧
      (∀ b o, b ≠ r → b ≠ D → H1 b = some o → Hc b = some o) ∧ RndOk r Hc, ⟨ds.length, by simp, Nat.zero_le _, [], [], h3, upd_same, Nat.le_refl _, .nil, fun b o _ hb e => by rw [upd_ne hb]; exact e, n1.upd nD⟩, ?_⟩
    rintro i m Hc ⟨rfl, hi, acc, accV, h4, hD, hl, hacc, keep, rn⟩
    have ea : ExtA A H1 Hc := fun b o nb q => keep b o (fun z => nb (z ▸ R1.ar)) (ne_of_none q nD) q
    have wa : ∀ b o, (A b ∨ b = D) → H1 b = some o → A b := fun b o hb q => by
      rcases hb with hb | hb
      · exact hb
      · rw [hb, nD] at q; cases q
    have R2 : ER K r (fun b => A b ∨ b = D) σ (upd H1 D (.lst [])) δ := R1.bar nD (by rw [upd_same]; simp) fun b o hb q => by rw [upd_ne hb]; exact q
    have R3 : ER K r (fun b => A b ∨ b = D) σ Hc δ := R2.extD (p := D) (.inr rfl) (fun j es q z => by
        obtain ⟨l, xs, e1, _, _, e4, _⟩ := R1.own j es q
        rw [e1] at z
        cases z
        rw [nD] at e4; cases e4) (fun b o hr hb q => by
          rw [upd_ne hb] at q
          exact keep b o hr hb q) (by rw [hD]; simp) rn
    obtain ⟨ys, yg⟩ := y i Hc _ ea R3.wd wa
    by_cases hlt : i < ds.length
    · obtain ⟨go, yl⟩ := yg ds[i] (List.getElem?_eq_getElem hlt)
      refine .inr ⟨go, fun H' => ∃ m', m' < ds.length - i ∧ m' = ds.length - (i + 1) ∧ i + 1 ≤ ds.length ∧ ∃ (acc : List L3.D) (accV : List V), lcD g tt te (wipeE δ vs) (ds.drop (i + 1)) acc (fun out => P (.lst out)) ∧ H' D = some (.lst accV) ∧ accV.length ≤ i + 1 ∧ DRs K r (fun b => A b ∨ b = D) H' accV acc ∧
        (∀ b o, b ≠ r → b ≠ D → H1 b = some o → H' b = some o) ∧ RndOk r H', fun H' h => h, fun x H' hy => ?_⟩
      obtain ⟨x5, n5, d5⟩ := yl x H' hy
      rw [List.drop_eq_getElem_cons hlt] at h4
      have R5 := (R3.ext x5 n5).wipe vs
      refine hg r _ x ds[i] _ H' _ _ _ R5 d5 h4 fun δ2 σ2 h6 hw _ R6 => ⟨by rw [hw, wipe_wipe], r, _, δ2, _, XF, R6, h6, fun b H3 h7 x7 n7 => ?_, fun x c dd H' z => z.elim⟩
      cases b with
      | true =>
        refine ⟨r, _, δ2, _, XF, R6.ext x7 n7, h7, fun y v H4 h8 x8 n8 d8 => ?_, fun x c dd H' z => z.elim⟩
        have xx := (x5.trans x7).trans x8
        have hD4 : H4 D = some (.lst accV) := xx D _ nDr hD
        have eD : ExtA (fun b => A b ∨ b = D) H4 (upd H4 D (.lst (accV ++ [v]))) := fun b o nb q => by
          rw [upd_ne (fun z => nb (.inr z))]; exact q
        refine ⟨accV, hD4, by omega, ds.length - (i + 1), by omega, rfl, by omega, acc ++ [y], accV ++ [v], h8, upd_same, by rw [List.length_append, List.length_singleton]; omega,
          DRs.append ((hacc.ext (xx.toA (.inl R1.ar))).ext eD) (.cons (d8.ext eD) .nil), fun b o hr hb q => by rw [upd_ne hb]; exact xx b o hr (keep b o hr hb q), ?_⟩
        obtain ⟨ns, e1, e2⟩ := n8
        exact ⟨ns, by rw [upd_ne (Ne.symm nDr)]; exact e1, e2⟩
      | false =>
        have xx := x5.trans x7
        exact ⟨ds.length - (i + 1), by omega, rfl, by omega, acc, accV, h7, xx D _ nDr hD, by omega, hacc.ext (xx.toA (.inl R1.ar)), fun b o hr hb q => xx b o hr (keep b o hr hb q), n7⟩
    · have ei : i = ds.length := by omega
      refine .inl ⟨ys (by omega), ?_⟩
      rw [List.drop_eq_nil_of_le (by omega)] at h4
      refine hq (.lst acc) _ Hc h4 (fun b o hr q => ?_) rn (.lst nA hD (by omega) (hacc.bar fun b o hb _ => .inl hb))
      have q1 := x1 b o hr q
      exact keep b o hr (ne_of_none q1 nD) q1, hz⟩
section
variable {X : Cx} {E : XK} {elt tg iter : Expr} {ifs : List Expr} {scope : Scope} {own : List (Str × Nat)} {pos : Pos} {fi : DI} {g : DG} {gt : TG} {tt : DT} {te : DE}
theorem ts_nil : PTs X [] (tT X.K E (fun _ P _ => P true)) := ⟨fun pins s σ H Q I ⟨r, A, δ, P, Z, R, h2, hq, _⟩ => pts_nil.run pins s σ H Q I (hq true H h2 .refl R.rnd)⟩
theorem ts_one {c : Expr} (h : PT X c (tT X.K E tt)) : PTs X [c] (tT X.K E tt) := pts_one h
theorem e_lc (hc : X.calm = true) (hN : X.N.Nodup) (hi : PI X tg iter (tI X.K E fi)) (ok : BlkOk X.N X.env.scope scope own) (hG : tGc X.K (own.map (·.2)) g gt)
    (hg : ∀ (s : Shared) (H : Hp) (C : Addr) (cl : List (Str × Addr)) (fp : List Addr), PG (X.blk s H scope (compEnvC scope cl C X.env) fp) tg gt) (ht : ∀ (s : Shared) (H : Hp) (C : Addr) (cl : List (Str × Addr)) (fp : List Addr), PTs (X.blk s H scope (compEnvC scope cl C X.env) fp) ifs (tT X.K E0 tt))
    (he : ∀ (s : Shared) (H : Hp) (C : Addr) (cl : List (Str × Addr)) (fp : List Addr), PE (X.blk s H scope (compEnvC scope cl C X.env) fp) elt (tE X.K E0 te)) (hs : ∀ x, foldedSetIterable iter X.env x = pure x := by intro _; rfl) :
    PE X (.ListComp elt [⟨tg, iter, ifs, 0⟩] scope pos) (tE X.K E (fun δ P Z => fi δ (fun ds => ds.length ≤ sizeLine ∧ lcD g tt te (wipeE δ (own.map (·.2))) ds [] (fun out => P (.lst out))) Z)) :=
  PE.imp (pe_lc hc hN hi ok hg ht he hs) (lc_of hG)
end

/-! ### statements -/
def Av (A0 : Addr → Prop) (r : Addr) (σ : L2.St) (δ : Env) (b : Addr) : Prop := A0 b ∨ b = r ∨ ∃ (i : Nat) (ds : List D), δ[i]? = some (Sl.own ds) ∧ σ[i]? = some (some (V.ref b))
structure SR (K : PySem.W.Frag) (r : Addr) (A0 : Addr → Prop) (H0 : Hp) (σ : L2.St) (H : Hp) (δ : Env) : Prop where
  er : ER K r (Av A0 r σ δ) σ H δ
  ext : Ext r H0 H
  fresh : ∀ (i : Nat) ds l, δ[i]? = some (.own ds) → σ[i]? = some (some (.ref l)) → H0 l = none
  a0 : ∀ b, A0 b → H0 b ≠ none
structure DEnds where
  nx : Env → Prop
  rt : DP
  bk : Env → Prop
  ct : Env → Prop
  ex : XP
abbrev DS := DEnds → Env → Prop
structure Lands (K : PySem.W.Frag) (E : XK) (r : Addr) (A0 : Addr → Prop) (H0 : Hp) (P : DEnds) (Dd : Ends) : Prop where
  nx : ∀ δ' σ' H', P.nx δ' → SR K r A0 H0 σ' H' δ' → Dd.nx σ' H'
  rt : ∀ d v H', P.rt d → Ext r H0 H' → RndOk r H' → DR K r A0 H' v d → Dd.rt v H'
  bk : ∀ δ' σ' H', P.bk δ' → SR K r A0 H0 σ' H' δ' → Dd.bk σ' H'
  ct : ∀ δ' σ' H', P.ct δ' → SR K r A0 H0 σ' H' δ' → Dd.ct σ' H'
  ex : ∀ x c dd H', P.ex x → Ext r H0 H' → RndOk r H' → XR K r A0 H' c dd x → E c dd H'
def tS (K : PySem.W.Frag) (E : XK) (f : DS) : TS := fun Dd σ H => ∃ r A0 H0 δ P, SR K r A0 H0 σ H δ ∧ f P δ ∧ Lands K E r A0 H0 P Dd
section
variable {K : PySem.W.Frag} {E : XK} {r : Addr} {A0 A A' : Addr → Prop} {H0 H H' : Hp} {σ σ' : L2.St} {δ δ' : Env} {P : DEnds} {Dd : Ends}
theorem ER.shrink (h : ER K r A σ H δ) (w : ∀ b, A' b → A b) (ar : A' r) (ow : ∀ (i : Nat) ds l, δ[i]? = some (.own ds) → σ[i]? = some (some (.ref l)) → A' l) : ER K r A' σ H δ :=
  ⟨h.rnd, ar, fun b hb => h.all b (w b hb), h.len, fun i d q => by
    obtain ⟨v, e1, e2⟩ := h.val i d q
    exact ⟨v, e1, e2.bar fun b o hb _ => w b hb⟩, fun i ds q => by
    obtain ⟨l, xs, e1, e2, e3, e4, e5, e6⟩ := h.own i ds q
    exact ⟨l, xs, e1, ow i ds l q e1, e3, e4, e5, e6.bar fun b o hb _ => w b hb⟩, h.sep⟩
theorem SR.of (h : ER K r A σ H δ) (w : ∀ b, A0 b → A b) (ext : Ext r H0 H) (fresh : ∀ (i : Nat) ds l, δ[i]? = some (.own ds) → σ[i]? = some (some (.ref l)) → H0 l = none) (a0 : ∀ b, A0 b → H0 b ≠ none) : SR K r A0 H0 σ H δ :=
  ⟨h.shrink (fun b hb => by
    rcases hb with hb | hb | ⟨i, ds, q1, q2⟩
    · exact w b hb
    · rw [hb]; exact h.ar
    · obtain ⟨l, xs, e1, e2, _⟩ := h.own i ds q1
      rw [e1] at q2
      cases q2
      exact e2) (.inr (.inl rfl)) fun i ds l q1 q2 => .inr (.inr ⟨i, ds, q1, q2⟩), ext, fresh, a0⟩
theorem SR.move (h : SR K r A0 H0 σ H δ) (e : Ext r H H') (rn : RndOk r H') : SR K r A0 H0 σ H' δ := ⟨h.er.ext e rn, h.ext.trans e, h.fresh, h.a0⟩
/-- a slot gets a value -/
theorem SR.set (h : SR K r A0 H0 σ H δ) {i : Nat} {v : V} {d : D} (hd : DR K r (Av A0 r σ δ) H v d) : SR K r A0 H0 (σ.set i (some v)) H (δ.set i (.val d)) :=
  SR.of (h.er.set hd) (fun b hb => .inl hb) h.ext (fun j es l q1 q2 => by
    by_cases hj : i = j
    · subst hj
      by_cases hl : i < δ.length
      · rw [List.getElem?_set_self hl] at q1; cases q1
      · rw [List.getElem?_eq_none (by rw [List.length_set]; omega)] at q1; cases q1
    · rw [List.getElem?_set_ne hj] at q1 q2
      exact h.fresh j es l q1 q2) h.a0
theorem SR.down {H1 : Hp} (h : SR K r A0 H1 σ H δ) (w : ∀ b o, H0 b = some o → H1 b = some o) (a0 : ∀ b, A0 b → H0 b ≠ none) : SR K r A0 H0 σ H δ :=
  ⟨h.er, fun b o hr q => h.ext b o hr (w b o q), fun i ds l q1 q2 => (by
    cases q : H0 l with
    | none => rfl
    | some o =>
      have z := h.fresh i ds l q1 q2
      rw [w l o q] at z
      cases z), a0⟩
/-- an expression within a statement -/
theorem use_of {f : DE} {R : VK} (h : SR K r A0 H0 σ H δ) (L : Lands K E r A0 H0 P Dd) {Pd : DP} (hf : f δ Pd P.ex) (hq : ∀ d v H', Pd d → Ext r H H' → RndOk r H' → DR K r (Av A0 r σ δ) H' v d → R v H') : tE K E f σ H R :=
  ⟨r, _, δ, Pd, P.ex, h.er, hf, hq, fun x c dd H' z e n y => L.ex x c dd H' z (h.ext.trans e) n (y.bar fun b o hb _ => .inl hb)⟩
theorem useT_of {f : DT} {R : Bool → Hp → Prop} (h : SR K r A0 H0 σ H δ) (L : Lands K E r A0 H0 P Dd) {Pd : Bool → Prop} (hf : f δ Pd P.ex) (hq : ∀ d H', Pd d → Ext r H H' → RndOk r H' → R d H') : tT K E f σ H R :=
  ⟨r, _, δ, Pd, P.ex, h.er, hf, hq, fun x c dd H' z e n y => L.ex x c dd H' z (h.ext.trans e) n (y.bar fun b o hb _ => .inl hb)⟩
end
section
variable {X : Cx} {E : XK} {st : Stmt} {rest : List Stmt} {f g : DS} {e c : Expr} {fe : DE} {ft : DT} {pos : Pos} {i : Nat} {x : Str}
theorem s_nil : PSs X [] (tS X.K E (fun P δ => P.nx δ)) := PSs.imp pss_nil fun D σ H ⟨r, A0, H0, δ, P, R, h, L⟩ => L.nx _ _ _ h R
theorem s_cons (h1 : PS X st (tS X.K E f)) (h2 : PSs X rest (tS X.K E g)) : PSs X (st :: rest) (tS X.K E (fun P δ => f { P with nx := g P } δ)) := PSs.imp (pss_cons h1 h2) fun D σ H ⟨r, A0, H0, δ, P, R, h, L⟩ =>
  ⟨r, A0, H0, δ, { P with nx := g P }, R, h, ⟨fun δ' σ' H' q R' => ⟨r, A0, H0, δ', P, R', q, L⟩, L.rt, L.bk, L.ct, L.ex⟩⟩
theorem s_one (h1 : PS X st (tS X.K E f)) : PSs X [st] (tS X.K E f) := pss_one h1
theorem s_set {p' : Pos} (hN : X.N.Nodup) (hi : X.N[i]? = some x) (hx : Loc X.env.scope x) (he : PE X e (tE X.K E fe)) (hs : swapsWith e (some (.Name x p')) pos.line X.env = pure false := by rfl)
    (hf : X.fn x = true ∨ X.env.scope.names.lookup x = some .local := by first | exact .inl rfl | exact .inr rfl | assumption) :
    PS X (.Assign [.Name x p'] e pos) (tS X.K E (fun P δ => fe δ (fun d => P.nx (δ.set i (.val d))) P.ex)) := PS.imp (ps_set hN hi hx he hs hf) fun D σ H ⟨r, A0, H0, δ, P, R, h, L⟩ =>
  use_of R L h fun d v H' h2 x2 n2 r2 => L.nx _ _ _ h2 ((R.move x2 n2).set r2)
theorem s_ret (he : PE X e (tE X.K E fe)) : PS X (.Return (some e) pos) (tS X.K E (fun P δ => fe δ P.rt P.ex)) := PS.imp (ps_ret he) fun D σ H ⟨r, A0, H0, δ, P, R, h, L⟩ =>
  use_of R L h fun d v H' h2 x2 n2 r2 => L.rt d v H' h2 (R.ext.trans x2) n2 (r2.bar fun b o hb _ => .inl hb)
theorem s_if {a b : List Stmt} (hc : PT X c (tT X.K E ft)) (ha : PSs X a (tS X.K E f)) (hb : PSs X b (tS X.K E g)) : PS X (.If c a b pos) (tS X.K E (fun P δ => ft δ (fun k => if k = true then f P δ else g P δ) P.ex)) := PS.imp (ps_if hc ha hb) fun D σ H ⟨r, A0, H0, δ, P, R, h, L⟩ =>
  useT_of R L h fun k H' h2 x2 n2 => by
    cases k with
    | true => exact ⟨r, A0, H0, δ, P, R.move x2 n2, h2, L⟩
    | false => exact ⟨r, A0, H0, δ, P, R.move x2 n2, h2, L⟩
theorem s_expr (he : PE X e (tE X.K E fe)) (hs : swapsWith e none pos.line X.env = pure false := by rfl) : PS X (.Expr e pos) (tS X.K E (fun P δ => fe δ (fun _ => P.nx δ) P.ex)) := PS.imp (ps_expr he hs) fun D σ H ⟨r, A0, H0, δ, P, R, h, L⟩ =>
  use_of R L h fun d v H' h2 x2 n2 r2 => L.nx _ _ _ h2 (R.move x2 n2)
theorem s_pass : PS X (.Pass pos) (tS X.K E (fun P δ => P.nx δ)) := PS.imp ps_pass fun D σ H ⟨r, A0, H0, δ, P, R, h, L⟩ => L.nx _ _ _ h R
/-- an own list -/
theorem s_own {p' p2 : Pos} (hN : X.N.Nodup) (hi : X.N[i]? = some x) (hx : Loc X.env.scope x) (hs : swapsWith (.List [] p2) (some (.Name x p')) pos.line X.env = pure false := by rfl)
    (hf : X.fn x = true ∨ X.env.scope.names.lookup x = some .local := by first | exact .inl rfl | exact .inr rfl | assumption) :
    PS X (.Assign [.Name x p'] (.List [] p2) pos) (tS X.K E (fun P δ => P.nx (δ.set i (.own [])))) := PS.imp (ps_set hN hi hx (pe_lst pa_nil) hs hf) fun D σ H ⟨r, A0, H0, δ, P, R, h, L⟩ => by
  refine ⟨Nat.zero_le _, fun p np => L.nx _ _ _ h ?_⟩
  have R1 := R.er.bar (H1 := upd H p (.lst [])) np (by rw [upd_same]; simp) fun b o hb q => by rw [upd_ne hb]; exact q
  have np0 : H0 p = none := by
    cases q : H0 p with
    | none => rfl
    | some o =>
      by_cases hr : p = r
      · obtain ⟨ns, e1, _⟩ := R.er.rnd
        rw [hr, e1] at np; cases np
      · rw [R.ext p o hr q] at np; cases np
  have npr : p ≠ r := fun z => by
    obtain ⟨ns, e1, _⟩ := R.er.rnd
    rw [z, e1] at np; cases np
  have hsl : ∀ (j : Nat) (s : Sl), (δ.set i (.own []))[j]? = some s → (i = j ∧ s = .own []) ∨ (i ≠ j ∧ δ[j]? = some s) := fun j s q => by
    by_cases hj : i = j
    · subst hj
      by_cases hl : i < δ.length
      · rw [List.getElem?_set_self hl] at q; cases q; exact .inl ⟨rfl, rfl⟩
      · rw [List.getElem?_eq_none (by rw [List.length_set]; omega)] at q; cases q
    · rw [List.getElem?_set_ne hj] at q; exact .inr ⟨hj, q⟩
  have hil : ∀ (j : Nat) (s : Sl), (δ.set i (.own []))[j]? = some s → i = j → (σ.set i (some (V.ref p)))[j]? = some (some (V.ref p)) := fun j s q e => by
    subst e
    by_cases hl : i < σ.length
    · exact List.getElem?_set_self hl
    · rw [List.getElem?_eq_none (by rw [List.length_set, R.er.len]; omega)] at q; cases q
  have nown : ∀ (j : Nat) ds l, δ[j]? = some (.own ds) → σ[j]? = some (some (.ref l)) → l ≠ p := fun j ds l q1 q2 z => by
    obtain ⟨l', xs, e1, _, _, e4, _⟩ := R.er.own j ds q1
    rw [e1] at q2; cases q2
    rw [z, np] at e4; cases e4
  refine SR.of (A := fun b => Av A0 r σ δ b ∨ b = p) ⟨R1.rnd, R1.ar, R1.all, by rw [List.length_set, List.length_set]; exact R1.len, fun j d q => ?_, fun j ds q => ?_, fun j k es fs l hjk q1 q2 q3 q4 => ?_⟩
    (fun b hb => .inl (.inl hb)) (R.ext.trans (Ext.upd np)) (fun j es l q1 q2 => ?_) R.a0
  · rcases hsl j _ q with ⟨_, z⟩ | ⟨hj, q⟩
    · cases z
    · rw [List.getElem?_set_ne hj]; exact R1.val j d q
  · rcases hsl j _ q with ⟨e, z⟩ | ⟨hj, q'⟩
    · cases z
      exact ⟨p, [], hil j _ q e, .inr rfl, npr, upd_same, Nat.zero_le _, .nil⟩
    · rw [List.getElem?_set_ne hj]; exact R1.own j ds q'
  · rcases hsl j _ q1 with ⟨e1, z1⟩ | ⟨hj, q1'⟩
    · rcases hsl k _ q2 with ⟨e2, z2⟩ | ⟨hk, q2'⟩
      · exact hjk (e1.symm.trans e2)
      · rw [hil j _ q1 e1] at q3; cases q3
        rw [List.getElem?_set_ne hk] at q4
        exact nown k _ _ q2' q4 rfl
    · rcases hsl k _ q2 with ⟨e2, z2⟩ | ⟨hk, q2'⟩
      · rw [hil k _ q2 e2] at q4; cases q4
        rw [List.getElem?_set_ne hj] at q3
        exact nown j _ _ q1' q3 rfl
      · rw [List.getElem?_set_ne hj] at q3
        rw [List.getElem?_set_ne hk] at q4
        exact R.er.sep j k _ _ l hjk q1' q2' q3 q4
  · rcases hsl j _ q1 with ⟨e1, z1⟩ | ⟨hj, q1'⟩
    · rw [hil j _ q1 e1] at q2; cases q2; exact np0
    · rw [List.getElem?_set_ne hj] at q2
      exact R.fresh j es l q1' q2
/-- an own list is a value from now on -/
def frz (i : Nat) (δ : Env) : Env := match δ[i]? with
  | some (.own ds) => δ.set i (.val (.lst ds))
  | _ => δ
theorem SR.frz {K : PySem.W.Frag} {r : Addr} {A0 : Addr → Prop} {H0 H : Hp} {σ : L2.St} {δ : Env} (h : SR K r A0 H0 σ H δ) (i : Nat) : SR K r A0 H0 σ H (L3.frz i δ) := by
  unfold L3.frz
  split
  · rename_i ds hi
    obtain ⟨l, xs, e1, e2, e3, e4, e5, e6⟩ := h.er.own i ds hi
    have hl0 : H0 l = none := h.fresh i ds l hi e1
    have w : ∀ b, (Av A0 r σ δ b ∧ b ≠ l) → Av A0 r σ δ b := fun b hb => hb.1
    have hsl : ∀ (j : Nat) (s : Sl), (δ.set i (.val (.lst ds)))[j]? = some s → (i = j ∧ s = .val (.lst ds)) ∨ (i ≠ j ∧ δ[j]? = some s) := fun j s q => by
      by_cases hj : i = j
      · subst hj
        rw [List.getElem?_set_self (List.getElem?_eq_some_iff.mp hi).1] at q; cases q; exact .inl ⟨rfl, rfl⟩
      · rw [List.getElem?_set_ne hj] at q; exact .inr ⟨hj, q⟩
    refine SR.of (A := fun b => Av A0 r σ δ b ∧ b ≠ l) ⟨h.er.rnd, ⟨.inr (.inl rfl), fun z => e3 z.symm⟩, fun b hb => h.er.all b hb.1, by rw [List.length_set]; exact h.er.len, fun j d q => ?_, fun j es q => ?_, fun j k es fs m hjk q1 q2 q3 q4 => ?_⟩
      (fun b hb => ⟨.inl hb, fun z => h.a0 b hb (by rw [z]; exact hl0)⟩) h.ext (fun j es m q1 q2 => ?_) h.a0
    · rcases hsl j _ q with ⟨e, z⟩ | ⟨hj, q'⟩
      · cases z
        subst e
        exact ⟨.ref l, e1, .lst (fun z => z.2 rfl) e4 e5 (e6.bar fun b o hb _ => hb.1)⟩
      · obtain ⟨v, f1, f2⟩ := h.er.val j d q'
        exact ⟨v, f1, f2.bar fun b o hb _ => hb.1⟩
    · rcases hsl j _ q with ⟨e, z⟩ | ⟨hj, q'⟩
      · cases z
      · obtain ⟨m, ys, f1, f2, f3, f4, f5, f6⟩ := h.er.own j es q'
        exact ⟨m, ys, f1, ⟨f2, fun z => h.er.sep i j _ _ l hj hi q' e1 (z ▸ f1)⟩, f3, f4, f5, f6.bar fun b o hb _ => hb.1⟩
    · rcases hsl j _ q1 with ⟨e, z⟩ | ⟨hj, q1'⟩
      · cases z
      · rcases hsl k _ q2 with ⟨e, z⟩ | ⟨hk, q2'⟩
        · cases z
        · exact h.er.sep j k _ _ m hjk q1' q2' q3 q4
    · rcases hsl j _ q1 with ⟨e, z⟩ | ⟨hj, q1'⟩
      · cases z
      · exact h.fresh j es m q1' q2
  · exact h
theorem s_frz (i : Nat) {sts : List Stmt} (h : PSs X sts (tS X.K E f)) : PSs X sts (tS X.K E (fun P δ => f P (frz i δ))) := PSs.imp h fun D σ H ⟨r, A0, H0, δ, P, R, h, L⟩ => ⟨r, A0, H0, frz i δ, P, R.frz i, h, L⟩
theorem s_imp {sts : List Stmt} (h : PSs X sts (tS X.K E f)) (w : ∀ P δ, g P δ → f P δ) : PSs X sts (tS X.K E g) := PSs.imp h fun D σ H ⟨r, A0, H0, δ, P, R, h, L⟩ => ⟨r, A0, H0, δ, P, R, w _ _ h, L⟩
end
end L3

namespace L3
open PySem PySem.Spec PyProof.Rows L2
/-! ### for -/
def forD (g : DG) (body : DS) (P : DEnds) : List D → Env → Prop
  | [], δ => P.nx δ
  | d :: ds, δ => g d δ fun δ1 => body { P with nx := fun δ2 => forD g body P ds δ2, ct := fun δ2 => forD g body P ds δ2, bk := P.nx } δ1
/-- a for's target: no slot becomes an own list by it -/
def tGs (K : PySem.W.Frag) (g : DG) (t : TG) : Prop := ∀ (r : Addr) (A0 : Addr → Prop) (H0 : Hp) (v : V) (d : D) (σ : L2.St) (H : Hp) (δ : Env) (P : Env → Prop) (Q : L2.St → Hp → Prop), SR K r A0 H0 σ H δ → DR K r (Av A0 r σ δ) H v d → g d δ P → (∀ δ' σ', P δ' → SR K r A0 H0 σ' H δ' → Q σ' H) → t v σ H Q
theorem SR.set_val {K : PySem.W.Frag} {r : Addr} {A0 : Addr → Prop} {H0 H : Hp} {σ : L2.St} {δ : Env} (h : SR K r A0 H0 σ H δ) {i : Nat} {v w : V} {d e : D} (hd : DR K r (Av A0 r σ δ) H v d) (he : DR K r (Av A0 r σ δ) H w e) :
    DR K r (Av A0 r (σ.set i (some v)) (δ.set i (.val d))) H w e := he.bar fun b o hb _ => by
  rcases hb with hb | hb | ⟨j, ds, q1, q2⟩
  · exact .inl hb
  · exact .inr (.inl hb)
  · by_cases hj : i = j
    · subst hj
      by_cases hl : i < δ.length
      · rw [List.getElem?_set_self hl] at q1; cases q1
      · rw [List.getElem?_eq_none (by rw [List.length_set]; omega)] at q1; cases q1
    · rw [List.getElem?_set_ne hj] at q1 q2
      exact .inr (.inr ⟨j, ds, q1, q2⟩)
theorem gs_name {K : PySem.W.Frag} (i : Nat) : tGs K (gN i) (gName i) := fun r A0 H0 v d σ H δ P Q R hd h q => q _ _ h (R.set hd)
theorem gs_two {K : PySem.W.Frag} (i j : Nat) : tGs K (gN2 i j) (gTup K 2 (gCons (gName i) (gCons (gName j) gNil))) := fun r A0 H0 v d σ H δ P Q R hd h q => by
  cases d with
  | tup ds =>
    obtain ⟨a, xs, rfl, e, z, t⟩ := hd.sqT
    match ds, t, h with
    | [x, y], t, h =>
      cases t with
      | cons t1 t => cases t with
        | cons t2 t =>
          cases t
          exact ⟨a, _, rfl, e, rfl, _, _, rfl, _, _, rfl, rfl, q _ _ h ((R.set t1).set (R.set_val t1 t2))⟩
  | _ => exact h.elim
open Classical in
/-- what stands through a loop: what stood at the entry, and all that is not barred -/
noncomputable def held (H0 H1 : Hp) (A : Addr → Prop) : Hp := fun b => match H0 b with
  | some o => some o
  | none => if A b then none else H1 b
theorem held_of {H0 H1 : Hp} {A : Addr → Prop} {b : Addr} {o : HO} (h : H0 b = some o) : held H0 H1 A b = some o := by
  unfold held; rw [h]
theorem held_in {r : Addr} {H0 H1 : Hp} {A : Addr → Prop} (e : Ext r H0 H1) {b : Addr} {o : HO} (hr : b ≠ r) (h : held H0 H1 A b = some o) : H1 b = some o := by
  unfold held at h
  cases q : H0 b with
  | some u => rw [q] at h; cases h; exact e b _ hr q
  | none =>
    rw [q] at h
    simp only at h
    split at h
    · cases h
    · exact h
theorem held_new {r : Addr} {H0 H1 : Hp} {A : Addr → Prop} (e : Ext r H0 H1) {b : Addr} {o : HO} (hr : b ≠ r) (n : ¬ A b) (h : H1 b = some o) : held H0 H1 A b = some o := by
  unfold held
  cases q : H0 b with
  | some u =>
    have := e b _ hr q
    rw [h] at this; cases this; rfl
  | none => simp only; rw [if_neg n]; exact h
theorem held_none {H0 H1 : Hp} {A : Addr → Prop} {b : Addr} (h0 : H0 b = none) (h : A b) : held H0 H1 A b = none := by
  unfold held; rw [h0]; simp only; rw [if_pos h]
theorem for_of {K : PySem.W.Frag} {E : XK} {fi : DI} {g : DG} {gt : TG} {body : DS} (hg : tGs K g gt) : ∀ Dd σ H, tS K E (fun P δ => fi δ (fun ds => forD g body P ds δ) P.ex) Dd σ H → tFor (tI K E fi) gt (tS K E body) Dd σ H := fun Dd σ H ⟨r, A0, H0, δ, P, R, h2, L⟩ =>
  ⟨r, _, δ, _, P.ex, R.er, h2, fun ds J H1 h3 x1 n1 y => by
    have R1 := R.move x1 n1
    have dn : ∀ b o, H0 b = some o → held H0 H1 (Av A0 r σ δ) b = some o := fun b o q => held_of q
    have R2 : SR K r A0 (held H0 H1 (Av A0 r σ δ)) σ H1 δ := ⟨R1.er, fun b o hr q => held_in R1.ext hr q, fun i es l q1 q2 => held_none (R1.fresh i es l q1 q2) (.inr (.inr ⟨i, es, q1, q2⟩)), fun b hb z => by
      cases q : H0 b with
      | none => exact R1.a0 b hb q
      | some o => rw [dn b o q] at z; cases z⟩
    refine ⟨fun i m σ' H' => m = ds.length - i ∧ i ≤ ds.length ∧ ∃ δ', SR K r A0 (held H0 H1 (Av A0 r σ δ)) σ' H' δ' ∧ forD g body P (ds.drop i) δ', ⟨ds.length, by simp, Nat.zero_le _, δ, R2, h3⟩, ?_⟩
    rintro i m σ' H' ⟨rfl, hi, δ', R3, h4⟩
    have ea : ExtA (Av A0 r σ δ) H1 H' := fun b o nb q => R3.ext b o (fun z => nb (.inr (.inl z))) (held_new R1.ext (fun z => nb (.inr (.inl z))) nb q)
    have wa : ∀ b o, Av A0 r σ' δ' b → H1 b = some o → Av A0 r σ δ b := fun b o hb q => by
      rcases hb with hb | hb | ⟨j, es, q1, q2⟩
      · exact .inl hb
      · exact .inr (.inl hb)
      · have z := R3.fresh j es b q1 q2
        by_cases hA : Av A0 r σ δ b
        · exact hA
        · by_cases hr : b = r
          · exact .inr (.inl hr)
          · rw [held_new R1.ext hr hA q] at z; cases z
    obtain ⟨ys, yg⟩ := y i H' _ ea R3.er.wd wa
    by_cases hlt : i < ds.length
    · obtain ⟨go, yl⟩ := yg ds[i] (List.getElem?_eq_getElem hlt)
      refine .inr ⟨go, fun σ2 H2 => ∃ m', m' < ds.length - i ∧ m' = ds.length - (i + 1) ∧ i + 1 ≤ ds.length ∧ ∃ δ', SR K r A0 (held H0 H1 (Av A0 r σ δ)) σ2 H2 δ' ∧ forD g body P (ds.drop (i + 1)) δ', fun σ2 H2 h => h, fun x H2 hy => ?_⟩
      obtain ⟨x5, n5, d5⟩ := yl x H2 hy
      rw [List.drop_eq_getElem_cons hlt] at h4
      refine hg r A0 _ x ds[i] _ H2 _ _ _ (R3.move x5 n5) d5 h4 fun δ2 σ2 h6 R6 => ⟨r, A0, _, δ2, _, R6, h6, ?_⟩
      refine ⟨fun δ3 σ3 H3 q R7 => ⟨_, by omega, rfl, by omega, δ3, R7, q⟩, fun d v H3 q x7 n7 d7 => L.rt d v H3 q (fun b o hr z => x7 b o hr (dn b o z)) n7 d7, fun δ3 σ3 H3 q R7 => L.nx _ _ _ q (R7.down dn R.a0), fun δ3 σ3 H3 q R7 => ⟨_, by omega, rfl, by omega, δ3, R7, q⟩,
        fun x c dd H3 q x7 n7 z => L.ex x c dd H3 q (fun b o hr z => x7 b o hr (dn b o z)) n7 z⟩
    · have ei : i = ds.length := by omega
      rw [List.drop_eq_nil_of_le (by omega)] at h4
      exact .inl ⟨ys (by omega), L.nx _ _ _ h4 (R3.down dn R.a0)⟩, fun x c dd H' z e n q => L.ex x c dd H' z (R.ext.trans e) n (q.bar fun b o hb _ => .inl hb)⟩
section
variable {X : Cx} {E : XK} {iter tg : Expr} {body : List Stmt} {fi : DI} {g : DG} {gt : TG} {fb : DS} {pos : Pos}
theorem s_for (hp : PassesOwn (model X.prog X.w) X.A X.env X.xe) (hc : X.calm = true) (hi : PI X tg iter (tI X.K E fi)) (hG : tGs X.K g gt) (hg : PG X tg gt) (hb : PSs X body (tS X.K E fb)) (hs : ∀ x, foldedSetIterable iter X.env x = pure x := by intro _; rfl) :
    PS X (.For tg iter body [] pos) (tS X.K E (fun P δ => fi δ (fun ds => forD g fb P ds δ) P.ex)) := PS.imp (ps_for hp hc hi hg hb hs) (for_of hG)
end
/-! ### an own list grows -/
section
variable {X : Cx} {E : XK} {e : Expr} {fe : DE} {pos apos cpos p : Pos} {i : Nat} {x : Str}
theorem SR.grow {K : PySem.W.Frag} {r : Addr} {A0 : Addr → Prop} {H0 H : Hp} {σ : L2.St} {δ : Env} (h : SR K r A0 H0 σ H δ) {ds : List D} {l : Addr} {xs : List V} {v : V} {d : D} (hi : δ[i]? = some (.own ds)) (e1 : σ[i]? = some (some (.ref l))) (e4 : H l = some (.lst xs))
    (t : DRs K r (Av A0 r σ δ) H xs ds) (hd : DR K r (Av A0 r σ δ) H v d) (z : xs.length + 1 ≤ sizeLine) (lr : l ≠ r) : SR K r A0 H0 σ (upd H l (.lst (xs ++ [v]))) (δ.set i (.own (ds ++ [d]))) := by
  have hA : Av A0 r σ δ l := .inr (.inr ⟨i, ds, hi, e1⟩)
  have hil := (List.getElem?_eq_some_iff.mp hi).1
  have ea : ExtA (Av A0 r σ δ) H (upd H l (.lst (xs ++ [v]))) := fun b o nb q => by rw [upd_ne (fun y => nb (by rw [y]; exact hA))]; exact q
  have rn : RndOk r (upd H l (.lst (xs ++ [v]))) := by
    obtain ⟨ns, f1, f2⟩ := h.er.rnd
    exact ⟨ns, by rw [upd_ne (Ne.symm lr)]; exact f1, f2⟩
  have hsl : ∀ (j : Nat) (s : Sl), (δ.set i (.own (ds ++ [d])))[j]? = some s → (i = j ∧ s = .own (ds ++ [d])) ∨ (i ≠ j ∧ δ[j]? = some s) := fun j s q => by
    by_cases hj : i = j
    · subst hj
      rw [List.getElem?_set_self hil] at q; cases q; exact .inl ⟨rfl, rfl⟩
    · rw [List.getElem?_set_ne hj] at q; exact .inr ⟨hj, q⟩
  have own0 : ∀ (j : Nat) es, (δ.set i (.own (ds ++ [d])))[j]? = some (.own es) → ∃ es', δ[j]? = some (.own es') := fun j es q => by
    rcases hsl j _ q with ⟨e, _⟩ | ⟨_, q'⟩
    · exact ⟨ds, by rw [← e]; exact hi⟩
    · exact ⟨es, q'⟩
  refine SR.of (A := Av A0 r σ δ) ⟨rn, h.er.ar, fun b hb => ?_, by rw [List.length_set]; exact h.er.len, fun j d' q => ?_, fun j es q => ?_, fun j k es fs m hjk q1 q2 q3 q4 => ?_⟩ (fun b hb => .inl hb) (fun b o hr q => ?_) (fun j es m q1 q2 => ?_) h.a0
  · by_cases hb' : b = l
    · rw [hb', upd_same]; simp
    · rw [upd_ne hb']; exact h.er.all b hb
  · rcases hsl j _ q with ⟨_, y⟩ | ⟨_, q'⟩
    · cases y
    · obtain ⟨u, f1, f2⟩ := h.er.val j d' q'
      exact ⟨u, f1, f2.ext ea⟩
  · rcases hsl j _ q with ⟨e, y⟩ | ⟨hj, q'⟩
    · cases y
      subst e
      exact ⟨l, xs ++ [v], e1, hA, lr, upd_same, by rw [List.length_append, List.length_singleton]; exact z, DRs.append (t.ext ea) (.cons (hd.ext ea) .nil)⟩
    · obtain ⟨m, ys, f1, f2, f3, f4, f5, f6⟩ := h.er.own j es q'
      have hml : m ≠ l := fun y => h.er.sep i j _ _ l hj hi q' e1 (by rw [← y]; exact f1)
      exact ⟨m, ys, f1, f2, f3, by rw [upd_ne hml]; exact f4, f5, f6.ext ea⟩
  · obtain ⟨es', q1'⟩ := own0 j es q1
    obtain ⟨fs', q2'⟩ := own0 k fs q2
    exact h.er.sep j k _ _ m hjk q1' q2' q3 q4
  · have q' := h.ext b o hr q
    rw [upd_ne (fun y => by
      have z := h.fresh i ds l hi e1
      rw [← y, q] at z; cases z)]
    exact q'
  · obtain ⟨es', q1'⟩ := own0 j es q1
    exact h.fresh j es' m q1' q2
theorem s_append (hN : X.N[i]? = some x) (hv : Vis X.env.scope x) (he : PE X e (tE X.K E fe)) (hd : (x == ("__debug__" : Str)) = false := by decide) (hcd : (x == ("__classdict__" : Str)) = false := by decide)
    (hs1 : starEach [e] X.env = (false, eval e X.env) :: starEach [] X.env := by rfl)
    (hbase : attributeBase (.Name x p) "append" X.env (eval (.Name x p) X.env) = eval (.Name x p) X.env := by rfl)
    (hfew : ((backTo cpos (starEach [e] X.env)).all (fun x => !x.1) && (backToKw cpos (keywordEach [] X.env)).all (fun x => x.1.isSome)
      && decide ([e].length + ([] : List Keyword).length + (if ([] : List Keyword).isEmpty then 0 else 1) < 30)) = true := by rfl)
    (hline : (apos.endLine == cpos.line) = true := by rfl) (hplain : (backTo cpos (starEach [] X.env)).any (·.1) = false := by rfl)
    (hsw : swapsWith (.Call (.Attribute (.Name x p) "append" apos) [e] [] cpos) none pos.line X.env = pure false := by rfl) :
    PS X (.Expr (.Call (.Attribute (.Name x p) "append" apos) [e] [] cpos) pos) (tS X.K E (fun P δ => ∃ ds, δ[i]? = some (.own ds) ∧ fe δ (fun d => ds.length + 1 ≤ sizeLine ∧ P.nx (δ.set i (.own (ds ++ [d])))) P.ex)) :=
  PS.imp (ps_expr (pe_bm PySem.F.plainAttrs_list PySem.F.slot_list_append PySem.F.type_list_append mt_append (pe_var hN hv hd hcd) (pa_cons he pa_nil hs1) hbase hfew hline hs1 hplain) hsw) fun D σ H ⟨r, A0, H0, δ, P, R, ⟨ds, h1, h2⟩, L⟩ => by
    obtain ⟨l, xs, e1, e2, e3, e4, e5, e6⟩ := R.er.own i ds h1
    refine ⟨.ref l, e1, .inl ⟨rfl, xs, SqL.of e4⟩, use_of R L h2 fun d v H' h3 x3 n3 r3 => ?_⟩
    have R' := R.move x3 n3
    have e4' := x3 l _ e3 e4
    have t := e6.ext (x3.toA R.er.ar)
    have zl := t.length
    exact ⟨l, xs, v, rfl, rfl, e4', by omega, L.nx _ _ _ h3.2 (R'.grow h1 e1 e4' t r3 (by omega) e3)⟩
end
/-! ### defs -/
theorem startE_get {n m : Nat} {ds : List D} : ((ds.map Sl.val ++ List.replicate m Sl.emp)).length = ds.length + m := by simp
/-- a def at work: its name, its promise -/
structure Cal (P : Program) (w : World) (K : PySem.W.Frag) (mg : Str → Option Value) (base : Heap) (x : Str) (k n : Nat) (g : DF) : Prop where
  ex : ∃ (f : Addr) (fd : FuncData) (ps : List Str), FnOk P w K mg base (L2.CX P w) k f fd ps (spD K n g) ∧ mg x = some (.ref f) ∧ PySem.W.keepIn K (.ref f) = true ∧ Binds K fd ps []
section
variable {P : Program} {w : World} {K : PySem.W.Frag} {mg : Str → Option Value} {base : Heap}
theorem Cal.mono {x : Str} {k k' n : Nat} {g : DF} (c : Cal P w K mg base x k n g) (h : k ≤ k') : Cal P w K mg base x k' n g := by
  obtain ⟨f, fd, ps, F, m, kp, b⟩ := c.ex
  exact ⟨f, fd, ps, F.mono h, m, kp, b⟩
theorem Cal.imp {x : Str} {k n : Nat} {g g' : DF} (c : Cal P w K mg base x k n g) (h : ∀ ds P Z, ds.length = n → g' ds P Z → g ds P Z) : Cal P w K mg base x k n g' := by
  obtain ⟨f, fd, ps, F, m, kp, b⟩ := c.ex
  exact ⟨f, fd, ps, F.imp fun vs H Q E ⟨r, A, ds, P, Z, h1, h2, h3, h4, h5⟩ => ⟨r, A, ds, P, Z, h1, h2, h3, h _ _ _ h3 h4, h5⟩, m, kp, b⟩
theorem start_er {N : List Str} {vs : List V} {ds : List D} {r : Addr} {A : Addr → Prop} {H : Hp} (w : Wd r A H) (t : DRs K r A H vs ds) (hl : vs.length ≤ N.length) : ER K r A (L2.start N vs) H (ds.map Sl.val ++ List.replicate (N.length - ds.length) Sl.emp) := by
  have e := t.length
  have sl : ∀ (i : Nat) (s : Sl), (ds.map Sl.val ++ List.replicate (N.length - ds.length) Sl.emp)[i]? = some s → s = .emp ∨ ∃ d, ds[i]? = some d ∧ s = .val d := fun i s q => by
    rw [List.getElem?_append] at q
    split at q
    · rw [List.getElem?_map] at q
      cases hd : ds[i]? with
      | none => rw [hd] at q; cases q
      | some d => rw [hd] at q; exact .inr ⟨d, rfl, (Option.some.inj q).symm⟩
    · rw [List.getElem?_replicate] at q
      split at q
      · exact .inl (Option.some.inj q).symm
      · cases q
  refine ⟨w.rnd, w.ar, w.all, by simp [L2.start, e], fun i d q => ?_, fun i es q => ?_, fun i j es fs l hij q1 q2 q3 q4 => ?_⟩
  · rcases sl i _ q with z | ⟨d', hd, z⟩
    · cases z
    · cases z
      obtain ⟨u, hu, ru⟩ := t.get hd
      refine ⟨u, ?_, ru⟩
      unfold L2.start
      have hi := (List.getElem?_eq_some_iff.mp hu).1
      rw [List.getElem?_append_left (by simpa using hi), List.getElem?_map, hu]
      rfl
  · rcases sl i _ q with z | ⟨d', hd, z⟩ <;> cases z
  · rcases sl i _ q1 with z | ⟨d', hd, z⟩ <;> cases z
/-- THE RULE for a def -/
theorem def_ok {x qual : Str} {st : Stmt} {f : Addr} {fd : FuncData} {N ps : List Str} {k n : Nat} {g : DF} {body : DS} (F : Fun K x qual st f fd) (S : FnScope N ps (defScope st)) (hn : ps.length = n) (hN : n ≤ N.length)
    (hb : ∀ (cdv : Value) (A : Around) (outer : List PySem.Env) (s : Shared) (H : Hp) (E : XK), Room k (A.deeper (envOfC qual (defScope st) s.heap.objs.size f cdv)) →
      PSs (cxOf (L2.CX P w) P w K mg base N qual (defScope st) f cdv A outer s H E) (defBody st) (tS K E body))
    (hg : ∀ ds P Z, ds.length = n → g ds P Z → body ⟨fun _ => P .non, P, fun _ => False, fun _ => False, Z⟩ (ds.map Sl.val ++ List.replicate (N.length - n) Sl.emp)) :
    FnOk P w K mg base (L2.CX P w) (k + 1) f fd ps (spD K n g) := by
  refine F.okX S (fun vs H Q E h => ?_) (fun cdv A outer s H vs Q E hr h => ?_)
  · obtain ⟨r, A, ds, P, Z, _, t, hl, _⟩ := h
    rw [t.length, hl, hn]
  · obtain ⟨r, A0, ds, P', Z, wd, t, hl, h4, h5, h6⟩ := h
    refine ⟨_, hb cdv A outer s H E hr, r, A0, H, _, _, ?_, hg ds P' Z hl h4, ⟨fun δ' σ' H' q R => ?_, fun d v H' q e n y => h5 d v H' q e n y, fun _ _ _ q => q.elim, fun _ _ _ q => q.elim, fun x c dd H' q e n y => h6 x c dd H' q e n y⟩⟩
    · have := start_er (N := N) wd t (by rw [t.length, hl]; exact hN)
      rw [hl] at this
      refine SR.of this (fun b hb => hb) .refl (fun i es l q1 q2 => ?_) wd.all
      rw [List.getElem?_append] at q1
      split at q1
      · rw [List.getElem?_map] at q1
        cases hd : ds[i]? with
        | none => rw [hd] at q1; cases q1
        | some d => rw [hd] at q1; cases q1
      · rw [List.getElem?_replicate] at q1
        split at q1 <;> cases q1
    · exact h5 .non .non H' q R.ext R.er.rnd .non
theorem passX {K : PySem.W.Frag} {N : List Str} {qual : Str} {scope : Scope} {f : Addr} {cdv : Value} {A : Around} {outer : List PySem.Env} {s : Shared} {H : Hp} {E : XK} : Passes (L2.CX P w) (cxOf (L2.CX P w) P w K mg base N qual scope f cdv A outer s H E) E :=
  passes_call (W := fun cls d _ H => E cls d H) (takes_of rfl rfl rfl rfl) fun _ _ _ _ h => h
theorem pass0 {X : Cx} : Passes (L2.CX P w) X E0 := fun _ _ _ _ _ _ _ h => by
  obtain ⟨_, _, _, _, _, _, _, _, _, _, _, _, h⟩ := h
  exact h.elim
end
section
variable {X : Cx} {E : XK} {e : Expr} {es : List Expr} {fs : DA} {x : Str} {pos p : Pos} {k n : Nat} {g : DF}
/-- f(e, ..) by its promise -/
theorem e_cal (c : Cal X.prog X.w X.K X.mg X.base x k n g) (hr : Room k X.A) (hg : Gl X x) (hx : Passes (L2.CX X.prog X.w) X E) (ha : PA X (e :: es) (tA X.K E fs)) (hdb : (x == ("__debug__" : Str)) = false := by decide)
    (he : starEach (e :: es) X.env = (false, eval e X.env) :: starEach es X.env := by rfl) (hpl : (backTo pos (starEach es X.env)).any (·.1) = false := by rfl) :
    PE X (.Call (.Name x p) (e :: es) [] pos) (tE X.K E (fun δ P Z => fs δ (fun ds => ds.length = n ∧ g ds P Z) Z)) := by
  obtain ⟨f, fd, ps, F, m, kp, b⟩ := c.ex
  exact e_call F hr hg m kp b hx ha hdb he hpl
end
end L3

namespace L3
open PySem PySem.Spec PyProof.Rows L2
section
variable {K : PySem.W.Frag}
theorem DR.flat {r : Addr} {A : Addr → Prop} {H : Hp} {v : V} {d : D} (h : DR K r A H v d) : (∀ i, d = .int i → v = .int i) ∧ (∀ b, d = .bl b → v = .bl b) ∧ (∀ z, d = .str z → v = .str z) ∧ (d = .non → v = .non) := by
  refine ⟨fun i e => ?_, fun b e => ?_, fun z e => ?_, fun e => ?_⟩ <;> subst e <;> cases h <;> rfl
/-! ### + - * // % -/
def addD : D → D → DP → Prop
  | .int i, .int j, P => P (.int (i + j))
  | .str i, .str j, P => i.length + j.length ≤ sizeLine ∧ P (.str (i ++ j))
  | .lst a, .lst b, P => a.length + b.length ≤ sizeLine ∧ P (.lst (a ++ b))
  | .tup a, .tup b, P => a.length + b.length ≤ sizeLine ∧ P (.tup (a ++ b))
  | _, _, _ => False
def rAddA (K : PySem.W.Frag) : R2 := fun x y H Q => (((∃ i j, x = .int i ∧ y = .int j ∧ Q (.int (i + j)) H) ∨ (∃ i j, x = .str i ∧ y = .str j ∧ i.length + j.length ≤ sizeLine ∧ Q (.str (i ++ j)) H)) ∨ rCat x y H Q) ∨ rCatA K x y H Q
theorem or_add {X : Cx} : OpR X (binaryOp .Add) (rAddA X.K) := ((op_add.or op_add_str).or op_cat).or op_catA
theorem od_add : OpD K (rAddA K) addD := fun r A H x y d e P Q w hx hy h q => by
  cases d with
  | int i =>
    cases e with
    | int j => cases hx; cases hy; exact .inl (.inl (.inl ⟨i, j, rfl, rfl, q _ _ _ h .refl w.rnd (.int _)⟩))
    | _ => exact h.elim
  | str i =>
    cases e with
    | str j => cases hx; cases hy; exact .inl (.inl (.inr ⟨i, j, rfl, rfl, h.1, q _ _ _ h.2 .refl w.rnd (.str _)⟩))
    | _ => exact h.elim
  | lst a =>
    cases e with
    | lst b =>
      obtain ⟨p, xs, rfl, _, e1, z1, t1⟩ := hx.sqL
      obtain ⟨p', ys, rfl, _, e2, z2, t2⟩ := hy.sqL
      have hz : xs.length + ys.length ≤ sizeLine := by rw [t1.length, t2.length]; exact h.1
      exact .inl (.inr ⟨p, p', xs, ys, rfl, rfl, e1, e2, hz, fun t nt => q _ _ _ h.2 (Ext.upd nt) (w.rnd.upd nt) (w.lst nt (by rw [List.length_append]; exact hz) (t1.append t2))⟩)
    | _ => exact h.elim
  | tup a =>
    cases e with
    | tup b =>
      obtain ⟨p, xs, rfl, e1, z1, t1⟩ := hx.sqT
      obtain ⟨p', ys, rfl, e2, z2, t2⟩ := hy.sqT
      have hz : xs.length + ys.length ≤ sizeLine := by rw [t1.length, t2.length]; exact h.1
      refine .inr ⟨p, p', xs, ys, rfl, rfl, e1, e2, hz, fun e0 => ?_, fun _ e0 => ?_, fun _ _ t nt => q _ _ _ h.2 (Ext.upd nt) (w.rnd.upd nt) (w.tup nt (by rw [List.length_append]; exact hz) (t1.append t2))⟩
      · subst e0
        cases t1
        exact q _ _ _ h.2 .refl w.rnd hy
      · subst e0
        cases t2
        exact q _ _ _ (by have h2 := h.2; rw [List.append_nil] at h2; exact h2) .refl w.rnd hx
    | _ => exact h.elim
  | _ => exact h.elim
def intD (g : Int → Int → D) (C : Int → Int → Prop) : D → D → DP → Prop
  | .int i, .int j, P => C i j ∧ P (g i j)
  | _, _, _ => False
theorem od_int {g : Int → Int → V} {gd : Int → Int → D} {C : Int → Int → Prop} (hg : ∀ i j r A H, DR K r A H (g i j) (gd i j)) : OpD K (rI C g) (intD gd C) := fun r A H x y d e P Q w hx hy h q => by
  cases d with
  | int i =>
    cases e with
    | int j => cases hx; cases hy; exact ⟨i, j, rfl, rfl, h.1, q _ _ _ h.2 .refl w.rnd (hg i j r A H)⟩
    | _ => exact h.elim
  | _ => exact h.elim
def intD0 (g : Int → Int → D) : D → D → DP → Prop
  | .int i, .int j, P => P (g i j)
  | _, _, _ => False
theorem od_int0 {g : Int → Int → V} {gd : Int → Int → D} (hg : ∀ i j r A H, DR K r A H (g i j) (gd i j)) : OpD K (rI0 g) (intD0 gd) := fun r A H x y d e P Q w hx hy h q => by
  cases d with
  | int i =>
    cases e with
    | int j => cases hx; cases hy; exact ⟨i, j, rfl, rfl, q _ _ _ h .refl w.rnd (hg i j r A H)⟩
    | _ => exact h.elim
  | _ => exact h.elim
abbrev subD := intD0 fun i j => .int (i - j)
theorem od_sub : OpD K (rI0 fun i j => .int (i - j)) subD := od_int0 fun _ _ _ _ _ => .int _
abbrev mulD := intD (fun i j => .int (i * j)) CMul
theorem od_mul : OpD K (rI CMul fun i j => .int (i * j)) mulD := od_int fun _ _ _ _ _ => .int _
abbrev divD := intD (fun i j => .int (i / j)) CDivW
theorem od_div : OpD K (rI CDivW fun i j => .int (i / j)) divD := od_int fun _ _ _ _ _ => .int _
abbrev modD := intD (fun i j => .int (i % j)) (fun _ j => 0 < j)
theorem od_mod : OpD K (rI (fun _ j => 0 < j) fun i j => .int (i % j)) modD := od_int fun _ _ _ _ _ => .int _
abbrev powD := intD (fun i j => .int (i ^ j.toNat)) CPow
theorem od_pow : OpD K (rI CPow fun i j => .int (i ^ j.toNat)) powD := od_int fun _ _ _ _ _ => .int _
/-! ### comparisons -/
abbrev ltD := intD0 fun i j => .bl (decide (i < j))
theorem od_lt : OpD K (rI0 fun i j => .bl (decide (i < j))) ltD := od_int0 fun _ _ _ _ _ => .bl _
abbrev leD := intD0 fun i j => .bl (decide (i ≤ j))
theorem od_le : OpD K (rI0 fun i j => .bl (decide (i ≤ j))) leD := od_int0 fun _ _ _ _ _ => .bl _
abbrev gtD := intD0 fun i j => .bl (decide (j < i))
theorem od_gt : OpD K (rI0 fun i j => .bl (decide (j < i))) gtD := od_int0 fun _ _ _ _ _ => .bl _
abbrev geD := intD0 fun i j => .bl (decide (j ≤ i))
theorem od_ge : OpD K (rI0 fun i j => .bl (decide (j ≤ i))) geD := od_int0 fun _ _ _ _ _ => .bl _
def D.isNon : D → Bool
  | .non => true
  | _ => false
theorem DR.non_iff {r : Addr} {A : Addr → Prop} {H : Hp} {v : V} {d : D} (h : DR K r A H v d) : decide (v = .non) = d.isNon := by
  cases h <;> simp [D.isNon]
def isND : D → D → DP → Prop
  | x, .non, P => P (.bl x.isNon)
  | _, _, _ => False
def notND : D → D → DP → Prop
  | x, .non, P => P (.bl (!x.isNon))
  | _, _, _ => False
theorem od_isN : OpD K (fun x y H Q => y = .non ∧ Q (.bl (decide (x = .non))) H) isND := fun r A H x y d e P Q w hx hy h q => by
  cases e with
  | non => cases hy; exact ⟨rfl, by rw [hx.non_iff]; exact q _ _ _ h .refl w.rnd (.bl _)⟩
  | _ => exact h.elim
theorem od_notN : OpD K (fun x y H Q => y = .non ∧ Q (.bl (!decide (x = .non))) H) notND := fun r A H x y d e P Q w hx hy h q => by
  cases e with
  | non => cases hy; exact ⟨rfl, by rw [hx.non_iff]; exact q _ _ _ h .refl w.rnd (.bl _)⟩
  | _ => exact h.elim
/-! ### == of data -/
mutual
/-- plain data: no source, no instance, no dict -/
def D.py : D → Option PyData
  | .non => some .none
  | .bl b => some (.bool b)
  | .int i => some (.int i)
  | .str x => some (.str x)
  | .lst ds => (D.pys ds).map .list
  | .tup ds => (D.pys ds).map .tuple
  | .dic => none
  | .rnd => none
  | .adr _ => none
  | .exc _ _ _ => none
  | .obj _ _ _ => none
def D.pys : List D → Option (List PyData)
  | [] => some []
  | d :: ds => (D.py d).bind fun x => (D.pys ds).map fun xs => x :: xs
end
mutual
theorem DR.dp {r : Addr} {A : Addr → Prop} {H : Hp} : ∀ {d : D} {v : V} {y : PyData}, DR K r A H v d → d.py = some y → Dp K H v y
  | .non, _, _, h, e => by cases h; cases e; exact .non
  | .bl b, _, _, h, e => by cases h; cases e; exact .bl b
  | .int b, _, _, h, e => by cases h; cases e; exact .int b
  | .str b, _, _, h, e => by cases h; cases e; exact .str b
  | .lst ds, _, _, h, e => by
    obtain ⟨p, xs, rfl, _, e1, z1, t1⟩ := h.sqL
    unfold D.py at e
    cases q : D.pys ds with
    | none => rw [q] at e; cases e
    | some ys => rw [q] at e; cases e; exact .lst (SqL.of e1) (DRs.dps t1 q)
  | .tup ds, _, _, h, e => by
    obtain ⟨p, xs, rfl, e1, z1, t1⟩ := h.sqT
    unfold D.py at e
    cases q : D.pys ds with
    | none => rw [q] at e; cases e
    | some ys => rw [q] at e; cases e; exact .tup e1 (DRs.dps t1 q)
  | .dic, _, _, _, e => by cases e
  | .rnd, _, _, _, e => by cases e
  | .adr _, _, _, _, e => by cases e
  | .exc _ _ _, _, _, _, e => by cases e
  | .obj _ _ _, _, _, _, e => by cases e
theorem DRs.dps {r : Addr} {A : Addr → Prop} {H : Hp} : ∀ {ds : List D} {vs : List V} {ys : List PyData}, DRs K r A H vs ds → D.pys ds = some ys → DpAll K H vs ys
  | [], _, _, h, e => by cases h; cases e; exact .nil
  | d :: ds, _, _, h, e => by
    cases h with
    | cons a b =>
      unfold D.pys at e
      cases q : d.py with
      | none => rw [q] at e; cases e
      | some x =>
        cases q2 : D.pys ds with
        | none => rw [q, q2] at e; cases e
        | some xs => rw [q, q2] at e; cases e; exact .cons (DR.dp a q) (DRs.dps b q2)
end
/-- what == is asked of: plain data, no deeper than 64 -/
def D.eqOk (d : D) : Bool := match d.py with
  | some y => SeqAt.shaped y
  | none => false
def eqD (d e : D) : Bool := match d.py, e.py with
  | some x, some y => PyData.eqv x y
  | _, _ => false
theorem od_eq : OpD K (rEqD K) (fun d e P => d.eqOk = true ∧ e.eqOk = true ∧ P (.bl (eqD d e))) := fun r A H x y d e P Q w hx hy h q => by
  obtain ⟨h1, h2, h3⟩ := h
  unfold D.eqOk at h1 h2
  cases p1 : d.py with
  | none => rw [p1] at h1; cases h1
  | some a =>
    cases p2 : e.py with
    | none => rw [p2] at h2; cases h2
    | some b =>
      rw [p1] at h1
      rw [p2] at h2
      refine ⟨a, b, hx.dp p1, hy.dp p2, h1, h2, q _ _ _ ?_ .refl w.rnd (.bl _)⟩
      have : eqD d e = PyData.eqv a b := by unfold eqD; rw [p1, p2]
      rw [← this]; exact h3
theorem od_ne : OpD K (rNeD K) (fun d e P => d.eqOk = true ∧ e.eqOk = true ∧ P (.bl (!eqD d e))) := fun r A H x y d e P Q w hx hy h q => by
  obtain ⟨h1, h2, h3⟩ := h
  unfold D.eqOk at h1 h2
  cases p1 : d.py with
  | none => rw [p1] at h1; cases h1
  | some a =>
    cases p2 : e.py with
    | none => rw [p2] at h2; cases h2
    | some b =>
      rw [p1] at h1
      rw [p2] at h2
      refine ⟨a, b, hx.dp p1, hy.dp p2, h1, h2, q _ _ _ ?_ .refl w.rnd (.bl _)⟩
      have : eqD d e = PyData.eqv a b := by unfold eqD; rw [p1, p2]
      rw [← this]; exact h3
/-! ### in -/
def D.flat : D → Bool
  | .non => true
  | .bl _ => true
  | .int _ => true
  | .str _ => true
  | _ => false
def D.toV : D → V
  | .non => .non
  | .bl b => .bl b
  | .int i => .int i
  | .str x => .str x
  | _ => .non
theorem DR.toV {r : Addr} {A : Addr → Prop} {H : Hp} {v : V} {d : D} (h : DR K r A H v d) (f : d.flat = true) : v = d.toV ∧ flatV v = true := by
  cases h <;> first | exact ⟨rfl, rfl⟩ | cases f
theorem DRs.toVs {r : Addr} {A : Addr → Prop} {H : Hp} : ∀ {vs : List V} {ds : List D}, DRs K r A H vs ds → ds.all D.flat = true → vs = ds.map D.toV ∧ vs.all flatV = true
  | _, _, .nil, _ => ⟨rfl, rfl⟩
  | _, _, .cons a b, f => by
    rw [List.all_cons, Bool.and_eq_true] at f
    obtain ⟨h1, h2⟩ := a.toV f.1
    obtain ⟨h3, h4⟩ := DRs.toVs b f.2
    exact ⟨by rw [h1, h3]; rfl, by rw [List.all_cons, h2, h4]; rfl⟩
/-- x in a list or tuple of flat things -/
def inL (d : D) (ds : List D) : Bool := inV d.toV (ds.map D.toV)
def inD : D → D → DP → Prop
  | x, .lst ds, P => x.flat = true ∧ ds.all D.flat = true ∧ P (.bl (inL x ds))
  | x, .tup ds, P => x.flat = true ∧ ds.all D.flat = true ∧ P (.bl (inL x ds))
  | .str c, .str z, P => ∃ k, c = ⟨#[k]⟩ ∧ P (.bl (decide (k ∈ z.cps.toList)))
  | _, _, _ => False
def notInD : D → D → DP → Prop
  | x, .lst ds, P => x.flat = true ∧ ds.all D.flat = true ∧ P (.bl (!inL x ds))
  | x, .tup ds, P => x.flat = true ∧ ds.all D.flat = true ∧ P (.bl (!inL x ds))
  | .str c, .str z, P => ∃ k, c = ⟨#[k]⟩ ∧ P (.bl (!decide (k ∈ z.cps.toList)))
  | _, _, _ => False
def rInA (K : PySem.W.Frag) (neg : Bool) : R2 := fun x y H Q => rIn K neg x y H Q ∨ ∃ (c : Nat) (z : Str), x = .str ⟨#[c]⟩ ∧ y = .str z ∧ Q (.bl (if neg then !decide (c ∈ z.cps.toList) else decide (c ∈ z.cps.toList))) H
theorem or_in {X : Cx} : OpR X (compareOp .In) (rInA X.K false) := op_in_seq.or op_in_sign
theorem or_notIn {X : Cx} : OpR X (compareOp .NotIn) (rInA X.K true) := op_notIn_seq.or op_notIn_sign
theorem od_in : OpD K (rInA K false) inD := fun r A H x y d e P Q w hx hy h q => by
  cases e with
  | lst ds =>
    obtain ⟨h1, h2, h3⟩ : d.flat = true ∧ ds.all D.flat = true ∧ P (.bl (inL d ds)) := by cases d <;> exact h
    obtain ⟨p, xs, rfl, _, e1, z1, t1⟩ := hy.sqL
    obtain ⟨f1, f2⟩ := hx.toV h1
    obtain ⟨f3, f4⟩ := t1.toVs h2
    exact .inl ⟨p, xs, rfl, .inl (SqL.of e1), f2, f4, q _ _ _ h3 .refl w.rnd (by rw [f1, f3]; exact .bl _)⟩
  | tup ds =>
    obtain ⟨h1, h2, h3⟩ : d.flat = true ∧ ds.all D.flat = true ∧ P (.bl (inL d ds)) := by cases d <;> exact h
    obtain ⟨p, xs, rfl, e1, z1, t1⟩ := hy.sqT
    obtain ⟨f1, f2⟩ := hx.toV h1
    obtain ⟨f3, f4⟩ := t1.toVs h2
    exact .inl ⟨p, xs, rfl, .inr e1, f2, f4, q _ _ _ h3 .refl w.rnd (by rw [f1, f3]; exact .bl _)⟩
  | str z =>
    cases d with
    | str c =>
      obtain ⟨k, rfl, h3⟩ := h
      cases hx; cases hy
      exact .inr ⟨k, z, rfl, rfl, q _ _ _ h3 .refl w.rnd (.bl _)⟩
    | _ => exact h.elim
  | _ => cases d <;> exact h.elim
theorem od_notIn : OpD K (rInA K true) notInD := fun r A H x y d e P Q w hx hy h q => by
  cases e with
  | lst ds =>
    obtain ⟨h1, h2, h3⟩ : d.flat = true ∧ ds.all D.flat = true ∧ P (.bl (!inL d ds)) := by cases d <;> exact h
    obtain ⟨p, xs, rfl, _, e1, z1, t1⟩ := hy.sqL
    obtain ⟨f1, f2⟩ := hx.toV h1
    obtain ⟨f3, f4⟩ := t1.toVs h2
    exact .inl ⟨p, xs, rfl, .inl (SqL.of e1), f2, f4, q _ _ _ h3 .refl w.rnd (by rw [f1, f3]; exact .bl _)⟩
  | tup ds =>
    obtain ⟨h1, h2, h3⟩ : d.flat = true ∧ ds.all D.flat = true ∧ P (.bl (!inL d ds)) := by cases d <;> exact h
    obtain ⟨p, xs, rfl, e1, z1, t1⟩ := hy.sqT
    obtain ⟨f1, f2⟩ := hx.toV h1
    obtain ⟨f3, f4⟩ := t1.toVs h2
    exact .inl ⟨p, xs, rfl, .inr e1, f2, f4, q _ _ _ h3 .refl w.rnd (by rw [f1, f3]; exact .bl _)⟩
  | str z =>
    cases d with
    | str c =>
      obtain ⟨k, rfl, h3⟩ := h
      cases hx; cases hy
      exact .inr ⟨k, z, rfl, rfl, q _ _ _ h3 .refl w.rnd (.bl _)⟩
    | _ => exact h.elim
  | _ => cases d <;> exact h.elim
/-! ### items -/
def ixD : D → D → DP → Prop
  | .lst ds, .int i, P => ∃ x, atI ds i = some x ∧ P x
  | .tup ds, .int i, P => ∃ x, atI ds i = some x ∧ P x
  | .str z, .int i, P => z.length ≤ sizeLine ∧ ∃ c, atI z.cps.toList i = some c ∧ P (.str ⟨#[c]⟩)
  | _, _, _ => False
theorem DRs.atI {r : Addr} {A : Addr → Prop} {H : Hp} {vs : List V} {ds : List D} (t : DRs K r A H vs ds) {i : Int} {x : D} (h : L2.atI ds i = some x) : ∃ v, L2.atI vs i = some v ∧ DR K r A H v x := by
  unfold L2.atI at h ⊢
  rw [t.length]
  cases q : ixN ds.length i with
  | none => rw [q] at h; cases h
  | some j =>
    rw [q] at h
    obtain ⟨u, hu, ru⟩ := t.get (i := j) h
    exact ⟨u, hu, ru⟩
theorem IxR.or {X : Cx} {r r' : R2} (h : IxR X r) (h' : IxR X r') : IxR X (fun x y H Q => r x y H Q ∨ r' x y H Q) := by
  intro value slice pins s σ H x y v u Q I rx ry q hs
  rcases q with q | q
  · exact h value slice pins s σ H x y v u Q I rx ry q hs
  · exact h' value slice pins s σ H x y v u Q I rx ry q hs
def rIxA (K : PySem.W.Frag) : R2 := fun x y H Q => (rIxL K x y H Q ∨ rIxT K x y H Q) ∨ rIxS x y H Q
theorem or_ix {X : Cx} : IxR X (rIxA X.K) := (ix_list.or ix_tup).or ix_str
theorem od_ix : OpD K (rIxA K) ixD := fun r A H x y d e P Q w hx hy h q => by
  cases e with
  | int i =>
    cases hy
    cases d with
    | lst ds =>
      obtain ⟨z, h1, h2⟩ := h
      obtain ⟨p, xs, rfl, _, e1, z1, t1⟩ := hx.sqL
      obtain ⟨v, hv, rv⟩ := t1.atI h1
      exact .inl (.inl ⟨p, xs, i, v, rfl, rfl, SqL.of e1, hv, q _ _ _ h2 .refl w.rnd rv⟩)
    | tup ds =>
      obtain ⟨z, h1, h2⟩ := h
      obtain ⟨p, xs, rfl, e1, z1, t1⟩ := hx.sqT
      obtain ⟨v, hv, rv⟩ := t1.atI h1
      exact .inl (.inr ⟨p, xs, i, v, rfl, rfl, e1, hv, q _ _ _ h2 .refl w.rnd rv⟩)
    | str z =>
      obtain ⟨hz, c, h1, h2⟩ := h
      cases hx
      exact .inr ⟨z, i, c, rfl, rfl, hz, h1, q _ _ _ h2 .refl w.rnd (.str _)⟩
    | _ => exact h.elim
  | _ => cases d <;> exact h.elim
end
section
variable {X : Cx} {E : XK} {a b c : Expr} {fa fb fc : DE} {pos : Pos}
theorem e_ix (ha : PE X a (tE X.K E fa)) (hb : PE X b (tE X.K E fb)) (hs : PlainIx b) : PE X (.Subscript a b pos) (tE X.K E (fun δ P Z => fa δ (fun d => fb δ (fun d' => ixD d d' P) Z) Z)) := PE.imp (pe_ix or_ix ha hb hs) (two_of od_ix)
/-- a op b op' c -/
theorem chain_of {rr rr' : R2} {g g' : D → D → DP → Prop} (h1 : OpD X.K rr g) (h2 : OpD X.K rr' g') : ∀ σ H Q, tE X.K E (fun δ P Z => fa δ (fun d => fb δ (fun d' => g d d' (fun k => ∃ b, k = .bl b ∧ if b = true then fc δ (fun d2 => g' d' d2 P) Z else P (.bl false))) Z) Z) σ H Q →
    tChain rr rr' (tE X.K E fa) (tE X.K E fb) (tE X.K E fc) σ H Q := fun σ H Q ⟨r, A, δ, P, Z, R, h, hq, hz⟩ => ⟨r, A, δ, _, Z, R, h, fun d v H1 h3 x1 n1 r1 => ⟨r, A, δ, _, Z, R.ext x1 n1, h3, fun d' v' H2 h4 x2 n2 r2 =>
      h1 r A H2 v v' d d' _ _ ((R.ext x1 n1).ext x2 n2).wd (r1.ext (x2.toA R.ar)) r2 h4 fun k u H3 h5 x3 n3 r3 => by
        obtain ⟨kb, rfl, h5⟩ := h5
        cases r3
        refine ⟨kb, rfl, ?_⟩
        have R3 := ((R.ext x1 n1).ext x2 n2).ext x3 n3
        cases kb with
        | true => exact ⟨r, A, δ, _, Z, R3, h5, fun d2 v2 H4 h6 x4 n4 r4 => h2 r A H4 v' v2 d' d2 P Q (R3.ext x4 n4).wd ((r2.ext (x3.toA R.ar)).ext (x4.toA R.ar)) r4 h6 fun c u H5 h7 x5 n5 r5 =>
            hq c u H5 h7 ((((x1.trans x2).trans x3).trans x4).trans x5) n5 r5, fun x c dd H' z x4 => hz x c dd H' z (((x1.trans x2).trans x3).trans x4)⟩
        | false => exact hq _ _ H3 h5 ((x1.trans x2).trans x3) n3 (.bl false), fun x c dd H' z x2 => hz x c dd H' z (x1.trans x2)⟩, hz⟩
theorem e_chain {op op' : CmpOp} {rr rr' : R2} {g g' : D → D → DP → Prop} (ho : OpR X (compareOp op) rr) (ho' : OpR X (compareOp op') rr') (h1 : OpD X.K rr g) (h2 : OpD X.K rr' g') (ha : PE X a (tE X.K E fa)) (hb : PE X b (tE X.K E fb)) (hc : PE X c (tE X.K E fc))
    (hm : lastMarks [op, op'] [b, c] = false := by with_unfolding_all rfl) : PE X (.Compare a [op, op'] [b, c] pos) (tE X.K E (fun δ P Z => fa δ (fun d => fb δ (fun d' => g d d' (fun k => ∃ b, k = .bl b ∧ if b = true then fc δ (fun d2 => g' d' d2 P) Z else P (.bl false))) Z) Z)) :=
  PE.imp (pe_chain ho ho' ha hb hc hm) (chain_of h1 h2)
theorem t_chain {op op' : CmpOp} {rr rr' : R2} {g g' : D → D → DP → Prop} (ho : OpR X (compareOp op) rr) (ho' : OpR X (compareOp op') rr') (h1 : OpD X.K rr g) (h2 : OpD X.K rr' g') (ha : PE X a (tE X.K E fa)) (hb : PE X b (tE X.K E fb)) (hc : PE X c (tE X.K E fc))
    (hm : lastMarks [op, op'] [b, c] = false := by with_unfolding_all rfl) : PT X (.Compare a [op, op'] [b, c] pos) (tT X.K E (fun δ P Z => (fun δ P Z => fa δ (fun d => fb δ (fun d' => g d d' (fun k => ∃ b, k = .bl b ∧ if b = true then fc δ (fun d2 => g' d' d2 P) Z else P (.bl false))) Z) Z) δ (fun c => ∃ k, c = .bl k ∧ P k) Z)) :=
  PT.imp (pt_chain ho ho' ha hb hc hm) (test_of (chain_of h1 h2))
end
/-! ### builtins -/
section
variable {K : PySem.W.Frag}
def lenD : List D → DP → Prop
  | [.lst ds], P => P (.int ds.length)
  | [.tup ds], P => P (.int ds.length)
  | [.str z], P => z.length ≤ sizeLine ∧ P (.int z.length)
  | _, _ => False
def rLenA (K : PySem.W.Frag) : List V → Hp → VK → Prop := fun xs H Q => (∃ p ys, xs = [.ref p] ∧ (SqL K H p ys ∨ SqT K H p ys) ∧ Q (.int ys.length) H) ∨ ∃ z, xs = [.str z] ∧ z.length ≤ sizeLine ∧ Q (.int z.length) H
theorem cr_len {X : Cx} : CallR X (.builtin "len") (rLenA X.K) := call_len_seq.or call_len_str
theorem DRs.one {r : Addr} {A : Addr → Prop} {H : Hp} {vs : List V} {d : D} (t : DRs K r A H vs [d]) : ∃ v, vs = [v] ∧ DR K r A H v d := by
  cases t with
  | cons a b => cases b; exact ⟨_, rfl, a⟩
theorem DRs.two {r : Addr} {A : Addr → Prop} {H : Hp} {vs : List V} {d e : D} (t : DRs K r A H vs [d, e]) : ∃ v u, vs = [v, u] ∧ DR K r A H v d ∧ DR K r A H u e := by
  cases t with
  | cons a b =>
    obtain ⟨u, rfl, c⟩ := b.one
    exact ⟨_, u, rfl, a, c⟩
theorem cd_len : CallD K (rLenA K) lenD := fun r A H xs ds P Q w t h q => by
  match ds, h with
  | [.lst ds], h =>
    obtain ⟨v, rfl, a⟩ := t.one
    obtain ⟨p, xs, rfl, _, e1, z1, t1⟩ := a.sqL
    exact .inl ⟨p, xs, rfl, .inl (SqL.of e1), by rw [t1.length]; exact q _ _ _ h .refl w.rnd (.int _)⟩
  | [.tup ds], h =>
    obtain ⟨v, rfl, a⟩ := t.one
    obtain ⟨p, xs, rfl, e1, z1, t1⟩ := a.sqT
    exact .inl ⟨p, xs, rfl, .inr e1, by rw [t1.length]; exact q _ _ _ h .refl w.rnd (.int _)⟩
  | [.str z], h =>
    obtain ⟨v, rfl, a⟩ := t.one
    cases a
    exact .inr ⟨z, rfl, h.1, q _ _ _ h.2 .refl w.rnd (.int _)⟩
def tupleD : List D → DP → Prop
  | [.lst ds], P => P (.tup ds)
  | [.tup ds], P => P (.tup ds)
  | _, _ => False
theorem cd_tuple : CallD K (fun xs H Q => ∃ p ys, xs = [.ref p] ∧ ((SqL K H p ys ∧ ∀ l, H l = none → Q (.ref l) (upd H l (.tup ys))) ∨ (SqT K H p ys ∧ Q (.ref p) H))) tupleD := fun r A H xs ds P Q w t h q => by
  match ds, h with
  | [.lst ds], h =>
    obtain ⟨v, rfl, a⟩ := t.one
    obtain ⟨p, xs, rfl, _, e1, z1, t1⟩ := a.sqL
    exact ⟨p, xs, rfl, .inl ⟨SqL.of e1, fun l nl => q _ _ _ h (Ext.upd nl) (w.rnd.upd nl) (w.tup nl z1 t1)⟩⟩
  | [.tup ds], h =>
    obtain ⟨v, rfl, a⟩ := t.one
    obtain ⟨p, xs, e, e1, z1, t1⟩ := a.sqT
    subst e
    exact ⟨p, xs, rfl, .inr ⟨e1, q _ _ _ h .refl w.rnd a⟩⟩
def listD : List D → DP → Prop
  | [.lst ds], P => P (.lst ds)
  | [.tup ds], P => P (.lst ds)
  | _, _ => False
theorem cd_list : CallD K (fun xs H Q => ∃ p ys, xs = [.ref p] ∧ (SqL K H p ys ∨ SqT K H p ys) ∧ ∀ l, H l = none → Q (.ref l) (upd H l (.lst ys))) listD := fun r A H xs ds P Q w t h q => by
  match ds, h with
  | [.lst ds], h =>
    obtain ⟨v, rfl, a⟩ := t.one
    obtain ⟨p, xs, rfl, _, e1, z1, t1⟩ := a.sqL
    exact ⟨p, xs, rfl, .inl (SqL.of e1), fun l nl => q _ _ _ h (Ext.upd nl) (w.rnd.upd nl) (w.lst nl z1 t1)⟩
  | [.tup ds], h =>
    obtain ⟨v, rfl, a⟩ := t.one
    obtain ⟨p, xs, rfl, e1, z1, t1⟩ := a.sqT
    exact ⟨p, xs, rfl, .inr e1, fun l nl => q _ _ _ h (Ext.upd nl) (w.rnd.upd nl) (w.lst nl z1 t1)⟩
def allD : List D → DP → Prop := fun ds P => ∃ bs : List Bool, ds = [.lst (bs.map .bl)] ∧ P (.bl (bs.all id))
def anyD : List D → DP → Prop := fun ds P => ∃ bs : List Bool, ds = [.lst (bs.map .bl)] ∧ P (.bl (bs.any id))
def sumD : List D → DP → Prop := fun ds P => ∃ ns : List Int, ds = [.lst (ns.map .int)] ∧ P (.int ns.sum)
theorem cd_all : CallD K (rAll K) allD := fun r A H xs ds P Q w t h q => by
  obtain ⟨bs, rfl, h⟩ := h
  obtain ⟨v, rfl, a⟩ := t.one
  obtain ⟨p, xs, rfl, _, e1, z1, t1⟩ := a.sqL
  rw [t1.bls] at e1
  exact ⟨p, bs, rfl, SqL.of e1, q _ _ _ h .refl w.rnd (.bl _)⟩
theorem cd_any : CallD K (rAny K) anyD := fun r A H xs ds P Q w t h q => by
  obtain ⟨bs, rfl, h⟩ := h
  obtain ⟨v, rfl, a⟩ := t.one
  obtain ⟨p, xs, rfl, _, e1, z1, t1⟩ := a.sqL
  rw [t1.bls] at e1
  exact ⟨p, bs, rfl, SqL.of e1, q _ _ _ h .refl w.rnd (.bl _)⟩
theorem cd_sum : CallD K (rSum K) sumD := fun r A H xs ds P Q w t h q => by
  obtain ⟨ns, rfl, h⟩ := h
  obtain ⟨v, rfl, a⟩ := t.one
  obtain ⟨p, xs, rfl, _, e1, z1, t1⟩ := a.sqL
  rw [t1.ints] at e1
  exact ⟨p, ns, rfl, SqL.of e1, q _ _ _ h .refl w.rnd (.int _)⟩
def absD : List D → DP → Prop
  | [.int i], P => P (.int (if i < 0 then -i else i))
  | _, _ => False
theorem cd_abs : CallD K (fun xs H Q => ∃ i, xs = [.int i] ∧ Q (.int (if i < 0 then -i else i)) H) absD := fun r A H xs ds P Q w t h q => by
  match ds, h with
  | [.int i], h =>
    obtain ⟨v, rfl, a⟩ := t.one
    cases a
    exact ⟨i, rfl, q _ _ _ h .refl w.rnd (.int _)⟩
def intS : List D → DP → Prop
  | [.str a], P => ∃ n, PySem.intText? a = some n ∧ a.length ≤ 640 ∧ P (.int n)
  | _, _ => False
theorem cd_intS : CallD K (fun xs H Q => ∃ a n, xs = [.str a] ∧ PySem.intText? a = some n ∧ a.length ≤ 640 ∧ Q (.int n) H) intS := fun r A H xs ds P Q w t h q => by
  match ds, h with
  | [.str z], h =>
    obtain ⟨v, rfl, a⟩ := t.one
    cases a
    obtain ⟨n, h1, h2, h3⟩ := h
    exact ⟨z, n, rfl, h1, h2, q _ _ _ h3 .refl w.rnd (.int _)⟩
end
end L3

namespace L3
open PySem PySem.Spec PyProof.Rows L2
/-! set(t) of a tuple, whatever its loop is shown by -/
section
variable {P : Program} {w : World} {A : Around} {E : Value → Shared → Prop} {s : Shared}
/-- the fresh set -/
abbrev newSet (w : World) : Obj := { cls := .type "set", dict := none, data := .set #[] 0 (.fresh 0 0 (!w.params.followText "set-order")) }
abbrev tupIt (l : Addr) : Obj := { cls := .type "tuple_iterator", data := .fields #[.ref l, .int 0 0] }
theorem set_from_tuple {l : Addr} {items : Array Value} {Q : Value → Shared → Prop} {Good : Shared → Prop} (hl : s.heap.IsTuple l items)
    (loop : ∀ R : Result → Shared → Prop, (∀ s', Good s' → R (.ok (.ret .none)) s') →
      codeAny (model P w) A.in1.in1 (.builtin "set.update.loop" ⟨[.ref s.heap.objs.size, .ref (s.heap.push (newSet w)).objs.size], []⟩) R { s with heap := (s.heap.push (newSet w)).push (tupIt l) })
    (h : ∀ s', Good s' → Q (.ref s.heap.objs.size) s') : wpAny (model P w) A (call (.type "set") [.ref l]) Q E s := by
  obtain ⟨c, tl, hmro⟩ := F.called_set.mro
  have made := F.called_set.made; have hsub := F.called_set.sub
  refine wpAny_call (codeAny_of_tree ?_); show wpAny _ _ (callAny (.type "set") _) _ _ _
  refine wpAny_pure ⟨Code.quiet_builtin _ (by decide +kernel), codeAny_builtin F.entry_type_call ?_⟩
  rw [Around.under_plain (weight_type_call_type "set" [.ref l] []) rfl]
  have nt := F.called_set.notType; have cc := F.called_set.canCreate; have tc := F.typeCall_set_1 (.ref l)
  repeat (any_goals (first | assumption | wp_step))
  refine codeAny_mono (code_set_led1 (.ref l) (E := E) (Q₁ := fun obj s₁ => obj = .ref s.heap.objs.size ∧ s₁ = { s with heap := s.heap.push (newSet w) }) ⟨rfl, rfl⟩) fun r s₁ hr => ?_
  cases r with
  | error e => exact hr
  | ok fl =>
    cases fl with
    | next => exact hr.elim
    | brk => exact hr.elim
    | cont => exact hr.elim
    | ret obj =>
      obtain ⟨rfl, rfl⟩ := hr
      have isS : (s.heap.push (newSet w)).get? s.heap.objs.size = some (newSet w) := Heap.get?_push_size _ rfl
      have tyS : Shared.TypeIs { s with heap := s.heap.push (newSet w) } (.ref s.heap.objs.size) "set" := ⟨_, isS, rfl⟩
      have li := F.called_set.init.lookup; have bi := F.called_set.init.bind (.ref s.heap.objs.size)
      repeat (any_goals (first | assumption | wp_step))
      refine codeAny_mono (codeAny_call_builtin (R := wants (fun r s₂ => r = .none ∧ Good s₂) E) F.called_set.init.plain F.entry_set_init (check_set_init_1 tyS ?_)) fun r₂ s₂ hr₂ => ?_
      · obtain ⟨⟨oc, od, odt, os⟩, hol, hcl, nl, hdl⟩ := hl
        simp only at hcl hdl; subst hcl hdl
        have hol' : (s.heap.push (newSet w)).get? l = some { cls := .type "tuple", dict := od, data := .seq items nl, slots := os } := Heap.get?_push_of_some _ hol
        have st1 := F.sub_tuple_set; have st2 := F.sub_tuple_frozenset
        have ne : (Value.type "tuple" == Value.type "dict") = false := by decide
        have isT : (s.heap.push (newSet w)).IsTuple l items := ⟨_, hol', rfl, nl, rfl⟩
        unfold Builtin.«set.__init__» noKeywords Builtin.Frozenset.updateFrom
        generalize hPI : pyIter = PI
        wp_walk
        subst hPI
        refine wpAny_pyIter_tuple isT (wpAny_bind (wpAny_runValue (loop _ fun s' g => ?_)))
        refine wpAny_pure ?_; show wpAny _ _ (ret Value.none) _ _ _
        exact wpAny_pure ⟨rfl, g⟩
      · cases r₂ with
        | error e => exact hr₂
        | ok fl₂ =>
          cases fl₂ with
          | ret r =>
            obtain ⟨rfl, g⟩ := hr₂
            repeat (any_goals (first | assumption | wp_step))
            exact h _ g
          | _ => exact hr₂.elim
end
end L3

namespace L3
open PySem PySem.Spec PyProof.Rows L2
/-! ### set(t), t a tuple of ints; a tuple of tuples of ints -/
section
variable {X : Cx}
def rSetI (K : PySem.W.Frag) (w : World) : List V → Hp → VK → Prop := fun xs H Q => ∃ (l : Addr) (ns : List Int), xs = [V.ref l] ∧ SqT K H l (ns.map V.int) ∧ ns.length < 64 ∧
  ∀ a c, H a = none → c ≤ ns.length → Q (.ref a) (upd H a (SetO w a (fun j => decide (j ∈ ns)) c))
theorem cr_setI (hc : X.calm = true) : CallR X (.type "set") (rSetI X.K X.w) := by
  intro pins s σ H xs us Q I r h
  obtain ⟨l, ns, rfl, hl, hf, q⟩ := h
  rw [Vals.ref1 r]
  obtain ⟨its, rv, pl, hz⟩ := I.tuple hl
  refine call_set_tupI (P := X.prog) (w := X.w) (items := its.toArray) ns (I.ok.hd hc) pl (by simpa using rv.ints) (by unfold scanBound; omega) fun h' tk c R hcl k => ?_
  exact ⟨.ref s.heap.objs.size, upd H s.heap.objs.size (SetO X.w s.heap.objs.size (fun j => decide (j ∈ ns)) c), I.laid (t' := tk) k (Nat.le_refl _) (setO_new R), rfl, q _ c (I.hok.fresh (Nat.le_refl _)) hcl⟩
def rSetT (K : PySem.W.Frag) (P : Program) (w : World) : List V → Hp → VK → Prop := fun xs H Q => ∃ (l : Addr) (ks : List (Addr × List Int)), xs = [V.ref l] ∧ SqT K H l (ks.map fun p => V.ref p.1) ∧ (∀ p ∈ ks, SqT K H p.1 (p.2.map V.int)) ∧ ks.length < 64 ∧
  ∀ a L, H a = none → (∀ p ∈ L, p ∈ ks) → (∀ p ∈ ks, p.2 ∈ L.map (·.2)) → Q (.ref a) (upd H a (SetTO P w a L))
theorem cr_setT (hc : X.calm = true) (hu : X.A.units + 64 < cLine) : CallR X (.type "set") (rSetT X.K X.prog X.w) := by
  intro pins s σ H xs us Q I r h
  obtain ⟨l, ks, rfl, hl, hk, hf, q⟩ := h
  rw [Vals.ref1 r]
  obtain ⟨its, rv, pl, hz⟩ := I.tuple hl
  have hn : H s.heap.objs.size = none := I.hok.fresh (Nat.le_refl _)
  have hh := I.ok.hd hc
  have pt : s.heap.IsTuple l its.toArray := pl
  have hit : its = ks.map fun p => Value.ref p.1 := refs_of_vals rv
  have hll : l < s.heap.objs.size := pl.lt
  have noneAt : ∀ b, s.heap.objs.size ≤ b → s.heap.get? b = none := fun b hb => Heap.get?_none_of_le hb
  have hsz : (s.heap.push (newSet X.w)).objs.size = s.heap.objs.size + 1 := Heap.size_push ..
  refine set_from_tuple (P := X.prog) (w := X.w) (Good := fun s' => ∃ h' tk L es ep t, s' = { s with heap := h', toks := tk } ∧ SetTR X.prog X.w h' s.heap.objs.size L es ep t ∧ Got ks ks.length L ∧ ∀ b o, s.heap.get? b = some o → h'.get? b = some o) pt ?_ ?_
  · intro R hR
    have pt1 : (s.heap.push (newSet X.w)).IsTuple l its.toArray := pt.at fun o e => Heap.get?_push_of_some _ e
    have isS : (s.heap.push (newSet X.w)).get? s.heap.objs.size = some (newSet X.w) := Heap.get?_push_size _ rfl
    refine set_update_tups (A := X.A.in1.in1) ((Walks.tuple (A := X.A.in1.in1.in1) (by simp [hh]) (s.heap.push (newSet X.w)).objs.size l (by rw [hsz]; exact Nat.ne_of_lt (Nat.lt_succ_of_lt hll)) its.toArray).toS) s.heap.objs.size ?_ ks (by rw [List.size_toArray, hit, List.length_map]) hf (fun i v hv => ?_)
      s.heap (fun p hp => I.isT (hk p hp)) (noneAt _ (Nat.le_refl _)) (fun b hb => noneAt b (by rw [List.mem_singleton.mp hb, hsz]; exact Nat.le_succ _)) (by show X.A.units + 1 + 1 + 1 < cLine; omega) (its.toArray.size - 0) 0 _ (by omega) (Nat.zero_le _)
      ⟨⟨_, Heap.get?_push_size _ rfl, rfl, rfl⟩, pt1.at fun o e => Heap.get?_push_of_some _ e⟩ (fun b o e => Heap.get?_push_of_some _ (Heap.get?_push_of_some _ e)) ⟨[], #[], 0, _, setTR_fresh (Heap.get?_push_of_some _ isS), Got.zero ks⟩ ?_
    · rw [hsz]
      simp only [List.mem_cons, List.not_mem_nil, or_false, not_or]
      exact ⟨Nat.ne_of_lt (Nat.lt_succ_self _), Nat.ne_of_gt hll⟩
    · have q2 : its[i]? = some v := by simpa using hv
      rw [hit, List.getElem?_map] at q2
      cases hq : ks[i]? with
      | none => rw [hq] at q2; cases q2
      | some p => rw [hq] at q2; exact ⟨p, rfl, (Option.some.inj q2).symm⟩
    · intro s' L es ep t hm hS' g' hkp
      obtain ⟨h', g2, d', tk', os'⟩ := s'
      have eg : g2 = s.gens := hm.gens
      have ed : d' = s.drawn := hm.drawn
      have eo : os' = s.os := hm.os
      subst eg ed eo
      refine hR _ ⟨h', tk', L, es, ep, t, rfl, hS', ?_, hkp⟩
      have : its.toArray.size = ks.length := by rw [List.size_toArray, hit, List.length_map]
      rw [this] at g'
      exact g'
  · rintro s' ⟨h', tk, L, es, ep, t, rfl, R, g, k⟩
    exact ⟨.ref s.heap.objs.size, upd H s.heap.objs.size (SetTO X.prog X.w s.heap.objs.size L), I.laid (t' := tk) k (Nat.le_refl _) (setTO_new R.t0), rfl, q _ L hn (fun p hp => List.mem_of_mem_take (g.sub p hp)) fun p hp => g.all p (by rw [List.take_length]; exact hp)⟩
/-! ### sorted(set(t)) by data -/
/-- what sorted(set(t)) may be: ints; tuples of d ints each in [0, 64) -/
def ssD : D → DP → Prop
  | .tup ds, P => (∃ ns : List Int, ds = ns.map D.int ∧ ns.length < 64 ∧ ∀ ms : List Int, ms.Pairwise (· < ·) → (∀ k, k ∈ ms ↔ k ∈ ns) → P (.lst (ms.map D.int))) ∨
      ∃ (ks : List (List Int)) (d : Nat), ds = ks.map (fun k => D.tup (k.map D.int)) ∧ ks.length < 64 ∧ 1 ≤ d ∧ (∀ k ∈ ks, k.length = d ∧ TS.Bd 64 k) ∧
        ∀ ms : List (List Int), ms.Nodup → (∀ k, k ∈ ms ↔ k ∈ ks) → ms.Pairwise (fun x y => TS.code 64 x ≤ TS.code 64 y) → P (.lst (ms.map fun k => D.tup (k.map D.int)))
  | _, _ => False
variable {E : XK} {a : Expr} {fa : DE} {p p2 pos q : Pos}
theorem tups_addr {K : PySem.W.Frag} {r : Addr} {A : Addr → Prop} {H : Hp} : ∀ {ks : List (List Int)} {vs : List V}, DRs K r A H vs (ks.map fun k => D.tup (k.map D.int)) → ∃ L : List (Addr × List Int), vs = L.map (fun p => V.ref p.1) ∧ L.map (·.2) = ks ∧ ∀ p ∈ L, DR K r A H (.ref p.1) (.tup (p.2.map D.int))
  | [], _, .nil => ⟨[], rfl, rfl, fun _ h => by cases h⟩
  | k :: ks, _, .cons a b => by
    obtain ⟨L, h1, h2, h3⟩ := tups_addr b
    obtain ⟨p, xs, rfl, _, _, _⟩ := a.sqT
    refine ⟨(p, k) :: L, by rw [h1]; rfl, by rw [← h2]; rfl, fun q hq => ?_⟩
    rcases List.mem_cons.mp hq with rfl | hq
    · exact a
    · exact h3 q hq
theorem DR.tupI {K : PySem.W.Frag} {r : Addr} {A : Addr → Prop} {H : Hp} {a : Addr} {k : List Int} (h : DR K r A H (.ref a) (.tup (k.map D.int))) : SqT K H a (k.map V.int) := by
  obtain ⟨p, xs, e, e1, z, t⟩ := h.sqT
  cases e
  rw [t.ints] at e1
  exact e1
theorem e_sortedSet (hc : X.calm = true) (hu : X.A.units + 64 < cLine) (hg : Gl X "sorted") (hm : X.mg "sorted" = none) (hg2 : Gl X "set") (hm2 : X.mg "set" = none) (ha : PE X a (tE X.K E fa))
    (na : starEach [a] X.env = (false, eval a X.env) :: starEach [] X.env := by rfl) (nb : starEach [.Call (.Name "set" p2) [a] [] q] X.env = (false, eval (.Call (.Name "set" p2) [a] [] q) X.env) :: starEach [] X.env := by rfl) :
    PE X (.Call (.Name "sorted" p) [.Call (.Name "set" p2) [a] [] q] [] pos) (tE X.K E (fun δ P Z => fa δ (fun d => ssD d P) Z)) :=
  PE.imp (pe_callB ((cr_sortedSet hc).or (cr_sortedT hc)) hg hm (by decide +kernel) (pa_cons (pe_callTy ((cr_setI hc).or (cr_setT hc hu)) hg2 hm2 (by decide +kernel) (pa_cons ha pa_nil na) (by decide) (by decide) na) pa_nil nb) (by decide) (by decide) nb) fun σ H Q ⟨r, A, δ, P, Z, R, h, hq, hz⟩ => by
    refine ⟨r, A, δ, _, Z, R, h, fun d v H1 h1 x1 n1 r1 => ?_, hz⟩
    have w1 := (R.ext x1 n1).wd
    cases d with
    | tup ds =>
      obtain ⟨l, xs, rfl, e1, z1, t1⟩ := r1.sqT
      rcases h1 with ⟨ns, rfl, hl, h1⟩ | ⟨ks, d, rfl, hl, hd, hB, h1⟩
      · have := t1.ints
        subst this
        refine .inl ⟨l, ns, rfl, e1, hl, fun a c na hcl => .inl ⟨a, _, c, rfl, upd_same, by omega, fun ms p pw hm hlen np => ?_⟩⟩
        have w2 : Wd r A (upd H1 a (SetO X.w a (fun j => decide (j ∈ ns)) c)) := w1.ext (Ext.upd na) (n1.upd na)
        exact hq _ _ _ (h1 ms pw fun k => by rw [hm k]; simp) ((x1.trans (Ext.upd na)).trans (Ext.upd np)) ((n1.upd na).upd np) (w2.lst np (by rw [List.length_map, sizeLine_eq]; omega) DRs.of_ints)
      · obtain ⟨L, rfl, hL2, hL⟩ := tups_addr t1
        have hll : L.length = ks.length := by rw [← hL2, List.length_map]
        refine .inr ⟨l, L, rfl, e1, fun p hp => (hL p hp).tupI, by omega, fun a L1 na sub all => .inr ⟨a, L1, d, 64, rfl, upd_same, fun p hp => ?_, hd, fun p hp => hB p.2 (by rw [← hL2]; exact List.mem_map.mpr ⟨p, sub p hp, rfl⟩), fun L' p pm nd hfew pw np => ?_⟩⟩
        · exact ((hL p (sub p hp)).ext ((Ext.upd na).toA w1.ar)).tupI
        · have w2 : Wd r A (upd H1 a (SetTO X.prog X.w a L1)) := w1.ext (Ext.upd na) (n1.upd na)
          have mem : ∀ k, k ∈ L'.map (·.2) ↔ k ∈ ks := fun k => by
            rw [← hL2]
            constructor
            · intro hk
              obtain ⟨y, hy, rfl⟩ := List.mem_map.mp hk
              exact List.mem_map.mpr ⟨y, sub y (pm.mem_iff.mp hy), rfl⟩
            · intro hk
              obtain ⟨y, hy, rfl⟩ := List.mem_map.mp hk
              obtain ⟨z, hz, e⟩ := List.mem_map.mp (all y hy)
              exact List.mem_map.mpr ⟨z, pm.mem_iff.mpr hz, e⟩
          refine hq _ _ _ (h1 (L'.map (·.2)) nd mem (List.pairwise_map.mpr pw)) ((x1.trans (Ext.upd na)).trans (Ext.upd np)) ((n1.upd na).upd np) (w2.lst np (by rw [List.length_map, sizeLine_eq]; omega) ?_)
          have all2 : ∀ M : List (Addr × List Int), (∀ p ∈ M, p ∈ L1) → DRs X.K r A (upd H1 a (SetTO X.prog X.w a L1)) (M.map fun q => V.ref q.1) ((M.map (·.2)).map fun k => D.tup (k.map D.int)) := fun M => by
            induction M with
            | nil => intro _; exact .nil
            | cons y M ih => intro hM; exact .cons ((hL y (sub y (hM y List.mem_cons_self))).ext ((Ext.upd na).toA w1.ar)) (ih fun z hz => hM z (List.mem_cons_of_mem _ hz))
          exact all2 L' fun p hp => pm.mem_iff.mp hp
    | _ => exact h1.elim
/-! ### len(set(xs)) of ints -/
theorem firstMet_full (ns : List Int) : ∀ i, i ≤ ns.length → (firstMet (fun i => ns.getD i 0) i).length = i → (ns.take i).Nodup
  | 0, _, _ => by simp
  | i + 1, hi, h => by
    have hlt : i < ns.length := hi
    have e : ns.getD i 0 = ns[i] := by simp [List.getD_eq_getElem?_getD, List.getElem?_eq_getElem hlt]
    have hle := firstMet_length_le (fun i => ns.getD i 0) i
    rw [firstMet_succ] at h
    unfold step_dedup at h
    split at h
    · omega
    · rename_i no
      rw [List.length_append, List.length_singleton] at h
      have nd := firstMet_full ns i (Nat.le_of_lt hlt) (by omega)
      rw [firstMet_nodup' ns i (Nat.le_of_lt hlt) nd] at no
      rw [List.take_succ_eq_append_getElem hlt]
      refine List.nodup_append.mpr ⟨nd, by simp, fun x hx y hy => ?_⟩
      have hy' : y = ns[i] := by simpa using hy
      intro hxy
      apply no
      rw [List.any_eq_true]
      exact ⟨x, hx, by rw [e, ← hy', hxy]; simp⟩
where
  firstMet_nodup' (ns : List Int) : ∀ i, i ≤ ns.length → (ns.take i).Nodup → firstMet (fun i => ns.getD i 0) i = ns.take i
  | 0, _, _ => rfl
  | i + 1, hi, hn => by
    have hlt : i < ns.length := hi
    have e : ns.getD i 0 = ns[i] := by simp [List.getD_eq_getElem?_getD, List.getElem?_eq_getElem hlt]
    rw [List.take_succ_eq_append_getElem hlt] at hn ⊢
    obtain ⟨n1, _, n3⟩ := List.nodup_append.mp hn
    rw [firstMet_succ, firstMet_nodup' ns i (Nat.le_of_lt hlt) n1]
    unfold step_dedup
    rw [if_neg, e]
    intro h
    obtain ⟨x, hx, e2⟩ := List.any_eq_true.mp h
    have : x = ns[i] := by rw [← e]; exact beq_iff_eq.mp e2
    exact n3 x hx ns[i] (by simp) this
theorem firstMet_iff (ns : List Int) : (firstMet (fun i => ns.getD i 0) ns.length).length = ns.length ↔ ns.Nodup := by
  constructor
  · intro h
    have := firstMet_full ns ns.length (Nat.le_refl _) h
    rwa [List.take_length] at this
  · intro h
    rw [firstMet_full.firstMet_nodup' ns ns.length (Nat.le_refl _) (by rwa [List.take_length]), List.take_length]
def lsD : D → DP → Prop := fun d P => ∃ ns : List Int, d = .lst (ns.map D.int) ∧ ns.length < 64 ∧ ∀ c : Nat, (c = ns.length ↔ ns.Nodup) → P (.int c)
theorem e_lenSet (hc : X.calm = true) (hg : Gl X "len") (hm : X.mg "len" = none) (hg2 : Gl X "set") (hm2 : X.mg "set" = none) (ha : PE X a (tE X.K E fa))
    (na : starEach [a] X.env = (false, eval a X.env) :: starEach [] X.env := by rfl) : PE X (.Call (.Name "len" p) [.Call (.Name "set" p2) [a] [] q] [] pos) (tE X.K E (fun δ P Z => fa δ (fun d => lsD d P) Z)) := by
  refine ⟨fun pins s σ H Q I h0 => ?_⟩
  obtain ⟨r, A, δ, P, Z, R, h, hq, hz⟩ := h0
  refine Call_ (ld_blt I hg hm PySem.boot_len ?_)
  refine PyProof.Rows.callWith_builtin1 (PyProof.Rows.args_cons ?_ rfl) rfl rfl
  refine Call_ (ld_blt I hg2 hm2 PyProof.Rows.boot_set ?_)
  have st : tE X.K E fa σ H (fun x H1 => ∃ (l : Addr) (ns : List Int), x = V.ref l ∧ H1 l = some (.lst (ns.map V.int)) ∧ ns.length < 64 ∧ ∀ c : Nat, (c = ns.length ↔ ns.Nodup) → Q (.int c) H1) :=
    ⟨r, A, δ, _, Z, R, h, fun d v H1 h3 x1 n1 r1 => by
      obtain ⟨ns, rfl, hl, h3⟩ := h3
      obtain ⟨l, xs, rfl, _, e1, z1, t1⟩ := r1.sqL
      rw [t1.ints] at e1
      exact ⟨l, ns, rfl, e1, hl, fun c hcc => hq _ _ _ (h3 c hcc) x1 n1 (.int _)⟩, hz⟩
  refine PyProof.Rows.callWith_type1 (PyProof.Rows.args_cons (thn (ha.run pins s σ H _ I st) fun v s1 ⟨x, H1, I1, r1, q1⟩ => PyProof.Rows.args_nil ?_) na) na rfl
  obtain ⟨l, ns, rfl, hl, h64, q1⟩ := q1
  cases r1
  obtain ⟨its, rv, pl, hz1⟩ := I1.list (SqL.of hl)
  have hls : its.toArray.size = ns.length := by rw [List.size_toArray, ← rv.length, List.length_map]
  have hle := firstMet_length_le (fun i => ns.getD i 0) ns.length
  refine call_set_list (I1.ok.hd hc) pl.isList (ns := ns) (by simpa using rv.ints) (by unfold scanBound; omega) fun h' tk hS hk => PyProof.Rows.args_nil ?_
  rw [hls] at hS
  obtain ⟨o, es, ep, t, ho, hex, hd, _, _, _, hf, hn⟩ := hS
  have I2 : Inv X pins σ H1 { s1 with heap := h', toks := tk } := I1.kept fun b o e => hk b o (Heap.lt_size e) e
  exact call_len_set ho hex hd hf (by rw [hn]; omega) ⟨.int (firstMet (fun i => ns.getD i 0) ns.length).length, H1, I2.tok _, ⟨_, by rw [hn]⟩, q1 _ (firstMet_iff ns)⟩
end
end L3

namespace L3
open PySem PySem.Spec PyProof.Rows L2
/-! ### sum(t) of a tuple -/
section
variable {X : Cx}
def rSumT (K : PySem.W.Frag) : List V → Hp → VK → Prop := fun vs H Q => ∃ (a : Addr) (ns : List Int), vs = [V.ref a] ∧ SqT K H a (ns.map V.int) ∧ Q (.int ns.sum) H
theorem cr_sumT (hc : X.calm = true) : CallR X (.builtin "sum") (rSumT X.K) := by
  intro pins s σ H vs us Q I r h
  obtain ⟨a, ns, rfl, ht, q⟩ := h
  obtain ⟨its, rv, p, _⟩ := I.tuple ht
  rw [Vals.ref1 r]
  have hi : IntsAre its ns := rv.ints
  obtain ⟨xs, e⟩ := hi.allInts.items
  have hn : numsOf (intItems xs).toList = ns := by rw [← e]; exact hi.numsOf
  rw [nums_intItems] at hn
  have pt : s.heap.IsTuple a (intItems xs) := by rw [← e]; exact p
  have hal : a < s.heap.objs.size := p.lt
  refine call_sum_walkG (wpAny_pyIter_tuple pt ?_)
  refine ⟨_, _, _, _, _, _, numAt xs, rfl, Walks.tuple (A := X.A.in1) (show X.A.in1.handled = none from I.ok.hd hc) s.heap.objs.size a (Nat.ne_of_lt hal) (intItems xs), ⟨⟨_, Heap.get?_push_size _ rfl, rfl, rfl⟩, pt.at fun o e => Heap.get?_push_of_some _ e⟩, fun b hb => ?_, (fun _ _ => intItems_at), fun h' tk t' hk => ?_⟩
  · rw [Heap.size_push]
    rcases List.mem_cons.mp hb with z | z
    · rw [z]; exact Nat.lt_succ_self _
    · rw [List.mem_singleton.mp z]; exact Nat.lt_succ_of_lt hal
  · have e2 : preSum (numAt xs) (intItems xs).size = ns.sum := by
      have : (intItems xs).size = xs.size := by simp [intItems]
      rw [this, preSum_eq, List.take_of_length_le (by simp), hn]
    refine ⟨.int ns.sum, H, I.kept (t' := tk) fun b o z => hk b o (fun hm => ?_) (Heap.get?_push_of_some _ z), ⟨t', by rw [e2]⟩, q⟩
    rw [List.mem_singleton.mp hm] at z
    exact absurd (Heap.lt_size z) (Nat.lt_irrefl _)
def sumAD : List D → DP → Prop := fun ds P => ∃ ns : List Int, (ds = [.lst (ns.map .int)] ∨ ds = [.tup (ns.map .int)]) ∧ P (.int ns.sum)
def rSumA (K : PySem.W.Frag) : List V → Hp → VK → Prop := fun xs H Q => rSum K xs H Q ∨ rSumT K xs H Q
theorem cr_sumA (hc : X.calm = true) : CallR X (.builtin "sum") (rSumA X.K) := (cr_sum hc).or (cr_sumT hc)
theorem cd_sumA {K : PySem.W.Frag} : CallD K (rSumA K) sumAD := fun r A H xs ds P Q w t h q => by
  obtain ⟨ns, rfl | rfl, h⟩ := h
  · obtain ⟨v, rfl, a⟩ := t.one
    obtain ⟨p, xs, rfl, _, e1, z1, t1⟩ := a.sqL
    rw [t1.ints] at e1
    exact .inl ⟨p, ns, rfl, SqL.of e1, q _ _ _ h .refl w.rnd (.int _)⟩
  · obtain ⟨v, rfl, a⟩ := t.one
    obtain ⟨p, xs, rfl, e1, z1, t1⟩ := a.sqT
    rw [t1.ints] at e1
    exact .inr ⟨p, ns, rfl, e1, q _ _ _ h .refl w.rnd (.int _)⟩
/-! ### int(x) -/
def intAD : List D → DP → Prop
  | [.int i], P => P (.int i)
  | [.str a], P => ∃ n, PySem.intText? a = some n ∧ a.length ≤ 640 ∧ P (.int n)
  | _, _ => False
def rIntA : List V → Hp → VK → Prop := fun xs H Q => ((∃ i, xs = [.int i] ∧ Q (.int i) H) ∨ ∃ k, xs = [.bl k] ∧ Q (.int (if k then 1 else 0)) H) ∨ ∃ a n, xs = [.str a] ∧ PySem.intText? a = some n ∧ a.length ≤ 640 ∧ Q (.int n) H
theorem cr_intA : CallR X (.type "int") rIntA := call_int1.or call_int_str
theorem cd_intA {K : PySem.W.Frag} : CallD K rIntA intAD := fun r A H xs ds P Q w t h q => by
  match ds, h with
  | [.int i], h =>
    obtain ⟨v, rfl, a⟩ := t.one
    cases a
    exact .inl (.inl ⟨i, rfl, q _ _ _ h .refl w.rnd (.int _)⟩)
  | [.str z], h =>
    obtain ⟨v, rfl, a⟩ := t.one
    cases a
    obtain ⟨n, h1, h2, h3⟩ := h
    exact .inr ⟨z, n, rfl, h1, h2, q _ _ _ h3 .refl w.rnd (.int _)⟩
/-! ### isinstance(x, T) -/
def D.tyName : D → Option String
  | .non => some "NoneType"
  | .bl _ => some "bool"
  | .int _ => some "int"
  | .str _ => some "str"
  | .lst _ => some "list"
  | .tup _ => some "tuple"
  | .dic => some "dict"
  | .rnd => some "list"
  | .adr _ => none
  | .exc _ _ _ => none
  | .obj _ _ _ => none
theorem DR.tyX {K : PySem.W.Frag} {r : Addr} {A : Addr → Prop} {H : Hp} {v : V} {d : D} {t : String} (h : DR K r A H v d) (rn : RndOk r H) (e : d.tyName = some t) : TyX K H v (.type t) := by
  cases h with
  | non => cases e; exact .base .non
  | bl b => cases e; exact .base (.bl b)
  | int b => cases e; exact .base (.int b)
  | str b => cases e; exact .base (.str b)
  | rnd => cases e; obtain ⟨ns, e1, _⟩ := rn; exact .base (.lst e1)
  | lst n e1 z t => cases e; exact .base (.lst e1)
  | tup n e1 z t => cases e; exact .base (.tup e1)
  | ktup o its n e1 c d z w t => cases e; exact .kTuple e1 c
  | dic n e1 => cases e; exact .base (.dK e1)
  | obj n e1 l t => cases e
  | adr a => cases e
  | exc0 _ _ => cases e
  | exc1 _ _ _ _ _ => cases e
/-- isinstance(x, T), T a built-in class -/
def isTD (T : String) (d : D) (P : DP) : Prop := ∃ t b, d.tyName = some t ∧ kitB t T = some b ∧ P (.bl b)
variable {E : XK} {e : Expr} {fe : DE} {p p2 pos : Pos} {T : String} {x : Str}
theorem e_isT (hg : Gl X "isinstance") (hm : X.mg "isinstance" = none) (hg2 : Gl X x) (hm2 : X.mg x = none) (hv : bootBuiltins x = some (.type T)) (he : PE X e (tE X.K E fe))
    (hn : x ≠ "__name__" := by decide) (hd : (x == ("__debug__" : Str)) = false := by decide)
    (h1 : starEach (e :: [.Name x p2]) X.env = (false, eval e X.env) :: starEach [.Name x p2] X.env := by rfl) (h2 : starEach (.Name x p2 :: []) X.env = (false, eval (.Name x p2) X.env) :: starEach [] X.env := by rfl)
    (hpl : (backTo pos (starEach [.Name x p2] X.env)).any (·.1) = false := by rfl) :
    PE X (.Call (.Name "isinstance" p) [e, .Name x p2] [] pos) (tE X.K E (fun δ P Z => fe δ (fun d => isTD T d P) Z)) :=
  PE.imp (pe_callB call_isi hg hm (by decide +kernel) (pa_cons he (pa_cons (pe_bltn (v := .ty T) hg2 hm2 hv rfl hn hd) pa_nil h2) h1) (by decide) (by decide) h1 hpl) fun σ H Q ⟨r, A, δ, P, Z, R, h, hq, hz⟩ =>
    ⟨r, A, δ, _, Z, R, h, fun d v H1 h3 x1 n1 r1 => by
      obtain ⟨t, b, e1, e2, h4⟩ := h3
      exact ⟨v, .ty T, .type t, .type T, b, rfl, .ty T, r1.tyX n1 e1, kit_ty e2, hq _ _ _ h4 x1 n1 (.bl b)⟩, hz⟩
/-! ### ''.join(xs) -/
def joinD (sep : Str) (d : D) (P : DP) : Prop := ∃ ys : List Str, (d = .lst (ys.map .str)) ∧ (ys.map (·.length)).sum + ys.length * sep.length ≤ 16777216 ∧ P (.str (Txt.join sep ys))
theorem e_join {sep : Str} {j : Nat} {apos : Pos} (he : PE X e (tE X.K E fe)) (hs : starEach [e] X.env = [(false, eval e X.env)] := by rfl) (hbase : attributeBase (.Constant (.str sep) j p) "join" X.env (eval (.Constant (.str sep) j p) X.env) = eval (.Constant (.str sep) j p) X.env := by rfl) (hline : (apos.endLine == pos.line) = true := by rfl) :
    PE X (.Call (.Attribute (.Constant (.str sep) j p) "join" apos) [e] [] pos) (tE X.K E (fun δ P Z => fe δ (fun d => joinD sep d P) Z)) :=
  PE.imp (pe_join pe_str he hs hbase hline) fun σ H Q ⟨r, A, δ, P, Z, R, h, hq, hz⟩ => ⟨⟨sep, rfl⟩, r, A, δ, _, Z, R, h, fun d v H1 h3 x1 n1 r1 => by
    obtain ⟨ys, rfl, h4, h5⟩ := h3
    obtain ⟨p, xs, rfl, _, e1, z1, t1⟩ := r1.sqL
    rw [t1.strs] at e1
    exact ⟨sep, p, ys, rfl, rfl, .inl (SqL.of e1), h4, hq _ _ _ h5 x1 n1 (.str _)⟩, hz⟩
/-! ### f"{x}" -/
/-- a value that {x} takes (an int of some length, a text, None, a bool, the empty tuple) -/
def FmtV (K : PySem.W.Frag) (H : Hp) (v : V) : Prop := (∃ i, v = .int i ∧ i.natAbs.log2 < 1920) ∨ (∃ y, v = .str y ∧ y.length ≤ 1000) ∨ v = .non ∨ (∃ b, v = .bl b) ∨ ∃ a, v = .ref a ∧ SqT K H a []
theorem pe_fmtA {k : Nat} (hr : Room k X.A) {e : Expr} {te : TE} {pos : Pos} (he : PE X e te) : PE X (.FormattedValue e (-1) none pos) (fun σ H Q => te σ H fun x H1 => FmtV X.K H1 x ∧ ∀ m : Str, m.length ≤ 16000000 → Q (.str m) H1) := by
  refine ⟨fun pins s σ H Q I h => ?_⟩
  refine wpAny_FormattedValue_plain (thn (he.run pins s σ H _ I h) fun v s1 ⟨x, H1, I1, r1, f, q⟩ => ?_)
  have hu := hr.units
  rcases f with ⟨i, rfl, hi⟩ | ⟨y, rfl, hy⟩ | rfl | ⟨b, rfl⟩ | ⟨a, rfl, ht⟩
  · obtain ⟨t, rfl⟩ := r1
    have hl : (Str.ofString (toString i)).length ≤ 16000000 := by
      have e := int_text_length_le (k := 1920) (by decide) hi
      rw [PySem.ofString_length]; omega
    exact wpAny_formatField_int hi ⟨.str (toString i), H1, I1.tok _, ⟨_, rfl⟩, q _ hl⟩
  · obtain ⟨t, rfl⟩ := r1
    have hz : y.length ≤ sizeLine := by rw [sizeLine_eq]; omega
    exact wpAny_formatField_str ⟨.str y, H1, I1, ⟨t, rfl⟩, q _ (by omega)⟩ ⟨.str y, H1, I1.tok _, ⟨_, rfl⟩, q _ (by omega)⟩ hz
  · cases r1
    exact wpAny_formatField_none ⟨.str "None", H1, I1.tok _, ⟨_, rfl⟩, q _ (by decide +kernel)⟩
  · cases r1
    exact wpAny_formatField_bool ⟨.str _, H1, I1.tok _, ⟨_, rfl⟩, q _ (by cases b <;> decide +kernel)⟩
  · cases r1
    obtain ⟨its, rv, ⟨o, ho, hcl, n, hd⟩, _⟩ := I1.tuple ht
    cases rv
    exact fmt_tuple (ts := []) (by omega) ho hcl hd .nil (by decide +kernel) fun m u tk hm => ⟨.str m, H1, I1.tok _, ⟨u, rfl⟩, q m (Nat.le_trans hm (by decide +kernel))⟩
end
end L3

namespace L3
open PySem PySem.Spec PyProof.Rows L2
/-! ### own error classes: a base class of one's own that keeps ValueError's __init__, classes over it whose __init__ calls it by the base's name -/
/-- the base class -/
structure BaseE (K : PySem.W.Frag) (mg : Str → Option Value) (x : Str) : Prop where
  ex : ∃ (D : Addr) (mc : Value), mg x = some (.ref D) ∧ PySem.W.readsIn K D mc = true ∧ PySem.W.specialIn K (.ref D) "__getattribute__" = some (some (.builtin "type.__getattribute__")) ∧
    PySem.W.findCls K (.ref D) mc "__init__" = some (.val (.builtin "ValueError.__init__"))
section
variable {X : Cx} {e : Expr} {es : List Expr} {ta : TA} {p p1 p2 pos : Pos} {x : Str}
theorem pe_cinit {pl : Sem Bool} (B : BaseE X.K X.mg x) (hg : Gl X x) (ha : PA X (e :: es) ta)
    (hc : eval (.Call (.Attribute (.Name x p1) "__init__" p2) (e :: es) [] pos) X.env = (do
      let ov ← eval (.Name x p1) X.env
      standAt p2.atName
      let (f, first) ← holding [ov] (getMethod ov "__init__" pl)
      callWith pos f first (backTo pos (starEach (e :: es) X.env)) (backToKw pos (keywordEach [] X.env))) := by rfl) (hdb : (x == ("__debug__" : Str)) = false := by decide)
    (he : starEach (e :: es) X.env = (false, eval e X.env) :: starEach es X.env := by rfl) (hpl : (backTo pos (starEach es X.env)).any (·.1) = false := by rfl) :
    PE X (.Call (.Attribute (.Name x p1) "__init__" p2) (e :: es) [] pos) (tVeI X.K ta) := by
  obtain ⟨D, mc, hm, h1, h2, h3⟩ := B.ex
  refine ⟨fun pins s σ H Q I h => ?_⟩
  refine PySem.W.methodCall_KW (ld_glob I hg hm ?_ hdb) hc
  refine PySem.W.method_cls I.kIn h2 (PySem.W.cls_value I.kIn h1 h3 (by decide +kernel) ?_)
  show wpAny _ _ (callWith pos (Value.builtin "ValueError.__init__") [] (backTo pos (starEach (e :: es) X.env)) []) _ _ _
  refine PyProof.Rows.callWith_method1 (thn (ha.run pos pins _ σ H _ (I.tok _) h) fun us s1 ⟨vs, H1, I1, r1, a, C, ws, ev, hl, T, ea, q⟩ => ?_) he hpl
  subst ev
  cases r1 with
  | @cons _ u0 _ ur ra rw' =>
    obtain rfl : u0 = Value.ref a := ra
    exact oinit_ok T I1 ea (by rw [← Paired.length rw', sizeLine_eq]; omega) fun s' J => ⟨.non, H1, J, rfl, q⟩
/-! C() of a class that stores nothing -/
def tMkO0 (C : Addr) (sp : Sp) : L2.St → Hp → XK → Prop := fun σ H Q => ∀ a, H a = none → sp [.ref a] (upd H a (exo a C none)) (fun v H2 => v = .non ∧ H2 a = some (exo a C none) ∧ Q (.ref C) none (del H2 a)) (fun _ _ _ => False)
theorem mk_end_none {pins : List (Addr × Obj)} {σ : L2.St} {H1 H2 : Hp} {hp hp2 h2 : Heap} {g1 g2 : Array GenState} {d1 d2 : Drawn} {t1 t2 : Nat} {os1 os2 : OsState} {a C : Addr} {Q : XK} (T : Raises X (.ref C)) (I1 : Inv X pins σ H1 ⟨hp, g1, d1, t1, os1⟩)
    (ha : hp.objs.size ≤ a) (k : ∀ b o, hp.get? b = some o → hp2.get? b = some o) (un : Un (frs X.stack) [] (upd H1 a (exo a C none)) H2 hp2 h2) (hok : HOk X.prog X.w H2 h2) (ho : os2 = os1) (hb : AllBare g2)
    (ea : H2 a = some (exo a C none)) (q : Q (.ref C) none (del H2 a)) : MkP X pins σ Q (.ref a) ⟨h2, g2, d2, t2, os2⟩ := by
  obtain ⟨t0, hoe⟩ := exo_at hok ea
  have hn : H1 a = none := I1.hok.fresh ha
  obtain ⟨G, g1', g2'⟩ := restrict h2 fun b => decide (b ≠ a)
  have gk : ∀ b, b ≠ a → G.get? b = h2.get? b := fun b hb => g1' b (decide_eq_true hb)
  have ge : G.get? a = none := g2' a (by simp)
  have nha : ∀ {b : Addr} {o : Obj}, hp.get? b = some o → b ≠ a := fun z => Nat.ne_of_lt (Nat.lt_of_lt_of_le (Heap.lt_size z) ha)
  have up : ∀ {b : Addr}, b ≠ a → H1 b = none → upd H1 a (exo a C none) b = none := fun hb n => by rw [upd_ne hb]; exact n
  have U : Un (frs X.stack) [] H1 (del H2 a) hp G := {
    keep := fun b o z n hf hx => by rw [gk b (nha z)]; exact un.keep b o (k b o z) (up (nha z) n) hf hx
    slot := fun b o z n hf hx => by rw [gk b (nha z)]; exact un.slot b o (k b o z) (up (nha z) n) hf hx
    free := fun b o z n hx => by rw [del_ne (nha z)]; exact un.free b o (k b o z) (up (nha z) n) hx
    there := fun b o z hx => by rw [gk b (nha z)]; exact un.there b o (k b o z) hx
    tups := fun b xs z => by rw [del_ne (ne_of_none z hn)]; exact un.tups b xs (by rw [upd_ne (ne_of_none z hn)]; exact z)
    frzs := fun b o v z => by rw [del_ne (ne_of_none z hn)]; exact un.frzs b o v (by rw [upd_ne (ne_of_none z hn)]; exact z)
    tbls := fun b ps z => by rw [del_ne (ne_of_none z hn)]; exact un.tbls b ps (by rw [upd_ne (ne_of_none z hn)]; exact z) }
  have hok3 : HOk X.prog X.w (del H2 a) G := fun b o z => by
    have hba : b ≠ a := fun e => by rw [e, del_same] at z; cases z
    rw [del_ne hba] at z
    have noa : ∀ {c : Addr}, H2 c = some (.own b) → c ≠ a := fun hc => at_ne ea hc exo_own
    refine (hok b o z).stay (fun c v hc y => ?_) (fun c hc => by rw [del_ne (noa hc)]; exact hc) fun c xs hc => by rw [del_ne (at_ne ea hc exo_tup)]; exact hc
    rw [gk c (by
      rcases hc with hc | hc
      · rw [hc]; exact hba
      · exact noa hc)]
    exact y
  have J : Inv X pins σ (del H2 a) ⟨G, g2, d2, t2, os2⟩ := I1.call' (ch := []) ho U hok3 hb (fun b z => absurd z (by simp))
  refine ⟨a, _, _, ⟨G, g2, d2, t2, os2⟩, _, .ref C, none, rfl, J, fun b o z => ?_, ge, hoe, ⟨rfl, rfl⟩, rfl, rfl, del_same, rfl, hb, T, q⟩
  by_cases hba : b = a
  · rw [hba, ge] at z; cases z
  · exact (gk b hba).symm.trans z
theorem pmk_oex0 {CX : CXT} {C fI : Addr} {k : Nat} {fd : FuncData} {ps : List Str} {sp : Sp} (T : OexC X.K C) (iC : PySem.W.findIn X.K (.ref C) "__init__" = some (some (.ref fI))) (tI : PySem.W.typeIn X.K (.ref fI) = some (.type "function"))
    (F1 : FnOk X.prog X.w X.K X.mg X.base CX k fI fd ps sp) (hr : Room (k + 1) X.A) (hb : Binds X.K fd ps []) (hx : Passes CX X (fun _ _ _ => False)) (hg : Gl X x) (hm : X.mg x = some (.ref C)) (hdb : (x == ("__debug__" : Str)) = false := by decide) :
    PMk X (.Call (.Name x p) [] [] pos) (tMkO0 C sp) := by
  intro pins s σ H Q I h
  obtain ⟨nm, q, N, bs, bm, sn, sub, ab, col, dd, k0, k1, k2, k3, k5, hC, hbm⟩ := T.cls
  refine wpAny_Call_Name_kw (ld_glob I hg hm ?_ hdb)
  refine PySem.W.callWith_K0 I.kIn T.kC ?_
  obtain ⟨hp, g, dr, tk, os⟩ := s
  have hsz : hp.objs.size ≤ hp.objs.size + 1 := Nat.le_succ _
  have hn : H (hp.objs.size + 1) = none := I.hok.fresh hsz
  have hq := h (hp.objs.size + 1) hn
  have kk : ∀ b o, hp.get? b = some o → ((hp.push (PySem.W.kdv_tup [])).push (PySem.HandSPX.excO C hp.objs.size)).get? b = some o := fun b o e => Heap.get?_push_of_some _ (Heap.get?_push_of_some _ e)
  have hget : ((hp.push (PySem.W.kdv_tup [])).push (PySem.HandSPX.excO C hp.objs.size)).get? (hp.objs.size + 1) = some (PySem.HandSPX.excO C hp.objs.size) := by heap_get
  have I2 : Inv X pins σ (upd H (hp.objs.size + 1) (exo (hp.objs.size + 1) C none)) ⟨(hp.push (PySem.W.kdv_tup [])).push (PySem.HandSPX.excO C hp.objs.size), g, dr, tk, os⟩ := I.laid (t' := tk) kk hsz (exo_ok hget)
  have r2 : Vals [V.ref (hp.objs.size + 1)] [Value.ref (hp.objs.size + 1)] := .cons rfl .nil
  have hl : ([Value.ref (hp.objs.size + 1)] ++ ([] : List Value)).length = ps.length := by
    rw [← F1.len _ _ _ _ hq]; rfl
  refine wpAny_call (PySem.HandSPX.call_own F.excBase_ValueError (fun Y => PySem.HandSPX.refsVE_contains Y bm hbm) (I.kIn _ _ hC) (PySem.W.looks_findIn I.kIn iC) (fun self => PySem.W.bind_fn I.kIn self tI) (by show 0 ≤ sizeLine; decide)
    (codeAny_mono (F1.run _ X.stack _ _ ⟨[Value.ref (hp.objs.size + 1)], []⟩ [Value.ref (hp.objs.size + 1)] _ _ (fun _ _ _ => False) (hr.make C [] []) (I2.env0.make C [] []) (by simpa using hb _ [Value.ref (hp.objs.size + 1)] I2.kIn hl) r2 hq) fun r s' hq' => ?_))
  cases r with
  | error er => exact hx pins σ _ _ er s' I2 hq'
  | ok fl =>
    cases fl with
    | ret u =>
      obtain ⟨v, H2, os2, bare2, un2, hok2, rv, ev, ea, q2⟩ := hq'
      subst ev
      obtain ⟨h2, g2, d2, t2, os'⟩ := s'
      exact ⟨rv, mk_end_none (raises_own T.exC T.tyC) I hsz kk un2 hok2 os2 bare2 ea q2⟩
    | next => exact False.elim hq'
    | brk => exact False.elim hq'
    | cont => exact False.elim hq'
end
/-! ### the promises of such __init__s -/
def spI0 (C : Addr) : Sp := fun vs H Q _ => ∃ a, vs = [.ref a] ∧ H a = some (exo a C none) ∧ Q .non H
def spI1 (K : PySem.W.Frag) (C : Addr) (f : Str) : Sp := fun vs H Q _ => ∃ a v, vs = [.ref a, v] ∧ H a = some (exo a C none) ∧ FmtV K H v ∧ ∀ dx, H dx = none → dx ≠ a → Q .non (upd (upd H dx (exd dx [(f, v)])) a (exo a C (some dx)))
/-- an error class of one's own: its name, its field (if any) -/
structure Err (P : Program) (w : World) (K : PySem.W.Frag) (mg : Str → Option Value) (base : Heap) (x : Str) (C : Addr) (f : Option Str) : Prop where
  oex : OexC K C
  m : mg x = some (.ref C)
  ini : ∃ (fI : Addr) (fd : FuncData) (ps : List Str), PySem.W.findIn K (.ref C) "__init__" = some (some (.ref fI)) ∧ PySem.W.typeIn K (.ref fI) = some (.type "function") ∧ Binds K fd ps [] ∧
    match f with
    | none => FnOk P w K mg base (L2.CX P w) 1 fI fd ps (spI0 C)
    | some f => FnOk P w K mg base (L2.CX P w) 1 fI fd ps (spI1 K C f)
/-- values that may stand in an error's text -/
def D.fmt : D → Bool
  | .int i => decide (i.natAbs < 2 ^ 64)
  | .str y => decide (y.length ≤ 1000)
  | .non => true
  | .bl _ => true
  | .tup [] => true
  | _ => false
theorem DR.fmtV {K : PySem.W.Frag} {r : Addr} {A : Addr → Prop} {H : Hp} {v : V} {d : D} (h : DR K r A H v d) (f : d.fmt = true) : FmtV K H v := by
  cases d with
  | non => cases h; exact .inr (.inr (.inl rfl))
  | bl b => cases h; exact .inr (.inr (.inr (.inl ⟨b, rfl⟩)))
  | int i =>
    cases h
    refine .inl ⟨i, rfl, ?_⟩
    have hi : i.natAbs < 2 ^ 64 := of_decide_eq_true f
    by_cases h0 : i.natAbs = 0
    · rw [h0]; decide
    · exact Nat.lt_trans ((Nat.log2_lt h0).mpr hi) (by decide)
  | str y => cases h; exact .inr (.inl ⟨y, rfl, of_decide_eq_true f⟩)
  | tup ds =>
    cases ds with
    | nil =>
      obtain ⟨a, xs, rfl, e, z, t⟩ := h.sqT
      cases t
      exact .inr (.inr (.inr (.inr ⟨a, rfl, e⟩)))
    | cons a b => cases f
  | _ => cases f
section
variable {X : Cx} {E : XK} {e : Expr} {fe : DE} {x : Str} {C : Addr} {p pos pos2 : Pos}
/-- raise X() -/
theorem s_raise0 (hc : X.calm = true) (er : Err X.prog X.w X.K X.mg X.base x C none) (hr : Room 2 X.A) (hg : Gl X x) (tk : Takes X (fun cls d _ H => E cls d H)) (hdb : (x == ("__debug__" : Str)) = false := by decide) :
    PS X (.Raise (some (.Call (.Name x p) [] [] pos)) none pos2) (tS X.K E (fun P δ => P.ex ⟨C, none⟩)) := by
  obtain ⟨fI, fd, ps, h1, h2, h3, h4⟩ := er.ini
  refine PS.imp (ps_raise hc tk (pmk_oex0 er.oex h1 h2 h4 hr h3 (fun _ _ _ _ _ _ _ h => by
    obtain ⟨_, _, _, _, _, _, _, _, _, _, _, _, h⟩ := h
    exact h.elim) hg er.m hdb)) fun D σ H ⟨r, A0, H0, δ, P, R, h, L⟩ => fun a na => ⟨a, rfl, upd_same, rfl, upd_same, ?_⟩
  have e0 : del (upd H a (exo a C none)) a = H := by
    funext b
    by_cases hb : b = a
    · rw [hb, del_same, na]
    · rw [del_ne hb, upd_ne hb]
  rw [e0]
  exact L.ex ⟨C, none⟩ _ _ H h R.ext R.er.rnd ⟨rfl, rfl⟩
/-- raise X(e) -/
theorem s_raise1 {f : Str} (hc : X.calm = true) (er : Err X.prog X.w X.K X.mg X.base x C (some f)) (hr : Room 2 X.A) (hg : Gl X x) (tk : Takes X (fun cls d _ H => E cls d H)) (he : PE X e (tE X.K E fe)) (hdb : (x == ("__debug__" : Str)) = false := by decide)
    (hst : starEach [e] X.env = (false, eval e X.env) :: starEach [] X.env := by rfl) (hpl : (backTo pos (starEach [] X.env)).any (·.1) = false := by rfl) :
    PS X (.Raise (some (.Call (.Name x p) [e] [] pos)) none pos2) (tS X.K E (fun P δ => fe δ (fun d => d.fmt = true ∧ P.ex ⟨C, some (f, d)⟩) P.ex)) := by
  obtain ⟨fI, fd, ps, h1, h2, h3, h4⟩ := er.ini
  refine PS.imp (ps_raise hc tk (pmk_oex (dvs := []) er.oex h1 h2 h4 hr h3 .nil (fun _ _ _ _ _ _ _ h => by
    obtain ⟨_, _, _, _, _, _, _, _, _, _, _, _, h⟩ := h
    exact h.elim) hg er.m (pa_cons he pa_nil hst) hdb hst hpl)) fun D σ H ⟨r, A0, H0, δ, P, R, h, L⟩ => ?_
  refine use_of R L h fun d v H1 h5 x1 n1 r1 => ⟨by show 1 ≤ 1000; decide, fun a na => ?_⟩
  have R1 := R.move x1 n1
  have eq : [V.ref a] ++ ([v] ++ []) = [V.ref a, v] := rfl
  show spI1 X.K C f [V.ref a, v] (upd H1 a (exo a C none)) _ _
  have fv : FmtV X.K (upd H1 a (exo a C none)) v := (r1.ext ((Ext.upd na).toA R1.er.ar)).fmtV h5.1
  refine ⟨a, v, rfl, upd_same, fv, fun dx nd ne => ⟨rfl, dx, [(f, v)], upd_same, by rw [upd_ne ne, upd_same], ?_, ?_⟩⟩
  · rw [upd_ne ne] at nd; exact nd
  · have nd1 : H1 dx = none := by rw [upd_ne ne] at nd; exact nd
    have e0 : upd (del (upd (upd (upd H1 a (exo a C none)) dx (exd dx [(f, v)])) a (exo a C (some dx))) a) dx (.xd [(f, v)]) = upd H1 dx (.xd [(f, v)]) := by
      funext b
      by_cases hbd : b = dx
      · rw [hbd, upd_same, upd_same]
      · rw [upd_ne hbd, upd_ne hbd]
        by_cases hba : b = a
        · rw [hba, del_same, na]
        · rw [del_ne hba, upd_ne hba, upd_ne hbd, upd_ne hba]
    rw [e0]
    have rn2 := n1.upd (o := .xd [(f, v)]) nd1
    refine L.ex ⟨C, some (f, d)⟩ _ _ _ h5.2 (R1.ext.trans (Ext.upd nd1)) rn2 ⟨rfl, dx, v, rfl, upd_same, ?_, ?_⟩
    · intro hA
      cases q : H0 dx with
      | none => exact R.a0 dx hA q
      | some o =>
        by_cases hdr : dx = r
        · obtain ⟨ns, e1, _⟩ := n1
          rw [hdr, e1] at nd1; cases nd1
        · have := R1.ext dx o hdr q
          rw [nd1] at this; cases this
    · exact (r1.ext ((Ext.upd nd1).toA R1.er.ar)).bar fun b o hb _ => .inl hb
end
end L3

namespace L3
open PySem PySem.Spec PyProof.Rows L2
/-! ### instances that never change after their __init__ -/
/-- a property f of the class at C that hands back the attribute g -/
structure Prp (P : Program) (w : World) (K : PySem.W.Frag) (mg : Str → Option Value) (base : Heap) (C : Addr) (f g : Str) : Prop where
  cls : Cls K C
  ex : ∃ (p fg : Addr) (fd : FuncData), PropOf K C f p fg ∧ Binds K fd ["self"] [] ∧ FnOk P w K mg base (L2.CX P w) 1 fg fd ["self"] (getSp C g)
theorem lookup_zip {K : PySem.W.Frag} {r : Addr} {A : Addr → Prop} {H : Hp} {g : Str} {y : D} : ∀ {ns : List Str} {xs : List V} {ds : List D}, DRs K r A H xs ds → (ns.zip ds).lookup g = some y → ∃ v, (ns.zip xs).lookup g = some v ∧ DR K r A H v y
  | [], _, _, _, h => by simp at h
  | n :: ns, _, _, .nil, h => by simp at h
  | n :: ns, _, _, .cons a b, h => by
    rw [List.zip_cons_cons, List.lookup_cons] at h ⊢
    cases e : g == n with
    | true => rw [e] at h; cases h; exact ⟨_, rfl, a⟩
    | false => rw [e] at h; exact lookup_zip b h
section
variable {X : Cx} {E : XK} {e : Expr} {fe : DE} {f g : Str} {C : Addr} {pos : Pos}
theorem e_prop (c : Prp X.prog X.w X.K X.mg X.base C f g) (hr : Room 2 X.A) (he : PE X e (tE X.K E fe)) (hab : attributeBase e f X.env (eval e X.env) = eval e X.env := by rfl) :
    PE X (.Attribute e f pos) (tE X.K E (fun δ P Z => fe δ (fun d => ∃ ns ds y, d = .obj C ns ds ∧ (ns.zip ds).lookup g = some y ∧ P y) Z)) := by
  obtain ⟨p, fg, fd, h1, h2, h3⟩ := c.ex
  refine PE.imp (pe_prop (E := E0) he c.cls h1 h3 hr h2 .nil (fun _ _ _ _ _ _ _ h => by
    obtain ⟨_, _, _, _, _, _, _, _, _, _, _, _, h⟩ := h
    exact h.elim) hab) fun σ H Q ⟨r, A, δ, P, Z, R, h, hq, hz⟩ => ⟨r, A, δ, _, Z, R, h, fun d v H1 h3 x1 n1 r1 => ?_, hz⟩
  obtain ⟨ns, ds, y, rfl, hl, hp⟩ := h3
  cases r1 with
  | @obj a _ dx _ xs _ na e1 l t =>
    obtain ⟨u, hu, ru⟩ := lookup_zip t hl
    exact ⟨a, dx, _, rfl, e1, a, dx, _, u, rfl, e1, hu, hq _ _ _ hp x1 n1 ru⟩
end
/-- Set(cubes, turns): the promise of its __init__; C the class, fs its attributes in the order of the arguments -/
def spMk (K : PySem.W.Frag) (C : Addr) (fs : List Str) (g : List D → Prop → XP → Prop) : Sp := fun vs H Q E => ∃ r A p dx xs ds P Z, vs = .ref p :: xs ∧ H p = some (.ins C dx []) ∧ ¬ A p ∧ Wd r A H ∧ DRs K r A H xs ds ∧ ds.length = fs.length ∧ g ds P Z ∧
  (∀ H', P → (∀ b o, b ≠ r → b ≠ p → H b = some o → H' b = some o) → RndOk r H' → H' p = some (.ins C dx (fs.zip xs)) → Q .non H') ∧
  (∀ x c dd H', Z x → (∀ b o, b ≠ r → b ≠ p → H b = some o → H' b = some o) → RndOk r H' → XR K r A H' c dd x → E c dd H')
structure Mkr (P : Program) (w : World) (K : PySem.W.Frag) (mg : Str → Option Value) (base : Heap) (x : Str) (C : Addr) (k : Nat) (fs : List Str) (dvs : List V) (ds : List D) (g : List D → Prop → XP → Prop) : Prop where
  m : mg x = some (.ref C)
  ex : ∃ (f : Addr) (fd : FuncData) (ps : List Str) (dv : List Value), L2.Mk K C f ∧ FnOk P w K mg base (L2.CX P w) k f fd ps (spMk K C fs g) ∧ Binds K fd ps dv ∧ Vals dvs dv
  dfl : ∀ r A H, DRs K r A H dvs ds
section
variable {X : Cx} {E : XK} {e : Expr} {es : List Expr} {fa : DA} {x : Str} {C : Addr} {pos p : Pos} {k : Nat} {fs : List Str} {dvs : List V} {dfs : List D} {g : List D → Prop → XP → Prop}
theorem e_make (c : Mkr X.prog X.w X.K X.mg X.base x C k fs dvs dfs g) (hr : Room (k + 1) X.A) (hg : Gl X x) (hx : Passes (L2.CX X.prog X.w) X E) (ha : PA X (e :: es) (tA X.K E fa)) (hdb : (x == ("__debug__" : Str)) = false := by decide)
    (he : starEach (e :: es) X.env = (false, eval e X.env) :: starEach es X.env := by rfl) (hpl : (backTo pos (starEach es X.env)).any (·.1) = false := by rfl) :
    PE X (.Call (.Name x p) (e :: es) [] pos) (tE X.K E (fun δ P Z => fa δ (fun ds => (ds ++ dfs).length = fs.length ∧ g (ds ++ dfs) (P (.obj C fs (ds ++ dfs))) Z) Z)) := by
  obtain ⟨f, fd, ps, dv, M, F, hb, hd⟩ := c.ex
  refine PE.imp (pe_make M F hr hg c.m hb hd hx ha hdb he hpl) fun σ H Q ⟨r, A, δ, P, Z, R, h, hq, hz⟩ => ⟨r, A, δ, _, Z, R, h, fun ds vs H1 h3 x1 n1 r1 => ?_, hz⟩
  intro p dx np nd ne
  have w1 := (R.ext x1 n1).wd
  have all := r1.append (c.dfl r A H1)
  have nA : ¬ A p := w1.free np
  have e1 : Ext r H1 (upd (upd H1 dx (.own p)) p (.ins C dx [])) := (Ext.upd nd).trans (Ext.upd (by rw [upd_ne (Ne.symm ne)]; exact np))
  have rn1 : RndOk r (upd (upd H1 dx (.own p)) p (.ins C dx [])) := (n1.upd nd).upd (by rw [upd_ne (Ne.symm ne)]; exact np)
  refine ⟨r, A, p, dx, vs ++ dvs, ds ++ dfs, _, Z, rfl, upd_same, nA, w1.ext e1 rn1, all.ext (e1.toA w1.ar), h3.1, h3.2, fun H' hp keep rn e2 => ⟨rfl, ?_⟩, fun y cc dd H' z keep rn xr => hz y cc dd H' z (fun b o hb q => ?_) rn xr⟩
  · have k1 : Ext r H1 H' := fun b o hb q => keep b o hb (ne_of_none q np) (e1 b o hb q)
    refine hq _ _ _ hp (x1.trans k1) rn (.obj nA e2 ?_ (all.ext (k1.toA w1.ar)))
    rw [all.length, h3.1]
  · have q1 := x1 b o hb q
    exact keep b o hb (ne_of_none q1 np) (e1 b o hb q1)
end
end L3

namespace L3
open PySem PySem.Spec PyProof.Rows L2
section
variable {X : Cx} {E : XK} {a e : Expr} {fa : DE} {pos : Pos}
/-- the name in the i-th slot -/
theorem ev (i : Nat) {x : Str} {pos : Pos} (hN : X.N[i]? = some x := by rfl) (hv : Vis X.env.scope x := by first | exact Or.inl rfl | exact Or.inr (Or.inl rfl) | exact Or.inr (Or.inr rfl)) (hd : (x == ("__debug__" : Str)) = false := by decide)
    (hcd : (x == ("__classdict__" : Str)) = false := by decide) : PE X (.Name x pos) (tE X.K E (fun δ P _ => ∃ d, δ[i]? = some (.val d) ∧ P d)) := e_var hN hv hd hcd
def negD : D → DP → Prop
  | .int i, P => P (.int (-i))
  | _, _ => False
theorem e_neg (ha : PE X a (tE X.K E fa)) : PE X (.UnaryOp .USub a pos) (tE X.K E (fun δ P Z => fa δ (fun d => negD d P) Z)) := PE.imp (pe_un un_neg ha) fun σ H Q ⟨r, A, δ, P, Z, R, h, hq, hz⟩ =>
  ⟨r, A, δ, _, Z, R, h, fun d v H1 h3 x1 n1 r1 => by
    cases d with
    | int i => cases r1; exact ⟨i, rfl, hq _ _ _ h3 x1 n1 (.int _)⟩
    | _ => exact h3.elim, hz⟩
end
/-! ### y = [..] -/
section
variable {X : Cx} {E : XK} {elt tg iter : Expr} {ifs : List Expr} {scope : Scope} {own : List (Str × Nat)} {pos spos : Pos} {fi : DI} {g : DG} {gt : TG} {tt : DT} {te : DE} {i : Nat} {y : Str} {py : Pos}
theorem s_setLc (hc : X.calm = true) (hN : X.N.Nodup) (hy : X.N[i]? = some y) (hyl : X.env.scope.names.lookup y = some .local)
    (hsw : swapsWith (.ListComp elt [⟨tg, iter, ifs, 0⟩] scope pos) (some (.Name y py)) spos.line X.env = pure true) (hi : PI X tg iter (tI X.K E fi)) (ok : BlkOk X.N X.env.scope scope own) (hG : tGc X.K (own.map (·.2)) g gt)
    (hg : ∀ (s : Shared) (H : Hp) (C : Addr) (cl : List (Str × Addr)) (fp : List Addr), PG (X.blk s H scope (compEnvC scope cl C X.env) fp) tg gt) (ht : ∀ (s : Shared) (H : Hp) (C : Addr) (cl : List (Str × Addr)) (fp : List Addr), PTs (X.blk s H scope (compEnvC scope cl C X.env) fp) ifs (tT X.K E0 tt))
    (he : ∀ (s : Shared) (H : Hp) (C : Addr) (cl : List (Str × Addr)) (fp : List Addr), PE (X.blk s H scope (compEnvC scope cl C X.env) fp) elt (tE X.K E0 te)) (hs : ∀ x, foldedSetIterable iter X.env x = pure x := by intro _; rfl) :
    PS X (.Assign [.Name y py] (.ListComp elt [⟨tg, iter, ifs, 0⟩] scope pos) spos) (tS X.K E (fun P δ => fi δ (fun ds => ds.length ≤ sizeLine ∧ lcD g tt te (wipeE δ (own.map (·.2))) ds [] (fun out => P.nx (δ.set i (.val (.lst out))))) P.ex)) :=
  PS.imp (ps_setLc hc hN hy hyl hsw hi ok hg ht he hs) fun Dd σ H ⟨r, A0, H0, δ, P, R, h, L⟩ => lc_of hG σ H _ (use_of (f := fun δ (Pd : DP) Z => fi δ (fun ds => ds.length ≤ sizeLine ∧ lcD g tt te (wipeE δ (own.map (·.2))) ds [] (fun out => Pd (.lst out))) Z) R L (Pd := fun d => P.nx (δ.set i (.val d))) h
    fun d v H' h2 x2 n2 r2 => L.nx _ _ _ h2 ((R.move x2 n2).set r2))
end
/-! ### a, b = e1, e2 -/
section
variable {X : Cx} {E : XK} {i j : Nat} {x y : Str} {a b : Expr} {fs : DA} {px py pt pos : Pos} {kt k2 : Nat} {pt2 : Pos}
theorem s_par (hc : X.calm = true) (hN : X.N.Nodup) (hi : X.N[i]? = some x) (hj : X.N[j]? = some y) (hij : i ≠ j)
    (hx : X.env.scope.names.lookup x = some .local) (hy : X.env.scope.names.lookup y = some .local) (ha : PA X [a, b] (tA X.K E fs))
    (hw : swappedStores [.Tuple [.Name x px, .Name y py] kt pt] (.Tuple [a, b] k2 pt2) X.env = pure (some [x, y]))
    (hs : swapsWithSole [.Tuple [.Name x px, .Name y py] kt pt] (.Tuple [a, b] k2 pt2) pos.line X.env = pure false := by rfl) :
    PS X (.Assign [.Tuple [.Name x px, .Name y py] kt pt] (.Tuple [a, b] k2 pt2) pos) (tS X.K E (fun P δ => fs δ (fun ds => ∃ d e, ds = [d, e] ∧ P.nx ((δ.set i (.val d)).set j (.val e))) P.ex)) :=
  PS.imp (ps_par hc hN hi hj hij hx hy ha hw hs) fun D σ H ⟨r, A0, H0, δ, P, R, h, L⟩ => ⟨r, _, δ, _, P.ex, R.er, h, fun ds vs H1 h2 x1 n1 r1 => by
    obtain ⟨d, e, rfl, h2⟩ := h2
    obtain ⟨v, u, rfl, a1, a2⟩ := r1.two
    have R1 := R.move x1 n1
    exact ⟨v, u, rfl, L.nx _ _ _ h2 ((R1.set a1).set (R1.set_val a1 a2))⟩, fun x c dd H' z e n q => L.ex x c dd H' z (R.ext.trans e) n (q.bar fun b o hb _ => .inl hb)⟩
end
end L3

namespace L3
open PySem PySem.Spec PyProof.Rows L2
/-! ### comprehensions of two clauses -/
def inD2 (g : DG) (tt : DT) (te : DE) (δw : Env) : List D → List D → (List D → Prop) → Prop
  | [], acc, P => P acc
  | d :: ds, acc, P => g d δw fun δ2 => tt δ2 (fun b => if b = true then te δ2 (fun y => acc.length + 1 ≤ sizeLine ∧ inD2 g tt te δw ds (acc ++ [y]) P) XF else inD2 g tt te δw ds acc P) XF
def lc2D (g : DG) (tt : DT) (fi1 : DI) (g1 : DG) (tt1 : DT) (te : DE) (vs1 : List Nat) (δw : Env) : List D → List D → (List D → Prop) → Prop
  | [], acc, P => P acc
  | d :: ds, acc, P => g d δw fun δ2 => tt δ2 (fun b => if b = true then fi1 δ2 (fun es => inD2 g1 tt1 te (wipeE δ2 vs1) es acc fun acc' => lc2D g tt fi1 g1 tt1 te vs1 δw ds acc' P) XF else lc2D g tt fi1 g1 tt1 te vs1 δw ds acc P) XF
/-- the list that a comprehension makes, at work at c -/
structure Acc (K : PySem.W.Frag) (r : Addr) (A : Addr → Prop) (c : Addr) (H1 H : Hp) (acc : List D) : Prop where
  ob : ∃ accV, H c = some (.lst accV) ∧ accV.length ≤ sizeLine ∧ DRs K r (fun b => A b ∨ b = c) H accV acc
  keep : ∀ b o, b ≠ r → b ≠ c → H1 b = some o → H b = some o
  rnd : RndOk r H
section
variable {K : PySem.W.Frag} {r : Addr} {A : Addr → Prop} {c : Addr} {H1 H H' : Hp} {acc : List D} {σ : L2.St} {δ : Env}
theorem Acc.ext (a : Acc K r A c H1 H acc) (ar : A r) (ne : c ≠ r) (e : Ext r H H') (rn : RndOk r H') : Acc K r A c H1 H' acc := by
  obtain ⟨v, h1, h2, h3⟩ := a.ob
  exact ⟨⟨v, e c _ ne h1, h2, h3.ext (e.toA (.inl ar))⟩, fun b o hr hc q => e b o hr (a.keep b o hr hc q), rn⟩
theorem Acc.er (a : Acc K r A c H1 H acc) (R : ER K r A σ H1 δ) (n : H1 c = none) : ER K r (fun b => A b ∨ b = c) σ H δ := by
  obtain ⟨v, h1, h2, h3⟩ := a.ob
  have R2 : ER K r (fun b => A b ∨ b = c) σ (upd H1 c (.lst [])) δ := R.bar n (by rw [upd_same]; simp) fun b o hb q => by rw [upd_ne hb]; exact q
  refine R2.extD (p := c) (.inr rfl) (fun j es q z => ?_) (fun b o hr hb q => ?_) (by rw [h1]; simp) a.rnd
  · obtain ⟨l, xs, e1, _, _, e4, _⟩ := R.own j es q
    rw [e1] at z
    cases z
    rw [n] at e4; cases e4
  · rw [upd_ne hb] at q
    exact a.keep b o hr hb q
theorem Acc.more (a : Acc K r A c H1 H acc) (ne : c ≠ r) {v : V} {y : D} (hy : DR K r (fun b => A b ∨ b = c) H v y) (hz : acc.length + 1 ≤ sizeLine) : ∃ accV, H c = some (.lst accV) ∧ accV.length < sizeLine ∧ Acc K r A c H1 (upd H c (.lst (accV ++ [v]))) (acc ++ [y]) := by
  obtain ⟨w, h1, h2, h3⟩ := a.ob
  have hl := h3.length
  have eD : ExtA (fun b => A b ∨ b = c) H (upd H c (.lst (w ++ [v]))) := fun b o nb q => by
    rw [upd_ne (fun z => nb (.inr z))]; exact q
  refine ⟨w, h1, by omega, ⟨w ++ [v], upd_same, by rw [List.length_append, List.length_singleton]; omega, DRs.append (h3.ext eD) (.cons (hy.ext eD) .nil)⟩, fun b o hr hb q => by rw [upd_ne hb]; exact a.keep b o hr hb q, ?_⟩
  obtain ⟨ns, e1, e2⟩ := a.rnd
  exact ⟨ns, by rw [upd_ne (Ne.symm ne)]; exact e1, e2⟩
end
theorem lc2_of {K : PySem.W.Frag} {E : XK} {fi fi1 : DI} {g g1 : DG} {gt gt1 : TG} {tt tt1 : DT} {te : DE} {vs vs1 : List Nat} (hg : tGc K vs g gt) (hg1 : tGc K vs1 g1 gt1) : ∀ σ H Q,
    tE K E (fun δ P Z => fi δ (fun ds => lc2D g tt fi1 g1 tt1 te vs1 (wipeE δ vs) ds [] (fun out => P (.lst out))) Z) σ H Q →
    tLc2 (tI K E fi) gt (tT K E0 tt) (tI K E0 fi1) gt1 (tT K E0 tt1) (tE K E0 te) vs vs1 σ H Q := fun σ H Q ⟨r, A, δ, P, Z, R, h2, hq, hz⟩ =>
  ⟨r, A, δ, _, Z, R, h2, fun ds J H1 h3 x1 n1 y => by
    intro c nc
    have R1 := R.ext x1 n1
    have ncr : c ≠ r := fun z => by
      obtain ⟨ns, e, _⟩ := n1
      rw [z, e] at nc; cases nc
    have nA : ¬ A c := R1.free nc
    refine ⟨fun i m Hc => m = ds.length - i ∧ i ≤ ds.length ∧ ∃ acc, lc2D g tt fi1 g1 tt1 te vs1 (wipeE δ vs) (ds.drop i) acc (fun out => P (.lst out)) ∧ Acc K r A c H1 Hc acc,
      ⟨ds.length, by simp, Nat.zero_le _, [], h3, ⟨[], upd_same, Nat.zero_le _, .nil⟩, fun b o _ hb e => by rw [upd_ne hb]; exact e, n1.upd nc⟩, ?_⟩
    rintro i m Hc ⟨rfl, hi, acc, h4, a⟩
    have ea : ExtA A H1 Hc := fun b o nb q => a.keep b o (fun z => nb (z ▸ R1.ar)) (ne_of_none q nc) q
    have wa : ∀ b o, (A b ∨ b = c) → H1 b = some o → A b := fun b o hb q => by
      rcases hb with hb | hb
      · exact hb
      · rw [hb, nc] at q; cases q
    have R3 := a.er R1 nc
    obtain ⟨ys, yg⟩ := y i Hc _ ea R3.wd wa
    by_cases hlt : i < ds.length
    · obtain ⟨go, yl⟩ := yg ds[i] (List.getElem?_eq_getElem hlt)
      refine .inr ⟨go, fun H' => ∃ m', m' < ds.length - i ∧ m' = ds.length - (i + 1) ∧ i + 1 ≤ ds.length ∧ ∃ acc, lc2D g tt fi1 g1 tt1 te vs1 (wipeE δ vs) (ds.drop (i + 1)) acc (fun out => P (.lst out)) ∧ Acc K r A c H1 H' acc, fun H' h => h, fun x H' hy => ?_⟩
      obtain ⟨x5, n5, d5⟩ := yl x H' hy
      rw [List.drop_eq_getElem_cons hlt] at h4
      have a5 := a.ext R1.ar ncr x5 n5
      refine hg r _ x ds[i] _ H' _ _ _ ((R3.ext x5 n5).wipe vs) d5 h4 fun δ2 σ2 h6 hw os R6 => ⟨by rw [hw, wipe_wipe], r, _, δ2, _, XF, R6, h6, fun b H3 h7 x7 n7 => ?_, fun x c dd H' z => z.elim⟩
      cases b with
      | false => exact ⟨ds.length - (i + 1), by omega, rfl, by omega, acc, h7, a5.ext R1.ar ncr x7 n7⟩
      | true =>
        refine ⟨r, _, δ2, _, XF, R6.ext x7 n7, h7, fun es J1 H4 h8 x8 n8 y1 => ?_, fun x c dd H' z => z.elim⟩
        have a8 := (a5.ext R1.ar ncr x7 n7).ext R1.ar ncr x8 n8
        have R8 := (R6.ext x7 n7).ext x8 n8
        refine ⟨fun j k H => k = es.length - j ∧ j ≤ es.length ∧ ∃ acc, inD2 g1 tt1 te (wipeE δ2 vs1) (es.drop j) acc (fun acc' => lc2D g tt fi1 g1 tt1 te vs1 (wipeE δ vs) (ds.drop (i + 1)) acc' (fun out => P (.lst out))) ∧ Acc K r A c H1 H acc ∧
          (∀ b o, b ≠ r → b ≠ c → H4 b = some o → H b = some o), ⟨es.length, by simp, Nat.zero_le _, acc, h8, a8, fun _ _ _ _ q => q⟩, ?_⟩
        rintro j k Hj ⟨rfl, hj, acc1, h9, a9, k9⟩
        have ea1 : ExtA (fun b => A b ∨ b = c) H4 Hj := fun b o nb q => k9 b o (fun z => nb (.inl (z ▸ R1.ar))) (fun z => nb (.inr z)) q
        have noc : ∀ (j : Nat) es, δ2[j]? = some (.own es) → σ2[j]? ≠ some (some (.ref c)) := fun j es q z => by
          obtain ⟨q1, q2⟩ := ((OwnSub.wipe σ δ vs).trans os) j es q
          obtain ⟨l, xs, e1, _, _, e4, _⟩ := R1.own j es q1
          rw [q2, e1] at z
          cases z
          rw [nc] at e4; cases e4
        have hc9 : Hj c ≠ none := by obtain ⟨v, e, _⟩ := a9.ob; rw [e]; simp
        have R9 : ER K r (fun b => A b ∨ b = c) σ2 Hj δ2 := R8.extD (p := c) (.inr rfl) noc k9 hc9 a9.rnd
        obtain ⟨ys1, yg1⟩ := y1 j Hj _ ea1 R9.wd (fun b o hb _ => hb)
        by_cases hlt1 : j < es.length
        · obtain ⟨go1, yl1⟩ := yg1 es[j] (List.getElem?_eq_getElem hlt1)
          refine .inr ⟨go1, fun H' => ∃ k', k' < es.length - j ∧ k' = es.length - (j + 1) ∧ j + 1 ≤ es.length ∧ ∃ acc, inD2 g1 tt1 te (wipeE δ2 vs1) (es.drop (j + 1)) acc (fun acc' => lc2D g tt fi1 g1 tt1 te vs1 (wipeE δ vs) (ds.drop (i + 1)) acc' (fun out => P (.lst out))) ∧ Acc K r A c H1 H' acc ∧
            (∀ b o, b ≠ r → b ≠ c → H4 b = some o → H' b = some o), fun H' h => h, fun x H' hy1 => ?_⟩
          obtain ⟨x10, n10, d10⟩ := yl1 x H' hy1
          rw [List.drop_eq_getElem_cons hlt1] at h9
          refine hg1 r _ x es[j] _ H' _ _ _ ((R9.ext x10 n10).wipe vs1) d10 h9 fun δ3 σ3 h11 hw1 _ R11 => ⟨by rw [hw1, wipe_wipe], r, _, δ3, _, XF, R11, h11, fun b H5 h12 x12 n12 => ?_, fun x c dd H' z => z.elim⟩
          have a12 := (a9.ext R1.ar ncr x10 n10).ext R1.ar ncr x12 n12
          have k12 : ∀ b o, b ≠ r → b ≠ c → H4 b = some o → H5 b = some o := fun b o hr hb q => x12 b o hr (x10 b o hr (k9 b o hr hb q))
          cases b with
          | false => exact ⟨es.length - (j + 1), by omega, rfl, by omega, acc1, h12, a12, k12⟩
          | true =>
            refine ⟨r, _, δ3, _, XF, R11.ext x12 n12, h12, fun z v H6 h13 x13 n13 d13 => ?_, fun x c dd H' z => z.elim⟩
            obtain ⟨accV, e1, e2, e3⟩ := (a12.ext R1.ar ncr x13 n13).more ncr d13 h13.1
            exact ⟨accV, e1, e2, es.length - (j + 1), by omega, rfl, by omega, acc1 ++ [z], h13.2, e3, fun b o hr hb q => by rw [upd_ne hb]; exact x13 b o hr (k12 b o hr hb q)⟩
        · have ej : j = es.length := by omega
          rw [List.drop_eq_nil_of_le (by omega)] at h9
          exact .inl ⟨ys1 (by omega), ds.length - (i + 1), by omega, rfl, by omega, acc1, h9, a9⟩
    · have ei : i = ds.length := by omega
      refine .inl ⟨ys (by omega), ?_⟩
      rw [List.drop_eq_nil_of_le (by omega)] at h4
      obtain ⟨accV, e1, e2, e3⟩ := a.ob
      refine hq (.lst acc) _ Hc h4 (fun b o hr q => ?_) a.rnd (.lst nA e1 e2 (e3.bar fun b o hb _ => .inl hb))
      have q1 := x1 b o hr q
      exact a.keep b o hr (ne_of_none q1 nc) q1, hz⟩
section
variable {X : Cx} {E : XK} {elt tg iter tg1 iter1 : Expr} {ifs ifs1 : List Expr} {scope : Scope} {own : List (Str × Nat)} {vs1 : List Nat} {pos spos : Pos} {fi fi1 : DI} {g g1 : DG} {gt gt1 : TG} {tt tt1 : DT} {te : DE} {i : Nat} {y : Str} {py : Pos}
theorem e_lc2 (hc : X.calm = true) (hN : X.N.Nodup) (hi : PI X tg iter (tI X.K E fi)) (ok : BlkOk X.N X.env.scope scope own) (hv : ∀ i ∈ vs1, i ∈ own.map (·.2)) (hG : tGc X.K (own.map (·.2)) g gt) (hG1 : tGc X.K vs1 g1 gt1)
    (hg : ∀ (s : Shared) (H : Hp) (C : Addr) (cl : List (Str × Addr)) (fp : List Addr), PG (X.blk s H scope (compEnvC scope cl C X.env) fp) tg gt) (ht : ∀ (s : Shared) (H : Hp) (C : Addr) (cl : List (Str × Addr)) (fp : List Addr), PTs (X.blk s H scope (compEnvC scope cl C X.env) fp) ifs (tT X.K E0 tt))
    (hi1 : ∀ (s : Shared) (H : Hp) (C : Addr) (cl : List (Str × Addr)) (fp : List Addr), PI (X.blk s H scope (compEnvC scope cl C X.env) fp) tg1 iter1 (tI X.K E0 fi1))
    (hg1 : ∀ (s : Shared) (H : Hp) (C : Addr) (cl : List (Str × Addr)) (fp : List Addr), PG (X.blk s H scope (compEnvC scope cl C X.env) fp) tg1 gt1) (ht1 : ∀ (s : Shared) (H : Hp) (C : Addr) (cl : List (Str × Addr)) (fp : List Addr), PTs (X.blk s H scope (compEnvC scope cl C X.env) fp) ifs1 (tT X.K E0 tt1))
    (he : ∀ (s : Shared) (H : Hp) (C : Addr) (cl : List (Str × Addr)) (fp : List Addr), PE (X.blk s H scope (compEnvC scope cl C X.env) fp) elt (tE X.K E0 te)) (hs : ∀ x, foldedSetIterable iter X.env x = pure x := by intro _; rfl) (hs1 : ∀ env x, foldedSetIterable iter1 env x = pure x := by intro _ _; rfl) :
    PE X (.ListComp elt [⟨tg, iter, ifs, 0⟩, ⟨tg1, iter1, ifs1, 0⟩] scope pos) (tE X.K E (fun δ P Z => fi δ (fun ds => lc2D g tt fi1 g1 tt1 te vs1 (wipeE δ (own.map (·.2))) ds [] (fun out => P (.lst out))) Z)) :=
  PE.imp (pe_lc2 hc hN hi ok hv hg ht hi1 hg1 ht1 he hs hs1) (lc2_of hG hG1)
theorem s_setLc2 (hc : X.calm = true) (hN : X.N.Nodup) (hy : X.N[i]? = some y) (hyl : X.env.scope.names.lookup y = some .local)
    (hsw : swapsWith (.ListComp elt [⟨tg, iter, ifs, 0⟩, ⟨tg1, iter1, ifs1, 0⟩] scope pos) (some (.Name y py)) spos.line X.env = pure true) (hi : PI X tg iter (tI X.K E fi)) (ok : BlkOk X.N X.env.scope scope own) (hv : ∀ i ∈ vs1, i ∈ own.map (·.2)) (hG : tGc X.K (own.map (·.2)) g gt) (hG1 : tGc X.K vs1 g1 gt1)
    (hg : ∀ (s : Shared) (H : Hp) (C : Addr) (cl : List (Str × Addr)) (fp : List Addr), PG (X.blk s H scope (compEnvC scope cl C X.env) fp) tg gt) (ht : ∀ (s : Shared) (H : Hp) (C : Addr) (cl : List (Str × Addr)) (fp : List Addr), PTs (X.blk s H scope (compEnvC scope cl C X.env) fp) ifs (tT X.K E0 tt))
    (hi1 : ∀ (s : Shared) (H : Hp) (C : Addr) (cl : List (Str × Addr)) (fp : List Addr), PI (X.blk s H scope (compEnvC scope cl C X.env) fp) tg1 iter1 (tI X.K E0 fi1))
    (hg1 : ∀ (s : Shared) (H : Hp) (C : Addr) (cl : List (Str × Addr)) (fp : List Addr), PG (X.blk s H scope (compEnvC scope cl C X.env) fp) tg1 gt1) (ht1 : ∀ (s : Shared) (H : Hp) (C : Addr) (cl : List (Str × Addr)) (fp : List Addr), PTs (X.blk s H scope (compEnvC scope cl C X.env) fp) ifs1 (tT X.K E0 tt1))
    (he : ∀ (s : Shared) (H : Hp) (C : Addr) (cl : List (Str × Addr)) (fp : List Addr), PE (X.blk s H scope (compEnvC scope cl C X.env) fp) elt (tE X.K E0 te)) (hs : ∀ x, foldedSetIterable iter X.env x = pure x := by intro _; rfl) (hs1 : ∀ env x, foldedSetIterable iter1 env x = pure x := by intro _ _; rfl) :
    PS X (.Assign [.Name y py] (.ListComp elt [⟨tg, iter, ifs, 0⟩, ⟨tg1, iter1, ifs1, 0⟩] scope pos) spos) (tS X.K E (fun P δ => fi δ (fun ds => lc2D g tt fi1 g1 tt1 te vs1 (wipeE δ (own.map (·.2))) ds [] (fun out => P.nx (δ.set i (.val (.lst out))))) P.ex)) :=
  PS.imp (ps_setLc2 hc hN hy hyl hsw hi ok hv hg ht hi1 hg1 ht1 he hs hs1) fun Dd σ H ⟨r, A0, H0, δ, P, R, h, L⟩ => lc2_of hG hG1 σ H _ (use_of (f := fun δ (Pd : DP) Z => fi δ (fun ds => lc2D g tt fi1 g1 tt1 te vs1 (wipeE δ (own.map (·.2))) ds [] (fun out => Pd (.lst out))) Z) R L (Pd := fun d => P.nx (δ.set i (.val d))) h
    fun d v H' h2 x2 n2 r2 => L.nx _ _ _ h2 ((R.move x2 n2).set r2))
end
end L3

namespace L3
open PySem PySem.Spec PyProof.Rows L2
section
variable {X : Cx} {E : XK} {e : Expr} {fe : DE} {fs : DA} {p p2 pos q : Pos}
def lrD : List D → DP → Prop
  | [.int n], P => 0 ≤ n ∧ n ≤ 1000000 ∧ P (.lst (rngD 0 n.toNat))
  | _, _ => False
theorem rgV_rng {K : PySem.W.Frag} {r : Addr} {A : Addr → Prop} {H : Hp} (n : Int) : DRs K r A H (rgV 0 n) (rngD 0 n.toNat) := by
  unfold rgV rngD
  have e : (n - 0).toNat = n.toNat := by rw [Int.sub_zero]
  rw [e]
  generalize List.range n.toNat = l
  induction l with
  | nil => exact .nil
  | cons a l ih => exact .cons (.int _) ih
theorem e_listRange (hc : X.calm = true) (hg : Gl X "list") (hm : X.mg "list" = none) (hg2 : Gl X "range") (hm2 : X.mg "range" = none)
    (he : PE X e (tE X.K E fe)) (na : starEach [e] X.env = (false, eval e X.env) :: starEach [] X.env := by rfl)
    (nb : starEach [.Call (.Name "range" p2) [e] [] q] X.env = (false, eval (.Call (.Name "range" p2) [e] [] q) X.env) :: starEach [] X.env := by rfl) :
    PE X (.Call (.Name "list" p) [.Call (.Name "range" p2) [e] [] q] [] pos) (tE X.K E (fun δ P Z => fe δ (fun d => lrD [d] P) Z)) := by
  refine PE.imp (pe_listRg hc hg hm (prg_1 hg2 hm2 he na) nb) fun σ H Q ⟨r, A, δ, P, Z, R, h, hq, hz⟩ => ?_
  refine ⟨r, A, δ, fun d => lrD [d] P, Z, R, h, fun d v H1 h3 x1 n1 r1 => ?_, hz⟩
  match d, h3 with
  | .int n, h3 =>
    obtain ⟨b1, b2, h3⟩ : 0 ≤ n ∧ n ≤ 1000000 ∧ P (.lst (rngD 0 n.toNat)) := h3
    cases r1
    have hz : (rgV 0 n).length ≤ sizeLine := by rw [rgV_length, sizeLine_eq]; omega
    exact ⟨n, rfl, RgOk.of_le (by omega) (by omega) (by omega) (by omega), fun q nq => hq _ _ _ h3 (x1.trans (Ext.upd nq)) (n1.upd nq) (((R.ext x1 n1).wd).lst nq hz (rgV_rng n))⟩
end
theorem if_so {c : Bool} {A B : Prop} (hc : c = true) (h : A) : if c = true then A else B := by rw [if_pos hc]; exact h
theorem if_no {c : Bool} {A B : Prop} (hc : c = false) (h : B) : if c = true then A else B := by rw [hc, if_neg Bool.false_ne_true]; exact h
/-! ### the law's own source of draws -/
/-- _law_below(d, n): some k below n -/
def gBelow : DF := fun ds P _ => ∃ n : Int, ds = [.rnd, .int n] ∧ 0 < n ∧ n ≤ 1000000 ∧ ∀ k : Int, 0 ≤ k → k < n → P (.int k)
/-- _law_pick(d, xs): some item -/
def gPick : DF := fun ds P _ => ∃ xs : List D, ds = [.rnd, .lst xs] ∧ xs ≠ [] ∧ xs.length ≤ 1000000 ∧ ∀ x ∈ xs, P x
section
variable {X : Cx} {E : XK} {x : Str} {pos : Pos}
theorem e_gi {n : Int} (h : ∃ t, X.mg x = some (.int n t)) (hg : Gl X x := by rfl) (hd : (x == ("__debug__" : Str)) = false := by decide) : PE X (.Name x pos) (tE X.K E (fun _ P _ => P (.int n))) := by
  obtain ⟨t, h⟩ := h
  exact e_glob (v := .int n) hg h ⟨_, rfl⟩ (fun _ _ _ => .int n) hd
theorem e_gs {z : Str} (h : ∃ t, X.mg x = some (.str z t)) (hg : Gl X x := by rfl) (hd : (x == ("__debug__" : Str)) = false := by decide) : PE X (.Name x pos) (tE X.K E (fun _ P _ => P (.str z))) := by
  obtain ⟨t, h⟩ := h
  exact e_glob (v := .str z) hg h ⟨_, rfl⟩ (fun _ _ _ => .str z) hd
end
end L3

namespace L3
open PySem PySem.Spec PyProof.Rows L2
/-! ### == of data, by data -/
mutual
/-- no source, no instance, no dict; texts that stand -/
def D.lays : D → Bool
  | .lst ds => D.laysAll ds
  | .tup ds => D.laysAll ds
  | .str x => PyData.strOk x
  | .dic => false
  | .rnd => false
  | .adr _ => false
  | .exc _ _ _ => false
  | .obj _ _ _ => false
  | _ => true
def D.laysAll : List D → Bool
  | [] => true
  | d :: ds => D.lays d && D.laysAll ds
end
mutual
def D.dep : D → Nat
  | .lst ds => D.depAll ds + 1
  | .tup ds => D.depAll ds + 1
  | _ => 0
def D.depAll : List D → Nat
  | [] => 0
  | d :: ds => max (D.dep d) (D.depAll ds)
end
mutual
theorem D.py_of : ∀ d : D, d.lays = true → ∃ y, d.py = some y ∧ y.canLay0 = true ∧ y.depth = d.dep
  | .non, _ => ⟨_, rfl, rfl, rfl⟩
  | .bl _, _ => ⟨_, rfl, rfl, rfl⟩
  | .int _, _ => ⟨_, rfl, rfl, rfl⟩
  | .str x, h => ⟨_, rfl, by simpa [PyData.canLay0, D.lays] using h, rfl⟩
  | .lst ds, h => by
    obtain ⟨ys, h1, h2, h3⟩ := D.pys_of ds h
    exact ⟨.list ys, by unfold D.py; rw [h1]; rfl, by simpa [PyData.canLay0] using h2, by simp [PyData.depth, D.dep, h3]⟩
  | .tup ds, h => by
    obtain ⟨ys, h1, h2, h3⟩ := D.pys_of ds h
    exact ⟨.tuple ys, by unfold D.py; rw [h1]; rfl, by simpa [PyData.canLay0] using h2, by simp [PyData.depth, D.dep, h3]⟩
  | .dic, h => by cases h
  | .rnd, h => by cases h
  | .adr _, h => by cases h
  | .exc _ _ _, h => by cases h
  | .obj _ _ _, h => by cases h
theorem D.pys_of : ∀ ds : List D, D.laysAll ds = true → ∃ ys, D.pys ds = some ys ∧ PyData.canLayAll0 ys = true ∧ PyData.depthAll ys = D.depAll ds
  | [], _ => ⟨[], rfl, rfl, rfl⟩
  | d :: ds, h => by
    unfold D.laysAll at h
    rw [Bool.and_eq_true] at h
    obtain ⟨y, h1, h2, h3⟩ := D.py_of d h.1
    obtain ⟨ys, h4, h5, h6⟩ := D.pys_of ds h.2
    exact ⟨y :: ys, by unfold D.pys; rw [h1, h4]; rfl, by simp [PyData.canLayAll0, h2, h5], by simp [PyData.depthAll, D.depAll, h3, h6]⟩
end
theorem D.eqOk_of {d : D} (h : d.lays = true) (k : d.dep ≤ 64) : d.eqOk = true := by
  obtain ⟨y, h1, h2, h3⟩ := D.py_of d h
  unfold D.eqOk
  rw [h1]
  show SeqAt.shaped y = true
  unfold SeqAt.shaped
  rw [h2, h3, decide_eq_true k]
  rfl
mutual
/-- no bool in it -/
def D.nb : D → Bool
  | .lst ds => D.nbAll ds
  | .tup ds => D.nbAll ds
  | .bl _ => false
  | _ => true
def D.nbAll : List D → Bool
  | [] => true
  | d :: ds => D.nb d && D.nbAll ds
end
theorem eqD_py {d e : D} {x y : PyData} (h1 : d.py = some x) (h2 : e.py = some y) : eqD d e = PyData.eqv x y := by unfold eqD; rw [h1, h2]
mutual
theorem eqD_iff : ∀ d e : D, d.lays = true → e.lays = true → d.nb = true → e.nb = true → (eqD d e = true ↔ d = e)
  | .lst ds, e, h1, h2, h3, h4 => by
    obtain ⟨xs, a1, _, _⟩ := D.pys_of ds h1
    cases e with
    | lst es =>
      obtain ⟨ys, b1, _, _⟩ := D.pys_of es h2
      rw [eqD_py (x := .list xs) (y := .list ys) (by unfold D.py; rw [a1]; rfl) (by unfold D.py; rw [b1]; rfl)]
      rw [show PyData.eqv (.list xs) (.list ys) = PyData.eqvAll xs ys from by simp [PyData.eqv]]
      rw [eqDs_iff ds es xs ys h1 h2 h3 h4 a1 b1]
      simp
    | tup es =>
      obtain ⟨ys, b1, _, _⟩ := D.pys_of es h2
      rw [eqD_py (x := .list xs) (y := .tuple ys) (by unfold D.py; rw [a1]; rfl) (by unfold D.py; rw [b1]; rfl)]
      simp [PyData.eqv]
    | non => rw [eqD_py (x := .list xs) (y := .none) (by unfold D.py; rw [a1]; rfl) rfl]; simp [PyData.eqv]
    | int i => rw [eqD_py (x := .list xs) (y := .int i) (by unfold D.py; rw [a1]; rfl) rfl]; simp [PyData.eqv]
    | str i => rw [eqD_py (x := .list xs) (y := .str i) (by unfold D.py; rw [a1]; rfl) rfl]; simp [PyData.eqv]
    | bl b => cases h4
    | _ => cases h2
  | .tup ds, e, h1, h2, h3, h4 => by
    obtain ⟨xs, a1, _, _⟩ := D.pys_of ds h1
    cases e with
    | tup es =>
      obtain ⟨ys, b1, _, _⟩ := D.pys_of es h2
      rw [eqD_py (x := .tuple xs) (y := .tuple ys) (by unfold D.py; rw [a1]; rfl) (by unfold D.py; rw [b1]; rfl)]
      rw [show PyData.eqv (.tuple xs) (.tuple ys) = PyData.eqvAll xs ys from by simp [PyData.eqv]]
      rw [eqDs_iff ds es xs ys h1 h2 h3 h4 a1 b1]
      simp
    | lst es =>
      obtain ⟨ys, b1, _, _⟩ := D.pys_of es h2
      rw [eqD_py (x := .tuple xs) (y := .list ys) (by unfold D.py; rw [a1]; rfl) (by unfold D.py; rw [b1]; rfl)]
      simp [PyData.eqv]
    | non => rw [eqD_py (x := .tuple xs) (y := .none) (by unfold D.py; rw [a1]; rfl) rfl]; simp [PyData.eqv]
    | int i => rw [eqD_py (x := .tuple xs) (y := .int i) (by unfold D.py; rw [a1]; rfl) rfl]; simp [PyData.eqv]
    | str i => rw [eqD_py (x := .tuple xs) (y := .str i) (by unfold D.py; rw [a1]; rfl) rfl]; simp [PyData.eqv]
    | bl b => cases h4
    | _ => cases h2
  | .non, e, h1, h2, h3, h4 => by
    obtain ⟨y, b1, _, _⟩ := D.py_of e h2
    rw [eqD_py (x := .none) rfl b1]
    cases e <;> first
      | (exfalso; simp [D.lays] at h2; done)
      | (exfalso; simp [D.nb] at h4; done)
      | (unfold D.py at b1; cases b1; simp [PyData.eqv]; done)
      | (unfold D.py at b1; obtain ⟨ys, _, rfl⟩ := Option.map_eq_some_iff.mp b1; simp [PyData.eqv])
  | .int i, e, h1, h2, h3, h4 => by
    obtain ⟨y, b1, _, _⟩ := D.py_of e h2
    rw [eqD_py (x := .int i) rfl b1]
    cases e <;> first
      | (exfalso; simp [D.lays] at h2; done)
      | (exfalso; simp [D.nb] at h4; done)
      | (unfold D.py at b1; cases b1; simp [PyData.eqv]; done)
      | (unfold D.py at b1; obtain ⟨ys, _, rfl⟩ := Option.map_eq_some_iff.mp b1; simp [PyData.eqv])
  | .str i, e, h1, h2, h3, h4 => by
    obtain ⟨y, b1, _, _⟩ := D.py_of e h2
    rw [eqD_py (x := .str i) rfl b1]
    cases e <;> first
      | (exfalso; simp [D.lays] at h2; done)
      | (exfalso; simp [D.nb] at h4; done)
      | (unfold D.py at b1; cases b1; simp [PyData.eqv]; done)
      | (unfold D.py at b1; obtain ⟨ys, _, rfl⟩ := Option.map_eq_some_iff.mp b1; simp [PyData.eqv])
  | .bl _, _, _, _, h, _ => by cases h
  | .dic, _, h, _, _, _ => by cases h
  | .rnd, _, h, _, _, _ => by cases h
  | .adr _, _, h, _, _, _ => by cases h
  | .exc _ _ _, _, h, _, _, _ => by cases h
  | .obj _ _ _, _, h, _, _, _ => by cases h
theorem eqDs_iff : ∀ (ds es : List D) (xs ys : List PyData), D.laysAll ds = true → D.laysAll es = true → D.nbAll ds = true → D.nbAll es = true → D.pys ds = some xs → D.pys es = some ys → (PyData.eqvAll xs ys = true ↔ ds = es)
  | [], [], _, _, _, _, _, _, a, b => by cases a; cases b; simp [PyData.eqvAll]
  | [], e :: es, xs, ys, _, h2, _, _, a, b => by
    cases a
    unfold D.laysAll at h2
    rw [Bool.and_eq_true] at h2
    obtain ⟨y, b1, _, _⟩ := D.py_of e h2.1
    obtain ⟨yr, b2, _, _⟩ := D.pys_of es h2.2
    unfold D.pys at b
    rw [b1, b2] at b
    cases b
    simp [PyData.eqvAll]
  | d :: ds, [], xs, ys, h1, _, _, _, a, b => by
    cases b
    unfold D.laysAll at h1
    rw [Bool.and_eq_true] at h1
    obtain ⟨y, b1, _, _⟩ := D.py_of d h1.1
    obtain ⟨yr, b2, _, _⟩ := D.pys_of ds h1.2
    unfold D.pys at a
    rw [b1, b2] at a
    cases a
    simp [PyData.eqvAll]
  | d :: ds, e :: es, xs, ys, h1, h2, h3, h4, a, b => by
    unfold D.laysAll at h1 h2
    unfold D.nbAll at h3 h4
    rw [Bool.and_eq_true] at h1 h2 h3 h4
    obtain ⟨x, a1, _, _⟩ := D.py_of d h1.1
    obtain ⟨xr, a2, _, _⟩ := D.pys_of ds h1.2
    obtain ⟨y, b1, _, _⟩ := D.py_of e h2.1
    obtain ⟨yr, b2, _, _⟩ := D.pys_of es h2.2
    unfold D.pys at a b
    rw [a1, a2] at a
    rw [b1, b2] at b
    cases a; cases b
    have e1 := eqD_iff d e h1.1 h2.1 h3.1 h4.1
    rw [eqD_py a1 b1] at e1
    have e2 := eqDs_iff ds es xr yr h1.2 h2.2 h3.2 h4.2 a2 b2
    simp [PyData.eqvAll, e1, e2]
end
/-- == of data that say no bool: for a goal «eqOk, eqOk, P of the answer» -/
theorem eq_D {d e : D} {P : DP} (h1 : d.lays = true) (h2 : e.lays = true) (k1 : d.dep ≤ 64) (k2 : e.dep ≤ 64) (n1 : d.nb = true) (n2 : e.nb = true) {b : Bool} (hb : b = true ↔ d = e) (h : P (.bl b)) : d.eqOk = true ∧ e.eqOk = true ∧ P (.bl (eqD d e)) := by
  refine ⟨D.eqOk_of h1 k1, D.eqOk_of h2 k2, ?_⟩
  have : eqD d e = b := by
    rw [Bool.eq_iff_iff, eqD_iff d e h1 h2 n1 n2, hb]
  rw [this]; exact h
theorem ne_D {d e : D} {P : DP} (h1 : d.lays = true) (h2 : e.lays = true) (k1 : d.dep ≤ 64) (k2 : e.dep ≤ 64) (n1 : d.nb = true) (n2 : e.nb = true) {b : Bool} (hb : b = true ↔ d ≠ e) (h : P (.bl b)) : d.eqOk = true ∧ e.eqOk = true ∧ P (.bl (!eqD d e)) := by
  refine ⟨D.eqOk_of h1 k1, D.eqOk_of h2 k2, ?_⟩
  have : (!eqD d e) = b := by
    rw [Bool.eq_iff_iff, hb, Bool.not_eq_true', ← Bool.not_eq_true, eqD_iff d e h1 h2 n1 n2]
  rw [this]; exact h
/-! lists of one kind -/
theorem lays_all {α : Type} {f : α → D} : ∀ {xs : List α}, (∀ x ∈ xs, (f x).lays = true) → D.laysAll (xs.map f) = true
  | [], _ => rfl
  | x :: xs, h => by
    rw [List.map_cons]
    unfold D.laysAll
    rw [h x List.mem_cons_self, lays_all fun y hy => h y (List.mem_cons_of_mem _ hy)]
    rfl
theorem nb_all {α : Type} {f : α → D} : ∀ {xs : List α}, (∀ x ∈ xs, (f x).nb = true) → D.nbAll (xs.map f) = true
  | [], _ => rfl
  | x :: xs, h => by
    rw [List.map_cons]
    unfold D.nbAll
    rw [h x List.mem_cons_self, nb_all fun y hy => h y (List.mem_cons_of_mem _ hy)]
    rfl
theorem dep_all {α : Type} {f : α → D} {k : Nat} : ∀ {xs : List α}, (∀ x ∈ xs, (f x).dep ≤ k) → D.depAll (xs.map f) ≤ k
  | [], _ => Nat.zero_le _
  | x :: xs, h => by
    rw [List.map_cons]
    unfold D.depAll
    exact Nat.max_le.mpr ⟨h x List.mem_cons_self, dep_all fun y hy => h y (List.mem_cons_of_mem _ hy)⟩
/-- data that == is asked of freely: k deep at most -/
structure D.Eqs (k : Nat) (d : D) : Prop where
  lays : d.lays = true
  dep : d.dep ≤ k
  nb : d.nb = true
theorem Eqs.int {k : Nat} {i : Int} : D.Eqs k (.int i) := ⟨rfl, Nat.zero_le _, rfl⟩
theorem Eqs.non {k : Nat} : D.Eqs k .non := ⟨rfl, Nat.zero_le _, rfl⟩
theorem Eqs.tup {α : Type} {f : α → D} {k : Nat} {xs : List α} (h : ∀ x ∈ xs, D.Eqs k (f x)) : D.Eqs (k + 1) (.tup (xs.map f)) :=
  ⟨lays_all fun x hx => (h x hx).lays, Nat.succ_le_succ (dep_all fun x hx => (h x hx).dep), nb_all fun x hx => (h x hx).nb⟩
theorem Eqs.lst {α : Type} {f : α → D} {k : Nat} {xs : List α} (h : ∀ x ∈ xs, D.Eqs k (f x)) : D.Eqs (k + 1) (.lst (xs.map f)) :=
  ⟨lays_all fun x hx => (h x hx).lays, Nat.succ_le_succ (dep_all fun x hx => (h x hx).dep), nb_all fun x hx => (h x hx).nb⟩
theorem Eqs.mono {k j : Nat} {d : D} (h : D.Eqs k d) (hk : k ≤ j) : D.Eqs j d := ⟨h.lays, Nat.le_trans h.dep hk, h.nb⟩
theorem eq_E {d e : D} {P : DP} {k j : Nat} (h1 : D.Eqs k d) (h2 : D.Eqs j e) {b : Bool} (hb : b = true ↔ d = e) (h : P (.bl b)) (hk : k ≤ 64 := by decide) (hj : j ≤ 64 := by decide) : d.eqOk = true ∧ e.eqOk = true ∧ P (.bl (eqD d e)) :=
  eq_D h1.lays h2.lays (Nat.le_trans h1.dep hk) (Nat.le_trans h2.dep hj) h1.nb h2.nb hb h
theorem ne_E {d e : D} {P : DP} {k j : Nat} (h1 : D.Eqs k d) (h2 : D.Eqs j e) {b : Bool} (hb : b = true ↔ d ≠ e) (h : P (.bl b)) (hk : k ≤ 64 := by decide) (hj : j ≤ 64 := by decide) : d.eqOk = true ∧ e.eqOk = true ∧ P (.bl (!eqD d e)) :=
  ne_D h1.lays h2.lays (Nat.le_trans h1.dep hk) (Nat.le_trans h2.dep hj) h1.nb h2.nb hb h
/-- ints -/
abbrev intsT (ns : List Int) : D := .tup (ns.map D.int)
abbrev intsL (ns : List Int) : D := .lst (ns.map D.int)
theorem Eqs.ints (ns : List Int) : D.Eqs 1 (intsT ns) := Eqs.tup fun _ _ => Eqs.int
theorem Eqs.intsL (ns : List Int) : D.Eqs 1 (intsL ns) := Eqs.lst fun _ _ => Eqs.int
theorem int_inj {α : Type} {f : α → D} (hf : ∀ a b, f a = f b → a = b) : ∀ {xs ys : List α}, xs.map f = ys.map f → xs = ys
  | [], [], _ => rfl
  | [], _ :: _, h => by cases h
  | _ :: _, [], h => by cases h
  | x :: xs, y :: ys, h => by
    rw [List.map_cons, List.map_cons] at h
    injection h with h1 h2
    rw [hf _ _ h1, int_inj hf h2]
theorem intsT_inj {a b : List Int} : intsT a = intsT b ↔ a = b := ⟨fun h => by
  injection h with h
  exact int_inj (fun a b e => by injection e) h, fun h => by rw [h]⟩
/-! comprehensions that only look: the list made is told at once -/
/-- every item kept or not by k, made into f -/
theorem lcD_of {g : DG} {tt : DT} {te : DE} {δw : Env} {k : D → Bool} {f : D → D} {Q : List D → Prop} : ∀ (ds acc : List D), (∀ d ∈ ds, ∀ (R : D → Prop) (S : Prop), (if k d = true then R (f d) else S) → g d δw fun δ2 => tt δ2 (fun b => if b = true then te δ2 R XF else S) XF) →
    Q (acc ++ (ds.filter k).map f) → lcD g tt te δw ds acc Q
  | [], acc, _, q => by
    rw [List.filter_nil, List.map_nil, List.append_nil] at q
    exact q
  | d :: ds, acc, h, q => by
    unfold lcD
    refine h d List.mem_cons_self (fun y => lcD g tt te δw ds (acc ++ [y]) Q) _ ?_
    cases hk : k d with
    | true =>
      rw [if_pos rfl]
      refine lcD_of ds (acc ++ [f d]) (fun x hx => h x (List.mem_cons_of_mem _ hx)) ?_
      rw [List.filter_cons, hk] at q
      rw [List.append_assoc]
      exact q
    | false =>
      rw [if_neg Bool.false_ne_true]
      refine lcD_of ds acc (fun x hx => h x (List.mem_cons_of_mem _ hx)) ?_
      rw [List.filter_cons, hk] at q
      exact q
/-- .. by a relation: draws and all -/
theorem lcD_rel {g : DG} {tt : DT} {te : DE} {δw : Env} {Q : List D → Prop} (I : List D → List D → Prop) : ∀ (ds acc : List D), I ds acc → (∀ d ds acc, I (d :: ds) acc → ∀ (R : D → Prop) (S : Prop), (∀ y, I ds (acc ++ [y]) → R y) → (I ds acc → S) → g d δw fun δ2 => tt δ2 (fun b => if b = true then te δ2 R XF else S) XF) →
    (∀ acc, I [] acc → Q acc) → lcD g tt te δw ds acc Q
  | [], acc, h0, _, hq => hq acc h0
  | d :: ds, acc, h0, hs, hq => by
    unfold lcD
    exact hs d ds acc h0 (fun y => lcD g tt te δw ds (acc ++ [y]) Q) _ (fun y hy => lcD_rel I ds (acc ++ [y]) hy hs hq) fun hy => lcD_rel I ds acc hy hs hq
/-- a for by an invariant -/
theorem forD_inv {g : DG} {body : DS} {P : DEnds} (I : List D → Env → Prop) : ∀ (ds : List D) (δ : Env), I ds δ → (∀ d ds δ, I (d :: ds) δ → ∀ N : Env → Prop, (∀ δ', I ds δ' → N δ') → g d δ fun δ1 => body { P with nx := N, ct := N, bk := P.nx } δ1) → (∀ δ, I [] δ → P.nx δ) → forD g body P ds δ
  | [], δ, h0, _, hq => hq δ h0
  | d :: ds, δ, h0, hs, hq => by
    unfold forD
    exact hs d ds δ h0 (fun δ2 => forD g body P ds δ2) fun δ' h => forD_inv I ds δ' h hs hq
end L3

namespace L3
open PySem PySem.Spec PyProof.Rows L2
/-! ### try: a body that is a call, or an if over calls; except clauses by classes -/
/-- an expression's reading, where what becomes of an exception hangs on the slots -/
abbrev tW (K : PySem.W.Frag) (W : WX) (f : DE) : TE := fun σ H Q => tE K (fun c d H' => W c d σ H') f σ H Q
section
variable {X : Cx} {W : WX} {e : Expr} {es : List Expr} {fe : DE} {fs : DA} {x : Str} {p pos : Pos}
theorem y_any (h : ∀ E, PE X e (tE X.K E fe)) : PE X e (tW X.K W fe) := ⟨fun pins s σ H Q I q => (h _).run pins s σ H Q I q⟩
theorem y_args (h : ∀ E, PA X es (tA X.K E fs)) : PA X es (fun σ H Q => tA X.K (fun c d H' => W c d σ H') fs σ H Q) := ⟨fun pos pins s σ H Q I q => (h _).run pos pins s σ H Q I q⟩
theorem y_call {k n : Nat} {g : DF} (c : Cal X.prog X.w X.K X.mg X.base x k n g) (hr : Room k X.A) (hg : Gl X x) (tk : Takes X W) (ha : ∀ E, PA X (e :: es) (tA X.K E fs)) (hdb : (x == ("__debug__" : Str)) = false := by decide)
    (he : starEach (e :: es) X.env = (false, eval e X.env) :: starEach es X.env := by rfl) (hpl : (backTo pos (starEach es X.env)).any (·.1) = false := by rfl) :
    PE X (.Call (.Name x p) (e :: es) [] pos) (tW X.K W (fun δ P Z => fs δ (fun ds => ds.length = n ∧ g ds P Z) Z)) := by
  obtain ⟨f, fd, ps, F, m, kp, b⟩ := c.ex
  refine PE.imp (pe_callS (E := WE W) F hr hg m kp b (fun σ => passAt tk σ) (y_args (W := W) ha) hdb he hpl) fun σ H Q ⟨r, A, δ, P, Z, R, h, hq, hz⟩ => ?_
  refine ⟨r, A, δ, _, Z, R, h, fun ds vs H1 h3 x1 n1 r1 => ?_, hz⟩
  exact ⟨r, A, ds, P, Z, (R.ext x1 n1).wd, r1, h3.1, h3.2, fun d v H2 h4 x2 n2 r2 => hq d v H2 h4 (x1.trans x2) n2 r2, fun y c dd H2 q x2 n2 xr => hz y c dd H2 q (x1.trans x2) n2 xr⟩
end
/-- a body of try: its reading is an expression's, then it goes on -/
def tB (K : PySem.W.Frag) (W : WX) (f : DE) : TS := fun D σ H => tW K W f σ H fun _ H1 => D.nx σ H1
section
variable {X : Cx} {W : WX} {e t : Expr} {st : Stmt} {b1 b2 : List Stmt} {fe f1 f2 : DE} {ft : DT} {pos : Pos}
theorem b_expr (he : PE X e (tW X.K W fe)) (hs : swapsWith e none pos.line X.env = pure false := by rfl) : PS X (.Expr e pos) (tB X.K W fe) := ps_expr he hs
theorem b_one (h : PS X st (tB X.K W fe)) : PSs X [st] (tB X.K W fe) := pss_one h
theorem b_nil : PSs X [] (tB X.K W (fun _ P _ => P .non)) := PSs.imp pss_nil fun D σ H ⟨r, A, δ, P, Z, R, h, hq, hz⟩ => hq .non .non H h .refl R.rnd .non
theorem b_pass : PS X (.Pass pos) (tB X.K W (fun _ P _ => P .non)) := PS.imp ps_pass fun D σ H ⟨r, A, δ, P, Z, R, h, hq, hz⟩ => hq .non .non H h .refl R.rnd .non
theorem b_if (ht : ∀ E, PT X t (tT X.K E ft)) (h1 : PSs X b1 (tB X.K W f1)) (h2 : PSs X b2 (tB X.K W f2)) :
    PS X (.If t b1 b2 pos) (tB X.K W (fun δ P Z => ft δ (fun b => if b = true then f1 δ P Z else f2 δ P Z) Z)) := by
  refine PS.imp (ps_if (tc := fun σ H Q => tT X.K (fun c d H' => W c d σ H') ft σ H Q) ⟨fun pins s σ H Q I q => (ht _).run pins s σ H Q I q⟩ h1 h2) fun D σ H ⟨r, A, δ, P, Z, R, h, hq, hz⟩ => ?_
  refine ⟨r, A, δ, _, Z, R, h, fun b H1 h3 x1 n1 => ?_, hz⟩
  have go : ∀ f : DE, f δ P Z → tB X.K W f D σ H1 := fun f h4 => ⟨r, A, δ, P, Z, R.ext x1 n1, h4, fun d v H2 h5 x2 n2 r2 => hq d v H2 h5 (x1.trans x2) n2 r2, fun y c dd H2 q x2 n2 xr => hz y c dd H2 q (x1.trans x2) n2 xr⟩
  cases b with
  | true => exact go f1 h3
  | false => exact go f2 h3
end
/-- what the clauses make of an exception x, one behind the other -/
def tryD (K : PySem.W.Frag) : List (Addr × DS) → DEnds → Env → Ex → Prop
  | [], P, _, x => P.ex x
  | (c, f) :: l, P, δ, x => ∃ b, PySem.W.exmOne K (.ref x.cls) (.ref c) = some b ∧ if b = true then f P δ else tryD K l P δ x
inductive HdD (X : Cx) (E : XK) : List ExceptHandler → List (Addr × DS) → Prop
  | nil : HdD X E [] []
  | cons {x : Str} {C : Addr} {f : DS} {b₀ : Stmt} {suite : List Stmt} {np pos' : Pos} {hds : List ExceptHandler} {l : List (Addr × DS)} (hc : Names X x (.ref C)) (hsu : ∀ (a : Addr) (pn : List (Addr × Obj)), PSs (X.suite a pn) (b₀ :: suite) (tS X.K E f)) (r : HdD X E hds l) :
      HdD X E (.ExceptHandler (some (.Name x np)) none (b₀ :: suite) pos' :: hds) ((C, f) :: l)
def hdT (K : PySem.W.Frag) (E : XK) (l : List (Addr × DS)) : List (Value × (Addr → Value → Option Addr → TS)) := l.map fun p => (.ref p.1, fun _ _ _ => tS K E p.2)
theorem HdD.ok {X : Cx} {E : XK} {hds : List ExceptHandler} {l : List (Addr × DS)} (h : HdD X E hds l) : HdsOk X hds (hdT X.K E l) := by
  induction h with
  | nil => exact .nil
  | cons hc hsu _ ih => exact .cons hc (fun a oe cls d pn _ _ => hsu a _) ih
theorem many_of {K : PySem.W.Frag} {E : XK} {r : Addr} {A0 : Addr → Prop} {H0 H H' : Hp} {σ : L2.St} {δ : Env} {P : DEnds} {Dd : Ends} {c : Value} {dd : Option Addr} {y : Ex} (R : SR K r A0 H0 σ H δ) (L : Lands K E r A0 H0 P Dd) (x1 : Ext r H H') (n1 : RndOk r H') (xr : XR K r (Av A0 r σ δ) H' c dd y) :
    ∀ l : List (Addr × DS), tryD K l P δ y → wMany K (fun cls d _ H => E cls d H) Dd (hdT K E l) c dd σ H'
  | [], z => L.ex y c dd H' z (R.ext.trans x1) n1 (xr.bar fun b o hb _ => .inl hb)
  | (C, f) :: l, ⟨b, e, z⟩ => ⟨b, by rw [xr.1]; exact e, fun h a _ => ⟨r, A0, H0, δ, P, R.move x1 n1, by rw [if_pos h] at z; exact z, L⟩, fun h => many_of R L x1 n1 xr l (by rw [h, if_neg Bool.false_ne_true] at z; exact z)⟩
theorem s_try {X : Cx} {E : XK} {body : List Stmt} {h₀ : ExceptHandler} {hds : List ExceptHandler} {l : List (Addr × DS)} {pos : Pos} {fb : DE} (hs : X.stack = X.env :: X.outer) (hf : X.env.frame = some X.env.locals) (tk : Takes X (fun cls d _ H => E cls d H))
    (hb : ∀ (W : WX) (pn : List (Addr × Obj)) (xe : Value → Shared → Prop), Takes (X.tr pn xe) W → PSs (X.tr pn xe) body (tB X.K W fb)) (hh : HdD X E (h₀ :: hds) l) :
    PS X (.Try body (h₀ :: hds) [] [] pos) (tS X.K E (fun P δ => fb δ (fun _ => P.nx δ) (fun y => tryD X.K l P δ y))) :=
  PS.imp (ps_try_many hs hf tk (fun W pn xe t _ => hb W pn xe t) hh.ok) fun D σ H ⟨r, A0, H0, δ, P, R, h, L⟩ =>
    ⟨r, _, δ, fun _ => P.nx δ, fun y => tryD X.K l P δ y, R.er, h, fun d v H' hn x1 n1 _ => L.nx δ σ H' hn (R.move x1 n1), fun y c dd H' z x1 n1 xr => many_of R L x1 n1 xr l z⟩
/-- a slot is let go -/
theorem SR.gone {K : PySem.W.Frag} {r : Addr} {A0 : Addr → Prop} {H0 H : Hp} {σ : L2.St} {δ : Env} (h : SR K r A0 H0 σ H δ) (i : Nat) (w : Option V) : SR K r A0 H0 (σ.set i w) H (δ.set i .emp) := by
  have look : ∀ (j : Nat) y, (δ.set i .emp)[j]? = some y → y = .emp ∨ (δ[j]? = some y ∧ (σ.set i w)[j]? = σ[j]?) := fun j y q => by
    by_cases e : i = j
    · subst e
      rw [List.getElem?_set_self'] at q
      cases hd : δ[i]? with
      | none => rw [hd] at q; cases q
      | some z => rw [hd] at q; cases q; exact .inl rfl
    · rw [List.getElem?_set_ne e] at q
      exact .inr ⟨q, List.getElem?_set_ne e⟩
  refine SR.of (h.er.weak (by rw [List.length_set, List.length_set]; exact h.er.len) look) (fun b hb => .inl hb) h.ext (fun j ds l q1 q2 => ?_) h.a0
  rcases look j _ q1 with q | ⟨q, e⟩
  · cases q
  · rw [e] at q2
    exact h.fresh j ds l q q2
/-- .. and set to anything -/
theorem av_set {A0 : Addr → Prop} {r : Addr} {σ : L2.St} {δ : Env} {i : Nat} {w : Option V} {b : Addr} (hb : Av A0 r (σ.set i w) (δ.set i .emp) b) : Av A0 r σ δ b := by
  rcases hb with hb | hb | ⟨j, ds, q1, q2⟩
  · exact .inl hb
  · exact .inr (.inl hb)
  · by_cases e : i = j
    · subst e
      rw [List.getElem?_set_self'] at q1
      cases hd : δ[i]? with
      | none => rw [hd] at q1; cases q1
      | some z => rw [hd] at q1; cases q1
    · rw [List.getElem?_set_ne e] at q1 q2
      exact .inr (.inr ⟨j, ds, q1, q2⟩)
/-- except C as n: own.append(n.f) -/
def tryA (K : PySem.W.Frag) (C : Addr) (f : Str) (i j : Nat) (P : DEnds) (δ : Env) (y : Ex) : Prop := ∃ b, PySem.W.exmOne K (.ref y.cls) (.ref C) = some b ∧
  if b = true then y.cls = C ∧ i < δ.length ∧ ∃ ds d, δ[j]? = some (.own ds) ∧ y.fs = some (f, d) ∧ ds.length + 1 ≤ sizeLine ∧ P.nx ((δ.set i .emp).set j (.own (ds ++ [d]))) else P.ex y
theorem s_try_app {X : Cx} {E : XK} {body : List Stmt} {pos pos' np lp np2 ap fp cp ep : Pos} {fb : DE} {x n l f : Str} {C : Addr} {i j : Nat} (hs : X.stack = X.env :: X.outer) (hf : X.env.frame = some X.env.locals) (tk : Takes X (fun cls d _ H => E cls d H)) (hN : X.N.Nodup)
    (hi : X.N[i]? = some n) (hln : X.env.kindOf n = some .local) (hvn : Vis X.env.scope n) (hj : X.N[j]? = some l) (hvl : Vis X.env.scope l) (hij : i ≠ j) (hc : Names X x (.ref C)) (T : XfC X.K C) (hno : PySem.W.findIn X.K (.ref C) f = some none)
    (hb : ∀ (W : WX) (pn : List (Addr × Obj)) (xe : Value → Shared → Prop), Takes (X.tr pn xe) W → PSs (X.tr pn xe) body (tB X.K W fb))
    (hd : (l == ("__debug__" : Str)) = false := by decide) (hcd : (l == ("__classdict__" : Str)) = false := by decide) (hd2 : (n == ("__debug__" : Str)) = false := by decide) (hcd2 : (n == ("__classdict__" : Str)) = false := by decide)
    (ha : attributeBase (.Name n np2) f X.env (eval (.Name n np2) X.env) = eval (.Name n np2) X.env := by rfl)
    (hs1 : starEach [.Attribute (.Name n np2) f fp] X.env = (false, eval (.Attribute (.Name n np2) f fp) X.env) :: starEach [] X.env := by rfl)
    (hbase : attributeBase (.Name l lp) "append" X.env (eval (.Name l lp) X.env) = eval (.Name l lp) X.env := by rfl)
    (hfew : ((backTo cp (starEach [.Attribute (.Name n np2) f fp] X.env)).all (fun x => !x.1) && (backToKw cp (keywordEach [] X.env)).all (fun x => x.1.isSome)
      && decide ([Expr.Attribute (.Name n np2) f fp].length + ([] : List Keyword).length + (if ([] : List Keyword).isEmpty then 0 else 1) < 30)) = true := by rfl)
    (hline : (ap.endLine == cp.line) = true := by rfl) (hplain : (backTo cp (starEach [] X.env)).any (·.1) = false := by rfl)
    (hsw : swapsWith (.Call (.Attribute (.Name l lp) "append" ap) [.Attribute (.Name n np2) f fp] [] cp) none ep.line X.env = pure false := by rfl) :
    PS X (.Try body [.ExceptHandler (some (.Name x np)) (some n) [.Expr (.Call (.Attribute (.Name l lp) "append" ap) [.Attribute (.Name n np2) f fp] [] cp) ep] pos'] [] [] pos)
      (tS X.K E (fun P δ => fb δ (fun _ => P.nx δ) (fun y => tryA X.K C f i j P δ y))) := by
  refine PS.imp (ps_try_as (i := i) (tb := fun W => tB X.K W fb) (Wout := fun cls d _ H => E cls d H) (ts := fun a cls d => tDrop (tBM X.K "list" rAppend (tVar j) (tCons (tXf a cls d C f (tVar i)) tNil))) hs hf hN hi hln hc tk (fun W pn xe t _ => hb W pn xe t) fun a oe cls d pn hz hfs =>
    pss_one (ps_expr (pe_bm PySem.F.plainAttrs_list PySem.F.slot_list_append PySem.F.type_list_append mt_append (pe_var (X := X.suite a ((a, oe) :: pn)) hj hvl hd hcd) (pa_cons (pe_xf T hno hz hfs (pe_var hi hvn hd2 hcd2) ha) pa_nil hs1) hbase hfew hline hs1 hplain) hsw)) fun Dd σ H ⟨r, A0, H0, δ, P, R, h, L⟩ => ?_
  refine ⟨r, _, δ, fun _ => P.nx δ, fun y => tryA X.K C f i j P δ y, R.er, h, fun d v H' hn x1 n1 _ => L.nx δ σ H' hn (R.move x1 n1), fun y c dd H' z x1 n1 xr => ?_⟩
  obtain ⟨b, e, z⟩ := z
  refine ⟨b, by rw [xr.1]; exact e, fun hb1 a na => ?_, fun hb2 => ?_⟩
  · rw [if_pos hb1] at z
    obtain ⟨hC, hil, ds, d, q1, q2, q3, q4⟩ := z
    have R1 := R.move x1 n1
    obtain ⟨l0, xs, e1, e2, e3, e4, e5, e6⟩ := R1.er.own j ds q1
    obtain ⟨ec, xf⟩ := xr
    rw [q2] at xf
    obtain ⟨ad, v, ed, ex, nAd, rv⟩ := xf
    have il : i < σ.length := by rw [← R.er.len]; exact hil
    have zl := e6.length
    have s1 : (σ.set i (some (.ref a)))[j]? = some (some (.ref l0)) := by rw [List.getElem?_set_ne hij]; exact e1
    have s2 : (σ.set i (some (.ref a)))[i]? = some (some (.ref a)) := by rw [List.getElem?_set_self il]
    refine ⟨.ref l0, s1, .inl ⟨rfl, xs, SqL.of e4⟩, .ref a, s2, rfl, by rw [ec, hC], ad, _, v, ed, ex, by simp, l0, xs, v, rfl, rfl, e4, by omega, ?_⟩
    show Dd.nx ((σ.set i (some (.ref a))).set i none) _
    rw [List.set_set]
    refine L.nx _ _ _ q4 ((R1.gone i none).grow (by rw [List.getElem?_set_ne hij]; exact q1) (by rw [List.getElem?_set_ne hij]; exact e1) e4 (e6.bar fun b o hb _ => av_set hb) (rv.bar fun b o hb _ => av_set hb) (by omega) e3)
  · rw [if_neg (by rw [hb2]; exact Bool.false_ne_true)] at z
    exact L.ex y c dd H' z (R.ext.trans x1) n1 (xr.bar fun b o hb _ => .inl hb)
end L3

namespace L3
open PySem PySem.Spec PyProof.Rows L2
/-! ### an own ==, an own len -/
section
variable {X : Cx} {CX : CXT} {C f : Addr} {fd : FuncData} {ps : List Str} {sp : Sp} {k : Nat} {E : XK}
/-- what x == y asks of an own __eq__ that answers a bool -/
def rOwnEq (K : PySem.W.Frag) (C : Addr) (sp : Sp) (E : XK) : R2 := fun x y H Q => ∃ a dx fs t, x = .ref a ∧ H a = some (.ins C dx fs) ∧ TyX K H y t ∧ PySem.W.notFirst K C t = true ∧ sp [x, y] H (fun v H' => (∃ b, v = .bl b) ∧ Q v H') E
theorem op_ownEq (F : FnOk X.prog X.w X.K X.mg X.base CX k f fd ps sp) (hr : Room k X.A) (hs : PySem.W.findIn X.K (.ref C) "__eq__" = some (some (.ref f))) (hf : PySem.W.isFn X.K (.ref f) = true) (hb : Binds X.K fd ps []) (hx : Passes CX X E) :
    OpR X (compareOp .Eq) (rOwnEq X.K C sp E) := by
  rintro pins s σ H x y v u Q I rx ry ⟨a, dx, fs, t, rfl, ha, ty, nf, h⟩
  cases rx
  obtain ⟨mA, J, _⟩ := ins_get I.hok ha
  obtain ⟨od, J, _⟩ := J.look
  obtain ⟨m, fr⟩ := I.fr
  obtain ⟨P, kx, pp, _⟩ := kit_of I ry ty
  show wpAny (model X.prog X.w) X.A (richCompare .Eq (.ref a) u) _ _ _
  refine PySem.W.cmp_K (op := .Eq) (tb := t) hr.units0 fr I.ok.mod.kin J (kx.ty _ _ I.kIn pp) nf hs hf ?_
  refine wpAny_mono (run_fn (vs := [.ref a, y]) F hr hb .nil hx I (.cons rfl (.cons ry .nil)) h) (fun r s' z => ?_) fun _ _ z => z
  obtain ⟨w, H', I', rw', ⟨b, rfl⟩, q⟩ := z
  cases rw'
  exact ⟨.bl b, H', I', rfl, q⟩
/-- len(x) of an own __len__ -/
def rOwnLen (C : Addr) (sp : Sp) (E : XK) : List V → Hp → VK → Prop := fun xs H Q => ∃ a dx fs, xs = [.ref a] ∧ H a = some (.ins C dx fs) ∧ sp [.ref a] H (fun v H' => (∃ n : Int, v = .int n ∧ 0 ≤ n ∧ n < 2 ^ 63) ∧ Q v H') E
theorem call_ownLen (F : FnOk X.prog X.w X.K X.mg X.base CX k f fd ps sp) (hr : Room (k + 1) X.A) (hs : PySem.W.findIn X.K (.ref C) "__len__" = some (some (.ref f))) (hf : PySem.W.isFn X.K (.ref f) = true) (hb : Binds X.K fd ps []) (hx : Passes CX X E) :
    CallR X (.builtin "len") (rOwnLen C sp E) := by
  rintro pins s σ H xs us Q I r ⟨a, dx, fs, rfl, ha, h⟩
  obtain ⟨mA, J, _⟩ := ins_get I.hok ha
  obtain ⟨od, J, _⟩ := J.look
  obtain ⟨m, fr⟩ := I.fr
  obtain rfl : us = [Value.ref a] := by
    cases r with
    | cons r1 r2 => cases r2; cases r1; rfl
  refine PySem.W.len_K fr I.ok.mod.kin J hs hf ?_
  have hl := F.len _ _ _ _ h
  have bd := hb s [.ref a] I.kIn (by simpa using hl)
  rw [List.append_nil] at bd
  refine wpAny_call (codeAny_mono (F.run X.A.in1 X.stack s H ⟨[.ref a], []⟩ [.ref a] [.ref a] _ E hr.in1 I.env0.in1 bd r h) fun w s' hq => ?_)
  match w, hq with
  | .error e, hq => exact hx pins σ H s e s' I hq
  | .ok .next, hq => exact False.elim hq
  | .ok .brk, hq => exact False.elim hq
  | .ok .cont, hq => exact False.elim hq
  | .ok (.ret u), hq =>
    obtain ⟨z, H', I', rz, ⟨n, rfl, h0, h1⟩, q⟩ := I.after hq
    obtain ⟨t, rfl⟩ := rz
    exact ⟨⟨h0, h1⟩, .int n, H', I'.tok _, ⟨_, rfl⟩, q⟩
end
end L3

namespace L3
open PySem PySem.Spec PyProof.Rows L2
/-! ### except clauses, some with a name and some without one -/
abbrev Suite := Addr → Value → Option Addr → TS
/-- behind a suite its name is gone -/
def letGo (i : Nat) (Dd : Ends) : Ends where
  nx := fun σ H => Dd.nx (σ.set i none) H
  rt := Dd.rt
  bk := fun σ H => Dd.bk (σ.set i none) H
  ct := fun σ H => Dd.ct (σ.set i none) H
def wMix (K : PySem.W.Frag) (Wout : WX) (Dd : Ends) : List (Value × Option Nat × Suite) → WX
  | [] => Wout
  | (c, none, ts) :: l => fun cls d σ H => ∃ b, PySem.W.exmOne K cls c = some b ∧ (b = true → ∀ a, H a = none → ts a cls d Dd σ H) ∧ (b = false → wMix K Wout Dd l cls d σ H)
  | (c, some i, ts) :: l => fun cls d σ H => ∃ b, PySem.W.exmOne K cls c = some b ∧ (b = true → ∀ a, H a = none → ts a cls d (letGo i Dd) (σ.set i (some (.ref a))) H) ∧ (b = false → wMix K Wout Dd l cls d σ H)
def SuOk (X : Cx) (b₀ : Stmt) (sts : List Stmt) (ts : Suite) : Prop := ∀ (a : Addr) (oe : Obj) (cls : Value) (d : Option Addr) (pn : List (Addr × Obj)), Zc cls d oe → (∃ vs, oe.data = .fields vs) → PSs (X.suite a ((a, oe) :: pn)) (b₀ :: sts) (ts a cls d)
inductive MixOk (X : Cx) : List ExceptHandler → List (Value × Option Nat × Suite) → Prop
  | nil : MixOk X [] []
  | bare {x : Str} {c : Value} {ts : Suite} {b₀ : Stmt} {sts : List Stmt} {p1 p2 : Pos} {hds : List ExceptHandler} {l : List (Value × Option Nat × Suite)} (hc : Names X x c) (su : SuOk X b₀ sts ts) (r : MixOk X hds l) :
      MixOk X (.ExceptHandler (some (.Name x p1)) none (b₀ :: sts) p2 :: hds) ((c, none, ts) :: l)
  | named {x n : Str} {i : Nat} {c : Value} {ts : Suite} {b₀ : Stmt} {sts : List Stmt} {p1 p2 : Pos} {hds : List ExceptHandler} {l : List (Value × Option Nat × Suite)} (hi : X.N[i]? = some n) (hk : X.env.kindOf n = some .local) (hc : Names X x c) (su : SuOk X b₀ sts ts) (r : MixOk X hds l) :
      MixOk X (.ExceptHandler (some (.Name x p1)) (some n) (b₀ :: sts) p2 :: hds) ((c, some i, ts) :: l)
theorem ps_try_mix {X : Cx} {body : List Stmt} {h₀ : ExceptHandler} {hds : List ExceptHandler} {l : List (Value × Option Nat × Suite)} {pos : Pos} {tb : WX → TS} {Wout : WX} (hs : X.stack = X.env :: X.outer) (hf : X.env.frame = some X.env.locals) (hN : X.N.Nodup) (tk : Takes X Wout)
    (hb : ∀ (W : WX) (pn : List (Addr × Obj)) (xe : Value → Shared → Prop), Takes (X.tr pn xe) W → PassesOwn (model X.prog X.w) X.A X.env xe → PSs (X.tr pn xe) body (tb W)) (hh : MixOk X (h₀ :: hds) l) :
    PS X (.Try body (h₀ :: hds) [] [] pos) (fun Dd σ H => tb (wMix X.K Wout Dd l) Dd σ H) := by
  refine ⟨fun pins s σ H Dd I h => wpAny_Try_except ?_⟩
  have ok := I.ok
  have allFr : X.A.frames = some (X.env :: X.outer) := ok.frames.trans (congrArg some hs)
  refine wpAny_mono ((hb (wMix X.K Wout Dd l) (X.pn ++ pins) (fun e q1 => wpAny (model X.prog X.w) X.A (noteFrame e X.env) (fun _ q2 => wpAny (model X.prog X.w) X.A (setFlight e none) (fun _ q3 => wpAny (model X.prog X.w) X.A (handleBy e X.env (h₀ :: hds)) (SP X pins Dd) X.xe q3) X.xe q2) X.xe q1) (fun u sx xx => ?_) PassesOwn.looking).run [] s σ H Dd (I.toTry _) h) (fun fl s1 done => ?_) fun _ _ z => z
  · obtain ⟨a, B, sI, pins', σx, Hx, cls, d, rfl, Jt, nb, up, sky, na, os, ag, wish⟩ := xx
    have J : Inv X pins σx Hx sI := Jt.ofTry ok
    show wpAny (model X.prog X.w) X.A (noteFrame (.ref a) X.env) _ _ _
    refine Sky.land Zc.steady allFr hf (by rw [← hs]; exact sky) fun hA flA upA => ?_
    have landed : ∀ {hp : Heap}, _ → _ → Inv X pins σx Hx { sx with heap := hp } := fun {hp} g1 g2 => J.landed nb g1 g2 os ag
    have JA := landed flA.1 (up.trans upA)
    obtain ⟨oA, vA, atA, zA, fA⟩ := flA.there
    have off : a ∉ frs (X.env :: X.outer) := fun m => by
      obtain ⟨_, o2, e2, no⟩ := flA.2.2.1.mem m
      cases atA.symm.trans e2
      exact no _ fA
    have offL : a ≠ X.env.locals := fun z => off (List.mem_filterMap.mpr ⟨X.env, List.mem_cons_self, hf.trans (congrArg some z.symm)⟩)
    have offF : a ∉ X.fs := fun m => let ⟨e, m2, q⟩ := List.mem_filterMap.mp m
      off (List.mem_filterMap.mpr ⟨e, List.mem_cons_of_mem _ m2, q⟩)
    have inS := JA.suite atA fA na offL offF
    have kind : PySem.W.Looks (model X.prog X.w) hA (typeOf (.ref a)) cls := fun _ _ _ _ k q => wpAny_typeOf_ref (k _ _ atA) (zA.1 ▸ q)
    have ask : ∀ {x : Str} {c : Value} {p1 : Pos}, Names X x c → ∀ {Q : Value → Shared → Prop} {E : Value → Shared → Prop}, Q c { sx with heap := hA } → wpAny (model X.prog X.w) (X.A.mark (some (.ref a))) (eval (.Name x p1) X.env) Q E { sx with heap := hA } := @fun x c p1 hc Q E q => by
      obtain ⟨hg, hdb, hm | ⟨hm, hv, hn⟩⟩ := hc
      · exact ld_glob (X := X.suite a ((a, oA) :: (X.pn ++ pins))) inS hg hm q hdb
      · exact ld_blt (X := X.suite a ((a, oA) :: (X.pn ++ pins))) inS hg hm hv q hn hdb
    have go : ∀ {hds' : List ExceptHandler} {l' : List (Value × Option Nat × Suite)}, MixOk X hds' l' → wMix X.K Wout Dd l' cls d σx Hx → wpAny (model X.prog X.w) X.A (handleBy (.ref a) X.env hds') (SP X pins Dd) X.xe { sx with heap := hA } := by
      intro hds' l' mx
      induction mx with
      | nil =>
        intro out
        obtain ⟨_, _, _, ob, vs, T, oT, ts', a1, a2, a3, a4, a5⟩ := id flA
        have last : wpAny (model X.prog X.w) X.A (setFlight (.ref a) X.env.frame) (fun _ s4 => wpAny (model X.prog X.w) X.A (throw (.ref a) : Sem Flow) (SP X pins Dd) X.xe s4) X.xe { sx with heap := hA } := by
          rw [hf]
          exact HandSPX.setFlight_upZ flA fun hB skyB upB => wpAny_throw (tk _ _ ⟨a, B, sI, pins, σx, Hx, cls, d, rfl, J, nb, (up.trans upA).trans upB, .inr (.inr (hs ▸ skyB)), na, os, ag, out⟩)
        refine wpAny_handleBy_nil ?_
        unfold PySem.passOn
        refine wpAny_bind (wpAny_field a1 a3 a4 ?_)
        rw [if_neg (show ¬ ((Value.ref T == Value.none) = true) from by simp)]
        first
          | exact wpAny_bind (wpAny_pure (wpAny_bind last))
          | exact wpAny_bind last
      | bare hc su r ih =>
        rintro ⟨b, e, yes, no⟩
        refine wpAny_handleBy_cons (codeAny_handlers_test ?_) (by intro q; cases q)
        refine ask hc ((PySem.W.exm_one (M := model X.prog X.w) JA.kIn kind e).here ?_)
        cases b with
        | false => exact ih (no rfl)
        | true =>
          refine codeAny_handlers_suite (HandSPX.lands_againZ flA fun hB flB upB => ?_)
          obtain ⟨oB, vB, atB, zB, fB⟩ := flB.there
          have inB := (landed flB.1 ((up.trans upA).trans upB)).suite atB fB na offL offF
          refine wpAny_mono ((su a oB cls d (X.pn ++ pins) zB ⟨_, fB⟩).run [] _ _ Hx _ inB (yes rfl a na)) (fun fl s6 z => ?_) (fun _ _ z => False.elim z)
          cases fl with
          | ret u => exact let ⟨v6, σ6, H6, S6, r6, q6⟩ := z; ⟨_, _, _, S6.unsuite ok, r6, q6⟩
          | next => exact let ⟨σ6, H6, S6, q6⟩ := z; ⟨_, _, S6.unsuite ok, q6⟩
          | brk => exact let ⟨σ6, H6, S6, q6⟩ := z; ⟨_, _, S6.unsuite ok, q6⟩
          | cont => exact let ⟨σ6, H6, S6, q6⟩ := z; ⟨_, _, S6.unsuite ok, q6⟩
      | @named x n i c ts b₀ sts p1 p2 hds2 l2 hi hk hc su r ih =>
        rintro ⟨b, e, yes, no⟩
        refine wpAny_handleBy_cons (codeAny_handlers_test ?_) (by intro q; cases q)
        refine ask hc ((PySem.W.exm_one (M := model X.prog X.w) JA.kIn kind e).here ?_)
        cases b with
        | false => exact ih (no rfl)
        | true =>
          refine codeAny_handlers_suite_as (HandSPX.lands_againZ flA fun hB flB upB => ?_)
          obtain ⟨oB, vB, atB, zB, fB⟩ := flB.there
          have inB := (landed flB.1 ((up.trans upA).trans upB)).suite atB fB na offL offF
          refine store_ok (X := X.suite a ((a, oB) :: (X.pn ++ pins))) (v := .ref a) inB hN hi (.inl hk) rfl (fun s5 in5 => ?_) (.inr hk)
          refine wpAny_mono ((su a oB cls d (X.pn ++ pins) zB ⟨_, fB⟩).run [] s5 _ Hx _ in5 (yes rfl a na)) (fun fl s6 z => ?_) (fun _ _ z => False.elim z)
          cases fl with
          | ret u => exact let ⟨v6, σ6, H6, S6, r6, q6⟩ := z; gone_ok (S6.unsuite ok) hN hi hk fun s7 J7 => ⟨_, _, _, J7, r6, q6⟩
          | next => exact let ⟨σ6, H6, S6, q6⟩ := z; gone_ok (S6.unsuite ok) hN hi hk fun s7 J7 => ⟨_, _, J7, q6⟩
          | brk => exact let ⟨σ6, H6, S6, q6⟩ := z; gone_ok (S6.unsuite ok) hN hi hk fun s7 J7 => ⟨_, _, J7, q6⟩
          | cont => exact let ⟨σ6, H6, S6, q6⟩ := z; gone_ok (S6.unsuite ok) hN hi hk fun s7 J7 => ⟨_, _, J7, q6⟩
    exact go hh wish
  · cases fl with
    | next => exact let ⟨σ2, H2, J2, q⟩ := done; wpAny_execs_nil ⟨σ2, H2, J2.ofTry ok, q⟩
    | brk => exact let ⟨σ2, H2, J2, q⟩ := done; ⟨σ2, H2, J2.ofTry ok, q⟩
    | cont => exact let ⟨σ2, H2, J2, q⟩ := done; ⟨σ2, H2, J2.ofTry ok, q⟩
    | ret u => exact let ⟨v2, σ2, H2, J2, r2, q⟩ := done; ⟨v2, σ2, H2, J2.ofTry ok, r2, q⟩
/-! by data: clauses whose suites are statements, and such that put the exception's field behind an own list -/
/-- one clause: its class, and what is done -/
inductive Cl where
  | sts (f : DS)
  | app (f : Str) (i j : Nat)
  | asg (f : Str) (i j : Nat) (t : Bool)
/-- what is stored: the field, or a tuple of it alone -/
def fldD : Bool → D → D
  | false, d => d
  | true, d => .tup [d]
/-- what the classes' order answers -/
abbrev exQ (K : PySem.W.Frag) : Addr → Addr → Bool → Prop := fun a c b => PySem.W.exmOne K (.ref a) (.ref c) = some b
def mixD (Q : Addr → Addr → Bool → Prop) : List (Addr × Cl) → DEnds → Env → Ex → Prop
  | [], P, _, y => P.ex y
  | (c, .sts f) :: l, P, δ, y => ∃ b, Q y.cls c b ∧ if b = true then f P δ else mixD Q l P δ y
  | (c, .app f i j) :: l, P, δ, y => ∃ b, Q y.cls c b ∧
      if b = true then y.cls = c ∧ i < δ.length ∧ i ≠ j ∧ ∃ ds d, δ[j]? = some (.own ds) ∧ y.fs = some (f, d) ∧ ds.length + 1 ≤ sizeLine ∧ P.nx ((δ.set i .emp).set j (.own (ds ++ [d]))) else mixD Q l P δ y
  | (c, .asg f i j t) :: l, P, δ, y => ∃ b, Q y.cls c b ∧
      if b = true then y.cls = c ∧ i < δ.length ∧ i ≠ j ∧ ∃ d, y.fs = some (f, d) ∧ P.nx ((δ.set i .emp).set j (.val (fldD t d))) else mixD Q l P δ y
def asgT (K : PySem.W.Frag) (C : Addr) (f : Str) (i j : Nat) : Bool → Suite
  | false => fun a cls d => tAsg (tXf a cls d C f (tVar i)) (gName j)
  | true => fun a cls d => tAsg (tTup (tCons (tXf a cls d C f (tVar i)) tNil)) (gName j)
def appT (K : PySem.W.Frag) (C : Addr) (f : Str) (i j : Nat) : Suite := fun a cls d => tDrop (tBM K "list" rAppend (tVar j) (tCons (tXf a cls d C f (tVar i)) tNil))
def mixT (K : PySem.W.Frag) (E : XK) : List (Addr × Cl) → List (Value × Option Nat × Suite)
  | [] => []
  | (c, .sts f) :: l => (.ref c, none, fun _ _ _ => tS K E f) :: mixT K E l
  | (c, .app f i j) :: l => (.ref c, some i, appT K c f i j) :: mixT K E l
  | (c, .asg f i j t) :: l => (.ref c, some i, asgT K c f i j t) :: mixT K E l
theorem mix_of {K : PySem.W.Frag} {E : XK} {r : Addr} {A0 : Addr → Prop} {H0 H H' : Hp} {σ : L2.St} {δ : Env} {P : DEnds} {Dd : Ends} {c : Value} {dd : Option Addr} {y : Ex} (R : SR K r A0 H0 σ H δ) (L : Lands K E r A0 H0 P Dd) (x1 : Ext r H H') (n1 : RndOk r H') (xr : XR K r (Av A0 r σ δ) H' c dd y) {Qx : Addr → Addr → Bool → Prop} (hQ : ∀ a c b, Qx a c b → PySem.W.exmOne K (.ref a) (.ref c) = some b) :
    ∀ l : List (Addr × Cl), mixD Qx l P δ y → wMix K (fun cls d _ H => E cls d H) Dd (mixT K E l) c dd σ H'
  | [], z => L.ex y c dd H' z (R.ext.trans x1) n1 (xr.bar fun b o hb _ => .inl hb)
  | (C, .sts f) :: l, ⟨b, e, z⟩ => ⟨b, by rw [xr.1]; exact hQ _ _ _ e, fun h a _ => ⟨r, A0, H0, δ, P, R.move x1 n1, by rw [if_pos h] at z; exact z, L⟩, fun h => mix_of R L x1 n1 xr hQ l (by rw [h, if_neg Bool.false_ne_true] at z; exact z)⟩
  | (C, .app f i j) :: l, ⟨b, e, z⟩ => by
    refine ⟨b, by rw [xr.1]; exact hQ _ _ _ e, fun h a na => ?_, fun h => mix_of R L x1 n1 xr hQ l (by rw [h, if_neg Bool.false_ne_true] at z; exact z)⟩
    rw [if_pos h] at z
    obtain ⟨hC, hil, hij, ds, d, q1, q2, q3, q4⟩ := z
    have R1 := R.move x1 n1
    obtain ⟨l0, xs, e1, e2, e3, e4, e5, e6⟩ := R1.er.own j ds q1
    obtain ⟨ec, xf⟩ := xr
    rw [q2] at xf
    obtain ⟨ad, v, ed, ex, nAd, rv⟩ := xf
    have il : i < σ.length := by rw [← R.er.len]; exact hil
    have zl := e6.length
    have s1 : (σ.set i (some (.ref a)))[j]? = some (some (.ref l0)) := by rw [List.getElem?_set_ne hij]; exact e1
    have s2 : (σ.set i (some (.ref a)))[i]? = some (some (.ref a)) := by rw [List.getElem?_set_self il]
    refine ⟨.ref l0, s1, .inl ⟨rfl, xs, SqL.of e4⟩, .ref a, s2, rfl, by rw [ec, hC], ad, _, v, ed, ex, by simp, l0, xs, v, rfl, rfl, e4, by omega, ?_⟩
    show Dd.nx ((σ.set i (some (.ref a))).set i none) _
    rw [List.set_set]
    exact L.nx _ _ _ q4 ((R1.gone i none).grow (by rw [List.getElem?_set_ne hij]; exact q1) (by rw [List.getElem?_set_ne hij]; exact e1) e4 (e6.bar fun b o hb _ => av_set hb) (rv.bar fun b o hb _ => av_set hb) (by omega) e3)
  | (C, .asg f i j t) :: l, ⟨b, e, z⟩ => by
    refine ⟨b, by rw [xr.1]; exact hQ _ _ _ e, fun h a na => ?_, fun h => mix_of R L x1 n1 xr hQ l (by rw [h, if_neg Bool.false_ne_true] at z; exact z)⟩
    rw [if_pos h] at z
    obtain ⟨hC, hil, hij, d, q2, q4⟩ := z
    have R1 := R.move x1 n1
    obtain ⟨ec, xf⟩ := xr
    rw [q2] at xf
    obtain ⟨ad, v, ed, ex, nAd, rv⟩ := xf
    have il : i < σ.length := by rw [← R.er.len]; exact hil
    have s2 : (σ.set i (some (.ref a)))[i]? = some (some (.ref a)) := by rw [List.getElem?_set_self il]
    have R2 : SR K r A0 H0 (σ.set i none) H' (δ.set i .emp) := R1.gone i none
    have rv2 : DR K r (Av A0 r (σ.set i none) (δ.set i .emp)) H' v d := rv.bar fun b o hb _ => av_set hb
    have done : ∀ (u : V) (H3 : Hp), Ext r H' H3 → RndOk r H3 → DR K r (Av A0 r (σ.set i none) (δ.set i .emp)) H3 u (fldD t d) → Dd.nx (((σ.set i (some (.ref a))).set j (some u)).set i none) H3 := fun u H3 x3 n3 ru => by
      rw [List.set_comm _ _ (Ne.symm hij), List.set_set]
      exact L.nx _ _ _ q4 ((R2.move x3 n3).set ru)
    cases t with
    | false => exact ⟨.ref a, s2, rfl, by rw [ec, hC], ad, _, v, ed, ex, by simp, done v H' .refl n1 rv2⟩
    | true =>
      refine ⟨.ref a, s2, rfl, by rw [ec, hC], ad, _, v, ed, ex, by simp, by show 1 ≤ sizeLine; decide, fun p np => done (.ref p) _ (Ext.upd np) (n1.upd np) ?_⟩
      exact R2.er.wd.tup np (by show 1 ≤ sizeLine; decide) (.cons rv2 .nil)
inductive MixD (X : Cx) (E : XK) : List ExceptHandler → List (Addr × Cl) → Prop
  | nil : MixD X E [] []
  | sts {x : Str} {C : Addr} {f : DS} {b₀ : Stmt} {suite : List Stmt} {p1 p2 : Pos} {hds : List ExceptHandler} {l : List (Addr × Cl)} (hc : Names X x (.ref C)) (su : ∀ (a : Addr) (pn : List (Addr × Obj)), PSs (X.suite a pn) (b₀ :: suite) (tS X.K E f)) (r : MixD X E hds l) :
      MixD X E (.ExceptHandler (some (.Name x p1)) none (b₀ :: suite) p2 :: hds) ((C, .sts f) :: l)
  | app {x n : Str} {C : Addr} {f : Str} {i j : Nat} {st : Stmt} {p1 p2 : Pos} {hds : List ExceptHandler} {l : List (Addr × Cl)} (hi : X.N[i]? = some n) (hk : X.env.kindOf n = some .local) (hc : Names X x (.ref C))
      (su : ∀ (a : Addr) (oe : Obj) (cls : Value) (d : Option Addr) (pn : List (Addr × Obj)), Zc cls d oe → (∃ vs, oe.data = .fields vs) → PS (X.suite a ((a, oe) :: pn)) st (appT X.K C f i j a cls d)) (r : MixD X E hds l) :
      MixD X E (.ExceptHandler (some (.Name x p1)) (some n) [st] p2 :: hds) ((C, .app f i j) :: l)
  | asg {x n : Str} {C : Addr} {f : Str} {i j : Nat} {t : Bool} {st : Stmt} {p1 p2 : Pos} {hds : List ExceptHandler} {l : List (Addr × Cl)} (hi : X.N[i]? = some n) (hk : X.env.kindOf n = some .local) (hc : Names X x (.ref C))
      (su : ∀ (a : Addr) (oe : Obj) (cls : Value) (d : Option Addr) (pn : List (Addr × Obj)), Zc cls d oe → (∃ vs, oe.data = .fields vs) → PS (X.suite a ((a, oe) :: pn)) st (asgT X.K C f i j t a cls d)) (r : MixD X E hds l) :
      MixD X E (.ExceptHandler (some (.Name x p1)) (some n) [st] p2 :: hds) ((C, .asg f i j t) :: l)
theorem MixD.ok {X : Cx} {E : XK} {hds : List ExceptHandler} {l : List (Addr × Cl)} (h : MixD X E hds l) : MixOk X hds (mixT X.K E l) := by
  induction h with
  | nil => exact .nil
  | sts hc su _ ih => exact .bare hc (fun a oe cls d pn _ _ => su a _) ih
  | app hi hk hc su _ ih => exact .named hi hk hc (fun a oe cls d pn hz hf => pss_one (su a oe cls d pn hz hf)) ih
  | asg hi hk hc su _ ih => exact .named hi hk hc (fun a oe cls d pn hz hf => pss_one (su a oe cls d pn hz hf)) ih
/-- x = n.f in a suite, x = (n.f,) -/
theorem ps_asgX {X : Cx} {lp np2 fp ep : Pos} {n l f : Str} {C : Addr} {i j : Nat} (hN : X.N.Nodup) (hi : X.N[i]? = some n) (hvn : Vis X.env.scope n) (hj : X.N[j]? = some l) (hl : Loc X.env.scope l) (T : XfC X.K C) (hno : PySem.W.findIn X.K (.ref C) f = some none)
    (hff : X.fn l = true ∨ X.env.scope.names.lookup l = some .local := by first | exact .inl rfl | exact .inr rfl | assumption)
    (hd2 : (n == ("__debug__" : Str)) = false := by decide) (hcd2 : (n == ("__classdict__" : Str)) = false := by decide)
    (ha : attributeBase (.Name n np2) f X.env (eval (.Name n np2) X.env) = eval (.Name n np2) X.env := by rfl)
    (hs : swapsWithSole [.Name l lp] (.Attribute (.Name n np2) f fp) ep.line X.env = pure false := by rfl) (hw : swappedStores [.Name l lp] (.Attribute (.Name n np2) f fp) X.env = pure none := by rfl)
    (h1 : (assignEach [.Name l lp] X.env).map (·.2) = [assign (.Name l lp) X.env] := by rfl) :
    ∀ (a : Addr) (oe : Obj) (cls : Value) (d : Option Addr) (pn : List (Addr × Obj)), Zc cls d oe → (∃ vs, oe.data = .fields vs) →
      PS (X.suite a ((a, oe) :: pn)) (.Assign [.Name l lp] (.Attribute (.Name n np2) f fp) ep) (asgT X.K C f i j false a cls d) := fun a oe cls d pn hz hfs =>
  ps_asg (pe_xf T hno hz hfs (pe_var hi hvn hd2 hcd2) ha) (pg_name (X := X.suite a ((a, oe) :: pn)) hN hj hl hff) hs hw h1
theorem ps_asgX1 {X : Cx} {lp np2 fp tp ep : Pos} {kt : Nat} {n l f : Str} {C : Addr} {i j : Nat} (hN : X.N.Nodup) (hi : X.N[i]? = some n) (hvn : Vis X.env.scope n) (hj : X.N[j]? = some l) (hl : Loc X.env.scope l) (T : XfC X.K C) (hno : PySem.W.findIn X.K (.ref C) f = some none)
    (hff : X.fn l = true ∨ X.env.scope.names.lookup l = some .local := by first | exact .inl rfl | exact .inr rfl | assumption)
    (hd2 : (n == ("__debug__" : Str)) = false := by decide) (hcd2 : (n == ("__classdict__" : Str)) = false := by decide)
    (ha : attributeBase (.Name n np2) f X.env (eval (.Name n np2) X.env) = eval (.Name n np2) X.env := by rfl)
    (hs1 : starEach [.Attribute (.Name n np2) f fp] X.env = (false, eval (.Attribute (.Name n np2) f fp) X.env) :: starEach [] X.env := by rfl)
    (hs : swapsWithSole [.Name l lp] (.Tuple [.Attribute (.Name n np2) f fp] kt tp) ep.line X.env = pure false := by rfl) (hw : swappedStores [.Name l lp] (.Tuple [.Attribute (.Name n np2) f fp] kt tp) X.env = pure none := by rfl)
    (h1 : (assignEach [.Name l lp] X.env).map (·.2) = [assign (.Name l lp) X.env] := by rfl) :
    ∀ (a : Addr) (oe : Obj) (cls : Value) (d : Option Addr) (pn : List (Addr × Obj)), Zc cls d oe → (∃ vs, oe.data = .fields vs) →
      PS (X.suite a ((a, oe) :: pn)) (.Assign [.Name l lp] (.Tuple [.Attribute (.Name n np2) f fp] kt tp) ep) (asgT X.K C f i j true a cls d) := fun a oe cls d pn hz hfs =>
  ps_asg (pe_tup (pa_cons (pe_xf T hno hz hfs (pe_var hi hvn hd2 hcd2) ha) pa_nil hs1)) (pg_name (X := X.suite a ((a, oe) :: pn)) hN hj hl hff) hs hw h1
/-- own.append(n.f) in a suite -/
theorem ps_app {X : Cx} {lp np2 ap fp cp ep : Pos} {n l f : Str} {C : Addr} {i j : Nat} (hi : X.N[i]? = some n) (hvn : Vis X.env.scope n) (hj : X.N[j]? = some l) (hvl : Vis X.env.scope l) (T : XfC X.K C) (hno : PySem.W.findIn X.K (.ref C) f = some none)
    (hd : (l == ("__debug__" : Str)) = false := by decide) (hcd : (l == ("__classdict__" : Str)) = false := by decide) (hd2 : (n == ("__debug__" : Str)) = false := by decide) (hcd2 : (n == ("__classdict__" : Str)) = false := by decide)
    (ha : attributeBase (.Name n np2) f X.env (eval (.Name n np2) X.env) = eval (.Name n np2) X.env := by rfl)
    (hs1 : starEach [.Attribute (.Name n np2) f fp] X.env = (false, eval (.Attribute (.Name n np2) f fp) X.env) :: starEach [] X.env := by rfl)
    (hbase : attributeBase (.Name l lp) "append" X.env (eval (.Name l lp) X.env) = eval (.Name l lp) X.env := by rfl)
    (hfew : ((backTo cp (starEach [.Attribute (.Name n np2) f fp] X.env)).all (fun x => !x.1) && (backToKw cp (keywordEach [] X.env)).all (fun x => x.1.isSome)
      && decide ([Expr.Attribute (.Name n np2) f fp].length + ([] : List Keyword).length + (if ([] : List Keyword).isEmpty then 0 else 1) < 30)) = true := by rfl)
    (hline : (ap.endLine == cp.line) = true := by rfl) (hplain : (backTo cp (starEach [] X.env)).any (·.1) = false := by rfl)
    (hsw : swapsWith (.Call (.Attribute (.Name l lp) "append" ap) [.Attribute (.Name n np2) f fp] [] cp) none ep.line X.env = pure false := by rfl) :
    ∀ (a : Addr) (oe : Obj) (cls : Value) (d : Option Addr) (pn : List (Addr × Obj)), Zc cls d oe → (∃ vs, oe.data = .fields vs) →
      PS (X.suite a ((a, oe) :: pn)) (.Expr (.Call (.Attribute (.Name l lp) "append" ap) [.Attribute (.Name n np2) f fp] [] cp) ep) (appT X.K C f i j a cls d) := fun a oe cls d pn hz hfs =>
  ps_expr (pe_bm PySem.F.plainAttrs_list PySem.F.slot_list_append PySem.F.type_list_append mt_append (pe_var (X := X.suite a ((a, oe) :: pn)) hj hvl hd hcd) (pa_cons (pe_xf T hno hz hfs (pe_var hi hvn hd2 hcd2) ha) pa_nil hs1) hbase hfew hline hs1 hplain) hsw
theorem s_tryM {X : Cx} {E : XK} {body : List Stmt} {h₀ : ExceptHandler} {hds : List ExceptHandler} {l : List (Addr × Cl)} {pos : Pos} {fb : DE} {Q : Addr → Addr → Bool → Prop} (hQ : ∀ a c b, Q a c b → PySem.W.exmOne X.K (.ref a) (.ref c) = some b) (hs : X.stack = X.env :: X.outer) (hf : X.env.frame = some X.env.locals) (hN : X.N.Nodup) (tk : Takes X (fun cls d _ H => E cls d H))
    (hb : ∀ (W : WX) (pn : List (Addr × Obj)) (xe : Value → Shared → Prop), Takes (X.tr pn xe) W → PSs (X.tr pn xe) body (tB X.K W fb)) (hh : MixD X E (h₀ :: hds) l) :
    PS X (.Try body (h₀ :: hds) [] [] pos) (tS X.K E (fun P δ => fb δ (fun _ => P.nx δ) (fun y => mixD Q l P δ y))) :=
  PS.imp (ps_try_mix hs hf hN tk (fun W pn xe t _ => hb W pn xe t) hh.ok) fun Dd σ H ⟨r, A0, H0, δ, P, R, h, L⟩ =>
    ⟨r, _, δ, fun _ => P.nx δ, fun y => mixD Q l P δ y, R.er, h, fun d v H' hn x1 n1 _ => L.nx δ σ H' hn (R.move x1 n1), fun y c dd H' z x1 n1 xr => mix_of R L x1 n1 xr hQ l z⟩
end L3

namespace L3
open PySem PySem.Spec PyProof.Rows L2
/-! ### instances of an own class by data: fields, isinstance, ==, len -/
def D.isObj : D → Bool
  | .obj _ _ _ => true
  | _ => false
abbrev kindsD : List String := ["NoneType", "bool", "int", "str", "list", "tuple", "dict"]
/-- what is known of the class at C -/
structure OwnC (K : PySem.W.Frag) (C : Addr) : Prop where
  cls : Cls K C
  ha : PySem.W.findIn K (.ref C) "__class__" = some (some (.builtin "object.__class__"))
  hn : PySem.W.specialIn K (.builtin "object.__class__") "__get__" = some (some (.builtin "getset_descriptor.__get__"))
  htk : PySem.W.takesIn K (.builtin "object.__class__") = some true
  hm : PySem.W.mroIn K C (.type "object") = some true
  kit : PySem.W.kitOne K (.ref C) (.ref C) = some true
  kitT : ∀ t ∈ kindsD, PySem.W.kitOne K (.type t) (.ref C) = some false
  sub : ∀ t ∈ kindsD, PySem.W.subIn K (.type t) (.ref C) = some false
/-- a value with a kind, or an instance of the class at C -/
def D.known (C : Addr) (d : D) : Prop := (∃ t, d.tyName = some t) ∨ ∃ ns ds, d = .obj C ns ds
theorem tyName_mem {d : D} {t : String} (h : d.tyName = some t) : t ∈ kindsD := by
  cases d <;> cases h <;> decide
theorem DR.tyC {K : PySem.W.Frag} {r : Addr} {A : Addr → Prop} {H : Hp} {v : V} {d : D} {C : Addr} (O : OwnC K C) (h : DR K r A H v d) (rn : RndOk r H) (k : d.known C) : ∃ t, TyX K H v t ∧ PySem.W.notFirst K C t = true ∧ PySem.W.kitOne K t (.ref C) = some d.isObj := by
  rcases k with ⟨t, e⟩ | ⟨ns, ds, rfl⟩
  · have m := tyName_mem e
    refine ⟨.type t, h.tyX rn e, ?_, ?_⟩
    · unfold PySem.W.notFirst
      rw [O.sub t m]
      simp
    · rw [O.kitT t m]
      cases d <;> first | rfl | cases e
  · cases h with
    | obj n e1 l t =>
      refine ⟨.ref C, .base (.ins e1 O.cls O.ha O.hn O.htk O.hm), ?_, O.kit⟩
      unfold PySem.W.notFirst
      simp
section
variable {X : Cx} {E : XK} {e : Expr} {es : List Expr} {fe : DE} {fa : DA} {f g x : Str} {C : Addr} {p p2 pos : Pos}
theorem e_fld (cl : Cls X.K C) (nt : NoAttr X.K C g) (he : PE X e (tE X.K E fe)) (hab : attributeBase e g X.env (eval e X.env) = eval e X.env := by rfl) :
    PE X (.Attribute e g pos) (tE X.K E (fun δ P Z => fe δ (fun d => ∃ ns ds y, d = .obj C ns ds ∧ (ns.zip ds).lookup g = some y ∧ P y) Z)) :=
  PE.imp (pe_fld he hab) fun σ H Q ⟨r, A, δ, P, Z, R, h, hq, hz⟩ => ⟨r, A, δ, _, Z, R, h, fun d v H1 h3 x1 n1 r1 => by
    obtain ⟨ns, ds, y, rfl, hl, hp⟩ := h3
    cases r1 with
    | @obj a _ dx _ xs _ na e1 l t =>
      obtain ⟨u, hu, ru⟩ := lookup_zip t hl
      exact ⟨a, C, dx, _, u, rfl, e1, cl, nt, hu, hq _ _ _ hp x1 n1 ru⟩, hz⟩
theorem e_isC (O : OwnC X.K C) (hg : Gl X "isinstance") (hm : X.mg "isinstance" = none) (hg2 : Gl X x) (hm2 : X.mg x = some (.ref C)) (he : PE X e (tE X.K E fe)) (hd : (x == ("__debug__" : Str)) = false := by decide)
    (h1 : starEach (e :: [.Name x p2]) X.env = (false, eval e X.env) :: starEach [.Name x p2] X.env := by rfl) (h2 : starEach (.Name x p2 :: []) X.env = (false, eval (.Name x p2) X.env) :: starEach [] X.env := by rfl)
    (hpl : (backTo pos (starEach [.Name x p2] X.env)).any (·.1) = false := by rfl) :
    PE X (.Call (.Name "isinstance" p) [e, .Name x p2] [] pos) (tE X.K E (fun δ P Z => fe δ (fun d => d.known C ∧ P (.bl d.isObj)) Z)) :=
  PE.imp (pe_callB call_isi hg hm (by decide +kernel) (pa_cons he (pa_cons (pe_glob (v := .ref C) hg2 hm2 rfl hd) pa_nil h2) h1) (by decide) (by decide) h1 hpl) fun σ H Q ⟨r, A, δ, P, Z, R, h, hq, hz⟩ =>
    ⟨r, A, δ, _, Z, R, h, fun d v H1 h3 x1 n1 r1 => by
      obtain ⟨t, ty, _, kt⟩ := r1.tyC O n1 h3.1
      exact ⟨v, .ref C, t, .ref C, _, rfl, .own C, ty, kt, hq _ _ _ h3.2 x1 n1 (.bl _)⟩, hz⟩
end
/-- == of an own class, by data: g its promise -/
def ownEqD (C : Addr) (g : DF) : D → D → DP → Prop := fun d e P => (∃ ns ds, d = .obj C ns ds) ∧ e.known C ∧ g [d, e] (fun v => (∃ b, v = .bl b) ∧ P v) XF
theorem od_ownEq {K : PySem.W.Frag} {C : Addr} {g : DF} (O : OwnC K C) : OpD K (rOwnEq K C (spD K 2 g) E0) (ownEqD C g) := fun r A H x y d e P Q w hx hy ⟨⟨ns, ds, hd⟩, hk, hg⟩ q => by
  subst hd
  obtain ⟨t, ty, nf, _⟩ := hy.tyC O w.rnd hk
  have hx' := hx
  cases hx with
  | @obj a _ dx _ xs _ na e1 l t2 =>
    refine ⟨a, dx, _, t, rfl, e1, ty, nf, r, A, [.obj C ns ds, e], _, XF, w, .cons hx' (.cons hy .nil), rfl, hg, fun v u H' ⟨⟨b, hb⟩, hp⟩ x1 n1 r1 => ?_, fun _ _ _ _ z => z.elim⟩
    subst hb
    cases r1
    exact ⟨⟨b, rfl⟩, q _ _ _ hp x1 n1 (.bl b)⟩
/-- len of an own class, by data -/
def ownLenD (C : Addr) (g : DF) : List D → DP → Prop := fun ds P => ∃ ns es, ds = [.obj C ns es] ∧ g ds (fun v => (∃ n : Int, v = .int n ∧ 0 ≤ n ∧ n < 2 ^ 63) ∧ P v) XF
theorem cd_ownLen {K : PySem.W.Frag} {C : Addr} {g : DF} : CallD K (rOwnLen C (spD K 1 g) E0) (ownLenD C g) := fun r A H xs ds P Q w t ⟨ns, es, hd, hg⟩ q => by
  subst hd
  obtain ⟨v, rfl, hx⟩ := t.one
  have hx' := hx
  cases hx with
  | @obj a _ dx _ ys _ na e1 l t2 =>
    refine ⟨a, dx, _, rfl, e1, r, A, [.obj C ns es], _, XF, w, .cons hx' .nil, rfl, hg, fun v u H' ⟨⟨n, hn, h0, h1⟩, hp⟩ x1 n1 r1 => ?_, fun _ _ _ _ z => z.elim⟩
    subst hn
    cases r1
    exact ⟨⟨n, rfl, h0, h1⟩, q _ _ _ hp x1 n1 (.int n)⟩
end L3

namespace L3
open PySem PySem.Spec PyProof.Rows L2
/-! ### C(e, ..) in a body of try -/
section
variable {X : Cx} {W : WX} {C f : Addr} {fd : FuncData} {ps : List Str} {sp : Sp} {k : Nat} {dvs : List V} {ds : List Value}
theorem run_makeW {pins : List (Addr × Obj)} {σ : L2.St} {H : Hp} {s : Shared} {Q : VK} {us : List Value} {vs : List V} (M : L2.Mk X.K C f) (F : FnOk X.prog X.w X.K X.mg X.base (L2.CX X.prog X.w) k f fd ps sp) (hr : Room (k + 1) X.A) (hb : Binds X.K fd ps ds) (hd : Vals dvs ds) (tk : Takes X W)
    (I : Inv X pins σ H s) (r : Vals vs us) (h : ∀ x dx, H x = none → H dx = none → dx ≠ x → sp (.ref x :: (vs ++ dvs)) (upd (upd H dx (.own x)) x (.ins C dx [])) (fun v H2 => v = .non ∧ Q (.ref x) H2) (WE W σ)) :
    wpAny (model X.prog X.w) X.A (call (.ref C) us) (EP X pins σ Q) X.xe s := by
  have n0 : H s.heap.objs.size = none := I.hok.fresh (Nat.le_refl _)
  have n1 : H (s.heap.objs.size + 1) = none := I.hok.fresh (Nat.le_succ _)
  have hq := h _ _ n1 n0 (Nat.ne_of_lt (Nat.lt_succ_self _))
  have Im := Inv.made (C := C) I
  have all : Vals (V.ref (s.heap.objs.size + 1) :: (vs ++ dvs)) (Value.ref (s.heap.objs.size + 1) :: (us ++ ds)) := .cons rfl (r.append hd)
  have len : (Value.ref (s.heap.objs.size + 1) :: us ++ ds).length = ps.length := (F.len _ _ _ _ hq ▸ all.length).symm
  refine wpAny_call (make_map (f := f) I.kIn M.makes M.init (beq_iff_eq.mp M.fn) (codeAny_mono (F.run _ X.stack _ _ ⟨Value.ref (s.heap.objs.size + 1) :: us, []⟩ (Value.ref (s.heap.objs.size + 1) :: (us ++ ds)) _ _ (WE W σ) (hr.make C us []) (Im.env0.make C us []) (hb _ (Value.ref (s.heap.objs.size + 1) :: us) Im.kIn len) all hq) fun w s' z => ?_))
  match w, z with
  | .error e, z => exact passAt tk σ pins _ _ e s' Im z
  | .ok .next, z => exact False.elim z
  | .ok .brk, z => exact False.elim z
  | .ok .cont, z => exact False.elim z
  | .ok (.ret u), z =>
    obtain ⟨v, H', I3, rv, rfl, q3⟩ := Im.after z
    exact ⟨rv, .ref (s.heap.objs.size + 1), H', I3, rfl, q3⟩
end
section
variable {X : Cx} {W : WX} {e : Expr} {es : List Expr} {fa : DA} {x : Str} {C : Addr} {pos p : Pos} {k : Nat} {fs : List Str} {dvs : List V} {dfs : List D} {g : List D → Prop → XP → Prop}
theorem y_make (c : Mkr X.prog X.w X.K X.mg X.base x C k fs dvs dfs g) (hr : Room (k + 1) X.A) (hg : Gl X x) (tk : Takes X W) (ha : ∀ E, PA X (e :: es) (tA X.K E fa)) (hdb : (x == ("__debug__" : Str)) = false := by decide)
    (he : starEach (e :: es) X.env = (false, eval e X.env) :: starEach es X.env := by rfl) (hpl : (backTo pos (starEach es X.env)).any (·.1) = false := by rfl) :
    PE X (.Call (.Name x p) (e :: es) [] pos) (tW X.K W (fun δ P Z => fa δ (fun ds => (ds ++ dfs).length = fs.length ∧ g (ds ++ dfs) (P (.obj C fs (ds ++ dfs))) Z) Z)) := by
  obtain ⟨f, fd, ps, dv, M, F, hb, hd⟩ := c.ex
  refine ⟨fun pins s σ H Q I ⟨r, A, δ, P, Z, R, h, hq, hz⟩ => ?_⟩
  refine wpAny_Call_Name_kw (ld_glob I hg c.m ?_ hdb)
  refine PySem.W.callWith_K (h₀ := X.base) I.ok.mod.kin M.kp (thn ((ha (fun c d H' => W c d σ H')).run pos pins s σ H (fun vs H1 => ∃ ds, Ext r H H1 ∧ RndOk r H1 ∧ DRs X.K r A H1 vs ds ∧ (ds ++ dfs).length = fs.length ∧ g (ds ++ dfs) (P (.obj C fs (ds ++ dfs))) Z) I ⟨r, A, δ, _, Z, R, h, fun ds vs H1 h3 x1 n1 r1 => ⟨ds, x1, n1, r1, h3⟩, hz⟩) fun us s1 ⟨vs, H1, I1, ru, ds, x1, n1, r1, h3⟩ => ⟨I1.kIn, ?_⟩) he hpl
  refine run_makeW M F hr hb hd tk I1 ru fun o dx no nd ne => ?_
  have w1 := (R.ext x1 n1).wd
  have all := r1.append (c.dfl r A H1)
  have nA : ¬ A o := w1.free no
  have e1 : Ext r H1 (upd (upd H1 dx (.own o)) o (.ins C dx [])) := (Ext.upd nd).trans (Ext.upd (by rw [upd_ne (Ne.symm ne)]; exact no))
  have rn1 : RndOk r (upd (upd H1 dx (.own o)) o (.ins C dx [])) := (n1.upd nd).upd (by rw [upd_ne (Ne.symm ne)]; exact no)
  refine ⟨r, A, o, dx, vs ++ dvs, ds ++ dfs, _, Z, rfl, upd_same, nA, w1.ext e1 rn1, all.ext (e1.toA w1.ar), h3.1, h3.2, fun H' hp kp rn e2 => ⟨rfl, ?_⟩, fun y cc dd H' z kp rn xr => hz y cc dd H' z (fun b o2 hb2 q => ?_) rn xr⟩
  · have k1 : Ext r H1 H' := fun b o2 hb2 q => kp b o2 hb2 (ne_of_none q no) (e1 b o2 hb2 q)
    exact hq _ _ _ hp (x1.trans k1) rn (.obj nA e2 (by rw [all.length, h3.1]) (all.ext (k1.toA w1.ar)))
  · have q1 := x1 b o2 hb2 q
    exact kp b o2 hb2 (ne_of_none q1 no) (e1 b o2 hb2 q1)
end
end L3

namespace L3
open PySem PySem.Spec PyProof.Rows L2
/-! ### tuple * 0, tuple * 1 -/
theorem mul_one {l n : Nat} {xs : Array Value} {dc : Option Addr} {so : Array (Option Value)} {u : Tok} :
    Meets (Builtin.«tuple.__mul__» ⟨[.ref l, .int 1 u], []⟩) (fun _ R s => s.heap.get? l = some { cls := .type "tuple", dict := dc, data := .seq xs n, slots := so } ∧ R (.ok (.ret (.ref l))) s) :=
  .of_wp fun prog w A R ⟨hp, gs, dr, tk, os⟩ ⟨at_, want⟩ => by
    have f1 := AutoSeq1.idx_int
    wp_walk using wpAny_loadPart' at_
    exact ⟨_, rfl, want⟩
theorem mul_zero {l n : Nat} {xs : Array Value} {dc : Option Addr} {so : Array (Option Value)} {u : Tok} (hx : xs.isEmpty = false) :
    Meets (Builtin.«tuple.__mul__» ⟨[.ref l, .int 0 u], []⟩) (fun _ R s => s.heap.get? l = some { cls := .type "tuple", dict := dc, data := .seq xs n, slots := so } ∧ R (.ok (.ret (.ref s.heap.objs.size))) { s with heap := s.heap.push { cls := Value.type "tuple", data := Data.seq #[] } }) :=
  .of_wp fun prog w A R ⟨hp, gs, dr, tk, os⟩ ⟨at_, want⟩ => by
    have f1 := AutoSeq1.idx_int
    have e1 : (xs.isEmpty || (0 : Int) == 1) = false := by rw [hx]; rfl
    wp_walk using wpAny_loadPart' at_
    repeat (first
      | (refine wpAny_ite_false (decide_eq_false (by rw [e1]; exact Bool.false_ne_true)) ?_; wp_walk using wpAny_loadPart' at_))
    exact ⟨_, rfl, want⟩
def rRep1 (K : PySem.W.Frag) : R2 := fun x y H Q => ∃ l xs, x = .ref l ∧ y = .int 1 ∧ SqT K H l xs ∧ Q (.ref l) H
def rRep0 (K : PySem.W.Frag) : R2 := fun x y H Q => ∃ l xs, x = .ref l ∧ y = .int 0 ∧ SqT K H l xs ∧ xs ≠ [] ∧ ∀ p, H p = none → Q (.ref p) (upd H p (.tup []))
section
variable {X : Cx}
theorem op_rep1 : OpR X (binaryOp .Mult) (rRep1 X.K) := by
  rintro pins s σ H x y v u Q I rx ry ⟨l, xs, rfl, rfl, hT, q⟩
  cases rx
  obtain ⟨t, rfl⟩ := ry
  obtain ⟨its, rv, ⟨⟨cl, dd, da, so⟩, ho, e1, n, e2⟩, _⟩ := I.tuple hT
  cases (show cl = .type "tuple" from e1); cases (show da = .seq its.toArray n from e2)
  exact wpAny_binaryOp_repeat_ref (T := "tuple") (U := "int") (by decide) ⟨_, ho, rfl⟩ (fun s2 => typeIs_int s2 1 t) noFill_tuple_mul F.fills_int_mul F.slot_int_rmul repeat_tuple F.slot_int_index.lookup
    (call_meets F.slot_int_rmul (typeIs_int s 1 t) F.entry_int_rmul (F.args_int_rmul_2 _ _) (int_rmul_tuple 1 t l its.toArray n dd so) ⟨ho, rfl, ⟨_, ho, rfl⟩, call_meets F.slot_tuple_mul ⟨_, ho, rfl⟩ F.entry_tuple_mul (F.args_tuple_mul_2 _ _) mul_one ⟨ho, .ref l, H, I, rfl, q⟩⟩)
theorem op_rep0 : OpR X (binaryOp .Mult) (rRep0 X.K) := by
  rintro pins s σ H x y v u Q I rx ry ⟨l, xs, rfl, rfl, hT, hne, q⟩
  cases rx
  obtain ⟨t, rfl⟩ := ry
  obtain ⟨its, rv, ⟨⟨cl, dd, da, so⟩, ho, e1, n, e2⟩, _⟩ := I.tuple hT
  cases (show cl = .type "tuple" from e1); cases (show da = .seq its.toArray n from e2)
  have full : its.toArray.isEmpty = false := by
    cases rv with
    | nil => exact absurd rfl hne
    | cons _ _ => rfl
  refine wpAny_binaryOp_repeat_ref (T := "tuple") (U := "int") (by decide) ⟨_, ho, rfl⟩ (fun s2 => typeIs_int s2 0 t) noFill_tuple_mul F.fills_int_mul F.slot_int_rmul repeat_tuple F.slot_int_index.lookup
    (call_meets F.slot_int_rmul (typeIs_int s 0 t) F.entry_int_rmul (F.args_int_rmul_2 _ _) (int_rmul_tuple 0 t l its.toArray n dd so) ⟨ho, rfl, ⟨_, ho, rfl⟩, call_meets F.slot_tuple_mul ⟨_, ho, rfl⟩ F.entry_tuple_mul (F.args_tuple_mul_2 _ _) (mul_zero full) ⟨ho, ?_⟩⟩)
  exact ⟨.ref s.heap.objs.size, _, I.laid (t' := s.toks) (o := .tup []) (fun b ob z => Heap.get?_push_of_some _ z) (Nat.le_refl _) ⟨Nat.zero_le _, [], .nil, IsTup.new _ _⟩, rfl, q _ (I.hok.fresh (Nat.le_refl _))⟩
def rRepA (K : PySem.W.Frag) : R2 := fun x y H Q => (rRep0 K x y H Q ∨ rRep1 K x y H Q) ∨ rRepT K x y H Q
theorem op_repA : OpR X (binaryOp .Mult) (rRepA X.K) := fun pins s σ H x y v u Q I rx ry h => by
  rcases h with (h | h) | h
  · exact op_rep0 pins s σ H x y v u Q I rx ry h
  · exact op_rep1 pins s σ H x y v u Q I rx ry h
  · exact op_repT pins s σ H x y v u Q I rx ry h
end
def repD : D → D → DP → Prop
  | .tup ds, .int k, P => ds ≠ [] ∧ 0 ≤ k ∧ k ≤ 1000 ∧ ds.length ≤ 1000 ∧ P (.tup (List.replicate k.toNat ds).flatten)
  | _, _, _ => False
theorem DRs.rep {K : PySem.W.Frag} {r : Addr} {A : Addr → Prop} {H : Hp} {xs : List V} {ds : List D} (t : DRs K r A H xs ds) : ∀ n : Nat, DRs K r A H (List.replicate n xs).flatten (List.replicate n ds).flatten
  | 0 => .nil
  | n + 1 => by
    rw [List.replicate_succ, List.replicate_succ, List.flatten_cons, List.flatten_cons]
    exact t.append (t.rep n)
theorem od_rep {K : PySem.W.Frag} : OpD K (rRepA K) repD := fun r A H x y d e P Q w hx hy h q => by
  match d, e, h with
  | .tup ds, .int k, h =>
    obtain ⟨h1, h2, h3, h4, h5⟩ : ds ≠ [] ∧ 0 ≤ k ∧ k ≤ 1000 ∧ ds.length ≤ 1000 ∧ P (.tup (List.replicate k.toNat ds).flatten) := h
    cases hy
    have hx' := hx
    obtain ⟨a, xs, rfl, sq, zl, t⟩ := hx.sqT
    have ne : xs ≠ [] := fun z => h1 (by rw [z] at t; cases t; rfl)
    have len := t.length
    by_cases k0 : k = 0
    · subst k0
      refine .inl (.inl ⟨a, xs, rfl, rfl, sq, ne, fun p np => q _ _ _ h5 (Ext.upd np) (w.rnd.upd np) ?_⟩)
      exact w.tup np (Nat.zero_le _) .nil
    · by_cases k1 : k = 1
      · subst k1
        refine .inl (.inr ⟨a, xs, rfl, rfl, sq, q _ _ _ h5 .refl w.rnd ?_⟩)
        rw [show (List.replicate (1 : Int).toNat ds).flatten = ds from by show (ds ++ []) = ds; rw [List.append_nil]]
        exact hx'
      · refine .inr ⟨a, k, xs, rfl, rfl, sq, ne, by omega, h3, by omega, fun p np => q _ _ _ h5 (Ext.upd np) (w.rnd.upd np) ?_⟩
        refine w.tup np ?_ (t.rep _)
        rw [PyProof.Rows.lm_len_rep_flat, sizeLine_eq]
        have : k.toNat * xs.length ≤ 1000 * 1000 := Nat.mul_le_mul (by omega) (by omega)
        omega
end L3
namespace L3
open PySem PySem.Spec PyProof.Rows L2
/-- a method of the class at C: its promise by data -/
structure OwnM (P : Program) (w : World) (K : PySem.W.Frag) (mg : Str → Option Value) (base : Heap) (C : Addr) (m : Str) (k n : Nat) (g : DF) : Prop where
  ex : ∃ (f : Addr) (fd : FuncData) (ps : List Str), FnOk P w K mg base (L2.CX P w) k f fd ps (spD K n g) ∧ PySem.W.findIn K (.ref C) m = some (some (.ref f)) ∧ PySem.W.isFn K (.ref f) = true ∧ Binds K fd ps []
section
variable {X : Cx} {E : XK} {C : Addr} {k : Nat} {g : DF} {es : List Expr} {e : Expr} {fs : DA} {p pos : Pos}
theorem op_own (c : OwnM X.prog X.w X.K X.mg X.base C "__eq__" k 2 g) (hr : Room k X.A) : OpR X (compareOp .Eq) (rOwnEq X.K C (spD X.K 2 g) E0) := by
  obtain ⟨f, fd, ps, F, h1, h2, h3⟩ := c.ex
  exact op_ownEq F hr h1 h2 h3 pass0
theorem e_lenO (c : OwnM X.prog X.w X.K X.mg X.base C "__len__" k 1 g) (hr : Room (k + 1) X.A) (hg : Gl X "len") (hm : X.mg "len" = none) (ha : PA X (e :: es) (tA X.K E fs))
    (he : starEach (e :: es) X.env = (false, eval e X.env) :: starEach es X.env := by rfl) (hpl : (backTo pos (starEach es X.env)).any (·.1) = false := by rfl) :
    PE X (.Call (.Name "len" p) (e :: es) [] pos) (tE X.K E (fun δ P Z => fs δ (fun ds => ownLenD C g ds P) Z)) := by
  obtain ⟨f, fd, ps, F, h1, h2, h3⟩ := c.ex
  exact e_callB (call_ownLen F hr h1 h2 h3 pass0) cd_ownLen hg hm (by decide +kernel) ha (by decide) (by decide) he hpl
end
end L3
namespace L3
open PySem PySem.Spec PyProof.Rows L2
section
variable {X : Cx} {E : XK} {e tg : Expr} {fe : DE} {g : DG} {gt : TG} {pos : Pos}
/-- a target of several names, the value a tuple -/
theorem s_asg (he : PE X e (tE X.K E fe)) (hG : tGs X.K g gt) (hg : PG X tg gt) (hs : swapsWithSole [tg] e pos.line X.env = pure false := by rfl) (hw : swappedStores [tg] e X.env = pure none := by rfl)
    (h1 : (assignEach [tg] X.env).map (·.2) = [assign tg X.env] := by rfl) :
    PS X (.Assign [tg] e pos) (tS X.K E (fun P δ => fe δ (fun d => g d δ P.nx) P.ex)) := PS.imp (ps_asg he hg hs hw h1) fun D σ H ⟨r, A0, H0, δ, P, R, h, L⟩ =>
  use_of R L h fun d v H' h2 x2 n2 r2 => hG r A0 H0 v d σ H' δ P.nx D.nx (R.move x2 n2) r2 h2 fun δ' σ' q R' => L.nx _ _ _ q R'
end
end L3

/-! Set comprehensions by clauses: one rule for a clause's loop, whatever is done within it. -/
namespace L3
open PySem PySem.Spec PyProof.Rows L2
/-- a clause's turn; within: what is done with what follows it -/
def turnC (C : Expr) (k : Nat) (tg iter : Expr) (ifs : List Expr) (within : Sem Fin → Sem Fin) (it acc : Value) (env : PySem.Env) : Sem Fin := do
  standAt iter.pos
  let r ← pyNext it
  match r with
  | none => pure (.done .next)
  | some v =>
    letOwnedTupleGo tg it v
    assign tg env v
    let ok ← forIn ifs true fun c r => if r = true then do let ok ← isTrue c env (eval c env); pure (ForInStep.yield ok) else pure (ForInStep.yield r)
    if ok = true then within (again (.compLoop C k it acc env)) else again (.compLoop C k it acc env)
def addIn (elt : Expr) (acc : Value) (env : PySem.Env) (K : Sem Fin) : Sem Fin := (do
  let v ← eval elt env
  standAt elt.pos
  let _ ← call (.builtin "set.add") [acc, v]
  pure PUnit.unit) >>= fun _ => K
def nextIn (C iter1 : Expr) (acc : Value) (env : PySem.Env) (K : Sem Fin) : Sem Fin := do
  let x ← eval iter1 env
  standAt iter1.pos
  let x ← foldedSetIterable iter1 env x
  let i ← holding [x] (pyIter x)
  let _ ← runOwn (.compStart C 1 i acc env) env
  K
theorem turn_one (elt t i : Expr) (ifs : List Expr) (sc : Scope) (pos : Pos) (it acc : Value) (env : PySem.Env) :
    compTurn (.SetComp elt [⟨t, i, ifs, 0⟩] sc pos) 0 it acc env = turnC (.SetComp elt [⟨t, i, ifs, 0⟩] sc pos) 0 t i ifs (addIn elt acc env) it acc env := by rfl
theorem turn_fst (elt t i t1 i1 : Expr) (ifs ifs1 : List Expr) (sc : Scope) (pos : Pos) (it acc : Value) (env : PySem.Env) :
    compTurn (.SetComp elt [⟨t, i, ifs, 0⟩, ⟨t1, i1, ifs1, 0⟩] sc pos) 0 it acc env = turnC (.SetComp elt [⟨t, i, ifs, 0⟩, ⟨t1, i1, ifs1, 0⟩] sc pos) 0 t i ifs (nextIn (.SetComp elt [⟨t, i, ifs, 0⟩, ⟨t1, i1, ifs1, 0⟩] sc pos) i1 acc env) it acc env := by rfl
theorem turn_snd (elt t i t1 i1 : Expr) (ifs ifs1 : List Expr) (sc : Scope) (pos : Pos) (it acc : Value) (env : PySem.Env) :
    compTurn (.SetComp elt [⟨t, i, ifs, 0⟩, ⟨t1, i1, ifs1, 0⟩] sc pos) 1 it acc env = turnC (.SetComp elt [⟨t, i, ifs, 0⟩, ⟨t1, i1, ifs1, 0⟩] sc pos) 1 t1 i1 ifs1 (addIn elt acc env) it acc env := by rfl

abbrev Nay : Value → Shared → Prop := fun _ _ => False
theorem on {α : Type} {B : Cx} (q : ∀ v s, ¬ B.xe v s) {m : Sem α} {Q Q' : α → Shared → Prop} {M : Model} {A : Around} {E : Value → Shared → Prop} {s : Shared} (h : wpAny M A m Q B.xe s) (k : ∀ a s, Q a s → Q' a s) : wpAny M A m Q' E s :=
  wpAny_mono h k fun v s z => (q v s z).elim
section
variable {prog : Program} {w : World} {A : Around} {R : Result → Shared → Prop} {env : PySem.Env} {C tg iter : Expr} {k : Nat} {ifs : List Expr} {it acc : Value} {within : Sem Fin → Sem Fin}
theorem loop_c (hC : ∃ elt gens sc pos, C = .SetComp elt gens sc pos) (hT : compTurn C k it acc env = turnC C k tg iter ifs within it acc env) (J : Nat → Shared → Prop) (turn : ∀ n s, J n s → wpAny (model prog w) A (pyNext it) (fun r s1 => match r with
      | none => R (.ok .next) s1
      | some v => wpAny (model prog w) A (letOwnedTupleGo tg it v) (fun _ s2 => wpAny (model prog w) A (assign tg env v) (fun _ s3 =>
          wpAny (model prog w) A (forIn ifs true fun c r => if r = true then do let ok ← isTrue c env (eval c env); pure (ForInStep.yield ok) else pure (ForInStep.yield r)) (fun ok s4 =>
            if ok = true then ∀ (K : Sem Fin) (Q : Fin → Shared → Prop) (E : Value → Shared → Prop), (∀ s', (∃ m, m < n ∧ J m s') → wpAny (model prog w) A K Q E s') → wpAny (model prog w) A (within K) Q E s4
            else ∃ m, m < n ∧ J m s4) Nay s3) Nay s2) Nay s1) Nay s) (n : Nat) (s : Shared) (h : J n s) : codeAny (model prog w) A (.compLoop C k it acc env) R s := by
  obtain ⟨_, _, _, _, rfl⟩ := hC
  refine codeAny_loop rfl J (fun n s j => ?_) n h
  show wpAny _ A ((compTurn _ k it acc env).onRaise (fun x => do noteFrame x env; theTreesLotGoes x)) _ _ s
  rw [hT]
  unfold turnC
  refine wpAny_noted (wpAny_bind (wpAny_standAt (wpAny_bind (thnF (turn n s j) fun r s1 h1 => ?_))))
  cases r with
  | some v =>
    refine wpAny_bind (thnF h1 fun _ s2 h2 => wpAny_bind (thnF h2 fun _ s3 h3 => wpAny_bind (thnF h3 fun ok s4 h4 => ?_)))
    cases ok with
    | true => exact h4 _ _ _ fun s' q => wpAny_pure ⟨rfl, q⟩
    | false => exact wpAny_pure ⟨rfl, h4⟩
  | none => exact wpAny_pure h1
end
/-- what a clause does within, told from the slots σ on; vs: the slots that it leaves unknown -/
def Within (B : Cx) (m : Sem Fin → Sem Fin) (vs : List Nat) (t : L2.St → Hp → (Hp → Prop) → Prop) : Prop :=
  ∀ (pins : List (Addr × Obj)) (s : Shared) (σ : L2.St) (H : Hp) (N : Hp → Prop) (K : Sem Fin) (Q : Fin → Shared → Prop) (E : Value → Shared → Prop), Inv B pins σ H s → t σ H N →
    (∀ s' H', Inv B pins (wipe σ vs) H' s' → N H' → wpAny (model B.prog B.w) B.A K Q E s') → wpAny (model B.prog B.w) B.A (m K) Q E s
/-- what is asked of a clause's loop -/
def LoopAsk (J : It) (g : TG) (tt : TT) (ti : L2.St → Hp → (Hp → Prop) → Prop) (vs : List Nat) (σ : L2.St) (H1 : Hp) (F : Hp → Prop) : Prop := ∃ W : Nat → Nat → Hp → Prop, (∃ m, W 0 m H1) ∧ ∀ i m H, W i m H →
  (J.stop i H ∧ F H) ∨ (J.go i H ∧ ∃ Nx : Hp → Prop, (∀ H', Nx H' → ∃ m', m' < m ∧ W (i + 1) m' H') ∧ ∀ x H', J.yld i H x H' → g x (wipe σ vs) H' fun σ2 H2 => wipe σ2 vs = wipe σ vs ∧ tt σ2 H2 fun b H3 => if b = true then ti σ2 H3 Nx else Nx H3)
section
variable {B : Cx} {C tg iter elt : Expr} {k : Nat} {ifs : List Expr} {acc : Value} {m : Sem Fin → Sem Fin} {vs vs' : List Nat} {g : TG} {tt : TT} {te : TE} {ti : L2.St → Hp → (Hp → Prop) → Prop}
theorem clause {J : It} {pins : List (Addr × Obj)} {σ : L2.St} {H1 : Hp} {s : Shared} {F : Hp → Prop} {it : Addr} {fp : List Addr} {tn : Nat → Heap → Prop} (hC : ∃ elt gens sc pos, C = .SetComp elt gens sc pos) (hc : B.calm = true) (q : ∀ v s, ¬ B.xe v s) (hT : compTurn C k (.ref it) acc B.env = turnC C k tg iter ifs m (.ref it) acc B.env)
    (pg : PG B tg g) (pt : PTs B ifs tt) (pw : Within B m vs' ti) (hv : ∀ i ∈ vs', i ∈ vs) (T : Turn B.prog B.w B.K tg J fp it tn) (stat : ∀ H' s', Inv B pins (wipe σ vs) H' s' → (∀ b ∈ fp, H' b = none) → ∀ b ∈ fp, FpOk B pins H' b)
    (I : Inv B pins (wipe σ vs) H1 s) (st : tn 0 s.heap) (n1 : ∀ b ∈ fp, H1 b = none) (h : LoopAsk J g tt ti vs σ H1 F) :
    codeAny (model B.prog B.w) B.A (.compLoop C k (.ref it) acc B.env) (fun r s' => match r with
      | .ok f => f = .next ∧ ∃ H', Inv B pins (wipe σ vs) H' s' ∧ F H'
      | .error _ => False) s := by
  obtain ⟨W, ⟨m0, w0⟩, turn⟩ := h
  refine loop_c hC hT (fun n s' => ∃ i H', Inv B pins (wipe σ vs) H' s' ∧ tn i s'.heap ∧ (∀ b ∈ fp, H' b = none) ∧ W i n H') ?_ m0 s ⟨0, H1, I, st, n1, w0⟩
  rintro n s5 ⟨i, H5, I5, st5, n5, w5⟩
  rcases turn i n H5 w5 with ⟨stop, f⟩ | ⟨go, Nx, hNx, step⟩
  · refine thnF (T.done B rfl rfl rfl hc i pins s5 _ H5 Nay I5 (stat _ _ I5 n5) st5 stop) fun r s6 ⟨hr, I6⟩ => ?_
    subst hr
    exact ⟨rfl, H5, I6, f⟩
  · refine thnF (T.item B rfl rfl rfl hc i pins s5 _ H5 Nay I5 (stat _ _ I5 n5) st5 go) fun r s6 ⟨u, hr, h6⟩ => ?_
    subst hr
    refine thnF h6 fun _ s7 ⟨x, H7, I7, r7, y7, st7, n7⟩ => ?_
    refine on q (pg.run _ s7 _ H7 x u _ (I7.pinned (stat _ _ I7 n7) (T.obj _ _ st7)) r7 (step x H7 y7)) fun _ s8 ⟨σ8, H8, I8, e8, q8⟩ => ?_
    refine on q (pt.run _ s8 σ8 H8 _ I8 q8) fun b s9 ⟨H9, I9, q9⟩ => ?_
    have back : ∀ {σ' : L2.St} {s' : Shared} {H' : Hp}, Inv B (pins ++ pinsAt fp s7.heap) σ' H' s' → (wipe σ vs).length = σ'.length → (∀ (j : Nat) v, (wipe σ vs)[j]? = some (some v) → σ'[j]? = some (some v)) → Nx H' →
        ∃ n', n' < n ∧ ∃ i H', Inv B pins (wipe σ vs) H' s' ∧ tn i s'.heap ∧ (∀ b ∈ fp, H' b = none) ∧ W i n' H' := fun {σ' s' H'} I' hl hk nx => by
      obtain ⟨n', lt, w'⟩ := hNx H' nx
      have pinned : ∀ b ∈ fp, ∀ o, s7.heap.get? b = some o → s'.heap.get? b = some o ∧ H' b = none := fun b hb o e => by
        have z := I'.pin (b, o) (List.mem_append_right _ (List.mem_append_right _ (mem_pinsAt hb e)))
        exact ⟨z.1, z.2.1⟩
      refine ⟨n', lt, i + 1, H', I'.unpinned.weak hl hk, T.keep _ _ _ st7 fun b hb o e => (pinned b hb o e).1, fun b hb => ?_, w'⟩
      obtain ⟨o, e, _⟩ := T.obj _ _ st7 b hb
      exact (pinned b hb o e).2
    have len8 : (wipe σ vs).length = σ8.length := by rw [← e8, wipe_length]
    have old8 : ∀ (j : Nat) v, (wipe σ vs)[j]? = some (some v) → σ8[j]? = some (some v) ∧ j ∉ vs := fun j v e => by
      rw [← e8] at e
      exact wipe_some e
    cases b with
    | false => exact back I9 len8 (fun j v e => (old8 j v e).1) q9
    | true =>
      intro K Q E hK
      refine pw _ s9 σ8 H9 Nx K Q E I9 q9 fun s' H' I' nx => hK s' (back I' (len8.trans (wipe_length _ _).symm) (fun j v e => ?_) nx)
      obtain ⟨e1, e2⟩ := old8 j v e
      rw [wipe_out fun z => e2 (hv j z)]
      exact e1
/-- an int goes into the set -/
def tPut (w : World) (D : Addr) (te : TE) : L2.St → Hp → (Hp → Prop) → Prop := fun σ H N => te σ H fun y H7 => ∃ (k : Int) (S : Int → Bool) (n : Nat), y = .int k ∧ H7 D = some (SetO w D S n) ∧ n + 1 < scanBound ∧ N (upd H7 D (SetO w D (fun j => S j || decide (j = k)) (if S k = true then n else n + 1)))
theorem within_put {D : Addr} (q : ∀ v s, ¬ B.xe v s) (pe : PE B elt te) : Within B (addIn elt (.ref D) B.env) [] (tPut B.w D te) := by
  intro pins s σ H N K Q E I h hK
  unfold addIn
  refine wpAny_bind (wpAny_bind (on q (pe.run pins s σ H _ I h) fun v s1 ⟨y, H1, I1, r1, k, S, n, e, hD, room, nx⟩ => wpAny_bind (wpAny_standAt (wpAny_bind ?_))))
  subst e
  exact on q (mt_sadd pins s1 σ H1 (.ref D) [.int k] (.ref D) [v] (fun _ H' => N H') I1 rfl (.cons r1 .nil) ⟨D, k, S, n, rfl, rfl, hD, room, nx⟩) fun _ s2 ⟨_, H2, I2, _, n2⟩ => wpAny_pure (hK s2 H2 I2 n2)
end
section
variable {prog : Program} {w : World} {A : Around} {R : Result → Shared → Prop} {s : Shared} {env : PySem.Env} {elt t i t1 i1 : Expr} {ifs ifs1 : List Expr} {sc : Scope} {pos : Pos} {it acc : Value}
theorem start_two (h0 : codeAny (model prog w) A (.compLoop (.SetComp elt [⟨t, i, ifs, 0⟩, ⟨t1, i1, ifs1, 0⟩] sc pos) 1 it acc env) R s)
    (h : wpAny (model prog w) A (pyIter it) (fun it' s' => codeAny (model prog w) A (.compLoop (.SetComp elt [⟨t, i, ifs, 0⟩, ⟨t1, i1, ifs1, 0⟩] sc pos) 1 it' acc env) R s') Nay s) :
    codeAny (model prog w) A (.compStart (.SetComp elt [⟨t, i, ifs, 0⟩, ⟨t1, i1, ifs1, 0⟩] sc pos) 1 it acc env) R s := by
  refine codeAny_of_tree ?_
  show wpAny _ _ ((compStart (.SetComp elt [⟨t, i, ifs, 0⟩, ⟨t1, i1, ifs1, 0⟩] sc pos) 1 it acc env).onRaise (fun x => do noteFrame x env; standAt theWindowsPlace)) _ _ s
  refine wpAny_notedAt ?_
  unfold compStart
  show wpAny _ _ (ask >>= _) _ _ s
  refine wpAny_bind (wpAny_askSetting (wpAny_ite ?_))
  split
  · first
      | exact wpAny_pure ⟨rfl, h0⟩
      | exact wpAny_bind (wpAny_pure (wpAny_pure ⟨rfl, h0⟩))
  · have z := fun E => thnF (E := E) h fun it' s' z => wpAny_pure (M := model prog w) (A := A) (E := E) (s := s') (Q := fun fin s' => match fin with
      | .done f => R (.ok f) s'
      | .again c' => c'.quiet = true ∧ codeAny (model prog w) A c' R s') (a := Fin.again (.compLoop (.SetComp elt [⟨t, i, ifs, 0⟩, ⟨t1, i1, ifs1, 0⟩] sc pos) 1 it' acc env)) ⟨rfl, z⟩
    exact wpAny_bind (wpAny_rule (wpAny_bind (wpAny_standAt (wpAny_bind (z _)))))
end
section
variable {B : Cx} {elt tg iter tg1 iter1 : Expr} {ifs ifs1 : List Expr} {sc : Scope} {pos : Pos} {acc : Value} {m : Sem Fin → Sem Fin} {vs vs' : List Nat} {g1 : TG} {tt1 : TT} {wi1 : TI} {ti : L2.St → Hp → (Hp → Prop) → Prop}
/-- the second clause, within the first -/
theorem within_next (hc : B.calm = true) (q : ∀ v s, ¬ B.xe v s) (pi : PI B tg1 iter1 wi1) (pg : PG B tg1 g1) (pt : PTs B ifs1 tt1) (hs1 : ∀ env x, foldedSetIterable iter1 env x = pure x)
    (pw : Within B (addIn elt acc B.env) vs' ti) (hv : ∀ i ∈ vs', i ∈ vs) :
    Within B (nextIn (.SetComp elt [⟨tg, iter, ifs, 0⟩, ⟨tg1, iter1, ifs1, 0⟩] sc pos) iter1 acc B.env) vs (fun σ H N => wi1 σ H fun J1 H4 => LoopAsk J1 g1 tt1 ti vs σ H4 N) := by
  intro pins s σ H N K Q E I h hK
  unfold nextIn
  refine wpAny_bind (on q (pi.run pins s σ H _ I h) fun xv s1 hx => wpAny_bind (wpAny_standAt (wpAny_bind (wpAny_of_eq (hs1 _ _) (wpAny_bind (wpAny_holding (on q hx fun itv s2 h2 => ?_)))))))
  obtain ⟨it, fp, tn, J, H2, e, I2, T, st2, f2, ask⟩ := h2
  subst e
  have lp := clause (C := .SetComp elt [⟨tg, iter, ifs, 0⟩, ⟨tg1, iter1, ifs1, 0⟩] sc pos) (k := 1) ⟨_, _, _, _, rfl⟩ hc q (turn_snd ..) pg pt pw hv T (fun H' s' _ hn b hb => ⟨hn b hb, (f2 b hb).2⟩) (I2.weak (wipe_length _ _) fun j v e => (wipe_some e).1) st2 (fun b hb => (f2 b hb).1) ask
  refine wpAny_bind (wpAny_runOwn ?_)
  rw [Around.mark_none]
  refine codeAny_mono (start_two lp (T.self B.A 0 _ _ _ st2 lp)) fun r s' hr => ?_
  cases r with
  | ok f =>
    obtain ⟨_, H', I', nx⟩ := hr
    exact hK s' H' I' nx
  | error e => exact hr.elim
end
section
variable {X : Cx} {elt tg iter tg1 iter1 : Expr} {ifs ifs1 : List Expr} {scope : Scope} {own : List (Str × Nat)} {vs1 : List Nat} {pos : Pos} {wi wi1 : TI} {g g1 : TG} {tt tt1 : TT} {te : TE}
/-- for all blocks of X -/
abbrev Blks (X : Cx) (scope : Scope) (p : Cx → Prop) : Prop := ∀ (s : Shared) (H : Hp) (C : Addr) (cl : List (Str × Addr)) (fp : List Addr), p (X.blk s H scope (compEnvC scope cl C X.env) fp)
/-- the new set, and what the first clause's loop asks -/
def tSetc (w : World) (wi : TI) (g : TG) (tt : TT) (ti : Addr → L2.St → Hp → (Hp → Prop) → Prop) (vs : List Nat) : TE := fun σ H Q => wi σ H fun J H1 => ∀ D, H1 D = none → LoopAsk J g tt (ti D) vs σ (upd H1 D (SetO w D (fun _ => false) 0)) fun H' => Q (.ref D) H'
theorem set_any {gs : List Comprehension} {ti : Addr → L2.St → Hp → (Hp → Prop) → Prop} {vs' : List Nat} {mk : Value → PySem.Env → Sem Fin → Sem Fin} (hc : X.calm = true) (hN : X.N.Nodup) (hi : PI X tg iter wi) (ok : BlkOk X.N X.env.scope scope own)
    (hg : Blks X scope fun B => PG B tg g) (ht : Blks X scope fun B => PTs B ifs tt) (hs : ∀ x, foldedSetIterable iter X.env x = pure x) (hv : ∀ i ∈ vs', i ∈ own.map (·.2))
    (hw : Blks X scope fun B => ∀ D, Within B (mk (.ref D) B.env) vs' (ti D))
    (hT : ∀ it acc env, compTurn (.SetComp elt (⟨tg, iter, ifs, 0⟩ :: gs) scope pos) 0 it acc env = turnC (.SetComp elt (⟨tg, iter, ifs, 0⟩ :: gs) scope pos) 0 tg iter ifs (mk acc env) it acc env) :
    PE X (.SetComp elt (⟨tg, iter, ifs, 0⟩ :: gs) scope pos) (tSetc X.w wi g tt ti (own.map (·.2))) := by
  refine ⟨fun pins s σ H Q I h => ?_⟩
  rw [PpSet.eval_SetComp]
  have clo : ∀ y ∈ scope.names, y.2 = .free → ∃ c, X.env.cells.lookup y.1 = some c := fun y hy e => (ok.free y hy e).elim (fun k => I.ok.has _ (.inl k)) fun k => I.ok.has _ (.inr k)
  refine wpAny_comprehension_free (use := none) rfl hs (closure_ok clo) ok.kind (fun y hy e => by rw [ok.uniq y hy, e]) (thn (hi.run pins s σ H _ I h) fun xv s1 hx => thn hx fun itv s2 h2 => ?_)
  obtain ⟨it, fp, tn, J, H2, e, I2, T, st2, f2, q⟩ := h2
  subst e
  refine PpSet.newSet_ok (newEnv_comp ?_)
  have nD : H2 s2.heap.objs.size = none := I2.hok.fresh (Nat.le_refl _)
  have ask := q _ nD
  generalize hp : s2.heap.push { cls := .type "set", dict := none, data := .set #[] 0 (.fresh 0 0 (!X.w.params.followText "set-order")) } = h3
  have kp : ∀ b o, s2.heap.get? b = some o → h3.get? b = some o := fun b o e => by rw [← hp]; exact Heap.get?_push_of_some _ e
  have hz : h3.objs.size = s2.heap.objs.size + 1 := by rw [← hp, Heap.size_push]
  have new : ObjOk X.prog X.w (upd H2 s2.heap.objs.size (SetO X.w s2.heap.objs.size (fun _ => false) 0)) h3 s2.heap.objs.size (SetO X.w s2.heap.objs.size (fun _ => false) 0) := by rw [← hp]; exact setO_new (setR_fresh X.w)
  have I3 : Inv X pins σ _ { s2 with heap := h3, toks := s2.toks } := I2.laid kp (Nat.le_refl _) new
  clear new hp
  have lt2 : ∀ b ∈ fp, b < s2.heap.objs.size := fun b hb => by
    obtain ⟨o, e, _⟩ := T.obj _ _ st2 b hb
    exact Heap.lt_size e
  have f3 : ∀ b ∈ fp, FpOk X pins (upd H2 s2.heap.objs.size (SetO X.w s2.heap.objs.size (fun _ => false) 0)) b ∧ b < h3.objs.size := fun b hb =>
    ⟨⟨by rw [upd_ne (Nat.ne_of_lt (lt2 b hb))]; exact (f2 b hb).1, (f2 b hb).2⟩, by rw [hz]; exact Nat.lt_succ_of_lt (lt2 b hb)⟩
  have I4 := block_start I3 ok hN f3
  have j1 := hg ⟨h3, s2.gens, s2.drawn, s2.toks, s2.os⟩ (upd H2 s2.heap.objs.size (SetO X.w s2.heap.objs.size (fun _ => false) 0)) h3.objs.size (cellsFrom (h3.objs.size + 1) scope.names (cloFrom X.env.cells scope.names [])) fp
  have j2 := ht ⟨h3, s2.gens, s2.drawn, s2.toks, s2.os⟩ (upd H2 s2.heap.objs.size (SetO X.w s2.heap.objs.size (fun _ => false) 0)) h3.objs.size (cellsFrom (h3.objs.size + 1) scope.names (cloFrom X.env.cells scope.names [])) fp
  have j3 := hw ⟨h3, s2.gens, s2.drawn, s2.toks, s2.os⟩ (upd H2 s2.heap.objs.size (SetO X.w s2.heap.objs.size (fun _ => false) 0)) h3.objs.size (cellsFrom (h3.objs.size + 1) scope.names (cloFrom X.env.cells scope.names [])) fp
  have eL : (compEnvC scope (cellsFrom (h3.objs.size + 1) scope.names (cloFrom X.env.cells scope.names [])) h3.objs.size X.env).locals = h3.objs.size := rfl
  change L2.Inv (X.blk ⟨h3, s2.gens, s2.drawn, s2.toks, s2.os⟩ _ scope (compEnvC scope (cellsFrom (h3.objs.size + 1) scope.names (cloFrom X.env.cells scope.names [])) h3.objs.size X.env) fp) [] _ _ ⟨pushCells (h3.push ⟨.type "dict", _, .dict #[], _⟩) scope.names, s2.gens, s2.drawn, s2.toks, s2.os⟩ at I4
  show codeAny (model X.prog X.w) X.A (.compStart (.SetComp elt (⟨tg, iter, ifs, 0⟩ :: gs) scope pos) 0 (.ref it) (.ref s2.heap.objs.size) (compEnvC scope (cellsFrom (h3.objs.size + 1) scope.names (cloFrom X.env.cells scope.names [])) h3.objs.size X.env)) (compPost (model X.prog X.w) X.A X.xe none _ (.ref s2.heap.objs.size) h3.objs.size) ⟨pushCells (h3.push ⟨.type "dict", _, .dict #[], _⟩) scope.names, s2.gens, s2.drawn, s2.toks, s2.os⟩
  have st4 : tn 0 (pushCells (h3.push { cls := .type "dict", data := .dict #[] }) scope.names) := T.keep _ _ _ st2 fun b _ o e => pushCells_keeps _ _ _ _ (Heap.get?_push_of_some _ (kp b o e))
  generalize hce : compEnvC scope (cellsFrom (h3.objs.size + 1) scope.names (cloFrom X.env.cells scope.names [])) h3.objs.size X.env = ce at *
  generalize hH : upd H2 s2.heap.objs.size (SetO X.w s2.heap.objs.size (fun _ => false) 0) = H3 at *
  have lp := clause (B := X.blk ⟨h3, s2.gens, s2.drawn, s2.toks, s2.os⟩ H3 scope ce fp) (C := .SetComp elt (⟨tg, iter, ifs, 0⟩ :: gs) scope pos) (k := 0) (acc := .ref s2.heap.objs.size) ⟨_, _, _, _, rfl⟩ hc (fun _ _ z => z) (hT _ _ _) j1 j2 (j3 _) hv T
    (fun H' s' I' hn b hb => ⟨hn b hb, (I'.ok.exf b hb).1, I'.ok.exfs b hb, .inl hb, fun x c e => (I'.ok.exf b hb).2 x c e, fun p hp => absurd (show p ∈ ([] : List (Addr × Obj)) ++ [] from hp) (by simp)⟩) I4 st4 (fun b hb => (f3 b hb).1.1) ask
  refine codeAny_mono (PpSet.codeAny_compStart_set lp (T.self X.A 0 _ _ _ st4 lp)) fun r s6 hr => ?_
  cases r with
  | error e => exact hr.elim
  | ok f =>
    obtain ⟨rfl, H6, I6, q6⟩ := hr
    have I7 : Inv X pins σ H6 s6 := I3.call' (ch := fp) I6.os I6.base I6.hok I6.bare fun b hb => ⟨(f3 b hb).1.2.2.2.1, (f3 b hb).1.2.1, (f3 b hb).1.2.2.2.2.1, (f3 b hb).1.2.2.2.2.2⟩
    have nC : H6 h3.objs.size = none := by rw [← eL]; exact I6.free
    obtain ⟨ms, hn, _⟩ := I6.loc
    have hn : s6.heap.Ns ce.locals ms := hn
    rw [eL] at hn
    refine ⟨ms, hn, fun h'' sb => ?_⟩
    obtain ⟨f0, f1, f2, f3, f4, f5⟩ := I3.fpOk (H' := H6) (Nat.le_refl _) nC
    exact ⟨.ref s2.heap.objs.size, H6, I7.turned (t' := s6.toks) (fun b o hb e => (sb.2 b hb).trans e) f0 f1 f3 f4 f5, rfl, q6⟩
end
section
variable {X : Cx} {elt tg iter tg1 iter1 : Expr} {ifs ifs1 : List Expr} {scope : Scope} {own : List (Str × Nat)} {vs1 : List Nat} {pos : Pos} {wi wi1 : TI} {g g1 : TG} {tt tt1 : TT} {te : TE}
theorem pe_set1 (hc : X.calm = true) (hN : X.N.Nodup) (hi : PI X tg iter wi) (ok : BlkOk X.N X.env.scope scope own) (hg : Blks X scope fun B => PG B tg g) (ht : Blks X scope fun B => PTs B ifs tt) (he : Blks X scope fun B => PE B elt te) (hs : ∀ x, foldedSetIterable iter X.env x = pure x) :
    PE X (.SetComp elt [⟨tg, iter, ifs, 0⟩] scope pos) (tSetc X.w wi g tt (fun D => tPut X.w D te) (own.map (·.2))) :=
  set_any (gs := []) (vs' := []) (mk := addIn elt) hc hN hi ok hg ht hs (fun _ h => nomatch h) (fun s H C cl fp D => within_put (fun _ _ z => z) (he s H C cl fp)) fun it acc env => turn_one ..
theorem pe_set2 (hc : X.calm = true) (hN : X.N.Nodup) (hi : PI X tg iter wi) (ok : BlkOk X.N X.env.scope scope own) (hv : ∀ i ∈ vs1, i ∈ own.map (·.2)) (hg : Blks X scope fun B => PG B tg g) (ht : Blks X scope fun B => PTs B ifs tt)
    (hi1 : Blks X scope fun B => PI B tg1 iter1 wi1) (hg1 : Blks X scope fun B => PG B tg1 g1) (ht1 : Blks X scope fun B => PTs B ifs1 tt1) (he : Blks X scope fun B => PE B elt te) (hs : ∀ x, foldedSetIterable iter X.env x = pure x) (hs1 : ∀ env x, foldedSetIterable iter1 env x = pure x) :
    PE X (.SetComp elt [⟨tg, iter, ifs, 0⟩, ⟨tg1, iter1, ifs1, 0⟩] scope pos) (tSetc X.w wi g tt (fun D σ H N => wi1 σ H fun J1 H4 => LoopAsk J1 g1 tt1 (tPut X.w D te) vs1 σ H4 N) (own.map (·.2))) :=
  set_any (gs := [⟨tg1, iter1, ifs1, 0⟩]) (vs' := vs1) (mk := nextIn (.SetComp elt [⟨tg, iter, ifs, 0⟩, ⟨tg1, iter1, ifs1, 0⟩] scope pos) iter1) hc hN hi ok hg ht hs hv
    (fun s H C cl fp D => within_next (B := X.blk s H scope (compEnvC scope cl C X.env) fp) hc (fun _ _ z => z) (hi1 s H C cl fp) (hg1 s H C cl fp) (ht1 s H C cl fp) hs1 (within_put (B := X.blk s H scope (compEnvC scope cl C X.env) fp) (fun _ _ z => z) (he s H C cl fp)) (fun _ h => nomatch h)) fun it acc env => turn_fst ..
end
/-! ### sorted({..}) by data -/
def inS (g : DG) (tt : DT) (te : DE) (δw : Env) : List D → List D → (List D → Prop) → Prop
  | [], acc, P => P acc
  | d :: ds, acc, P => g d δw fun δ2 => tt δ2 (fun b => if b = true then te δ2 (fun y => (∃ k, y = .int k) ∧ acc.length + 1 < 4096 ∧ inS g tt te δw ds (acc ++ [y]) P) XF else inS g tt te δw ds acc P) XF
def sc2D (g : DG) (tt : DT) (fi1 : DI) (g1 : DG) (tt1 : DT) (te : DE) (vs1 : List Nat) (δw : Env) : List D → List D → (List D → Prop) → Prop
  | [], acc, P => P acc
  | d :: ds, acc, P => g d δw fun δ2 => tt δ2 (fun b => if b = true then fi1 δ2 (fun es => inS g1 tt1 te (wipeE δ2 vs1) es acc fun acc' => sc2D g tt fi1 g1 tt1 te vs1 δw ds acc' P) XF else sc2D g tt fi1 g1 tt1 te vs1 δw ds acc P) XF
/-- the ints that were put, each once, ascending -/
def finS (acc : List D) (P : DP) : Prop := ∃ ks : List Int, acc = ks.map D.int ∧ (∀ ms : List Int, ms.Nodup → (∀ k, k ∈ ms ↔ k ∈ ks) → ms.length < 64) ∧ ∀ ms : List Int, ms.Pairwise (· < ·) → (∀ k, k ∈ ms ↔ k ∈ ks) → P (.lst (ms.map D.int))
structure AccS (w : World) (K : PySem.W.Frag) (r : Addr) (A : Addr → Prop) (c : Addr) (H1 H : Hp) (acc : List D) : Prop where
  ob : ∃ (ks ms : List Int) (S : Int → Bool), acc = ks.map D.int ∧ H c = some (SetO w c S ms.length) ∧ (∀ k, S k = true ↔ k ∈ ks) ∧ ms.Nodup ∧ (∀ k, k ∈ ms ↔ k ∈ ks) ∧ ms.length ≤ ks.length
  keep : ∀ b o, b ≠ r → b ≠ c → H1 b = some o → H b = some o
  rnd : RndOk r H
section
variable {w : World} {K : PySem.W.Frag} {r : Addr} {A : Addr → Prop} {c : Addr} {H1 H H' : Hp} {acc : List D} {σ : L2.St} {δ : Env}
theorem AccS.ext (a : AccS w K r A c H1 H acc) (ne : c ≠ r) (e : Ext r H H') (rn : RndOk r H') : AccS w K r A c H1 H' acc := by
  obtain ⟨ks, ms, S, h1, h2, h3⟩ := a.ob
  exact ⟨⟨ks, ms, S, h1, e c _ ne h2, h3⟩, fun b o hr hc q => e b o hr (a.keep b o hr hc q), rn⟩
theorem AccS.er (a : AccS w K r A c H1 H acc) (R : ER K r A σ H1 δ) (n : H1 c = none) : ER K r (fun b => A b ∨ b = c) σ H δ := by
  obtain ⟨ks, ms, S, h1, h2, h3⟩ := a.ob
  have R2 : ER K r (fun b => A b ∨ b = c) σ (upd H1 c (.lst [])) δ := R.bar n (by rw [upd_same]; simp) fun b o hb q => by rw [upd_ne hb]; exact q
  refine R2.extD (p := c) (.inr rfl) (fun j es q z => ?_) (fun b o hr hb q => ?_) (by rw [h2]; simp) a.rnd
  · obtain ⟨l, xs, e1, _, _, e4, _⟩ := R.own j es q
    rw [e1] at z
    cases z
    rw [n] at e4; cases e4
  · rw [upd_ne hb] at q
    exact a.keep b o hr hb q
theorem AccS.more (a : AccS w K r A c H1 H acc) (ne : c ≠ r) {k : Int} (hz : acc.length + 1 < 4096) : ∃ (S : Int → Bool) (n : Nat), H c = some (SetO w c S n) ∧ n + 1 < scanBound ∧ AccS w K r A c H1 (upd H c (SetO w c (fun j => S j || decide (j = k)) (if S k = true then n else n + 1))) (acc ++ [.int k]) := by
  obtain ⟨ks, ms, S, h1, h2, h3, h4, h5, h6⟩ := a.ob
  have hl : acc.length = ks.length := by rw [h1, List.length_map]
  refine ⟨S, ms.length, h2, by show ms.length + 1 < 4096; omega, ?_, fun b o hr hb q => by rw [upd_ne hb]; exact a.keep b o hr hb q, ?_⟩
  · have hS : ∀ j, (S j || decide (j = k)) = true ↔ j ∈ ks ++ [k] := fun j => by
      rw [Bool.or_eq_true, decide_eq_true_eq, h3, List.mem_append, List.mem_singleton]
    by_cases hk : S k = true
    · have hin := (h3 k).mp hk
      refine ⟨ks ++ [k], ms, _, by rw [h1, List.map_append]; rfl, by rw [if_pos hk]; exact upd_same, hS, h4, fun j => ?_, by rw [List.length_append]; omega⟩
      rw [h5, List.mem_append, List.mem_singleton]
      exact ⟨.inl, fun z => z.elim id fun e => e ▸ hin⟩
    · have hin : k ∉ ms := fun z => hk ((h3 k).mpr ((h5 k).mp z))
      refine ⟨ks ++ [k], ms ++ [k], _, by rw [h1, List.map_append]; rfl, by rw [if_neg hk, List.length_append, List.length_singleton]; exact upd_same, hS, ?_, fun j => ?_, by rw [List.length_append, List.length_append, List.length_singleton]; omega⟩
      · rw [List.nodup_append]
        exact ⟨h4, (by simp), fun a ha b hb e => hin (by rw [List.mem_singleton.mp hb] at e; exact e ▸ ha)⟩
      · rw [List.mem_append, List.mem_append, h5]
  · obtain ⟨ns, e1, e2⟩ := a.rnd
    exact ⟨ns, by rw [upd_ne (Ne.symm ne)]; exact e1, e2⟩
end
section
variable {K : PySem.W.Frag} {E : XK} {fi fi1 : DI} {g g1 : DG} {gt gt1 : TG} {tt tt1 : DT} {te : DE} {vs vs1 : List Nat} {w : World}
theorem int_inj0 : ∀ {xs ys : List Int}, xs.map D.int = ys.map D.int → xs = ys
  | [], [], _ => rfl
  | x :: xs, y :: ys, h => by
    rw [List.map_cons, List.map_cons] at h
    injection h with h1 h2
    injection h1 with h1
    rw [h1, int_inj0 h2]
theorem fin_set {r c : Addr} {A : Addr → Prop} {H H1 Hc : Hp} {σ : L2.St} {δ : Env} {acc : List D} {P : DP} {Q : VK} (R : ER K r A σ H1 δ) (nc : H1 c = none) (x1 : Ext r H H1) (a : AccS w K r A c H1 Hc acc) (h : finS acc P)
    (hq : ∀ d v H', P d → Ext r H H' → RndOk r H' → DR K r A H' v d → Q v H') : rSortedSet w [.ref c] Hc Q := by
  obtain ⟨ks, h1, h2, h3⟩ := h
  obtain ⟨ks', ms, S, e1, e2, e3, e4, e5, _⟩ := a.ob
  have ek : ks' = ks := by
    rw [h1] at e1
    exact (int_inj0 e1).symm
  subst ek
  refine ⟨c, S, ms.length, rfl, e2, h2 ms e4 e5, fun ns p pw hm hl np => ?_⟩
  have R2 := a.er R nc
  have nA : ¬ A p := fun z => R2.free np (.inl z)
  refine hq _ _ _ (h3 ns pw fun k => (hm k).trans (e3 k)) (fun b o hr q => ?_) (a.rnd.upd np) (.lst nA upd_same (by rw [List.length_map, hl, sizeLine_eq]; have := h2 ms e4 e5; omega) DRs.of_ints)
  have q1 := x1 b o hr q
  have q2 := a.keep b o hr (ne_of_none q1 nc) q1
  rw [upd_ne (ne_of_none q2 np)]
  exact q2
theorem sc2_of (hg : tGc K vs g gt) (hg1 : tGc K vs1 g1 gt1) : ∀ σ H Q, tE K E (fun δ P Z => fi δ (fun ds => sc2D g tt fi1 g1 tt1 te vs1 (wipeE δ vs) ds [] (fun acc => finS acc P)) Z) σ H Q →
    tSetc w (tI K E fi) gt (tT K E0 tt) (fun c σ H N => tI K E0 fi1 σ H fun J1 H4 => LoopAsk J1 gt1 (tT K E0 tt1) (tPut w c (tE K E0 te)) vs1 σ H4 N) vs σ H (fun x H1 => rSortedSet w [x] H1 Q) := fun σ H Q ⟨r, A, δ, P, Z, R, h2, hq, hz⟩ =>
  ⟨r, A, δ, _, Z, R, h2, fun ds J H1 h3 x1 n1 y => by
    intro c nc
    have R1 := R.ext x1 n1
    have ncr : c ≠ r := fun z => by
      obtain ⟨ns, e, _⟩ := n1
      rw [z, e] at nc; cases nc
    refine ⟨fun i m Hc => m = ds.length - i ∧ i ≤ ds.length ∧ ∃ acc, sc2D g tt fi1 g1 tt1 te vs1 (wipeE δ vs) (ds.drop i) acc (fun acc => finS acc P) ∧ AccS w K r A c H1 Hc acc,
      ⟨ds.length, by simp, Nat.zero_le _, [], h3, ⟨[], [], _, rfl, upd_same, by simp, .nil, by simp, Nat.le_refl _⟩, fun b o _ hb e => by rw [upd_ne hb]; exact e, n1.upd nc⟩, ?_⟩
    rintro i m Hc ⟨rfl, hi, acc, h4, a⟩
    have ea : ExtA A H1 Hc := fun b o nb q => a.keep b o (fun z => nb (z ▸ R1.ar)) (ne_of_none q nc) q
    have wa : ∀ b o, (A b ∨ b = c) → H1 b = some o → A b := fun b o hb q => hb.elim id fun hb => by rw [hb, nc] at q; cases q
    have R3 := a.er R1 nc
    obtain ⟨ys, yg⟩ := y i Hc _ ea R3.wd wa
    by_cases hlt : i < ds.length
    · obtain ⟨go, yl⟩ := yg ds[i] (List.getElem?_eq_getElem hlt)
      refine .inr ⟨go, fun H' => ∃ m', m' < ds.length - i ∧ m' = ds.length - (i + 1) ∧ i + 1 ≤ ds.length ∧ ∃ acc, sc2D g tt fi1 g1 tt1 te vs1 (wipeE δ vs) (ds.drop (i + 1)) acc (fun acc => finS acc P) ∧ AccS w K r A c H1 H' acc, fun H' h => h, fun x H' hy => ?_⟩
      obtain ⟨x5, n5, d5⟩ := yl x H' hy
      rw [List.drop_eq_getElem_cons hlt] at h4
      have a5 := a.ext ncr x5 n5
      refine hg r _ x ds[i] _ H' _ _ _ ((R3.ext x5 n5).wipe vs) d5 h4 fun δ2 σ2 h6 hw os R6 => ⟨by rw [hw, wipe_wipe], r, _, δ2, _, XF, R6, h6, fun b H3 h7 x7 n7 => ?_, fun x c dd H' z => z.elim⟩
      cases b with
      | false => exact ⟨ds.length - (i + 1), by omega, rfl, by omega, acc, h7, a5.ext ncr x7 n7⟩
      | true =>
        refine ⟨r, _, δ2, _, XF, R6.ext x7 n7, h7, fun es J1 H4 h8 x8 n8 y1 => ?_, fun x c dd H' z => z.elim⟩
        have a8 := (a5.ext ncr x7 n7).ext ncr x8 n8
        have R8 := (R6.ext x7 n7).ext x8 n8
        refine ⟨fun j k H => k = es.length - j ∧ j ≤ es.length ∧ ∃ acc, inS g1 tt1 te (wipeE δ2 vs1) (es.drop j) acc (fun acc' => sc2D g tt fi1 g1 tt1 te vs1 (wipeE δ vs) (ds.drop (i + 1)) acc' (fun acc => finS acc P)) ∧ AccS w K r A c H1 H acc ∧
          (∀ b o, b ≠ r → b ≠ c → H4 b = some o → H b = some o), ⟨es.length, by simp, Nat.zero_le _, acc, h8, a8, fun _ _ _ _ q => q⟩, ?_⟩
        rintro j k Hj ⟨rfl, hj, acc1, h9, a9, k9⟩
        have ea1 : ExtA (fun b => A b ∨ b = c) H4 Hj := fun b o nb q => k9 b o (fun z => nb (.inl (z ▸ R1.ar))) (fun z => nb (.inr z)) q
        have noc : ∀ (j : Nat) es, δ2[j]? = some (.own es) → σ2[j]? ≠ some (some (.ref c)) := fun j es q z => by
          obtain ⟨q1, q2⟩ := ((OwnSub.wipe σ δ vs).trans os) j es q
          obtain ⟨l, xs, e1, _, _, e4, _⟩ := R1.own j es q1
          rw [q2, e1] at z
          cases z
          rw [nc] at e4; cases e4
        have hc9 : Hj c ≠ none := by obtain ⟨_, _, _, _, e, _⟩ := a9.ob; rw [e]; simp
        have R9 : ER K r (fun b => A b ∨ b = c) σ2 Hj δ2 := R8.extD (p := c) (.inr rfl) noc k9 hc9 a9.rnd
        obtain ⟨ys1, yg1⟩ := y1 j Hj _ ea1 R9.wd (fun b o hb _ => hb)
        by_cases hlt1 : j < es.length
        · obtain ⟨go1, yl1⟩ := yg1 es[j] (List.getElem?_eq_getElem hlt1)
          refine .inr ⟨go1, fun H' => ∃ k', k' < es.length - j ∧ k' = es.length - (j + 1) ∧ j + 1 ≤ es.length ∧ ∃ acc, inS g1 tt1 te (wipeE δ2 vs1) (es.drop (j + 1)) acc (fun acc' => sc2D g tt fi1 g1 tt1 te vs1 (wipeE δ vs) (ds.drop (i + 1)) acc' (fun acc => finS acc P)) ∧ AccS w K r A c H1 H' acc ∧
            (∀ b o, b ≠ r → b ≠ c → H4 b = some o → H' b = some o), fun H' h => h, fun x H' hy1 => ?_⟩
          obtain ⟨x10, n10, d10⟩ := yl1 x H' hy1
          rw [List.drop_eq_getElem_cons hlt1] at h9
          refine hg1 r _ x es[j] _ H' _ _ _ ((R9.ext x10 n10).wipe vs1) d10 h9 fun δ3 σ3 h11 hw1 _ R11 => ⟨by rw [hw1, wipe_wipe], r, _, δ3, _, XF, R11, h11, fun b H5 h12 x12 n12 => ?_, fun x c dd H' z => z.elim⟩
          have a12 := (a9.ext ncr x10 n10).ext ncr x12 n12
          have k12 : ∀ b o, b ≠ r → b ≠ c → H4 b = some o → H5 b = some o := fun b o hr hb q => x12 b o hr (x10 b o hr (k9 b o hr hb q))
          cases b with
          | false => exact ⟨es.length - (j + 1), by omega, rfl, by omega, acc1, h12, a12, k12⟩
          | true =>
            refine ⟨r, _, δ3, _, XF, R11.ext x12 n12, h12, fun z v H6 h13 x13 n13 d13 => ?_, fun x c dd H' z => z.elim⟩
            obtain ⟨⟨kk, rfl⟩, hz, h13⟩ := h13
            cases d13
            obtain ⟨S, n, e1, e2, e3⟩ := (a12.ext ncr x13 n13).more ncr (k := kk) hz
            exact ⟨kk, S, n, rfl, e1, e2, es.length - (j + 1), by omega, rfl, by omega, acc1 ++ [.int kk], h13, e3, fun b o hr hb q => by rw [upd_ne hb]; exact x13 b o hr (k12 b o hr hb q)⟩
        · have ej : j = es.length := by omega
          rw [List.drop_eq_nil_of_le (by omega)] at h9
          exact .inl ⟨ys1 (by omega), ds.length - (i + 1), by omega, rfl, by omega, acc1, h9, a9⟩
    · have ei : i = ds.length := by omega
      refine .inl ⟨ys (by omega), ?_⟩
      rw [List.drop_eq_nil_of_le (by omega)] at h4
      exact fin_set R1 nc x1 a h4 hq, hz⟩
end
section
variable {X : Cx} {E : XK} {elt tg iter tg1 iter1 : Expr} {ifs ifs1 : List Expr} {scope : Scope} {own : List (Str × Nat)} {vs1 : List Nat} {pos spos p : Pos} {fi fi1 : DI} {g g1 : DG} {gt gt1 : TG} {tt tt1 : DT} {te : DE}
theorem e_sortedSc2 (hc : X.calm = true) (hN : X.N.Nodup) (hgs : Gl X "sorted") (hm : X.mg "sorted" = none) (hi : PI X tg iter (tI X.K E fi)) (ok : BlkOk X.N X.env.scope scope own) (hv : ∀ i ∈ vs1, i ∈ own.map (·.2)) (hG : tGc X.K (own.map (·.2)) g gt) (hG1 : tGc X.K vs1 g1 gt1)
    (hg : Blks X scope fun B => PG B tg gt) (ht : Blks X scope fun B => PTs B ifs (tT X.K E0 tt)) (hi1 : Blks X scope fun B => PI B tg1 iter1 (tI X.K E0 fi1)) (hg1 : Blks X scope fun B => PG B tg1 gt1) (ht1 : Blks X scope fun B => PTs B ifs1 (tT X.K E0 tt1))
    (he : Blks X scope fun B => PE B elt (tE X.K E0 te)) (hs : ∀ x, foldedSetIterable iter X.env x = pure x := by intro _; rfl) (hs1 : ∀ env x, foldedSetIterable iter1 env x = pure x := by intro _ _; rfl)
    (nb : starEach [.SetComp elt [⟨tg, iter, ifs, 0⟩, ⟨tg1, iter1, ifs1, 0⟩] scope spos] X.env = (false, eval (.SetComp elt [⟨tg, iter, ifs, 0⟩, ⟨tg1, iter1, ifs1, 0⟩] scope spos) X.env) :: starEach [] X.env := by rfl) :
    PE X (.Call (.Name "sorted" p) [.SetComp elt [⟨tg, iter, ifs, 0⟩, ⟨tg1, iter1, ifs1, 0⟩] scope spos] [] pos) (tE X.K E (fun δ P Z => fi δ (fun ds => sc2D g tt fi1 g1 tt1 te vs1 (wipeE δ (own.map (·.2))) ds [] (fun acc => finS acc P)) Z)) :=
  PE.imp (pe_callB (cr_sortedSet hc) hgs hm (by decide +kernel) (pa_cons (pe_set2 hc hN hi ok hv hg ht hi1 hg1 ht1 he hs hs1) pa_nil nb) (by decide) (by decide) nb) (sc2_of hG hG1)
end
end L3


namespace L3
open PySem PySem.Spec PyProof.Rows L2
section
variable {K : PySem.W.Frag}
abbrev borD := intD0 fun i j => .int (Builtin.bitOr i j)
theorem od_bor : OpD K (rI0 fun i j => .int (Builtin.bitOr i j)) borD := od_int0 fun _ _ _ _ _ => .int _
abbrev bandD := intD0 fun i j => .int (Builtin.bitAnd i j)
theorem od_band : OpD K (rI0 fun i j => .int (Builtin.bitAnd i j)) bandD := od_int0 fun _ _ _ _ _ => .int _
abbrev shlD := intD (fun i j => .int (i * 2 ^ j.toNat)) CShl
theorem od_shl : OpD K (rI CShl fun i j => .int (i * 2 ^ j.toNat)) shlD := od_int fun _ _ _ _ _ => .int _
def shrD : D → D → DP → Prop
  | .int i, .int j, P => 0 ≤ j ∧ P (.int (i / 2 ^ j.toNat))
  | _, _, _ => False
theorem od_shr : OpD K (fun x y H Q => ∃ (i : Int) (k : Nat), x = .int i ∧ y = .int (k : Int) ∧ Q (.int (i / 2 ^ k)) H) shrD := fun r A H x y d e P Q w hx hy h q => by
  cases d with
  | int i =>
    cases e with
    | int j =>
      cases hx
      cases hy
      obtain ⟨h0, h⟩ := h
      exact ⟨i, j.toNat, rfl, by rw [Int.toNat_of_nonneg h0], q _ _ H h .refl w.rnd (.int _)⟩
    | _ => exact h.elim
  | _ => exact h.elim
end
theorem shl_one {k : Int} {P : DP} (h0 : 0 ≤ k) (h1 : k ≤ 1000) (h : P (.int ((2 ^ k.toNat : Nat) : Int))) : shlD (.int 1) (.int k) P := by
  refine ⟨⟨h0, ?_⟩, ?_⟩
  · have : (Builtin.Int.intBits 1 : Int) = 1 := by decide +kernel
    omega
  · show P (.int (1 * 2 ^ k.toNat))
    rw [Int.one_mul, show ((2 : Int) ^ k.toNat) = ((2 ^ k.toNat : Nat) : Int) by simp]
    exact h
theorem inS_of {g : DG} {tt : DT} {te : DE} {δw : Env} {k : D → Bool} {f : D → D} {Q : List D → Prop} : ∀ (ds acc : List D), (∀ d ∈ ds, ∀ (R : D → Prop) (S : Prop), (if k d = true then R (f d) else S) → g d δw fun δ2 => tt δ2 (fun b => if b = true then te δ2 R XF else S) XF) →
    (∀ d ∈ ds, k d = true → ∃ i, f d = .int i) → acc.length + ds.length < 4096 → Q (acc ++ (ds.filter k).map f) → inS g tt te δw ds acc Q
  | [], acc, _, _, _, q => by
    rw [List.filter_nil, List.map_nil, List.append_nil] at q
    exact q
  | d :: ds, acc, h, hf, hl, q => by
    rw [List.length_cons] at hl
    unfold inS
    refine h d List.mem_cons_self (fun y => (∃ k, y = .int k) ∧ acc.length + 1 < 4096 ∧ inS g tt te δw ds (acc ++ [y]) Q) _ ?_
    cases hk : k d with
    | true =>
      rw [if_pos rfl]
      refine ⟨hf d List.mem_cons_self hk, by omega, inS_of ds (acc ++ [f d]) (fun x hx => h x (List.mem_cons_of_mem _ hx)) (fun x hx => hf x (List.mem_cons_of_mem _ hx)) (by rw [List.length_append, List.length_singleton]; omega) ?_⟩
      rw [List.filter_cons, hk] at q
      rw [List.append_assoc]
      exact q
    | false =>
      rw [if_neg Bool.false_ne_true]
      refine inS_of ds acc (fun x hx => h x (List.mem_cons_of_mem _ hx)) (fun x hx => hf x (List.mem_cons_of_mem _ hx)) (by omega) ?_
      rw [List.filter_cons, hk] at q
      exact q
theorem sc2D_of {g : DG} {tt : DT} {fi1 : DI} {g1 : DG} {tt1 : DT} {te : DE} {vs1 : List Nat} {δw : Env} {Q : List D → Prop} (its : D → List D) (δe : D → Env) (k : D → D → Bool) (f : D → D → D) : ∀ (ds acc : List D),
    (∀ d ∈ ds, ∀ (R : Env → List D → Prop) (S : Prop), R (δe d) (its d) → g d δw fun δ2 => tt δ2 (fun b => if b = true then fi1 δ2 (fun es => R (wipeE δ2 vs1) es) XF else S) XF) →
    (∀ d ∈ ds, ∀ e ∈ its d, ∀ (R : D → Prop) (S : Prop), (if k d e = true then R (f d e) else S) → g1 e (δe d) fun δ2 => tt1 δ2 (fun b => if b = true then te δ2 R XF else S) XF) →
    (∀ d ∈ ds, ∀ e ∈ its d, k d e = true → ∃ i, f d e = .int i) →
    acc.length + (ds.map fun d => (its d).length).sum < 4096 → Q (acc ++ ds.flatMap fun d => ((its d).filter (k d)).map (f d)) → sc2D g tt fi1 g1 tt1 te vs1 δw ds acc Q
  | [], acc, _, _, _, _, q => by
    rw [List.flatMap_nil, List.append_nil] at q
    exact q
  | d :: ds, acc, h1, h2, hf, hl, q => by
    rw [List.map_cons, List.sum_cons] at hl
    unfold sc2D
    refine h1 d List.mem_cons_self (fun δ3 es => inS g1 tt1 te δ3 es acc fun acc' => sc2D g tt fi1 g1 tt1 te vs1 δw ds acc' Q) _ ?_
    refine inS_of (its d) acc (fun e he => h2 d List.mem_cons_self e he) (fun e he => hf d List.mem_cons_self e he) (by omega) ?_
    refine sc2D_of its δe k f ds _ (fun x hx => h1 x (List.mem_cons_of_mem _ hx)) (fun x hx => h2 x (List.mem_cons_of_mem _ hx)) (fun x hx => hf x (List.mem_cons_of_mem _ hx)) ?_ ?_
    · rw [List.length_append, List.length_map]
      have := List.length_filter_le (k d) (its d)
      omega
    · rw [List.flatMap_cons, ← List.append_assoc] at q
      exact q
/-! ### masks of places -/
def maskN (w : List Int) : Nat := w.foldl (fun m c => m ||| 2 ^ c.toNat) 0
theorem maskN_snoc (w : List Int) (c : Int) : maskN (w ++ [c]) = maskN w ||| 2 ^ c.toNat := by
  unfold maskN
  rw [List.foldl_append]; rfl
theorem maskN_bit {w : List Int} (hw : ∀ c ∈ w, 0 ≤ c) {i : Int} (hi : 0 ≤ i) : (maskN w).testBit i.toNat = decide (i ∈ w) := by
  have key : ∀ (w : List Int) (m : Nat), (∀ c ∈ w, 0 ≤ c) → (w.foldl (fun m c => m ||| 2 ^ c.toNat) m).testBit i.toNat = (m.testBit i.toNat || decide (i ∈ w)) := fun w => by
    induction w with
    | nil => intro m _; simp
    | cons c w ih =>
      intro m h
      rw [List.foldl_cons, ih _ fun x hx => h x (List.mem_cons_of_mem _ hx), Nat.testBit_or, Nat.testBit_two_pow, Bool.or_assoc]
      congr 1
      have hc := h c List.mem_cons_self
      rw [Bool.eq_iff_iff]
      simp only [Bool.or_eq_true, decide_eq_true_eq, List.mem_cons]
      constructor
      · rintro (h1 | h1)
        · exact .inl (by omega)
        · exact .inr h1
      · rintro (h1 | h1)
        · exact .inl (by omega)
        · exact .inr h1
  unfold maskN
  rw [key w 0 hw, Nat.zero_testBit, Bool.false_or]
theorem maskN_lt {w : List Int} (hw : ∀ c ∈ w, c < 6) : maskN w < 64 := by
  have key : ∀ (w : List Int) (m : Nat), (∀ c ∈ w, c < 6) → m < 2 ^ 6 → w.foldl (fun m c => m ||| 2 ^ c.toNat) m < 2 ^ 6 := fun w => by
    induction w with
    | nil => intro m _ h; exact h
    | cons c w ih =>
      intro m h hm
      rw [List.foldl_cons]
      refine ih _ (fun x hx => h x (List.mem_cons_of_mem _ hx)) (Nat.or_lt_two_pow hm (Nat.pow_lt_pow_right (by decide) ?_))
      have := h c List.mem_cons_self
      omega
  exact key w 0 hw (by decide)
theorem bit_free {m : Nat} {c : Int} (hc : 0 ≤ c) : (Builtin.bitAnd ((m : Int) / 2 ^ c.toNat) 1 != 0) = m.testBit c.toNat := by
  rw [show ((m : Int) / 2 ^ c.toNat) = ((m / 2 ^ c.toNat : Nat) : Int) by simp, show (1 : Int) = ((1 : Nat) : Int) from rfl, bitAnd_pp (Int.natCast_nonneg _) (Int.natCast_nonneg _), Int.toNat_natCast, Int.toNat_natCast, Nat.and_one_is_mod, Nat.testBit_eq_decide_div_mod_eq]
  rcases Nat.mod_two_eq_zero_or_one (m / 2 ^ c.toNat) with h | h <;> rw [h] <;> rfl
theorem bor_put {m : Nat} {c : Int} : Builtin.bitOr (m : Int) ((2 ^ c.toNat : Nat) : Int) = ((m ||| 2 ^ c.toNat : Nat) : Int) := by
  rw [bitOr_nn (Int.natCast_nonneg _) (Int.natCast_nonneg _)]
  rfl
end L3

namespace L3
open PySem PySem.Spec PyProof.Rows L2
/-! list * int -/
def repLD : D → D → DP → Prop
  | .lst ds, .int k, P => 0 ≤ k ∧ k ≤ 1000 ∧ ds.length ≤ 1000 ∧ P (.lst (List.replicate k.toNat ds).flatten)
  | _, _, _ => False
theorem rep_len {α : Type} (n : Nat) (xs : List α) : (List.replicate n xs).flatten.length = n * xs.length := by
  rw [List.length_flatten, List.map_replicate, List.sum_replicate_nat]
theorem od_repL {K : PySem.W.Frag} : OpD K rRep repLD := fun r A H x y d e P Q w hx hy h q => by
  cases d with
  | lst ds =>
    cases e with
    | int k =>
      obtain ⟨k0, k1, hl, h⟩ := h
      cases hy
      obtain ⟨a, xs, rfl, na, e1, z, t⟩ := hx.sqL
      have hln := t.length
      have hz : xs.length * k.toNat ≤ 1000 * 1000 := Nat.mul_le_mul (by omega) (by omega)
      refine ⟨a, k, xs, rfl, rfl, e1, by omega, by omega, by rw [sizeLine_eq]; omega, fun p np => q _ _ _ h (Ext.upd np) (w.rnd.upd np) (w.lst np ?_ (t.rep k.toNat))⟩
      rw [rep_len, Nat.mul_comm, sizeLine_eq]; omega
    | _ => exact h.elim
  | _ => exact h.elim
/-! a built-in's call, its argument never there -/
section
variable {X : Cx} {E : XK} {e : Expr} {es : List Expr} {kws : List Keyword} {fa : DA} {p pos : Pos} {x : Str} {id : String} {ks : List Str}
theorem e_deadB (hg : Gl X x) (hm : X.mg x = none) (hv : bootBuiltins x = some (.builtin id)) (ha : PA X (e :: es) (tA X.K E fa)) (hn : x ≠ "__name__" := by decide) (hdb : (x == ("__debug__" : Str)) = false := by decide)
    (he : backTo pos (starEach (e :: es) X.env) = (false, eval e X.env) :: backTo pos (starEach es X.env) := by rfl) (hpl : (backTo pos (starEach (e :: es) X.env)).any (·.1) = false := by rfl)
    (hall : (backToKw pos (keywordEach kws X.env)).all (·.1.isSome) = true := by rfl) (hnone : (backToKw pos (keywordEach kws X.env)).any (·.1.isNone) = false := by rfl) (hks : (backToKw pos (keywordEach kws X.env)).filterMap (·.1) = ks := by rfl) :
    PE X (.Call (.Name x p) (e :: es) kws pos) (tE X.K E (fun δ P Z => fa δ (fun _ => False) Z)) :=
  PE.imp (pe_callBK (r := fun _ _ _ _ => False) (tk := fun _ _ _ => False) (fun _ _ _ _ _ _ _ _ _ _ _ _ z => z.elim) hg hm hv ha ⟨fun _ _ _ _ _ _ _ z => z.elim⟩ hn hdb he hpl hall hnone hks)
    fun σ H Q ⟨r, A, δ, P, Z, R, h, hq, hz⟩ => ⟨r, A, δ, _, Z, R, h, fun _ _ _ z => z.elim, hz⟩
end
end L3

namespace L3
open PySem PySem.Spec PyProof.Rows L2
/-! own lists, further: made by list(e), an item stored, an item read, read as a whole by what hands back a flat value -/
section
variable {K : PySem.W.Frag} {r : Addr} {A0 : Addr → Prop} {H0 H : Hp} {σ : L2.St} {δ : Env} {i : Nat}
theorem SR.put (h : SR K r A0 H0 σ H δ) {ds ds' : List D} {l : Addr} {xs' : List V} (hi : δ[i]? = some (.own ds)) (e1 : σ[i]? = some (some (.ref l))) (t : DRs K r (Av A0 r σ δ) H xs' ds') (z : xs'.length ≤ sizeLine) (lr : l ≠ r) :
    SR K r A0 H0 σ (upd H l (.lst xs')) (δ.set i (.own ds')) := by
  have hA : Av A0 r σ δ l := .inr (.inr ⟨i, ds, hi, e1⟩)
  have hil := (List.getElem?_eq_some_iff.mp hi).1
  have ea : ExtA (Av A0 r σ δ) H (upd H l (.lst xs')) := fun b o nb q => by rw [upd_ne (fun y => nb (by rw [y]; exact hA))]; exact q
  have rn : RndOk r (upd H l (.lst xs')) := by
    obtain ⟨ns, f1, f2⟩ := h.er.rnd
    exact ⟨ns, by rw [upd_ne (Ne.symm lr)]; exact f1, f2⟩
  have hsl : ∀ (j : Nat) (s : Sl), (δ.set i (.own ds'))[j]? = some s → (i = j ∧ s = .own ds') ∨ (i ≠ j ∧ δ[j]? = some s) := fun j s q => by
    by_cases hj : i = j
    · subst hj
      rw [List.getElem?_set_self hil] at q; cases q; exact .inl ⟨rfl, rfl⟩
    · rw [List.getElem?_set_ne hj] at q; exact .inr ⟨hj, q⟩
  have own0 : ∀ (j : Nat) es, (δ.set i (.own ds'))[j]? = some (.own es) → ∃ es', δ[j]? = some (.own es') := fun j es q => by
    rcases hsl j _ q with ⟨e, _⟩ | ⟨_, q'⟩
    · exact ⟨ds, by rw [← e]; exact hi⟩
    · exact ⟨es, q'⟩
  refine SR.of (A := Av A0 r σ δ) ⟨rn, h.er.ar, fun b hb => ?_, by rw [List.length_set]; exact h.er.len, fun j d' q => ?_, fun j es q => ?_, fun j k es fs m hjk q1 q2 q3 q4 => ?_⟩ (fun b hb => .inl hb) (fun b o hr q => ?_) (fun j es m q1 q2 => ?_) h.a0
  · by_cases hb' : b = l
    · rw [hb', upd_same]; simp
    · rw [upd_ne hb']; exact h.er.all b hb
  · rcases hsl j _ q with ⟨_, y⟩ | ⟨_, q'⟩
    · cases y
    · obtain ⟨u, f1, f2⟩ := h.er.val j d' q'
      exact ⟨u, f1, f2.ext ea⟩
  · rcases hsl j _ q with ⟨e, y⟩ | ⟨hj, q'⟩
    · cases y
      subst e
      exact ⟨l, xs', e1, hA, lr, upd_same, z, t.ext ea⟩
    · obtain ⟨m, ys, f1, f2, f3, f4, f5, f6⟩ := h.er.own j es q'
      have hml : m ≠ l := fun y => h.er.sep i j _ _ l hj hi q' e1 (by rw [← y]; exact f1)
      exact ⟨m, ys, f1, f2, f3, by rw [upd_ne hml]; exact f4, f5, f6.ext ea⟩
  · obtain ⟨es', q1'⟩ := own0 j es q1
    obtain ⟨fs', q2'⟩ := own0 k fs q2
    exact h.er.sep j k _ _ m hjk q1' q2' q3 q4
  · have q' := h.ext b o hr q
    rw [upd_ne (fun y => by
      have z := h.fresh i ds l hi e1
      rw [← y, q] at z; cases z)]
    exact q'
  · obtain ⟨es', q1'⟩ := own0 j es q1
    exact h.fresh j es' m q1' q2
theorem SR.putOwn (R : SR K r A0 H0 σ H δ) {p : Addr} (np : H p = none) {xs : List V} {ds : List D} (t : DRs K r (Av A0 r σ δ) H xs ds) (z : xs.length ≤ sizeLine) : SR K r A0 H0 (σ.set i (some (.ref p))) (upd H p (.lst xs)) (δ.set i (.own ds)) := by
  have R1 := R.er.bar (H1 := upd H p (.lst xs)) np (by rw [upd_same]; simp) fun b o hb q => by rw [upd_ne hb]; exact q
  have t1 : DRs K r (fun b => Av A0 r σ δ b ∨ b = p) (upd H p (.lst xs)) xs ds :=
    (DRs.bar (A' := fun b => Av A0 r σ δ b ∨ b = p) (fun b o q y => q.elim id fun q => by rw [q, np] at y; cases y) t).ext fun b o nb y => by rw [upd_ne (ne_of_none y np)]; exact y
  have np0 : H0 p = none := by
    cases q : H0 p with
    | none => rfl
    | some o =>
      by_cases hr : p = r
      · obtain ⟨ns, e1, _⟩ := R.er.rnd
        rw [hr, e1] at np; cases np
      · rw [R.ext p o hr q] at np; cases np
  have npr : p ≠ r := fun z => by
    obtain ⟨ns, e1, _⟩ := R.er.rnd
    rw [z, e1] at np; cases np
  have hsl : ∀ (j : Nat) (s : Sl), (δ.set i (.own ds))[j]? = some s → (i = j ∧ s = .own ds) ∨ (i ≠ j ∧ δ[j]? = some s) := fun j s q => by
    by_cases hj : i = j
    · subst hj
      by_cases hl : i < δ.length
      · rw [List.getElem?_set_self hl] at q; cases q; exact .inl ⟨rfl, rfl⟩
      · rw [List.getElem?_eq_none (by rw [List.length_set]; omega)] at q; cases q
    · rw [List.getElem?_set_ne hj] at q; exact .inr ⟨hj, q⟩
  have hil : ∀ (j : Nat) (s : Sl), (δ.set i (.own ds))[j]? = some s → i = j → (σ.set i (some (V.ref p)))[j]? = some (some (V.ref p)) := fun j s q e => by
    subst e
    by_cases hl : i < σ.length
    · exact List.getElem?_set_self hl
    · rw [List.getElem?_eq_none (by rw [List.length_set, R.er.len]; omega)] at q; cases q
  have nown : ∀ (j : Nat) ds l, δ[j]? = some (.own ds) → σ[j]? = some (some (.ref l)) → l ≠ p := fun j ds l q1 q2 z => by
    obtain ⟨l', xs, e1, _, _, e4, _⟩ := R.er.own j ds q1
    rw [e1] at q2; cases q2
    rw [z, np] at e4; cases e4
  refine SR.of (A := fun b => Av A0 r σ δ b ∨ b = p) ⟨R1.rnd, R1.ar, R1.all, by rw [List.length_set, List.length_set]; exact R1.len, fun j d q => ?_, fun j ds q => ?_, fun j k es fs l hjk q1 q2 q3 q4 => ?_⟩
    (fun b hb => .inl (.inl hb)) (R.ext.trans (Ext.upd np)) (fun j es l q1 q2 => ?_) R.a0
  · rcases hsl j _ q with ⟨_, z⟩ | ⟨hj, q⟩
    · cases z
    · rw [List.getElem?_set_ne hj]; exact R1.val j d q
  · rcases hsl j _ q with ⟨e, y⟩ | ⟨hj, q'⟩
    · cases y
      exact ⟨p, xs, hil j _ q e, .inr rfl, npr, upd_same, z, t1⟩
    · rw [List.getElem?_set_ne hj]; exact R1.own j ds q'
  · rcases hsl j _ q1 with ⟨e1, z1⟩ | ⟨hj, q1'⟩
    · rcases hsl k _ q2 with ⟨e2, z2⟩ | ⟨hk, q2'⟩
      · exact hjk (e1.symm.trans e2)
      · rw [hil j _ q1 e1] at q3; cases q3
        rw [List.getElem?_set_ne hk] at q4
        exact nown k _ _ q2' q4 rfl
    · rcases hsl k _ q2 with ⟨e2, z2⟩ | ⟨hk, q2'⟩
      · rw [hil k _ q2 e2] at q4; cases q4
        rw [List.getElem?_set_ne hj] at q3
        exact nown j _ _ q1' q3 rfl
      · rw [List.getElem?_set_ne hj] at q3
        rw [List.getElem?_set_ne hk] at q4
        exact R.er.sep j k _ _ l hjk q1' q2' q3 q4
  · rcases hsl j _ q1 with ⟨e1, z1⟩ | ⟨hj, q1'⟩
    · rw [hil j _ q1 e1] at q2; cases q2; exact np0
    · rw [List.getElem?_set_ne hj] at q2
      exact R.fresh j es l q1' q2
end
/-- the members of a list or tuple -/
def memD : D → (List D → Prop) → Prop
  | .lst ds, P => P ds
  | .tup ds, P => P ds
  | _, _ => False
section
variable {X : Cx} {E : XK} {e ix : Expr} {fe fx : DE} {pos pos2 p' cp lp : Pos} {i : Nat} {x : Str}
/-- x = list(e) -/
theorem s_ownL (hN : X.N.Nodup) (hi : X.N[i]? = some x) (hx : Loc X.env.scope x) (hg : Gl X "list") (hm : X.mg "list" = none) (he : PE X e (tE X.K E fe)) (na : starEach [e] X.env = (false, eval e X.env) :: starEach [] X.env := by rfl)
    (hs : swapsWith (.Call (.Name "list" lp) [e] [] cp) (some (.Name x p')) pos.line X.env = pure false := by rfl)
    (hf : X.fn x = true ∨ X.env.scope.names.lookup x = some .local := by first | exact .inl rfl | exact .inr rfl | assumption) :
    PS X (.Assign [.Name x p'] (.Call (.Name "list" lp) [e] [] cp) pos) (tS X.K E (fun P δ => fe δ (fun d => memD d fun ds => P.nx (δ.set i (.own ds))) P.ex)) :=
  PS.imp (ps_set hN hi hx (pe_callTy call_list_of hg hm (by decide +kernel) (pa_cons he pa_nil na) (by decide) (by decide) na) hs hf) fun Dd σ H ⟨r, A0, H0, δ, P, R, h, L⟩ =>
  use_of R L h fun d v H' h2 x2 n2 r2 => by
    have R2 := R.move x2 n2
    cases d with
    | lst ds =>
      obtain ⟨a, xs, rfl, na, e1, z, t⟩ := r2.sqL
      exact ⟨a, xs, rfl, .inl (SqL.of e1), fun l nl => L.nx _ _ _ h2 (R2.putOwn nl t z)⟩
    | tup ds =>
      obtain ⟨a, xs, rfl, e1, z, t⟩ := r2.sqT
      exact ⟨a, xs, rfl, .inr e1, fun l nl => L.nx _ _ _ h2 (R2.putOwn nl t z)⟩
    | _ => exact h2.elim
theorem DRs.setAt {K : PySem.W.Frag} {r : Addr} {A : Addr → Prop} {H : Hp} : ∀ {vs : List V} {ds : List D} {v : V} {d : D} {j : Nat}, DRs K r A H vs ds → DR K r A H v d → DRs K r A H (vs.set j v) (ds.set j d)
  | _, _, _, _, _, .nil, _ => .nil
  | _, _, _, _, 0, .cons _ t, h => .cons h t
  | _, _, _, _, _ + 1, .cons a t, h => .cons a (t.setAt h)
/-- x[ix] = e, x an own list -/
theorem s_setIx (hN : X.N[i]? = some x) (hv : Vis X.env.scope x) (he : PE X e (tE X.K E fe)) (hx : PE X ix (tE X.K E fx)) (hd : (x == ("__debug__" : Str)) = false := by decide) (hcd : (x == ("__classdict__" : Str)) = false := by decide)
    (ha : ∀ v, assign (.Subscript (.Name x p') ix pos2) X.env v = (do
      let ov ← holding [v] (eval (.Name x p') X.env)
      let iv ← holding [v, ov] (eval ix X.env)
      standAt pos2
      holding [v, ov, iv] (setItem ov iv v)
      release [v, ov, iv] []) := by intro _; rfl)
    (hs : swapsWithSole [.Subscript (.Name x p') ix pos2] e pos.line X.env = pure false := by rfl) (hw : swappedStores [.Subscript (.Name x p') ix pos2] e X.env = pure none := by rfl)
    (h1 : (assignEach [.Subscript (.Name x p') ix pos2] X.env).map (·.2) = [assign (.Subscript (.Name x p') ix pos2) X.env] := by rfl) :
    PS X (.Assign [.Subscript (.Name x p') ix pos2] e pos) (tS X.K E (fun P δ => fe δ (fun d => ∃ ds, δ[i]? = some (.own ds) ∧ fx δ (fun d' => ∃ k j, d' = .int k ∧ ixN ds.length k = some j ∧ P.nx (δ.set i (.own (ds.set j d)))) P.ex) P.ex)) :=
  PS.imp (ps_asg he (pg_sub (pe_var hN hv hd hcd) hx set_list ha) hs hw h1) fun Dd σ H ⟨r, A0, H0, δ, P, R, h, L⟩ =>
  use_of R L h fun d v H1 ⟨ds, ho, h2⟩ x2 n2 r2 => by
    have R2 := R.move x2 n2
    obtain ⟨l, xs, e1, _⟩ := R2.er.own i ds ho
    refine ⟨.ref l, e1, use_of R2 L h2 fun d' v' H2 h3 x3 n3 r3 => ?_⟩
    obtain ⟨k, j, rfl, q3, q4⟩ := h3
    cases r3
    have R3 := R2.move x3 n3
    obtain ⟨l', xs, f1, f2, f3, f4, f5, f6⟩ := R3.er.own i ds ho
    rw [e1] at f1
    cases f1
    have ln := f6.length
    exact ⟨l, xs, k, j, rfl, rfl, f4, by rw [ln]; exact q3, L.nx _ _ _ q4 (R3.put ho e1 (f6.setAt (r2.ext (x3.toA R2.er.ar))) (by rw [List.length_set]; exact f5) f3)⟩
/-- an item of an own list -/
theorem e_ownIx (hN : X.N[i]? = some x) (hv : Vis X.env.scope x) (hx : PE X ix (tE X.K E fx)) (hs : PlainIx ix) (hd : (x == ("__debug__" : Str)) = false := by decide) (hcd : (x == ("__classdict__" : Str)) = false := by decide) :
    PE X (.Subscript (.Name x p') ix pos) (tE X.K E (fun δ P Z => ∃ ds, δ[i]? = some (.own ds) ∧ fx δ (fun d' => ixD (.lst ds) d' P) Z)) :=
  PE.imp (pe_ix or_ix (pe_var hN hv hd hcd) hx hs) fun σ H Q ⟨r, A, δ, P, Z, R, ⟨ds, ho, h⟩, hq, hz⟩ => by
    obtain ⟨l, xs, e1, _⟩ := R.own i ds ho
    refine ⟨.ref l, e1, r, A, δ, _, Z, R, h, fun d' v' H2 h3 x3 n3 r3 => ?_, hz⟩
    have R3 := R.ext x3 n3
    obtain ⟨l', xs, f1, f2, f3, f4, f5, f6⟩ := R3.own i ds ho
    rw [e1] at f1
    cases f1
    cases d' with
    | int k =>
      cases r3
      obtain ⟨y, hy, hP⟩ := h3
      obtain ⟨v, hv', rv⟩ := f6.atI hy
      exact .inl (.inl ⟨l, xs, k, v, rfl, rfl, SqL.of f4, hv', hq _ _ _ hP x3 n3 rv⟩)
    | _ => exact h3.elim
/-- tuple(x), x an own list -/
theorem e_ownTup (hN : X.N[i]? = some x) (hv : Vis X.env.scope x) (hg : Gl X "tuple") (hm : X.mg "tuple" = none) (hd : (x == ("__debug__" : Str)) = false := by decide) (hcd : (x == ("__classdict__" : Str)) = false := by decide)
    (na : starEach [.Name x p'] X.env = (false, eval (.Name x p') X.env) :: starEach [] X.env := by rfl) :
    PE X (.Call (.Name "tuple" lp) [.Name x p'] [] cp) (tE X.K E (fun δ P _ => ∃ ds, δ[i]? = some (.own ds) ∧ P (.tup ds))) :=
  PE.imp (pe_callTy call_tuple_of hg hm (by decide +kernel) (pa_cons (pe_var hN hv hd hcd) pa_nil na) (by decide) (by decide) na) fun σ H Q ⟨r, A, δ, P, Z, R, ⟨ds, ho, h⟩, hq, hz⟩ => by
    obtain ⟨l, xs, e1, f2, f3, f4, f5, f6⟩ := R.own i ds ho
    exact ⟨.ref l, e1, l, xs, rfl, .inl ⟨SqL.of f4, fun p np => hq _ _ _ h (Ext.upd np) (R.rnd.upd np) (R.wd.tup np f5 f6)⟩⟩
theorem DR.flatA {K : PySem.W.Frag} {r : Addr} {A A' : Addr → Prop} {H : Hp} {v : V} {d : D} (h : DR K r A H v d) (f : d.flat = true) : DR K r A' H v d := by
  cases h <;> first | exact .non | exact .bl _ | exact .int _ | exact .str _ | cases f
/-- an own list read as a value, by what hands back a flat one -/
theorem e_peek (i : Nat) (h : PE X e (tE X.K E fe)) : PE X e (tE X.K E (fun δ P _ => fe (frz i δ) (fun d => d.flat = true ∧ P d) XF)) :=
  PE.imp h fun σ H Q ⟨r, A, δ, P, Z, R, h, hq, hz⟩ => by
    by_cases hno : frz i δ = δ
    · have h' : fe (frz i δ) (fun d => d.flat = true ∧ P d) XF := h
      rw [hno] at h'
      exact ⟨r, A, δ, _, XF, R, h', fun d v H' ⟨_, p⟩ => hq d v H' p, fun _ _ _ _ z => z.elim⟩
    · have h' : fe (frz i δ) (fun d => d.flat = true ∧ P d) XF := h
      have hex : ∃ ds, δ[i]? = some (.own ds) ∧ frz i δ = δ.set i (.val (.lst ds)) := by
        unfold frz at hno ⊢
        split at hno
        · rename_i ds ho
          exact ⟨ds, ho, rfl⟩
        · exact absurd rfl hno
      obtain ⟨ds, ho, ef⟩ := hex
      rw [ef] at h'
      clear h
      have h := h'
      · skip
        obtain ⟨l, xs, e1, e2, e3, e4, e5, e6⟩ := R.own i ds ho
        have hsl : ∀ (j : Nat) (s : Sl), (δ.set i (.val (.lst ds)))[j]? = some s → (i = j ∧ s = .val (.lst ds)) ∨ (i ≠ j ∧ δ[j]? = some s) := fun j s q => by
          by_cases hj : i = j
          · subst hj
            rw [List.getElem?_set_self (List.getElem?_eq_some_iff.mp ho).1] at q; cases q; exact .inl ⟨rfl, rfl⟩
          · rw [List.getElem?_set_ne hj] at q; exact .inr ⟨hj, q⟩
        have R2 : ER X.K r (fun b => A b ∧ b ≠ l) σ H (δ.set i (.val (.lst ds))) := by
          refine ⟨R.rnd, ⟨R.ar, fun z => e3 z.symm⟩, fun b hb => R.all b hb.1, by rw [List.length_set]; exact R.len, fun j d q => ?_, fun j es q => ?_, fun j k es fs m hjk q1 q2 q3 q4 => ?_⟩
          · rcases hsl j _ q with ⟨e, z⟩ | ⟨hj, q'⟩
            · cases z
              subst e
              exact ⟨.ref l, e1, .lst (fun z => z.2 rfl) e4 e5 (e6.bar fun b o hb _ => hb.1)⟩
            · obtain ⟨v, f1, f2⟩ := R.val j d q'
              exact ⟨v, f1, f2.bar fun b o hb _ => hb.1⟩
          · rcases hsl j _ q with ⟨e, z⟩ | ⟨hj, q'⟩
            · cases z
            · obtain ⟨m, ys, f1, f2, f3, f4, f5, f6⟩ := R.own j es q'
              exact ⟨m, ys, f1, ⟨f2, fun z => R.sep i j _ _ l hj ho q' e1 (z ▸ f1)⟩, f3, f4, f5, f6.bar fun b o hb _ => hb.1⟩
          · rcases hsl j _ q1 with ⟨e, z⟩ | ⟨hj, q1'⟩
            · cases z
            · rcases hsl k _ q2 with ⟨e, z⟩ | ⟨hk, q2'⟩
              · cases z
              · exact R.sep j k _ _ m hjk q1' q2' q3 q4
        exact ⟨r, _, _, _, XF, R2, h, fun d v H' ⟨f, p⟩ x1 n1 rv => hq d v H' p x1 n1 (rv.flatA f), fun _ _ _ _ z => z.elim⟩
end
/-! slices -/
def cutD (ds : List D) (lo hi : Option Int) : List D := (ds.drop (HT.sIx ds.length 0 lo)).take (HT.sIx ds.length ds.length hi - HT.sIx ds.length 0 lo)
def slD (lo hi : Option Int) : D → DP → Prop
  | .tup ds, P => P (.tup (cutD ds lo hi))
  | .lst ds, P => P (.lst (cutD ds lo hi))
  | _, _ => False
theorem DRs.drop {K : PySem.W.Frag} {r : Addr} {A : Addr → Prop} {H : Hp} : ∀ {vs : List V} {ds : List D} (n : Nat), DRs K r A H vs ds → DRs K r A H (vs.drop n) (ds.drop n)
  | _, _, 0, t => t
  | _, _, _ + 1, .nil => .nil
  | _, _, n + 1, .cons _ t => t.drop n
theorem DRs.take {K : PySem.W.Frag} {r : Addr} {A : Addr → Prop} {H : Hp} : ∀ {vs : List V} {ds : List D} (n : Nat), DRs K r A H vs ds → DRs K r A H (vs.take n) (ds.take n)
  | _, _, 0, _ => .nil
  | _, _, _ + 1, .nil => .nil
  | _, _, n + 1, .cons a t => .cons a (t.take n)
theorem DRs.cut {K : PySem.W.Frag} {r : Addr} {A : Addr → Prop} {H : Hp} {vs : List V} {ds : List D} (t : DRs K r A H vs ds) (lo hi : Option Int) : DRs K r A H (cutV vs lo hi) (cutD ds lo hi) := by
  unfold cutV cutD
  rw [t.length]
  exact (t.drop _).take _
/-- the part of a slice -/
abbrev DO := Env → (Option Int → Prop) → XP → Prop
def tOD (K : PySem.W.Frag) (E : XK) (f : DO) : TO := fun σ H Q => ∃ r A δ P Z, ER K r A σ H δ ∧ f δ P Z ∧ (∀ o H', P o → Ext r H H' → RndOk r H' → Q o H') ∧ (∀ x c dd H', Z x → Ext r H H' → RndOk r H' → XR K r A H' c dd x → E c dd H')
section
variable {X : Cx} {E : XK} {e a : Expr} {lo hi : Option Expr} {fe fa : DE} {fl fh : DO} {pos p2 : Pos}
theorem PO.imp {e : Option Expr} {t t' : TO} (h : PO X e t) (w : ∀ σ H Q, t' σ H Q → t σ H Q) : PO X e t' := ⟨fun pins s σ H Q I q => h.run pins s σ H Q I (w σ H Q q)⟩
theorem o_none : PO X none (tOD X.K E (fun _ P _ => P none)) := PO.imp po_none fun σ H Q ⟨r, A, δ, P, Z, R, h, hq, _⟩ => hq none H h .refl R.rnd
theorem o_some (h : PE X a (tE X.K E fa)) : PO X (some a) (tOD X.K E (fun δ P Z => fa δ (fun d => ∃ k, d = .int k ∧ P (some k)) Z)) := PO.imp (po_some h) fun σ H Q ⟨r, A, δ, P, Z, R, h, hq, hz⟩ =>
  ⟨r, A, δ, _, Z, R, h, fun d v H' h3 x1 n1 r1 => by
    obtain ⟨k, rfl, p⟩ := h3
    cases r1
    exact ⟨k, rfl, hq _ _ p x1 n1⟩, hz⟩
theorem e_slice (he : PE X e (tE X.K E fe)) (hl : PO X lo (tOD X.K E fl)) (hh : PO X hi (tOD X.K E fh)) : PE X (.Subscript e (.Slice lo hi none p2) pos) (tE X.K E (fun δ P Z => fe δ (fun d => fl δ (fun l => fh δ (fun u => slD l u d P) Z) Z) Z)) :=
  PE.imp (pe_slice (sl_tupA.or sl_list) he hl hh) fun σ H Q ⟨r, A, δ, P, Z, R, h, hq, hz⟩ =>
  ⟨r, A, δ, _, Z, R, h, fun d v H1 h1 x1 n1 r1 => ⟨r, A, δ, _, Z, R.ext x1 n1, h1, fun l H2 h2 x2 n2 => ⟨r, A, δ, _, Z, (R.ext x1 n1).ext x2 n2, h2, fun u H3 h3 x3 n3 => by
    have w3 := (((R.ext x1 n1).ext x2 n2).ext x3 n3).wd
    have r3 := (r1.ext (x2.toA R.ar)).ext (x3.toA R.ar)
    have x123 := (x1.trans x2).trans x3
    have cl : ∀ ys : List V, ys.length ≤ sizeLine → (cutV ys l u).length ≤ sizeLine := fun ys z => Nat.le_trans (cutV_length ys l u) z
    cases d with
    | tup ds =>
      have r4 := r3
      obtain ⟨a, xs, rfl, e1, z, t⟩ := r3.sqT
      refine .inl ⟨a, xs, rfl, e1, fun hw => ?_, fun _ p np => hq _ _ _ h3 (x123.trans (Ext.upd np)) (n3.upd np) (w3.tup np (cl xs z) (t.cut l u))⟩
      have e : cutD ds l u = ds := by
        unfold cutD
        rw [← t.length, hw.1, hw.2, t.length]
        simp
      have h3' : P (.tup (cutD ds l u)) := h3
      rw [e] at h3'
      exact hq _ _ _ h3' x123 n3 r4
    | lst ds =>
      obtain ⟨a, xs, rfl, na, e1, z, t⟩ := r3.sqL
      exact .inr ⟨a, xs, rfl, SqL.of e1, fun p np => hq _ _ _ h3 (x123.trans (Ext.upd np)) (n3.upd np) (w3.lst np (cl xs z) (t.cut l u))⟩
    | _ => exact h3.elim, fun x c dd H' z x3 => hz x c dd H' z ((x1.trans x2).trans x3)⟩, fun x c dd H' z x2 => hz x c dd H' z (x1.trans x2)⟩, hz⟩
end
theorem cut_take (ds : List D) (k : Nat) (h : k ≤ ds.length) : cutD ds none (some (k : Int)) = ds.take k := by
  unfold cutD
  rw [HT.sIx_none, HT.sIx_nat, Nat.min_eq_left h]
  simp
theorem cut_drop (ds : List D) (k : Nat) (h : k ≤ ds.length) : cutD ds (some (k : Int)) none = ds.drop k := by
  unfold cutD
  rw [HT.sIx_none, HT.sIx_nat, Nat.min_eq_left h]
  exact List.take_of_length_le (by rw [List.length_drop]; omega)
end L3

namespace L3
open PySem PySem.Spec PyProof.Rows L2
/-! what may become an own list: a value, or a list that is new -/
def SlV (K : PySem.W.Frag) (r : Addr) (A : Addr → Prop) (H H' : Hp) (v : V) : Sl → Prop
  | .val d => DR K r A H' v d
  | .own ds => ∃ l xs, v = .ref l ∧ H l = none ∧ H' l = some (.lst xs) ∧ xs.length ≤ sizeLine ∧ DRs K r (fun b => A b ∨ b = l) H' xs ds
  | .emp => False
abbrev DX := Env → (Sl → Prop) → XP → Prop
def tX (K : PySem.W.Frag) (E : XK) (f : DX) : TE := fun σ H Q => ∃ r A δ P Z, ER K r A σ H δ ∧ f δ P Z ∧
  (∀ s v H', P s → Ext r H H' → RndOk r H' → SlV K r A H H' v s → Q v H') ∧
  (∀ x c dd H', Z x → Ext r H H' → RndOk r H' → XR K r A H' c dd x → E c dd H')
section
variable {X : Cx} {E : XK} {e a b : Expr} {fe : DE} {fx fy : DX} {pos p2 cp lp : Pos}
theorem x_val (h : PE X e (tE X.K E fe)) : PE X e (tX X.K E (fun δ P Z => fe δ (fun d => P (.val d)) Z)) := PE.imp h fun σ H Q ⟨r, A, δ, P, Z, R, h, hq, hz⟩ => ⟨r, A, δ, _, Z, R, h, fun d v H' p x1 n1 r1 => hq _ _ _ p x1 n1 r1, hz⟩
theorem x_nil : PE X (.List [] p2) (tX X.K E (fun _ P _ => P (.own []))) := PE.imp (pe_lst pa_nil) fun σ H Q ⟨r, A, δ, P, Z, R, h, hq, hz⟩ =>
  ⟨Nat.zero_le _, fun p np => hq _ _ _ h (Ext.upd np) (R.rnd.upd np) ⟨p, [], rfl, np, upd_same, Nat.zero_le _, .nil⟩⟩
theorem x_list (hg : Gl X "list") (hm : X.mg "list" = none) (he : PE X e (tE X.K E fe)) (na : starEach [e] X.env = (false, eval e X.env) :: starEach [] X.env := by rfl) :
    PE X (.Call (.Name "list" lp) [e] [] cp) (tX X.K E (fun δ P Z => fe δ (fun d => memD d fun ds => P (.own ds)) Z)) :=
  PE.imp (pe_callTy call_list_of hg hm (by decide +kernel) (pa_cons he pa_nil na) (by decide) (by decide) na) fun σ H Q ⟨r, A, δ, P, Z, R, h, hq, hz⟩ => ⟨r, A, δ, _, Z, R, h, fun d v H1 h1 x1 n1 r1 => by
    have w1 := (R.ext x1 n1).wd
    have fin : ∀ (ys : List V) (ds : List D), ys.length ≤ sizeLine → DRs X.K r A H1 ys ds → P (.own ds) → ∀ l, H1 l = none → Q (.ref l) (upd H1 l (.lst ys)) := fun ys ds z t p l nl => by
      have nl0 : H l = none := by
        cases q : H l with
        | none => rfl
        | some o =>
          by_cases hr : l = r
          · obtain ⟨ns, e, _⟩ := n1
            rw [hr, e] at nl; cases nl
          · rw [x1 l o hr q] at nl; cases nl
      exact hq _ _ _ p (x1.trans (Ext.upd nl)) (n1.upd nl) ⟨l, ys, rfl, nl0, upd_same, z, (DRs.bar (A' := fun b => A b ∨ b = l) (fun b o q y => q.elim id fun q => by rw [q, nl] at y; cases y) t).ext ((Ext.upd nl).toA (.inl R.ar))⟩
    cases d with
    | lst ds =>
      obtain ⟨a, xs, rfl, na, e1, z, t⟩ := r1.sqL
      exact ⟨a, xs, rfl, .inl (SqL.of e1), fin xs ds z t h1⟩
    | tup ds =>
      obtain ⟨a, xs, rfl, e1, z, t⟩ := r1.sqT
      exact ⟨a, xs, rfl, .inr e1, fin xs ds z t h1⟩
    | _ => exact h1.elim, hz⟩
end
section
variable {K : PySem.W.Frag} {r : Addr} {A0 : Addr → Prop} {H0 H H' : Hp} {σ : L2.St} {δ : Env} {i : Nat}
theorem SR.adopt (R : SR K r A0 H0 σ H δ) {p : Addr} (np : H p = none) (x1 : Ext r H H') (rn : RndOk r H') {xs : List V} {ds : List D} (e : H' p = some (.lst xs)) (t : DRs K r (fun b => Av A0 r σ δ b ∨ b = p) H' xs ds) (z : xs.length ≤ sizeLine) :
    SR K r A0 H0 (σ.set i (some (.ref p))) H' (δ.set i (.own ds)) := by
  have npr : p ≠ r := fun z => by
    obtain ⟨ns, e1, _⟩ := R.er.rnd
    rw [z, e1] at np; cases np
  have nown : ∀ (j : Nat) ds l, δ[j]? = some (.own ds) → σ[j]? = some (some (.ref l)) → l ≠ p := fun j ds l q1 q2 z => by
    obtain ⟨l', xs, e1, _, _, e4, _⟩ := R.er.own j ds q1
    rw [e1] at q2; cases q2
    rw [z, np] at e4; cases e4
  have R0 := R.er.bar (H1 := upd H p (.lst [])) np (by rw [upd_same]; simp) fun b o hb q => by rw [upd_ne hb]; exact q
  have R1 : ER K r (fun b => Av A0 r σ δ b ∨ b = p) σ H' δ := R0.extD (p := p) (.inr rfl) (fun j es q y => nown j es p q y rfl) (fun b o hr hb q => by rw [upd_ne hb] at q; exact x1 b o hr q) (by rw [e]; simp) rn
  have np0 : H0 p = none := by
    cases q : H0 p with
    | none => rfl
    | some o => rw [R.ext p o npr q] at np; cases np
  have hsl : ∀ (j : Nat) (s : Sl), (δ.set i (.own ds))[j]? = some s → (i = j ∧ s = .own ds) ∨ (i ≠ j ∧ δ[j]? = some s) := fun j s q => by
    by_cases hj : i = j
    · subst hj
      by_cases hl : i < δ.length
      · rw [List.getElem?_set_self hl] at q; cases q; exact .inl ⟨rfl, rfl⟩
      · rw [List.getElem?_eq_none (by rw [List.length_set]; omega)] at q; cases q
    · rw [List.getElem?_set_ne hj] at q; exact .inr ⟨hj, q⟩
  have hil : ∀ (j : Nat) (s : Sl), (δ.set i (.own ds))[j]? = some s → i = j → (σ.set i (some (V.ref p)))[j]? = some (some (V.ref p)) := fun j s q e => by
    subst e
    by_cases hl : i < σ.length
    · exact List.getElem?_set_self hl
    · rw [List.getElem?_eq_none (by rw [List.length_set, R.er.len]; omega)] at q; cases q
  refine SR.of (A := fun b => Av A0 r σ δ b ∨ b = p) ⟨R1.rnd, R1.ar, R1.all, by rw [List.length_set, List.length_set]; exact R1.len, fun j d q => ?_, fun j ds q => ?_, fun j k es fs l hjk q1 q2 q3 q4 => ?_⟩
    (fun b hb => .inl (.inl hb)) (R.ext.trans x1) (fun j es l q1 q2 => ?_) R.a0
  · rcases hsl j _ q with ⟨_, z⟩ | ⟨hj, q⟩
    · cases z
    · rw [List.getElem?_set_ne hj]; exact R1.val j d q
  · rcases hsl j _ q with ⟨e', y⟩ | ⟨hj, q'⟩
    · cases y
      exact ⟨p, xs, hil j _ q e', .inr rfl, npr, e, z, t⟩
    · rw [List.getElem?_set_ne hj]; exact R1.own j ds q'
  · rcases hsl j _ q1 with ⟨e1, z1⟩ | ⟨hj, q1'⟩
    · rcases hsl k _ q2 with ⟨e2, z2⟩ | ⟨hk, q2'⟩
      · exact hjk (e1.symm.trans e2)
      · rw [hil j _ q1 e1] at q3; cases q3
        rw [List.getElem?_set_ne hk] at q4
        exact nown k _ _ q2' q4 rfl
    · rcases hsl k _ q2 with ⟨e2, z2⟩ | ⟨hk, q2'⟩
      · rw [hil k _ q2 e2] at q4; cases q4
        rw [List.getElem?_set_ne hj] at q3
        exact nown j _ _ q1' q3 rfl
      · rw [List.getElem?_set_ne hj] at q3
        rw [List.getElem?_set_ne hk] at q4
        exact R1.sep j k _ _ l hjk q1' q2' q3 q4
  · rcases hsl j _ q1 with ⟨e1, z1⟩ | ⟨hj, q1'⟩
    · rw [hil j _ q1 e1] at q2; cases q2; exact np0
    · rw [List.getElem?_set_ne hj] at q2
      exact R.fresh j es l q1' q2
/-- a slot gets what may be an own list -/
theorem SR.setX (R : SR K r A0 H0 σ H δ) (x1 : Ext r H H') (rn : RndOk r H') {v : V} {s : Sl} (h : SlV K r (Av A0 r σ δ) H H' v s) : SR K r A0 H0 (σ.set i (some v)) H' (δ.set i s) := by
  cases s with
  | val d => exact (R.move x1 rn).set h
  | own ds =>
    obtain ⟨l, xs, rfl, h1, h2, h3, h4⟩ := h
    exact R.adopt h1 x1 rn h2 h4 h3
  | emp => exact h.elim
end
section
variable {X : Cx} {E : XK} {e a b : Expr} {fe : DE} {fx fy : DX} {i j : Nat} {x y : Str} {pos p' px py pt : Pos} {kt k2 : Nat} {pt2 : Pos}
theorem s_setX (hN : X.N.Nodup) (hi : X.N[i]? = some x) (hx : Loc X.env.scope x) (he : PE X e (tX X.K E fx)) (hs : swapsWith e (some (.Name x p')) pos.line X.env = pure false := by rfl)
    (hf : X.fn x = true ∨ X.env.scope.names.lookup x = some .local := by first | exact .inl rfl | exact .inr rfl | assumption) :
    PS X (.Assign [.Name x p'] e pos) (tS X.K E (fun P δ => fx δ (fun s => P.nx (δ.set i s)) P.ex)) := PS.imp (ps_set hN hi hx he hs hf) fun Dd σ H ⟨r, A0, H0, δ, P, R, h, L⟩ =>
  ⟨r, _, δ, _, P.ex, R.er, h, fun s v H' h2 x2 n2 r2 => L.nx _ _ _ h2 (R.setX x2 n2 r2), fun x c dd H' z e n y => L.ex x c dd H' z (R.ext.trans e) n (y.bar fun b o hb _ => .inl hb)⟩
/-- what the second slot's gets: it stands behind the first one's storing -/
theorem SlV.keep {K : PySem.W.Frag} {r : Addr} {A : Addr → Prop} {H H1 H2 : Hp} {v : V} {s : Sl} (ar : A r) (h : SlV K r A H H1 v s) (x2 : Ext r H1 H2) (rn : RndOk r H) : SlV K r A H H2 v s := by
  cases s with
  | val d => exact DR.ext (x2.toA ar) h
  | own ds =>
    obtain ⟨l, xs, rfl, h1, h2, h3, h4⟩ := h
    refine ⟨l, xs, rfl, h1, x2 l _ (fun z => ?_) h2, h3, h4.ext (x2.toA (.inl ar))⟩
    obtain ⟨ns, e, _⟩ := rn
    rw [z, e] at h1; cases h1
  | emp => exact h.elim
theorem SlV.bar {K : PySem.W.Frag} {r : Addr} {A A' : Addr → Prop} {H H' : Hp} {v : V} {s : Sl} (w : ∀ b, A' b → A b) (h : SlV K r A H H' v s) : SlV K r A' H H' v s := by
  cases s with
  | val d => exact DR.bar (fun b o hb _ => w b hb) h
  | own ds =>
    obtain ⟨l, xs, h1, h2, h3, h4, h5⟩ := h
    exact ⟨l, xs, h1, h2, h3, h4, h5.bar fun b o hb _ => hb.imp (w b) id⟩
  | emp => exact h
theorem av_setX {A0 : Addr → Prop} {r : Addr} {σ : L2.St} {δ : Env} {v : V} {s : Sl} {b : Addr} (hb : Av A0 r (σ.set i (some v)) (δ.set i s) b) : Av A0 r σ δ b ∨ (v = .ref b ∧ ∃ ds, s = .own ds) := by
  rcases hb with hb | hb | ⟨j, ds, q1, q2⟩
  · exact .inl (.inl hb)
  · exact .inl (.inr (.inl hb))
  · by_cases hj : i = j
    · subst hj
      by_cases hl : i < δ.length
      · rw [List.getElem?_set_self hl] at q1
        by_cases hs : i < σ.length
        · rw [List.getElem?_set_self hs] at q2
          cases q1
          cases q2
          exact .inr ⟨rfl, _, rfl⟩
        · rw [List.getElem?_eq_none (by rw [List.length_set]; omega)] at q2; cases q2
      · rw [List.getElem?_eq_none (by rw [List.length_set]; omega)] at q1; cases q1
    · rw [List.getElem?_set_ne hj] at q1 q2
      exact .inl (.inr (.inr ⟨j, ds, q1, q2⟩))
/-- x, y = a, b -/
theorem s_parX (hc : X.calm = true) (hN : X.N.Nodup) (hi : X.N[i]? = some x) (hj : X.N[j]? = some y) (hij : i ≠ j)
    (hx : X.env.scope.names.lookup x = some .local) (hy : X.env.scope.names.lookup y = some .local) (ha : PE X a (tX X.K E fx)) (hb : PE X b (tX X.K E fy))
    (hw : swappedStores [.Tuple [.Name x px, .Name y py] kt pt] (.Tuple [a, b] k2 pt2) X.env = pure (some [x, y]))
    (hs : swapsWithSole [.Tuple [.Name x px, .Name y py] kt pt] (.Tuple [a, b] k2 pt2) pos.line X.env = pure false := by rfl)
    (na : starEach [a, b] X.env = (false, eval a X.env) :: starEach [b] X.env := by rfl) (nb : starEach [b] X.env = (false, eval b X.env) :: starEach [] X.env := by rfl) :
    PS X (.Assign [.Tuple [.Name x px, .Name y py] kt pt] (.Tuple [a, b] k2 pt2) pos) (tS X.K E (fun P δ => fx δ (fun s => fy δ (fun s' => P.nx ((δ.set i s).set j s')) P.ex) P.ex)) :=
  PS.imp (ps_par hc hN hi hj hij hx hy (pa_cons ha (pa_cons hb pa_nil nb) na) hw hs) fun Dd σ H ⟨r, A0, H0, δ, P, R, h, L⟩ =>
  ⟨r, _, δ, _, P.ex, R.er, h, fun s v H1 h2 x1 n1 rv => by
    have hz : ∀ x c dd H', P.ex x → Ext r H1 H' → RndOk r H' → XR X.K r (Av A0 r σ δ) H' c dd x → E c dd H' := fun x c dd H' z e n q => L.ex x c dd H' z ((R.ext.trans x1).trans e) n (q.bar fun b o hb _ => .inl hb)
    have fin : ∀ (A1 : Addr → Prop), ER X.K r A1 σ H1 δ → (∀ b, A0 b → A1 b) → (∀ b, Av A0 r (σ.set i (some v)) (δ.set i s) b → A1 b) → tX X.K E fy σ H1 (fun u H2 => ∃ v' u', [v, u] = [v', u'] ∧ Dd.nx ((σ.set i (some v')).set j (some u')) H2) := fun A1 R1 w0 w =>
      ⟨r, A1, δ, _, P.ex, R1, h2, fun s' u H2 h3 x2 n2 ru => ⟨v, u, rfl, L.nx _ _ _ h3 (((R.setX x1 n1 rv).setX x2 n2 (ru.bar w)))⟩,
        fun x c dd H' z e n q => L.ex x c dd H' z ((R.ext.trans x1).trans e) n (q.bar fun b o hb _ => w0 b hb)⟩
    cases s with
    | val d => exact fin _ (R.er.ext x1 n1) (fun b hb => .inl hb) fun b hb => (av_setX hb).elim id fun ⟨_, ds, z⟩ => by cases z
    | own ds =>
      have rv0 := rv
      obtain ⟨l, xs, rfl, e1, e2, e3, e4⟩ := rv0
      have R0 := R.er.bar (H1 := upd H l (.lst [])) e1 (by rw [upd_same]; simp) fun b o hb q => by rw [upd_ne hb]; exact q
      have nown : ∀ (j : Nat) ds, δ[j]? = some (.own ds) → σ[j]? ≠ some (some (.ref l)) := fun j ds q1 q2 => by
        obtain ⟨l', xs, f1, _, _, f4, _⟩ := R.er.own j ds q1
        rw [f1] at q2; cases q2
        rw [e1] at f4; cases f4
      have R1 : ER X.K r (fun b => Av A0 r σ δ b ∨ b = l) σ H1 δ := R0.extD (p := l) (.inr rfl) (fun j es q => nown j es q) (fun b o hr hb q => by rw [upd_ne hb] at q; exact x1 b o hr q) (by rw [e2]; simp) n1
      exact fin _ R1 (fun b hb => .inl (.inl hb)) fun b hb => (av_setX hb).elim .inl fun ⟨z, _⟩ => by cases z; exact .inr rfl
    | emp => exact rv.elim, fun x c dd H' z e n q => L.ex x c dd H' z (R.ext.trans e) n (q.bar fun b o hb _ => .inl hb)⟩
end
/-! a list or a tuple walked -/
theorem pi_seq {X : Cx} {tg l : Expr} {tl : TE} (hl : PE X l tl) : PI X tg l (fun σ H R => tl σ H fun x H1 => ∃ a, x = .ref a ∧ (((∃ xs, SqL X.K H1 a xs) ∧ R (Itl X.K a) H1) ∨ ((∃ xs, SqT X.K H1 a xs) ∧ R (Itt X.K a) H1))) := by
  refine ⟨fun pins s σ H R I h => thn (hl.run pins s σ H _ I h) fun v s1 ⟨x, H1, I1, r1, a, ex, q1⟩ => ?_⟩
  subst ex
  cases r1
  have fresh : ∀ b ∈ [s1.heap.objs.size], FpOk X pins H1 b := fun b hb => by
    rw [List.mem_singleton.mp hb]
    exact I1.fpOk (Nat.le_refl _) (I1.hok.fresh (Nat.le_refl _))
  rcases q1 with ⟨⟨xs, hq⟩, q⟩ | ⟨⟨xs, hq⟩, q⟩
  · obtain ⟨its, _, p, _⟩ := I1.list hq
    exact wpAny_pyIter_list p.isList ⟨s1.heap.objs.size, [s1.heap.objs.size], _, _, H1, rfl, I1.kept (t' := s1.toks) fun b o e => Heap.get?_push_of_some _ e, turn_list a _, ⟨_, Heap.get?_push_size _ rfl, rfl, rfl⟩, fresh, q⟩
  · obtain ⟨its, _, p, _⟩ := I1.tuple hq
    exact wpAny_pyIter_tuple (show s1.heap.IsTuple a its.toArray from p) ⟨s1.heap.objs.size, [s1.heap.objs.size], _, _, H1, rfl, I1.kept (t' := s1.toks) fun b o e => Heap.get?_push_of_some _ e, turn_tuple a _, ⟨_, Heap.get?_push_size _ rfl, rfl, rfl⟩, fresh, q⟩
theorem i_seq {X : Cx} {E : XK} {tg e : Expr} {f : DE} (h : PE X e (tE X.K E f)) : PI X tg e (tI X.K E (fun δ P Z => f δ (fun d => memD d P) Z)) := PI.imp (pi_seq h) fun σ H R ⟨r, A, δ, P, Z, R0, h2, hq, hz⟩ =>
  ⟨r, A, δ, _, Z, R0, h2, fun d v H1 h3 x1 n1 r1 => by
    cases d with
    | lst ds =>
      obtain ⟨a, xs, rfl, na, e1, z, t⟩ := r1.sqL
      refine ⟨a, rfl, .inl ⟨⟨xs, SqL.of e1⟩, hq ds _ H1 h3 x1 n1 fun i H2 A' ea w wa => ⟨fun hl => ⟨xs, SqL.of (ea a _ na e1), by rw [t.length]; exact hl⟩, fun d hd => ?_⟩⟩⟩
      obtain ⟨u, hu, ru⟩ := t.get hd
      refine ⟨⟨xs, u, SqL.of (ea a _ na e1), hu⟩, ?_⟩
      rintro x H' ⟨rfl, hx⟩
      have := hx xs (SqL.of (ea a _ na e1))
      rw [hu] at this
      cases this
      exact ⟨.refl, w.rnd, ru.move ea wa⟩
    | tup ds =>
      obtain ⟨a, xs, rfl, t, keep, e1⟩ : ∃ a xs, v = .ref a ∧ DRs X.K r A H1 xs ds ∧ (∀ H2, ExtA A H1 H2 → SqT X.K H2 a xs) ∧ SqT X.K H1 a xs := by
        cases r1 with
        | tup n e1 z t => exact ⟨_, _, rfl, t, fun H2 ea => SqT.of (ea _ _ n e1), SqT.of e1⟩
        | ktup o its n e1 c d z w t => exact ⟨_, _, rfl, t, fun H2 ea => .inr ⟨o, its, n, e1, c, d, z, w⟩, .inr ⟨o, its, n, e1, c, d, z, w⟩⟩
      refine ⟨a, rfl, .inr ⟨⟨xs, e1⟩, hq ds _ H1 h3 x1 n1 fun i H2 A' ea w wa => ⟨fun hl => ⟨xs, keep _ ea, by rw [t.length]; exact hl⟩, fun d hd => ?_⟩⟩⟩
      obtain ⟨u, hu, ru⟩ := t.get hd
      refine ⟨⟨xs, u, keep _ ea, hu⟩, ?_⟩
      rintro x H' ⟨rfl, hx⟩
      have := hx xs (keep _ ea)
      rw [hu] at this
      cases this
      exact ⟨.refl, w.rnd, ru.move ea wa⟩
    | _ => exact h3.elim, hz⟩
end L3

namespace L3
open PySem PySem.Spec PyProof.Rows L2
/-! sorted of a tuple of ints, of a text -/
section
variable {X : Cx}
def rSortedTup (K : PySem.W.Frag) : List V → Hp → VK → Prop := fun vs H Q => ∃ (a : Addr) (ns : List Int), vs = [V.ref a] ∧ SqT K H a (ns.map V.int) ∧ ns.length < 64 ∧
  ∀ (ms : List Int) (p : Addr), ms.Perm ns → ms.Pairwise (· ≤ ·) → H p = none → Q (.ref p) (upd H p (.lst (ms.map V.int)))
theorem cr_sortedTup (hc : X.calm = true) : CallR X (.builtin "sorted") (rSortedTup X.K) := by
  intro pins s σ H vs us Q I r h
  obtain ⟨a, ns, rfl, ht, h64, q⟩ := h
  obtain ⟨its, rv, ⟨o, ho, hcl, n, hd⟩, hz⟩ := I.tuple ht
  rw [Vals.ref1 r]
  have hi := rv.ints
  have hln : its.length = ns.length := hi.length
  refine Calls.call_function_entry kind_sorted plain_sorted entry_sorted (args_sorted1 _) ?_
  unfold Builtin.«sorted»
  refine wpAny_bind (m := checkCount "sorted" 1 1 _) (wpAny_pure ?_)
  refine wpAny_bind (wpAny_collect_seq a (T := "tuple") (.inr rfl) ho hcl hd (fun h1 k1 => ?_) (by rw [List.size_toArray, hln, sizeLine_eq]; omega))
  refine wpAny_bind (wpAny_newList ?_ (by rw [hln, sizeLine_eq]; omega))
  have hoL : (h1.push (seqObj "list" its.toArray 0)).get? h1.objs.size = some (seqObj "list" its.toArray 0) := Heap.get?_push_size _ rfl
  refine wpAny_bind (wpAny_holding (wpAny_call_entry slot_list_sort ⟨_, hoL, rfl⟩ entry_list_sort (list_sort_tree (s := { s with heap := h1.push (seqObj "list" its.toArray 0) }) hoL hi (by rw [hln]; exact h64) fun out ms a1 a2 a3 => ⟨_, rfl, ?_⟩) (args_list_sort _)))
  obtain ⟨c, hc2⟩ := sortedHeap_at (vs := its) (out := out) hoL
  have I1 : Inv X pins σ H { s with heap := h1, toks := s.toks } := I.kept (t' := s.toks) k1
  have hlen : (ms.map V.int).length ≤ sizeLine := by rw [List.length_map, a2.length_eq, sizeLine_eq]; omega
  have old : ∀ b u, h1.get? b = some u → (sortedHeap (h1.push (seqObj "list" its.toArray 0)) h1.objs.size its out).get? b = some u := fun b u e => by
    have hlt := Heap.lt_size e
    rw [sortedHeap_old (Nat.ne_of_lt hlt) (by rw [size_push']; exact Nat.lt_succ_of_lt hlt)]
    exact Heap.get?_push_of_some _ e
  exact wpAny_pure ⟨_, rfl, .ref h1.objs.size, upd H h1.objs.size (.lst (ms.map V.int)), I1.laid (t' := s.toks) old (Nat.le_refl _) ⟨hlen, out.toList, c, vals_of_ints a1, hc2⟩, rfl, q ms _ a2 a3 (I1.hok.fresh (Nat.le_refl _))⟩
theorem strsAre_signs {x : Str} {acc : Array Value} (h : ItemsOf (SignAt x) acc x.cps.size) : StrsAre acc.toList (x.cps.toList.map fun c => (⟨#[c]⟩ : Str)) := by
  have key : ∀ (n : Nat) (vs : List Value) (cs : List Nat), vs.length = n → cs.length = n → (∀ (j : Nat) v, vs[j]? = some v → ∃ c u, cs[j]? = some c ∧ v = .str ⟨#[c]⟩ u) → StrsAre vs (cs.map fun c => (⟨#[c]⟩ : Str)) := fun n => by
    induction n with
    | zero =>
      intro vs cs h1 h2 _
      rw [List.length_eq_zero_iff.mp h1, List.length_eq_zero_iff.mp h2]
      exact .nil
    | succ n ih =>
      intro vs cs h1 h2 hv
      match vs, cs, h1, h2, hv with
      | v :: vs, c :: cs, h1, h2, hv =>
        obtain ⟨c', u, e1, e2⟩ := hv 0 v rfl
        cases e1
        rw [e2]
        exact .cons _ u (ih vs cs (by simpa using h1) (by simpa using h2) fun j w hw => hv (j + 1) w hw)
  refine key x.cps.size acc.toList x.cps.toList (by rw [Array.length_toList]; exact h.1) (Array.length_toList) fun j v hj => ?_
  rw [Array.getElem?_toList] at hj
  obtain ⟨c, u, h1, h2⟩ := h.2 j v hj
  exact ⟨c, u, by rw [Array.getElem?_toList]; exact h1, h2⟩
def rSortedStr : List V → Hp → VK → Prop := fun vs H Q => ∃ x : Str, vs = [V.str x] ∧ x.length < 64 ∧
  ∀ (ys : List Str) (p : Addr), ys.Perm (x.cps.toList.map fun c => (⟨#[c]⟩ : Str)) → sortedS ys = true → H p = none → Q (.ref p) (upd H p (.lst (ys.map V.str)))
theorem cr_sortedStr (hc : X.calm = true) : CallR X (.builtin "sorted") rSortedStr := by
  intro pins s σ H vs us Q I r h
  obtain ⟨x, rfl, h64, q⟩ := h
  cases r with
  | cons r1 r2 =>
  cases r2
  obtain ⟨tk, rfl⟩ := r1
  have hxs : x.cps.size < 64 := h64
  refine Calls.call_function_entry kind_sorted plain_sorted entry_sorted (args_sorted1 _) ?_
  unfold Builtin.«sorted»
  refine wpAny_bind (m := checkCount "sorted" 1 1 _) (wpAny_pure ?_)
  refine wpAny_bind (wpAny_collect_str (A := X.A.in1) (I.ok.hd hc) x tk (fun s1 acc k1 g1 d1 o1 hit => ?_) (by rw [sizeLine_eq]; omega))
  have hS := strsAre_signs hit
  have hln : acc.toList.length = x.cps.size := by rw [Array.length_toList]; exact hit.1
  obtain ⟨h1, gs, dr, tk1, os⟩ := s1
  simp only at g1 d1 o1 k1
  subst g1 d1 o1
  have ea : acc = acc.toList.toArray := by simp
  refine wpAny_bind (wpAny_newList ?_ (by rw [hln, sizeLine_eq]; omega))
  have hoL : (h1.push (seqObj "list" acc.toList.toArray 0)).get? h1.objs.size = some (seqObj "list" acc.toList.toArray 0) := Heap.get?_push_size _ rfl
  refine wpAny_bind (wpAny_holding (wpAny_call_entry slot_list_sort ⟨_, hoL, rfl⟩ entry_list_sort (list_sort_treeK (s := { s with heap := h1.push (seqObj "list" acc.toList.toArray 0), toks := tk1 }) strKind_oneLt hoL hS.keysOf (fun v₁ v₂ rest e => keyKind_strs (by rw [← e]; exact hS)) (by rw [hln]; exact hxs) fun st' hp hs => ⟨_, rfl, ?_⟩) (args_list_sort _)))
  obtain ⟨ys, a1, a2, a3⟩ := sorted_out_str hS hp hs
  obtain ⟨c, hc2⟩ := sortedHeap_at (vs := acc.toList) (out := (arrOf st').map (·.2)) hoL
  have I1 : Inv X pins σ H { s with heap := h1, toks := tk1 } := I.kept (t' := tk1) k1
  have hlen : (ys.map V.str).length ≤ sizeLine := by rw [List.length_map, a2.length_eq, List.length_map, Array.length_toList, sizeLine_eq]; omega
  have old : ∀ b u, h1.get? b = some u → (sortedHeap (h1.push (seqObj "list" acc.toList.toArray 0)) h1.objs.size acc.toList ((arrOf st').map (·.2))).get? b = some u := fun b u e => by
    have hlt := Heap.lt_size e
    rw [sortedHeap_old (Nat.ne_of_lt hlt) (by rw [size_push']; exact Nat.lt_succ_of_lt hlt)]
    exact Heap.get?_push_of_some _ e
  exact wpAny_pure ⟨_, rfl, .ref h1.objs.size, upd H h1.objs.size (.lst (ys.map V.str)), I1.laid (t' := tk1) old (Nat.le_refl _) ⟨hlen, ((arrOf st').map (·.2)).toList, c, vals_of_strs a1, hc2⟩, rfl, q ys _ a2 a3 (I1.hok.fresh (Nat.le_refl _))⟩
end
end L3

namespace L3
open PySem PySem.Spec PyProof.Rows L2
/-! zip of two lists -/
def zipD (ds es : List D) : List D := (ds.zip es).map fun p => .tup [p.1, p.2]
theorem zipD_length (ds es : List D) : (zipD ds es).length = min ds.length es.length := by simp [zipD]
theorem zipD_get {ds es : List D} {i : Nat} {d : D} (h : (zipD ds es)[i]? = some d) : ∃ x y, ds[i]? = some x ∧ es[i]? = some y ∧ d = .tup [x, y] := by
  unfold zipD at h
  rw [List.getElem?_map] at h
  cases e : (ds.zip es)[i]? with
  | none => rw [e] at h; cases h
  | some p =>
    rw [e] at h
    obtain ⟨x, y⟩ := p
    rw [List.getElem?_zip_eq_some] at e
    exact ⟨x, y, e.1, e.2, (Option.some.inj h).symm⟩
def itZ : List D → (List D → Prop) → Prop
  | [.lst ds, .lst es], P => P (zipD ds es)
  | _, _ => False
section
variable {X : Cx} {E : XK} {p pos : Pos} {fs : DA}
theorem i_zip {a b : Expr} {elts : List Expr} {kk : Nat} {tpos : Pos} (hg : Gl X "zip") (hm : X.mg "zip" = none) (ha : PA X [a, b] (tA X.K E fs)) (hs : starEach [a, b] X.env = (false, eval a X.env) :: starEach [b] X.env := by rfl) (hpl : (backTo pos (starEach [b] X.env)).any (·.1) = false := by rfl) :
    PI X (.Tuple elts kk tpos) (.Call (.Name "zip" p) [a, b] [] pos) (tI X.K E (fun δ P Z => fs δ (fun ds => itZ ds P) Z)) := PI.imp (pi_zip hg hm ha hs hpl) fun σ H R ⟨r, A, δ, P, Z, R0, h2, hq, hz⟩ =>
  ⟨r, A, δ, _, Z, R0, h2, fun ds vs H1 h3 x1 n1 r1 => by
    match ds, h3 with
    | [.lst ds, .lst es], h3 =>
      cases r1 with
      | cons r1 b =>
        cases b with
        | cons r2 b =>
          cases b
          obtain ⟨a, xs, rfl, na, e1, z, t⟩ := r1.sqL
          obtain ⟨b, ys, rfl, nb, e2, z2, t2⟩ := r2.sqL
          refine ⟨a, b, xs, ys, rfl, SqL.of e1, SqL.of e2, hq _ _ H1 h3 x1 n1 fun i H2 A' ea w wa => ⟨fun hl => ?_, fun d hd => ?_⟩⟩
          · have hl' : min xs.length ys.length ≤ i := by rw [t.length, t2.length, ← zipD_length]; exact hl
            exact ⟨xs, ys, SqL.of (ea a _ na e1), SqL.of (ea b _ nb e2), by omega⟩
          · obtain ⟨x, y, hx, hy, rfl⟩ := zipD_get hd
            obtain ⟨u, hu, ru⟩ := t.get hx
            obtain ⟨v, hv, rv⟩ := t2.get hy
            refine ⟨⟨xs, ys, u, v, SqL.of (ea a _ na e1), SqL.of (ea b _ nb e2), hu, hv⟩, ?_⟩
            rintro q H' ⟨T, u', v', rfl, nT, rfl, hx⟩
            have h1 := hx.1 xs (SqL.of (ea a _ na e1))
            have h2 := hx.2 ys (SqL.of (ea b _ nb e2))
            rw [hu] at h1
            rw [hv] at h2
            cases h1; cases h2
            exact ⟨Ext.upd nT, w.rnd.upd nT, w.tup nT (by show 2 ≤ sizeLine; decide) (.cons (ru.move ea wa) (.cons (rv.move ea wa) .nil))⟩, hz⟩
end
end L3

namespace L3
open PySem PySem.Spec PyProof.Rows L2
/-! count and index of bools in a list -/
section
variable {X : Cx}
def rCntB (K : PySem.W.Frag) : V → List V → Hp → VK → Prop := fun x xs H Q => ∃ (p : Addr) (bs : List Bool) (b : Bool), x = .ref p ∧ xs = [.bl b] ∧ SqL K H p (bs.map V.bl) ∧ Q (.int (bs.count b : Nat)) H
theorem flat_bls (bs : List Bool) : (bs.map V.bl).all flatV = true := by
  rw [List.all_map, List.all_eq_true]
  exact fun _ _ => rfl
theorem eqV_bl (a b : Bool) : eqV (.bl a) (.bl b) = (a == b) := by cases a <;> cases b <;> rfl
theorem cnt_bls {b : Bool} : ∀ {us : List Value} {bs : List Bool}, Vals (bs.map V.bl) us → us.countP (eqU (.bl b)) = bs.count b
  | _, [], .nil => rfl
  | _, c :: bs, .cons r t => by
    rw [List.countP_cons, List.count_cons, cnt_bls (bs := bs) t, eqU_of r rfl, eqV_bl]
theorem mt_cntB : MtR X "list.count" (rCntB X.K) := by
  intro pins s σ H x xs v us Q I rx rxs h
  obtain ⟨a, bs, b, rfl, rfl, hs, q⟩ := h
  cases rx
  cases rxs with
  | cons ry rt =>
    rename_i uy ut
    cases rt
    obtain ⟨its, rv, ⟨⟨cls, dd, data, sl⟩, n, ho, hc, hdn, hd⟩, hlen⟩ := I.list hs
    simp only at hc hd
    subst hc hd
    refine call_meets PySem.F.slot_list_count ⟨_, ho, rfl⟩ PySem.F.entry_list_count (PySem.F.args_list_count_2 _ _)
      (SeqAt.list_countAt a its.toArray n dd sl uy (eqU (.bl b))) ⟨ho, fun u' hu' => mem_eqAt ry rfl rv (flat_bls bs) u' (by simpa using hu'), ?_⟩
    have ec : its.toArray.toList.countP (eqU (.bl b)) = bs.count b := cnt_bls rv
    refine ⟨.int (bs.count b : Nat), H, I.tok _, ⟨s.toks, ?_⟩, q⟩
    show Value.int ((its.toArray.toList.countP (eqU (.bl b)) : Nat) : Int) s.toks = Value.int ((bs.count b : Nat) : Int) s.toks
    rw [ec]
end
def cntD (ds : List D) : D → DP → Prop
  | .bl b, P => ∃ bs : List Bool, ds = bs.map D.bl ∧ P (.int (bs.count b : Nat))
  | _, _ => False
def idxD (ds : List D) : D → DP → Prop
  | .bl b, P => ∃ (bs : List Bool) (j : Nat), ds = bs.map D.bl ∧ bs[j]? = some b ∧ (∀ (m : Nat), m < j → bs[m]? ≠ some b) ∧ P (.int (j : Nat))
  | _, _ => False
section
variable {X : Cx} {E : XK} {e a lo : Expr} {hi : Option Expr} {fe fa : DE} {fl fh : DO} {fs : DA} {pos p2 apos : Pos}
theorem e_count (he : PE X e (tE X.K E fe)) (ha : PE X a (tE X.K E fa)) (hs : starEach [a] X.env = [(false, eval a X.env)] := by rfl) (hbase : attributeBase e "count" X.env (eval e X.env) = eval e X.env := by rfl)
    (hfew : ((backTo pos (starEach [a] X.env)).all (fun x => !x.1) && (backToKw pos (keywordEach [] X.env)).all (fun x => x.1.isSome)
      && decide ([a].length + ([] : List Keyword).length + (if ([] : List Keyword).isEmpty then 0 else 1) < 30)) = true := by rfl)
    (hline : (apos.endLine == pos.line) = true := by rfl) (hplain : (backTo pos (starEach [] X.env)).any (·.1) = false := by rfl) :
    PE X (.Call (.Attribute e "count" apos) [a] [] pos) (tE X.K E (fun δ P Z => fe δ (fun d => ∃ ds, d = .lst ds ∧ fa δ (fun d' => cntD ds d' P) Z) Z)) :=
  PE.imp (pe_bm PySem.F.plainAttrs_list PySem.F.slot_list_count PySem.F.type_list_count mt_cntB he (pa_cons ha pa_nil hs) hbase hfew hline hs hplain) fun σ H Q ⟨r, A, δ, P, Z, R, h, hq, hz⟩ =>
  ⟨r, A, δ, _, Z, R, h, fun d v H1 h1 x1 n1 r1 => by
    obtain ⟨ds, rfl, h1⟩ := h1
    obtain ⟨p, xs, rfl, na, e1, z1, t1⟩ := r1.sqL
    refine ⟨.inl ⟨rfl, xs, SqL.of e1⟩, r, A, δ, _, Z, R.ext x1 n1, h1, fun d' v' H2 h2 x2 n2 r2 => ?_, fun x c dd H' z x2 => hz x c dd H' z (x1.trans x2)⟩
    cases d' with
    | bl b =>
      obtain ⟨bs, rfl, h2⟩ := h2
      cases r2
      have hx := t1.bls
      subst hx
      exact ⟨p, bs, b, rfl, rfl, SqL.of (x2 p _ (fun z => na (z ▸ R.ar)) e1), hq _ _ _ h2 (x1.trans x2) n2 (.int _)⟩
    | _ => exact h2.elim, hz⟩
theorem inV_no : ∀ {b : Bool}, flatV (.bl b) = true := rfl
theorem e_index (he : PE X e (tE X.K E fe)) (ha : PE X a (tE X.K E fa)) (hs : starEach [a] X.env = [(false, eval a X.env)] := by rfl) (hbase : attributeBase e "index" X.env (eval e X.env) = eval e X.env := by rfl)
    (hfew : ((backTo pos (starEach [a] X.env)).all (fun x => !x.1) && (backToKw pos (keywordEach [] X.env)).all (fun x => x.1.isSome)
      && decide ([a].length + ([] : List Keyword).length + (if ([] : List Keyword).isEmpty then 0 else 1) < 30)) = true := by rfl)
    (hline : (apos.endLine == pos.line) = true := by rfl) (hplain : (backTo pos (starEach [] X.env)).any (·.1) = false := by rfl) :
    PE X (.Call (.Attribute e "index" apos) [a] [] pos) (tE X.K E (fun δ P Z => fe δ (fun d => ∃ ds, d = .lst ds ∧ fa δ (fun d' => idxD ds d' P) Z) Z)) :=
  PE.imp (pe_bm PySem.F.plainAttrs_list PySem.F.slot_list_index PySem.F.type_list_index mt_index he (pa_cons ha pa_nil hs) hbase hfew hline hs hplain) fun σ H Q ⟨r, A, δ, P, Z, R, h, hq, hz⟩ =>
  ⟨r, A, δ, _, Z, R, h, fun d v H1 h1 x1 n1 r1 => by
    obtain ⟨ds, rfl, h1⟩ := h1
    obtain ⟨p, xs, rfl, na, e1, z1, t1⟩ := r1.sqL
    refine ⟨.inl ⟨rfl, xs, SqL.of e1⟩, r, A, δ, _, Z, R.ext x1 n1, h1, fun d' v' H2 h2 x2 n2 r2 => ?_, fun x c dd H' z x2 => hz x c dd H' z (x1.trans x2)⟩
    cases d' with
    | bl b =>
      obtain ⟨bs, j, rfl, hj, hno, h2⟩ := h2
      cases r2
      have hx := t1.bls
      subst hx
      refine ⟨p, bs.map V.bl, .bl b, j, .bl b, rfl, rfl, SqL.of (x2 p _ (fun z => na (z ▸ R.ar)) e1), rfl, flat_bls bs, by rw [List.getElem?_map, hj]; rfl, by rw [eqV_bl]; exact beq_self_eq_true b, fun m z' hm hz' => ?_, hq _ _ _ h2 (x1.trans x2) n2 (.int _)⟩
      rw [List.getElem?_map] at hz'
      cases hb : bs[m]? with
      | none => rw [hb] at hz'; cases hz'
      | some c =>
        rw [hb] at hz'
        cases hz'
        rw [eqV_bl]
        exact beq_eq_false_iff_ne.mpr fun z => hno m hm (by rw [hb, z])
    | _ => exact h2.elim, hz⟩
def zfD (z : Str) : D → DP → Prop
  | .int i, P => PadOk i = true ∧ P (.str (Txt.zfill z i))
  | _, _ => False
theorem e_zfill (he : PE X e (tE X.K E fe)) (ha : PE X a (tE X.K E fa)) (hs : starEach [a] X.env = [(false, eval a X.env)] := by rfl) (hbase : attributeBase e "zfill" X.env (eval e X.env) = eval e X.env := by rfl)
    (hfew : ((backTo pos (starEach [a] X.env)).all (fun x => !x.1) && (backToKw pos (keywordEach [] X.env)).all (fun x => x.1.isSome)
      && decide ([a].length + ([] : List Keyword).length + (if ([] : List Keyword).isEmpty then 0 else 1) < 30)) = true := by rfl)
    (hline : (apos.endLine == pos.line) = true := by rfl) (hplain : (backTo pos (starEach [] X.env)).any (·.1) = false := by rfl) :
    PE X (.Call (.Attribute e "zfill" apos) [a] [] pos) (tE X.K E (fun δ P Z => fe δ (fun d => ∃ z, d = .str z ∧ fa δ (fun d' => zfD z d' P) Z) Z)) :=
  PE.imp (pe_bm PySem.F.plainAttrs_str PySem.F.slot_str_zfill PySem.F.type_str_zfill mt_zfill he (pa_cons ha pa_nil hs) hbase hfew hline hs hplain) fun σ H Q ⟨r, A, δ, P, Z, R, h, hq, hz⟩ =>
  ⟨r, A, δ, _, Z, R, h, fun d v H1 h1 x1 n1 r1 => by
    obtain ⟨z, rfl, h1⟩ := h1
    cases r1
    refine ⟨rfl, r, A, δ, _, Z, R.ext x1 n1, h1, fun d' v' H2 h2 x2 n2 r2 => ?_, fun x c dd H' z x2 => hz x c dd H' z (x1.trans x2)⟩
    cases d' with
    | int i =>
      cases r2
      exact ⟨z, i, rfl, rfl, h2.1, hq _ _ _ h2.2 (x1.trans x2) n2 (.str _)⟩
    | _ => exact h2.elim, hz⟩
/-! slices of a text -/
def slSD (lo hi : Option Int) : D → DP → Prop
  | .str z, P => z.length ≤ sizeLine ∧ P (.str (cutS z lo hi))
  | _, _ => False
theorem e_sliceS {lo hi : Option Expr} (he : PE X e (tE X.K E fe)) (hl : PO X lo (tOD X.K E fl)) (hh : PO X hi (tOD X.K E fh)) : PE X (.Subscript e (.Slice lo hi none p2) pos) (tE X.K E (fun δ P Z => fe δ (fun d => fl δ (fun l => fh δ (fun u => slSD l u d P) Z) Z) Z)) :=
  PE.imp (pe_slice sl_str he hl hh) fun σ H Q ⟨r, A, δ, P, Z, R, h, hq, hz⟩ =>
  ⟨r, A, δ, _, Z, R, h, fun d v H1 h1 x1 n1 r1 => ⟨r, A, δ, _, Z, R.ext x1 n1, h1, fun l H2 h2 x2 n2 => ⟨r, A, δ, _, Z, (R.ext x1 n1).ext x2 n2, h2, fun u H3 h3 x3 n3 => by
    cases d with
    | str z =>
      cases r1
      exact ⟨z, rfl, h3.1, hq _ _ _ h3.2 ((x1.trans x2).trans x3) n3 (.str _)⟩
    | _ => exact h3.elim, fun x c dd H' z x3 => hz x c dd H' z ((x1.trans x2).trans x3)⟩, fun x c dd H' z x2 => hz x c dd H' z (x1.trans x2)⟩, hz⟩
/-! str(i), max of a list of ints -/
def strID : List D → DP → Prop
  | [.int i], P => i.natAbs.log2 < 1920 ∧ P (.str (toString i))
  | _, _ => False
theorem cd_strI {K : PySem.W.Frag} : CallD K (fun xs H Q => ∃ i, xs = [.int i] ∧ i.natAbs.log2 < 1920 ∧ Q (.str (toString i)) H) strID := fun r A H xs ds P Q w t h q => by
  match ds, h with
  | [.int i], h =>
    obtain ⟨v, rfl, a⟩ := t.one
    cases a
    exact ⟨i, rfl, h.1, q _ _ _ h.2 .refl w.rnd (.str _)⟩
def maxLD : List D → DP → Prop
  | [.lst ds], P => ∃ ns : List Int, ds = ns.map D.int ∧ 0 < ns.length ∧ ∀ m, m ∈ ns → (∀ y, y ∈ ns → y ≤ m) → P (.int m)
  | _, _ => False
theorem cd_max {K : PySem.W.Frag} : CallD K (rMax K) maxLD := fun r A H xs ds P Q w t h q => by
  match ds, h with
  | [.lst ds], h =>
    obtain ⟨ns, rfl, h0, h⟩ := h
    obtain ⟨v, rfl, a⟩ := t.one
    obtain ⟨p, xs, rfl, _, e1, z1, t1⟩ := a.sqL
    have hx := t1.ints
    subst hx
    exact ⟨p, ns, rfl, SqL.of e1, h0, fun m h1 h2 => q _ _ _ (h m h1 h2) .refl w.rnd (.int _)⟩
end
end L3

namespace L3
open PySem PySem.Spec PyProof.Rows L2
/-! list(text), sorted of a list or tuple of ints -/
section
variable {X : Cx}
def rListStr : List V → Hp → VK → Prop := fun vs H Q => ∃ x : Str, vs = [V.str x] ∧ x.length ≤ 1000000 ∧ ∀ l, H l = none → Q (.ref l) (upd H l (.lst (x.cps.toList.map fun c => V.str ⟨#[c]⟩)))
theorem cr_listStr (hc : X.calm = true) : CallR X (.type "list") rListStr := by
  intro pins s σ H vs us Q I r h
  obtain ⟨x, rfl, hx, q⟩ := h
  cases r with
  | cons r1 r2 =>
  cases r2
  obtain ⟨tk, rfl⟩ := r1
  have hxs : x.cps.size ≤ 1000000 := hx
  refine call_list_str (I.ok.hd hc) x tk (fun h' tk' acc c' kp e hit => ?_) (by rw [sizeLine_eq]; omega)
  have hS := strsAre_signs hit
  have ea : acc = acc.toList.toArray := by simp
  rw [ea] at e
  have ev : (x.cps.toList.map fun c => V.str ⟨#[c]⟩) = (x.cps.toList.map fun c => (⟨#[c]⟩ : Str)).map V.str := by rw [List.map_map]; rfl
  refine ⟨.ref s.heap.objs.size, _, I.laid (t' := tk') kp (Nat.le_refl _) (show ObjOk X.prog X.w _ h' _ (.lst (x.cps.toList.map fun c => V.str ⟨#[c]⟩)) from ⟨by rw [List.length_map, Array.length_toList, sizeLine_eq]; omega, acc.toList, c', by rw [ev]; exact vals_of_strs hS, e⟩), rfl, q _ (I.hok.fresh (Nat.le_refl _))⟩
end
theorem DRs.of_strs {K : PySem.W.Frag} {r : Addr} {A : Addr → Prop} {H : Hp} : ∀ {ns : List Str}, DRs K r A H (ns.map V.str) (ns.map D.str)
  | [] => .nil
  | _ :: _ => .cons (.str _) DRs.of_strs
def listAD : List D → DP → Prop
  | [.str x], P => x.length ≤ 1000000 ∧ P (.lst (x.cps.toList.map fun c => D.str ⟨#[c]⟩))
  | ds, P => listD ds P
def sortedD : List D → DP → Prop
  | [.lst ds], P => ∃ ns : List Int, ds = ns.map D.int ∧ ns.length < 64 ∧ ∀ ms : List Int, ms.Perm ns → ms.Pairwise (· ≤ ·) → P (.lst (ms.map D.int))
  | [.tup ds], P => ∃ ns : List Int, ds = ns.map D.int ∧ ns.length < 64 ∧ ∀ ms : List Int, ms.Perm ns → ms.Pairwise (· ≤ ·) → P (.lst (ms.map D.int))
  | _, _ => False
theorem cd_sorted {K : PySem.W.Frag} : CallD K (fun vs H Q => rSorted K vs H Q ∨ rSortedTup K vs H Q) sortedD := fun r A H xs ds P Q w t h q => by
  match ds, h with
  | [.lst ds], h =>
    obtain ⟨ns, rfl, hl, h⟩ := h
    obtain ⟨v, rfl, a⟩ := t.one
    obtain ⟨p, xs, rfl, _, e1, z1, t1⟩ := a.sqL
    have hx := t1.ints
    subst hx
    exact .inl ⟨p, ns, rfl, SqL.of e1, hl, fun ms l hp hs nl => q _ _ _ (h ms hp hs) (Ext.upd nl) (w.rnd.upd nl) (w.lst nl (by rw [List.length_map, hp.length_eq, sizeLine_eq]; omega) DRs.of_ints)⟩
  | [.tup ds], h =>
    obtain ⟨ns, rfl, hl, h⟩ := h
    obtain ⟨v, rfl, a⟩ := t.one
    obtain ⟨p, xs, rfl, e1, z1, t1⟩ := a.sqT
    have hx := t1.ints
    subst hx
    exact .inr ⟨p, ns, rfl, e1, hl, fun ms l hp hs nl => q _ _ _ (h ms hp hs) (Ext.upd nl) (w.rnd.upd nl) (w.lst nl (by rw [List.length_map, hp.length_eq, sizeLine_eq]; omega) DRs.of_ints)⟩
theorem cd_listA {K : PySem.W.Frag} : CallD K (fun xs H Q => (∃ p ys, xs = [.ref p] ∧ (SqL K H p ys ∨ SqT K H p ys) ∧ ∀ l, H l = none → Q (.ref l) (upd H l (.lst ys))) ∨ rListStr xs H Q) listAD := fun r A H xs ds P Q w t h q => by
  match ds, h with
  | [.str x], h =>
    obtain ⟨v, rfl, a⟩ := t.one
    cases a
    refine .inr ⟨x, rfl, h.1, fun l nl => q _ _ _ h.2 (Ext.upd nl) (w.rnd.upd nl) (w.lst nl (by rw [List.length_map, sizeLine_eq]; have := h.1; show x.cps.toList.length ≤ _; rw [Array.length_toList]; have e : x.length = x.cps.size := rfl; omega) ?_)⟩
    have e1 : (x.cps.toList.map fun c => V.str ⟨#[c]⟩) = (x.cps.toList.map fun c => (⟨#[c]⟩ : Str)).map V.str := by rw [List.map_map]; rfl
    have e2 : (x.cps.toList.map fun c => D.str ⟨#[c]⟩) = (x.cps.toList.map fun c => (⟨#[c]⟩ : Str)).map D.str := by rw [List.map_map]; rfl
    rw [e1, e2]
    exact DRs.of_strs
  | [.lst ds], h => exact .inl (cd_list r A H xs [.lst ds] P Q w t h q)
  | [.tup ds], h => exact .inl (cd_list r A H xs [.tup ds] P Q w t h q)
end L3

namespace L3
open PySem PySem.Spec PyProof.Rows L2
open Sem (wp)
/-- a tuple of told values, as it is made -/
abbrev TupV (h : Heap) (T : Addr) (vs : List Value) : Prop := h.get? T = some { cls := .type "tuple", data := .seq vs.toArray }
/-- an iterator that a zip draws of -/
structure Feed (prog : Program) (w : World) (A : Around) where
  it : Addr
  fp : List Addr
  n : Nat
  P : Nat → Value → Prop
  St : Nat → Heap → Prop
  mem : it ∈ fp
  frame : ∀ i h h', St i h → (∀ b ∈ fp, ∀ o, h.get? b = some o → h'.get? b = some o) → St i h'
  item : ∀ i (s : Shared) (Q : Value → Shared → Prop) (E : Value → Shared → Prop), i < n → St i s.heap →
    (∀ x h' tk, P i x → St (i + 1) h' → Heap.SameBut it s.heap h' → Q x { s with heap := h', toks := tk }) → wpAny (model prog w) A (Builtin.SmallTypes.nextOf (.ref it)) Q E s
  done : ∀ i (s : Shared) (Q : Value → Shared → Prop) (E : Value → Shared → Prop), n ≤ i → St i s.heap →
    (∀ h' e, Heap.ExtBut it s.heap h' → (∃ o, h'.get? e = some o ∧ o.cls = .type "StopIteration") → E (.ref e) { s with heap := h' }) → wpAny (model prog w) A (Builtin.SmallTypes.nextOf (.ref it)) Q E s
theorem Feed.over {prog : Program} {w : World} {A : Around} (f : Feed prog w A) {i : Nat} {h h' : Heap} {x : Addr} (st : f.St i h) (hs : Heap.SameBut x h h') (hx : x ∉ f.fp) : f.St i h' :=
  f.frame i h h' st fun b hb o e => hs.extBut b o (fun q => hx (q ▸ hb)) e
theorem forIn_steps {M : Model} {A : Around} {E : Value → Shared → Prop} {α β : Type} {f : α → β → Sem (ForInStep β)} {Q : β → Shared → Prop} (I : Nat → β → Shared → Prop) : ∀ (l : List α) (k : Nat) (b : β) (s : Shared), I k b s →
    (∀ i (x : α) b s, l[i]? = some x → I (k + i) b s → wpAny M A (f x b) (fun r s' => ∃ b', r = .yield b' ∧ I (k + i + 1) b' s') E s) → (∀ b s, I (k + l.length) b s → Q b s) → wpAny M A (forIn l b f) Q E s
  | [], k, b, s, h, _, q => by
    rw [List.forIn_nil]
    exact wpAny_pure (q b s h)
  | x :: l, k, b, s, h, st, q => by
    rw [List.forIn_cons]
    refine wpAny_bind (wpAny_mono (st 0 x b s rfl h) ?_ ?_)
    · rintro r s' ⟨b', rfl, h'⟩
      refine forIn_steps I l (k + 1) b' s' h' (fun i y b s e hi => ?_) fun b s hl => q b s ?_
      · have := st (i + 1) y b s (by simpa using e) (by rw [show k + (i + 1) = k + 1 + i by omega]; exact hi)
        rw [show k + 1 + i + 1 = k + (i + 1) + 1 by omega]
        exact this
      · rw [List.length_cons, show k + (l.length + 1) = k + 1 + l.length by omega]
        exact hl
    · exact fun _ _ h => h
structure Apart {prog : Program} {w : World} {A : Around} (z TI TO : Addr) (L : List (Feed prog w A)) : Prop where
  TIz : TI ≠ z
  TOz : TO ≠ z
  TITO : TI ≠ TO
  ti : ∀ f ∈ L, TI ≠ f.it
  zf : ∀ f ∈ L, z ∉ f.fp
  tf : ∀ f ∈ L, TO ∉ f.fp
  sep : ∀ (i j : Nat) (f g : Feed prog w A), i ≠ j → L[i]? = some f → L[j]? = some g → f.it ∉ g.fp
section
variable {prog : Program} {w : World} {A : Around} {E : Value → Shared → Prop} {s : Shared} {z TI TO : Addr} {L : List (Feed prog w A)} {i : Nat} {as : List Value}
theorem zipN_run {Q : Value → Shared → Prop} (S : Apart z TI TO L) (hne : L ≠ []) (hz : IsZip s.heap z TI TO .none) (hTI : TupV s.heap TI (L.map fun f => .ref f.it)) (hTO : TupV s.heap TO as) (hl : as.length = L.length) (hL : L.length ≤ 1000)
    (st : ∀ f ∈ L, f.St i s.heap)
    (hQ : ∀ xs h' tk, (∀ f ∈ L, i < f.n) → xs.length = L.length → (∀ (m : Nat) f x, L[m]? = some f → xs[m]? = some x → f.P i x) → IsZip h' z TI TO (rawInt s.heap.objs.size) → TupV h' TO xs → (∀ f ∈ L, f.St (i + 1) h') → TupV h' s.heap.objs.size xs → h'.objs.size = s.heap.objs.size + 1 →
      (∀ c o, c ≠ z → c ≠ TO → (∀ f ∈ L, c ≠ f.it) → s.heap.get? c = some o → h'.get? c = some o) → Q (.ref s.heap.objs.size) { s with heap := h', toks := tk })
    (hE : ∀ h' tk e, (∃ f ∈ L, f.n ≤ i) → (∀ c o, c ≠ z → c ≠ TO → (∀ f ∈ L, c ≠ f.it) → s.heap.get? c = some o → h'.get? c = some o) → (∃ o, h'.get? e = some o ∧ o.cls = .type "StopIteration") → E (.ref e) { s with heap := h', toks := tk }) :
    wpAny (model prog w) A (Builtin.«zip.__next__» ⟨[.ref z], []⟩) (fun fin s' => ∃ v, fin = .done (.ret v) ∧ Q v s') E s := by
  obtain ⟨hp, g, d, tk0, os⟩ := s
  replace hQ : ∀ xs h' tk, (∀ f ∈ L, i < f.n) → xs.length = L.length → (∀ (m : Nat) f x, L[m]? = some f → xs[m]? = some x → f.P i x) → IsZip h' z TI TO (rawInt hp.objs.size) → TupV h' TO xs → (∀ f ∈ L, f.St (i + 1) h') → TupV h' hp.objs.size xs → h'.objs.size = hp.objs.size + 1 →
      (∀ c o, c ≠ z → c ≠ TO → (∀ f ∈ L, c ≠ f.it) → hp.get? c = some o → h'.get? c = some o) → Q (.ref hp.objs.size) ⟨h', g, d, tk, os⟩ := hQ
  replace hE : ∀ h' tk e, (∃ f ∈ L, f.n ≤ i) → (∀ c o, c ≠ z → c ≠ TO → (∀ f ∈ L, c ≠ f.it) → hp.get? c = some o → h'.get? c = some o) → (∃ o, h'.get? e = some o ∧ o.cls = .type "StopIteration") → E (.ref e) ⟨h', g, d, tk, os⟩ := hE
  show wpAny _ _ (field (.ref z) 2 >>= _) _ _ _
  refine wpAny_bind (wpAny_field hz rfl (x := .bool false) rfl ?_)
  show wpAny _ _ (field (.ref z) 3 >>= _) _ _ _
  refine wpAny_bind (wpAny_field hz rfl (x := .ref TI) rfl ?_)
  refine wpAny_bind (wpAny_seqItems hTI rfl ?_)
  have hem : (L.map fun f => Value.ref f.it).toArray.isEmpty = false := by
    cases L with
    | nil => exact absurd rfl hne
    | cons _ _ => rfl
  show wpAny _ _ (if (L.map fun f => Value.ref f.it).toArray.isEmpty = true then _ else _) _ _ _
  rw [hem, if_neg Bool.false_ne_true]
  show wpAny _ _ (Builtin.SmallTypes.ownedTupleIsFree (.ref z) >>= _) _ _ _
  refine wpAny_bind ?_
  unfold Builtin.SmallTypes.ownedTupleIsFree
  refine wpAny_bind (wpAny_field hz rfl (x := .none) rfl (wpAny_pure ?_))
  simp only [if_true]
  refine wpAny_bind (wpAny_rule ?_)
  refine wpAny_bind (wpAny_field hz rfl (x := .ref TO) rfl ?_)
  refine wpAny_bind (wpAny_setField_rec hz (by simp) fun g0 hz0 hs0 => ?_)
  replace hz0 : IsZip g0 z TI TO .ellipsis := hz0
  replace hs0 : Heap.SameBut z hp g0 := hs0
  refine wpAny_bind ?_
  refine forIn_steps (fun k b s' => b = (none, ()) ∧ ∃ h' tk vs, s' = ⟨h', g, d, tk, os⟩ ∧ vs.length = L.length ∧ IsZip h' z TI TO .ellipsis ∧ TupV h' TO vs ∧ (∀ (m : Nat) f, m < k → L[m]? = some f → i < f.n) ∧ (∀ (m : Nat) f x, m < k → L[m]? = some f → vs[m]? = some x → f.P i x) ∧
    (∀ (m : Nat) f, L[m]? = some f → if m < k then f.St (i + 1) h' else f.St i h') ∧ h'.objs.size = hp.objs.size ∧ ∀ c o, c ≠ z → c ≠ TO → (∀ f ∈ L, c ≠ f.it) → hp.get? c = some o → h'.get? c = some o) _ 0 _ _ ?_ ?_ ?_
  · refine ⟨rfl, g0, tk0, as, rfl, hl, hz0, hs0.extBut _ _ S.TOz hTO, fun m f hm => absurd hm (Nat.not_lt_zero _), fun m f x hm => absurd hm (Nat.not_lt_zero _), fun m f hm => ?_, hs0.1, fun c o hc _ _ e => hs0.extBut _ _ hc e⟩
    rw [if_neg (Nat.not_lt_zero _)]
    exact f.over (st f (List.mem_of_getElem? hm)) hs0 (S.zf f (List.mem_of_getElem? hm))
  · rintro k ⟨itv, k'⟩ b s' hk ⟨rfl, h', tk, vs, rfl, hvl, hz1, hT1, hN1, hP1, hS1, hsz1, hfr1⟩
    rw [Nat.zero_add] at hN1 hP1 hS1 ⊢
    obtain ⟨f, hf, rfl, rfl⟩ : ∃ f, L[k]? = some f ∧ itv = .ref f.it ∧ k = k' := by
      rw [List.getElem?_zipIdx, List.getElem?_map] at hk
      cases e : L[k]? with
      | none => rw [e] at hk; cases hk
      | some f => rw [e] at hk; cases hk; exact ⟨f, rfl, rfl, (Nat.zero_add _).symm⟩
    have hfm := List.mem_of_getElem? hf
    have hst : f.St i h' := by
      have := hS1 k f hf
      rw [if_neg (Nat.lt_irrefl _)] at this
      exact this
    refine wpAny_bind (wpAny_onRaise ?_)
    show wpAny _ _ (Builtin.SmallTypes.nextOf (.ref f.it) >>= _) _ _ ⟨h', g, d, tk, os⟩
    have hzi : z ≠ f.it := fun q => S.zf f hfm (q ▸ f.mem)
    have hTi : TO ≠ f.it := fun q => S.tf f hfm (q ▸ f.mem)
    by_cases hlt : i < f.n
    · refine wpAny_bind (f.item i _ _ _ hlt hst fun x p1 tk1 hx1 sn1 hp1 => wpAny_pure ?_)
      replace hp1 : Heap.SameBut f.it h' p1 := hp1
      have hU : TupV p1 TO vs := hp1.extBut _ _ hTi hT1
      refine wpAny_bind (wpAny_seqItems (s := ⟨p1, g, d, tk1, os⟩) hU rfl ?_)
      refine wpAny_bind (wpAny_updateSeq (s := ⟨p1, g, d, tk1, os⟩) hU rfl ?_ (by rw [List.size_toArray, sizeLine_eq]; omega) (by rw [Array.size_setIfInBounds, List.size_toArray, sizeLine_eq]; omega))
      refine wpAny_bind (wpAny_letGo (wpAny_pure ⟨_, rfl, rfl, ?_⟩))
      have hs2 : Heap.SameBut TO p1 (p1.update TO (Obj.mapSeq fun y => y.setIfInBounds k x)) := Heap.SameBut.update ..
      refine ⟨p1.update TO (Obj.mapSeq fun y => y.setIfInBounds k x), tk1, vs.set k x, rfl, by rw [List.length_set]; exact hvl, hs2.extBut _ _ S.TOz.symm (hp1.extBut _ _ hzi hz1), ?_, fun m f' hm hf' => ?_, fun m f' y hm hf' hy => ?_, fun m f' hf' => ?_, ?_, fun c o c1 c2 c3 e => hs2.extBut _ _ c2 (hp1.extBut _ _ (c3 f hfm) (hfr1 c o c1 c2 c3 e))⟩
      · show Heap.get? _ TO = _
        rw [Heap.get?_update_self _ hU rfl]
        simp [Obj.mapSeq]
      · rcases Nat.lt_succ_iff_lt_or_eq.mp hm with hm | rfl
        · exact hN1 m f' hm hf'
        · rw [hf] at hf'; cases hf'; exact hlt
      · rcases Nat.lt_succ_iff_lt_or_eq.mp hm with hm | rfl
        · rw [List.getElem?_set_ne (by omega)] at hy
          exact hP1 m f' y hm hf' hy
        · rw [hf] at hf'; cases hf'
          rw [List.getElem?_set_self (by rw [hvl]; exact (List.getElem?_eq_some_iff.mp hf).1)] at hy
          cases hy
          exact hx1
      · have hf'm := List.mem_of_getElem? hf'
        by_cases hmk : m = k
        · subst hmk
          rw [hf] at hf'; cases hf'
          rw [if_pos (Nat.lt_succ_self _)]
          exact f.over sn1 hs2 (S.tf f hfm)
        · have h1 := hS1 m f' hf'
          have hno : f.it ∉ f'.fp := S.sep k m f f' (Ne.symm hmk) hf hf'
          by_cases hm : m < k
          · rw [if_pos hm] at h1
            rw [if_pos (by omega)]
            exact f'.over (f'.over h1 hp1 hno) hs2 (S.tf f' hf'm)
          · rw [if_neg hm] at h1
            rw [if_neg (by omega)]
            exact f'.over (f'.over h1 hp1 hno) hs2 (S.tf f' hf'm)
      · rw [hs2.1, hp1.1, hsz1]
    · refine wpAny_bind (f.done i _ _ _ (Nat.le_of_not_lt hlt) hst fun p1 e hp1 he => ?_)
      obtain ⟨oe, hoe, hce⟩ := he
      have hz2 : IsZip p1 z TI TO .ellipsis := hp1 _ _ hzi hz1
      have hez : e ≠ z := fun x => by subst x; rw [hz2] at hoe; cases hoe; simp at hce
      exact wpAny_setField_rec hz2 (by simp) fun p2 _ hs2 => hE p2 tk e ⟨f, hfm, Nat.le_of_not_lt hlt⟩ (fun c o c1 c2 c3 q => hs2.extBut _ _ c1 (hp1 _ _ (c3 f hfm) (hfr1 c o c1 c2 c3 q))) ⟨oe, hs2.extBut _ _ hez hoe, hce⟩
  · rintro b s' ⟨rfl, h', tk, vs, rfl, hvl, hz1, hT1, hN1, hP1, hS1, hsz1, hfr1⟩
    rw [Nat.zero_add, List.length_zipIdx, List.length_map] at hN1 hP1 hS1
    have hlt : ∀ {m : Nat} {f}, L[m]? = some f → m < L.length := fun e => (List.getElem?_eq_some_iff.mp e).1
    refine wpAny_bind (wpAny_seqItems (s := ⟨h', g, d, tk, os⟩) hT1 rfl ?_)
    refine wpAny_bind (wpAny_newTuple ?_ (by rw [sizeLine_eq]; show vs.length ≤ _; omega))
    show wpAny _ _ (Builtin.SmallTypes.ownedTupleHandOut (.ref z) (.ref h'.objs.size) >>= _) _ _ ⟨h'.push { cls := .type "tuple", data := .seq vs.toArray }, g, d, tk, os⟩
    refine wpAny_bind ?_
    unfold Builtin.SmallTypes.ownedTupleHandOut
    have hzlt : z < h'.objs.size := Heap.lt_size hz1
    have hz6 : IsZip (h'.push { cls := .type "tuple", data := .seq vs.toArray }) z TI TO .ellipsis := Heap.get?_push_of_some _ hz1
    refine wpAny_bind (wpAny_setField_rec hz6 (by simp) fun h7 hz7 hs7 => ?_)
    replace hz7 : IsZip h7 z TI TO (rawInt h'.objs.size) := hz7
    refine wpAny_setField_rec hz7 (by simp) fun h8 hz8 hs8 => ?_
    replace hz8 : IsZip h8 z TI TO (rawInt h'.objs.size) := hz8
    replace hs7 : Heap.SameBut z (h'.push { cls := .type "tuple", data := .seq vs.toArray }) h7 := hs7
    replace hs8 : Heap.SameBut z h7 h8 := hs8
    have up : ∀ c o, c ≠ z → h'.get? c = some o → h8.get? c = some o := fun c o c1 e => hs8.extBut _ _ c1 (hs7.extBut _ _ c1 (Heap.get?_push_of_some _ e))
    have hT8 : TupV h8 h'.objs.size vs := hs8.extBut _ _ (Nat.ne_of_gt hzlt) (hs7.extBut _ _ (Nat.ne_of_gt hzlt) (Heap.get?_push_size _ rfl))
    have hsz8 : h8.objs.size = h'.objs.size + 1 := by rw [hs8.1, hs7.1, Heap.size_push]
    rw [hsz1] at hz8 hT8 hsz8
    refine wpAny_pure ⟨_, rfl, ?_⟩
    show Q (.ref h'.objs.size) ⟨h8, g, d, tk, os⟩
    rw [hsz1]
    refine hQ vs h8 tk (fun f hf => ?_) hvl (fun m f x hf hx => hP1 m f x (hlt hf) hf hx) hz8 (up _ _ S.TOz hT1) (fun f hf => ?_) hT8 hsz8 fun c o c1 c2 c3 e => up c o c1 (hfr1 c o c1 c2 c3 e)
    · obtain ⟨m, hm⟩ := List.getElem?_of_mem hf
      exact hN1 m f (hlt hm) hm
    · obtain ⟨m, hm⟩ := List.getElem?_of_mem hf
      have := hS1 m f hm
      rw [if_pos (hlt hm)] at this
      exact f.frame _ _ _ this fun b hb o e => up b o (fun q => S.zf f hf (q ▸ hb)) e
theorem pyNext_zipN {L : List (Feed prog w A.in1)} {Q : Option Value → Shared → Prop} (S : Apart z TI TO L) (hne : L ≠ []) (hz : IsZip s.heap z TI TO .none) (hTI : TupV s.heap TI (L.map fun f => .ref f.it)) (hTO : TupV s.heap TO as) (hl : as.length = L.length) (hL : L.length ≤ 1000)
    (st : ∀ f ∈ L, f.St i s.heap)
    (hQ : ∀ xs h' tk, (∀ f ∈ L, i < f.n) → xs.length = L.length → (∀ (m : Nat) f x, L[m]? = some f → xs[m]? = some x → f.P i x) → IsZip h' z TI TO (rawInt s.heap.objs.size) → TupV h' TO xs → (∀ f ∈ L, f.St (i + 1) h') → TupV h' s.heap.objs.size xs → h'.objs.size = s.heap.objs.size + 1 →
      (∀ c o, c ≠ z → c ≠ TO → (∀ f ∈ L, c ≠ f.it) → s.heap.get? c = some o → h'.get? c = some o) → Q (some (.ref s.heap.objs.size)) { s with heap := h', toks := tk })
    (hE : ∀ h' tk, (∃ f ∈ L, f.n ≤ i) → (∀ c o, c ≠ z → c ≠ TO → (∀ f ∈ L, c ≠ f.it) → s.heap.get? c = some o → h'.get? c = some o) → Q none { s with heap := h', toks := tk }) :
    wpAny (model prog w) A (pyNext (.ref z)) Q E s := by
  have hT : s.TypeIs (.ref z) "zip" := ⟨_, hz, rfl⟩
  unfold pyNext
  refine wpAny_bind (wpAny_attempt (wpAny_callSpecial?_slot (name := Str.ofString "__next__") hT F.slot_zip_next
    (wpAny_call_entry F.slot_zip_next hT F.entry_zip_next (zipN_run S hne hz hTI hTO hl hL st (fun xs h' tk a0 a1 a2 a3 a4 a5 a6 a7 a8 => wpAny_pure (hQ xs h' tk a0 a1 a2 a3 a4 a5 a6 a7 a8)) fun h' tk e he hk ho => ?_) (F.args_zip_next_1 _))))
  obtain ⟨o, ho, hc⟩ := ho
  refine wpAny_bind (wpAny_isInstance (T := "StopIteration") (b := true) ⟨o, ho, hc⟩ isSubtype_stop ?_)
  exact wpAny_pure (hE h' tk he hk)
end
/-- what a zip goes over -/
inductive Sv where
  | l (a : Addr) | t (a : Addr) | s (x : Str) (k : Tok)
def Sv.val : Sv → Value
  | .l a => .ref a
  | .t a => .ref a
  | .s x k => .str x k
def Sv.cells : Sv → List Addr
  | .l a => [a]
  | .t a => [a]
  | .s _ _ => []
/-- its iterator behind i items -/
def Sv.at (h : Heap) (it : Addr) : Sv → Nat → Prop
  | .l a, i => h.IsListIter it a i
  | .t a, i => h.IsTupleIter it a i
  | .s x k, i => h.IsStrIter it (strIterType x) x k i
def Sv.holds (h : Heap) : Sv → List Value → Prop
  | .l a, us => h.IsList a us.toArray
  | .t a, us => h.IsTuple a us.toArray
  | .s _ _, _ => True
def signsV (x : Str) : List V := x.cps.toList.map fun c => V.str ⟨#[c]⟩
def Sv.vals : Sv → List V → List Value → Prop
  | .l _, xs, us => Vals xs us
  | .t _, xs, us => Vals xs us
  | .s x _, xs, _ => xs = signsV x
section
variable {prog : Program} {w : World} {A : Around}
theorem Vals.getV {xs : List V} {us : List Value} {i : Nat} {u : Value} (r : Vals xs us) (e : us[i]? = some u) : ∃ x, xs[i]? = some x ∧ RelV x u := by
  have hl : i < xs.length := by rw [r.length]; exact (List.getElem?_eq_some_iff.mp e).1
  obtain ⟨u', e', q⟩ := r.get (List.getElem?_eq_getElem hl)
  rw [e] at e'; cases e'
  exact ⟨_, List.getElem?_eq_getElem hl, q⟩
def feed (hh : A.handled = none) (it : Addr) (src : Sv) (xs : List V) (us : List Value) (hv : src.vals xs us) (hne : ∀ a ∈ src.cells, a ≠ it) : Feed prog w A where
  it := it
  fp := it :: src.cells
  n := xs.length
  P := fun i v => ∃ x, xs[i]? = some x ∧ RelV x v
  St := fun i h => src.at h it i ∧ src.holds h us
  mem := List.mem_cons_self
  frame := fun i h h' st hk => by
    cases src with
    | l a => exact ⟨st.1.at fun o e => hk it (by simp) o e, st.2.at fun o e => hk a (by simp [Sv.cells]) o e⟩
    | t a => exact ⟨st.1.at fun o e => hk it (by simp) o e, st.2.at fun o e => hk a (by simp [Sv.cells]) o e⟩
    | s x k =>
      obtain ⟨⟨o, e, c, d⟩, _⟩ := st
      exact ⟨⟨o, hk it (by simp) o e, c, d⟩, trivial⟩
  item := fun i s Q E hi st hQ => by
    cases src with
    | l a =>
      have hv : Vals xs us := hv
      have hl : i < us.length := by rw [← hv.length]; exact hi
      have e : us[i]? = some us[i] := List.getElem?_eq_getElem hl
      exact wpAny_nextOf_list_item st.1 st.2 (x := us[i]) (by simpa using hl) fun h' hit hs => hQ _ h' s.toks (Vals.getV hv e) ⟨hit, st.2.extBut hs.extBut (hne a (by simp [Sv.cells]))⟩ hs
    | t a =>
      have hv : Vals xs us := hv
      have hl : i < us.length := by rw [← hv.length]; exact hi
      have e : us[i]? = some us[i] := List.getElem?_eq_getElem hl
      exact wpAny_nextOf_tuple_item st.1 st.2 (x := us[i]) (by simpa using hl) fun h' hit hs => hQ _ h' s.toks (Vals.getV hv e) ⟨hit, st.2.extBut hs.extBut (hne a (by simp [Sv.cells]))⟩ hs
    | s x k =>
      have hv : xs = signsV x := hv
      have hl : i < x.cps.size := by rw [hv] at hi; simpa [signsV] using hi
      have e : x.cps[i]? = some x.cps[i] := by simp [hl]
      have ex : xs[i]? = some (.str ⟨#[x.cps[i]]⟩) := by rw [hv]; simp [signsV, hl]
      have h1 : s.heap.IsStrIter it (strIterType x) x k i := st.1
      cases ha : x.cps.all (· < 128)
      · have et : strIterType x = "str_iterator" := by simp [strIterType, ha]
        rw [et] at h1
        exact wpAny_nextOf_wide_item h1 e fun h' hit hs => hQ _ h' (s.toks + 1) ⟨_, ex, ⟨_, rfl⟩⟩ ⟨by show h'.IsStrIter it (strIterType x) x k (i + 1); rw [et]; exact hit, trivial⟩ hs
      · have et : strIterType x = "str_ascii_iterator" := by simp [strIterType, ha]
        rw [et] at h1
        exact wpAny_nextOf_ascii_item h1 e fun h' hit hs => hQ _ h' (s.toks + 1) ⟨_, ex, ⟨_, rfl⟩⟩ ⟨by show h'.IsStrIter it (strIterType x) x k (i + 1); rw [et]; exact hit, trivial⟩ hs
  done := fun i s Q E hi st hE => by
    cases src with
    | l a =>
      have hv : Vals xs us := hv
      exact wpAny_nextOf_list_end hh st.1 st.2 (by have := hv.length; simp; omega) hE
    | t a =>
      have hv : Vals xs us := hv
      exact wpAny_nextOf_tuple_end hh st.1 st.2 (by have := hv.length; simp; omega) hE
    | s x k =>
      have hv : xs = signsV x := hv
      have hl : x.cps.size ≤ i := by rw [hv] at hi; simpa [signsV] using hi
      have e : x.cps[i]? = none := by simp [hl]
      have h1 : s.heap.IsStrIter it (strIterType x) x k i := st.1
      cases ha : x.cps.all (· < 128)
      · have et : strIterType x = "str_iterator" := by simp [strIterType, ha]
        rw [et] at h1
        exact wpAny_nextOf_wide_end hh h1 e hE
      · have et : strIterType x = "str_ascii_iterator" := by simp [strIterType, ha]
        rw [et] at h1
        exact wpAny_nextOf_ascii_end hh h1 e hE
end
/-- .. told without texts' marks -/
inductive Zk where
  | l (a : Addr) | t (a : Addr) | s (x : Str)
def Sv.kind : Sv → Zk
  | .l a => .l a
  | .t a => .t a
  | .s x _ => .s x
def Zk.is (K : PySem.W.Frag) (H : Hp) : Zk → List V → Prop
  | .l a, xs => SqL K H a xs
  | .t a, xs => SqT K H a xs
  | .s x, xs => xs = signsV x
/-- the items of all, in new tuples -/
def ItzN (K : PySem.W.Frag) (zs : List Zk) : It :=
  ⟨fun i H => ∀ zk ∈ zs, ∃ xs x, zk.is K H xs ∧ xs[i]? = some x,
   fun i H v H' => ∃ T ys, v = .ref T ∧ H T = none ∧ H' = upd H T (.tup ys) ∧ ys.length = zs.length ∧ ∀ (m : Nat) zk y, zs[m]? = some zk → ys[m]? = some y → ∀ xs, zk.is K H xs → xs[i]? = some y,
   fun i H => (∀ zk ∈ zs, ∃ xs, zk.is K H xs) ∧ ∃ zk ∈ zs, ∃ xs, zk.is K H xs ∧ xs.length ≤ i⟩
section
variable {X : Cx} {pins : List (Addr × Obj)} {σ : L2.St} {H : Hp} {s : Shared}
theorem Zk.found (I : Inv X pins σ H s) {src : Sv} {xs : List V} (h : src.kind.is X.K H xs) : ∃ us, src.vals xs us ∧ src.holds s.heap us := by
  cases src with
  | l a =>
    obtain ⟨us, rv, p, _⟩ := I.list h
    exact ⟨us, rv, p.isList⟩
  | t a =>
    obtain ⟨us, rv, p, _⟩ := I.tuple h
    exact ⟨us, rv, p⟩
  | s x k => exact ⟨[], h, trivial⟩
theorem Zk.one (I : Inv X pins σ H s) {zk : Zk} {xs ys : List V} (h : zk.is X.K H xs) (h' : zk.is X.K H ys) : xs = ys := by
  cases zk with
  | l a => exact I.list_inj h h'
  | t a => exact I.tuple_inj h h'
  | s x => exact Eq.trans h (Eq.symm h')
theorem mkFeeds {A : Around} (I : Inv X pins σ H s) (hh : A.handled = none) : ∀ (srcs : List Sv) (its : List Addr), its.length = srcs.length → (∀ src ∈ srcs, ∃ xs, src.kind.is X.K H xs) → (∀ it ∈ its, ∀ src ∈ srcs, ∀ a ∈ src.cells, a ≠ it) →
    ∃ L : List (Feed X.prog X.w A), L.map (·.it) = its ∧ ∀ (m : Nat) f src, L[m]? = some f → srcs[m]? = some src → ∃ it xs us hv hne, its[m]? = some it ∧ src.kind.is X.K H xs ∧ src.holds s.heap us ∧ f = feed hh it src xs us hv hne
  | [], [], _, _, _ => ⟨[], rfl, fun m f src h => by simp at h⟩
  | src :: srcs, it :: its, hl, hk, hne => by
    obtain ⟨L, h1, h2⟩ := mkFeeds I hh srcs its (by simpa using hl) (fun x hx => hk x (List.mem_cons_of_mem _ hx)) fun x hx y hy => hne x (List.mem_cons_of_mem _ hx) y (List.mem_cons_of_mem _ hy)
    obtain ⟨xs, hx⟩ := hk src List.mem_cons_self
    obtain ⟨us, hv, hh2⟩ := Zk.found I hx
    refine ⟨feed hh it src xs us hv (hne it List.mem_cons_self src List.mem_cons_self) :: L, by rw [List.map_cons, h1]; rfl, fun m f sc e1 e2 => ?_⟩
    cases m with
    | zero =>
      cases e1; cases e2
      exact ⟨it, xs, us, hv, _, rfl, hx, hh2, rfl⟩
    | succ m =>
      rw [List.getElem?_cons_succ] at e1 e2 ⊢
      exact h2 m f sc e1 e2
theorem pickVs : ∀ (vals : List Value) (R : Nat → V → Prop), (∀ m v, vals[m]? = some v → ∃ y, R m y ∧ RelV y v) → ∃ ys, Vals ys vals ∧ ∀ m y, ys[m]? = some y → R m y
  | [], _, _ => ⟨[], .nil, fun m y h => by simp at h⟩
  | v :: vals, R, h => by
    obtain ⟨ys, h1, h2⟩ := pickVs vals (fun m => R (m + 1)) fun m u e => h (m + 1) u (by simpa using e)
    obtain ⟨y, r1, r2⟩ := h 0 v rfl
    refine ⟨y :: ys, .cons r2 h1, fun m z e => ?_⟩
    cases m with
    | zero => cases e; exact r1
    | succ m => exact h2 m z (by simpa using e)
end
structure Apart2 (z TI TO : Addr) (its : List Addr) (srcs : List Sv) : Prop where
  TIz : TI ≠ z
  TOz : TO ≠ z
  TITO : TI ≠ TO
  ti : ∀ b ∈ its, b ≠ TI ∧ b ≠ TO ∧ b ≠ z
  cl : ∀ src ∈ srcs, ∀ a ∈ src.cells, a ≠ z ∧ a ≠ TO ∧ ∀ b ∈ its, a ≠ b
  nd : its.Nodup
theorem Apart2.apart {prog : Program} {w : World} {A : Around} {z TI TO : Addr} {its : List Addr} {srcs : List Sv} (D : Apart2 z TI TO its srcs) {L : List (Feed prog w A)} (h1 : L.map (·.it) = its) (hl : its.length = srcs.length)
    (h2 : ∀ (m : Nat) f src, L[m]? = some f → srcs[m]? = some src → f.fp = f.it :: src.cells) : Apart z TI TO L := by
  have hm : ∀ f ∈ L, f.it ∈ its := fun f hf => by rw [← h1]; exact List.mem_map.mpr ⟨f, hf, rfl⟩
  have hs : ∀ f ∈ L, ∃ src ∈ srcs, f.fp = f.it :: src.cells := fun f hf => by
    obtain ⟨m, e⟩ := List.getElem?_of_mem hf
    have hlt : m < srcs.length := by rw [← hl, ← h1, List.length_map]; exact (List.getElem?_eq_some_iff.mp e).1
    exact ⟨_, List.getElem_mem hlt, h2 m f _ e (List.getElem?_eq_getElem hlt)⟩
  refine ⟨D.TIz, D.TOz, D.TITO, fun f hf => Ne.symm (D.ti _ (hm f hf)).1, fun f hf h => ?_, fun f hf h => ?_, fun i j f g hij ef eg h => ?_⟩
  · obtain ⟨src, h3, h4⟩ := hs f hf
    rw [h4] at h
    rcases List.mem_cons.mp h with h | h
    · exact (D.ti _ (hm f hf)).2.2 h.symm
    · exact (D.cl src h3 _ h).1 rfl
  · obtain ⟨src, h3, h4⟩ := hs f hf
    rw [h4] at h
    rcases List.mem_cons.mp h with h | h
    · exact (D.ti _ (hm f hf)).2.1 h.symm
    · exact (D.cl src h3 _ h).2.1 rfl
  · obtain ⟨src, h3, h4⟩ := hs g (List.mem_of_getElem? eg)
    rw [h4] at h
    rcases List.mem_cons.mp h with h | h
    · have e1 : its[i]? = some f.it := by rw [← h1, List.getElem?_map, ef]; rfl
      have e2 : its[j]? = some f.it := by rw [← h1, List.getElem?_map, eg, h]; rfl
      exact hij ((List.getElem?_inj (List.getElem?_eq_some_iff.mp e1).1 D.nd).mp (e1.trans e2.symm))
    · exact (D.cl src h3 _ h).2.2 _ (hm f (List.mem_of_getElem? ef)) rfl
/-- a zip at work behind i turns -/
def zipAt (z TI TO : Addr) (its : List Addr) (srcs : List Sv) (i : Nat) (h : Heap) : Prop :=
  IsZip h z TI TO .none ∧ TupV h TI (its.map .ref) ∧ (∃ as, as.length = its.length ∧ TupV h TO as) ∧ ∀ (m : Nat) it src, its[m]? = some it → srcs[m]? = some src → src.at h it i
theorem Sv.at_keep {src : Sv} {h h' : Heap} {it : Addr} {i : Nat} (st : src.at h it i) (k : ∀ o, h.get? it = some o → h'.get? it = some o) : src.at h' it i := by
  cases src <;> (obtain ⟨o, e, c, d⟩ := st; exact ⟨o, k o e, c, d⟩)
theorem Sv.at_obj {src : Sv} {h : Heap} {it : Addr} {i : Nat} (st : src.at h it i) : ∃ o, h.get? it = some o ∧ ∀ v, o.data ≠ .cell v := by
  cases src <;> (obtain ⟨o, e, c, d⟩ := st; exact ⟨o, e, fun v q => by rw [d] at q; cases q⟩)
theorem turn_zipN {P : Program} {w : World} {K : PySem.W.Frag} {elts : List Expr} {kk : Nat} {tpos : Pos} {z TI TO : Addr} {its : List Addr} {srcs : List Sv} (D : Apart2 z TI TO its srcs) (hl : its.length = srcs.length) (hne : srcs ≠ []) (hL : srcs.length ≤ 1000) :
    Turn P w K (.Tuple elts kk tpos) (ItzN K (srcs.map Sv.kind)) (z :: TI :: TO :: its) z (zipAt z TI TO its srcs) where
  mem := List.mem_cons_self
  obj := fun i h ⟨hz, hTI, ⟨as, _, hTO⟩, hs⟩ c hc => by
    rcases List.mem_cons.mp hc with rfl | hc
    · exact ⟨_, hz, fun v q => nomatch q⟩
    rcases List.mem_cons.mp hc with rfl | hc
    · exact ⟨_, hTI, fun v q => nomatch q⟩
    rcases List.mem_cons.mp hc with rfl | hc
    · exact ⟨_, hTO, fun v q => nomatch q⟩
    obtain ⟨m, e⟩ := List.getElem?_of_mem hc
    have hlt : m < srcs.length := by rw [← hl]; exact (List.getElem?_eq_some_iff.mp e).1
    exact Sv.at_obj (hs m c _ e (List.getElem?_eq_getElem hlt))
  keep := fun i h h' ⟨hz, hTI, ⟨as, ha, hTO⟩, hs⟩ k => ⟨k z List.mem_cons_self _ hz, k TI (by simp) _ hTI, ⟨as, ha, k TO (by simp) _ hTO⟩, fun m it src e1 e2 => Sv.at_keep (hs m it src e1 e2) fun o q => k it (by simp [List.mem_of_getElem? e1]) o q⟩
  item := by
    intro X hP hw hK hc i pins s σ H E I hf st hg
    subst hP hw hK
    obtain ⟨hz, hTI, ⟨as, ha, hTO⟩, hs⟩ := st
    obtain ⟨L, h1, h2⟩ := mkFeeds (A := X.A.in1) I (I.ok.hd hc) srcs its hl (fun src hsrc => by obtain ⟨xs, x, hx, _⟩ := hg src.kind (List.mem_map.mpr ⟨src, hsrc, rfl⟩); exact ⟨xs, hx⟩) fun it hit src hsrc a haa => (D.cl src hsrc a haa).2.2 it hit
    have hll : L.length = srcs.length := by rw [← hl, ← h1, List.length_map]
    have S : Apart z TI TO L := D.apart h1 hl fun m f src e1 e2 => by obtain ⟨it, xs, us, hv, hn, _, _, _, rfl⟩ := h2 m f src e1 e2; rfl
    have src_of : ∀ {m : Nat} {f}, L[m]? = some f → ∃ src, srcs[m]? = some src := fun e => ⟨_, List.getElem?_eq_getElem (by rw [← hll]; exact (List.getElem?_eq_some_iff.mp e).1)⟩
    have hzl : z < s.heap.objs.size := Heap.lt_size hz
    have its_lt : ∀ b ∈ its, b < s.heap.objs.size := fun b hb => by
      obtain ⟨m, e⟩ := List.getElem?_of_mem hb
      have hlt : m < srcs.length := by rw [← hl]; exact (List.getElem?_eq_some_iff.mp e).1
      obtain ⟨o, e1, _⟩ := Sv.at_obj (hs m b _ e (List.getElem?_eq_getElem hlt))
      exact Heap.lt_size e1
    refine pyNext_zipN (L := L) (i := i) S (show L ≠ [] from fun e => hne (List.length_eq_zero_iff.mp (by rw [← hll, e]; rfl))) hz (by rw [show (L.map fun f => Value.ref f.it) = its.map Value.ref from by rw [← h1, List.map_map]; rfl]; exact hTI) hTO (by rw [ha, hl, hll]) (by omega) (fun f hfm => ?_) (fun vals h' tk hn hvl hP z' TO' hs' hT hsz hk => ?_) fun h' tk hend hk => ?_
    · obtain ⟨m, e⟩ := List.getElem?_of_mem hfm
      obtain ⟨src, es⟩ := src_of e
      obtain ⟨it, xs, us, hv, hn, e1, _, h4, rfl⟩ := h2 m f src e es
      exact ⟨hs m it src e1 es, h4⟩
    · obtain ⟨ys, rys, hys⟩ := pickVs vals (fun m y => ∀ zk, (srcs.map Sv.kind)[m]? = some zk → ∀ xs, zk.is X.K H xs → xs[i]? = some y) fun m v e => by
        have hm : m < L.length := by rw [← hvl]; exact (List.getElem?_eq_some_iff.mp e).1
        have ef := List.getElem?_eq_getElem hm
        have hp := hP m _ v ef e
        obtain ⟨src, es⟩ := src_of ef
        obtain ⟨it, xs, us, hv, hn, e1, h3, _, h5⟩ := h2 m _ src ef es
        rw [h5] at hp
        obtain ⟨y, hy, ry⟩ := hp
        refine ⟨y, fun zk ezk xs' hx' => ?_, ry⟩
        rw [List.getElem?_map, es] at ezk
        cases ezk
        rw [Zk.one I hx' h3]
        exact hy
      have hyl : ys.length = srcs.length := by rw [rys.length, hvl, hll]
      refine ⟨_, rfl, wpAny_letOwnedTupleGo_zip (s := { s with heap := h', toks := tk }) z' fun h'' z'' sb => ?_⟩
      have hT2 : h''.get? s.heap.objs.size = some { cls := .type "tuple", data := .seq vals.toArray } := (sb.2 _ (Nat.ne_of_gt hzl)).trans hT
      have new : ObjOk X.prog X.w (upd H s.heap.objs.size (.tup ys)) h'' s.heap.objs.size (.tup ys) := ⟨by rw [sizeLine_eq]; omega, vals, rys, ⟨_, hT2, rfl, _, rfl⟩⟩
      have I1 : Inv X pins σ (upd H s.heap.objs.size (.tup ys)) { s with heap := h'', toks := tk } :=
        I.turnedNew (t' := tk) (ch := z :: TI :: TO :: its) (fun c o hb q => (sb.2 c (fun q' => hb (by simp [q']))).trans (hk c o (fun q' => hb (by simp [q'])) (fun q' => hb (by simp [q'])) (fun f hfm q' => hb (by rw [q', ← h1]; simp only [List.mem_cons, List.mem_map]; exact .inr (.inr (.inr ⟨f, hfm, rfl⟩)))) q)) hf (Nat.le_refl _) new
      refine ⟨.ref s.heap.objs.size, _, I1, rfl, ⟨_, ys, rfl, I.hok.fresh (Nat.le_refl _), rfl, by rw [hyl, List.length_map], fun m zk y e1 e2 xs hx => hys m y e2 zk e1 xs hx⟩, ⟨z'', ?_, ⟨vals, by rw [hvl, hll, hl], ?_⟩, fun m it src e1 e2 => ?_⟩, fun c hcm => ?_⟩
      · exact (sb.2 _ D.TIz).trans (hk _ _ D.TIz D.TITO (fun f hfm => S.ti f hfm) hTI)
      · exact (sb.2 _ D.TOz).trans TO'
      · have hm : m < L.length := by rw [hll]; exact (List.getElem?_eq_some_iff.mp e2).1
        have ef := List.getElem?_eq_getElem hm
        have h3 := hs' _ (List.getElem_mem hm)
        obtain ⟨it', xs, us, hv, hn, e1', _, _, h5⟩ := h2 m _ src ef e2
        rw [h5] at h3
        rw [e1] at e1'
        cases e1'
        exact Sv.at_keep h3.1 fun o q => (sb.2 _ (D.ti it (List.mem_of_getElem? e1)).2.2).trans q
      · have hlt : c < s.heap.objs.size := by
          rcases List.mem_cons.mp hcm with rfl | hcm
          · exact hzl
          rcases List.mem_cons.mp hcm with rfl | hcm
          · exact Heap.lt_size hTI
          rcases List.mem_cons.mp hcm with rfl | hcm
          · exact Heap.lt_size hTO
          exact its_lt c hcm
        rw [upd_ne (Nat.ne_of_lt hlt)]
        exact (hf c hcm).1
    · exfalso
      obtain ⟨f, hfm, hle⟩ := hend
      obtain ⟨m, e⟩ := List.getElem?_of_mem hfm
      obtain ⟨src, es⟩ := src_of e
      obtain ⟨it, xs, us, hv, hn, _, h3, _, rfl⟩ := h2 m f src e es
      obtain ⟨xs', x, hx, hxi⟩ := hg src.kind (List.mem_map.mpr ⟨src, List.mem_of_getElem? es, rfl⟩)
      rw [Zk.one I hx h3] at hxi
      have := (List.getElem?_eq_some_iff.mp hxi).1
      exact absurd hle (Nat.not_le_of_lt this)
  done := by
    intro X hP hw hK hc i pins s σ H E I hf st hg
    subst hP hw hK
    obtain ⟨hz, hTI, ⟨as, ha, hTO⟩, hs⟩ := st
    obtain ⟨hall, zk0, hzk0, xs0, hx0, hle0⟩ := hg
    obtain ⟨L, h1, h2⟩ := mkFeeds (A := X.A.in1) I (I.ok.hd hc) srcs its hl (fun src hsrc => hall src.kind (List.mem_map.mpr ⟨src, hsrc, rfl⟩)) fun it hit src hsrc a haa => (D.cl src hsrc a haa).2.2 it hit
    have hll : L.length = srcs.length := by rw [← hl, ← h1, List.length_map]
    have S : Apart z TI TO L := D.apart h1 hl fun m f src e1 e2 => by obtain ⟨it, xs, us, hv, hn, _, _, _, rfl⟩ := h2 m f src e1 e2; rfl
    have src_of : ∀ {m : Nat} {f}, L[m]? = some f → ∃ src, srcs[m]? = some src := fun e => ⟨_, List.getElem?_eq_getElem (by rw [← hll]; exact (List.getElem?_eq_some_iff.mp e).1)⟩
    refine pyNext_zipN (L := L) (i := i) S (show L ≠ [] from fun e => hne (List.length_eq_zero_iff.mp (by rw [← hll, e]; rfl))) hz (by rw [show (L.map fun f => Value.ref f.it) = its.map Value.ref from by rw [← h1, List.map_map]; rfl]; exact hTI) hTO (by rw [ha, hl, hll]) (by omega) (fun f hfm => ?_) (fun vals h' tk hn hvl hP z' TO' hs' hT hsz hk => ?_) fun h' tk hend hk => ?_
    · obtain ⟨m, e⟩ := List.getElem?_of_mem hfm
      obtain ⟨src, es⟩ := src_of e
      obtain ⟨it, xs, us, hv, hn, e1, _, h4, rfl⟩ := h2 m f src e es
      exact ⟨hs m it src e1 es, h4⟩
    · exfalso
      obtain ⟨src, hsrc, rfl⟩ := List.mem_map.mp hzk0
      obtain ⟨m, es⟩ := List.getElem?_of_mem hsrc
      have hm : m < L.length := by rw [hll]; exact (List.getElem?_eq_some_iff.mp es).1
      have ef := List.getElem?_eq_getElem hm
      obtain ⟨it, xs, us, hv, hn', _, h3, _, h5⟩ := h2 m _ src ef es
      have := hn _ (List.getElem_mem hm)
      rw [h5] at this
      have this : i < xs.length := this
      rw [Zk.one I h3 hx0] at this
      omega
    · exact ⟨rfl, I.turnedL (t' := tk) (ch := z :: TI :: TO :: its) (fun c o hb q => hk c o (fun q' => hb (by simp [q'])) (fun q' => hb (by simp [q'])) (fun f hfm q' => hb (by rw [q', ← h1]; simp only [List.mem_cons, List.mem_map]; exact .inr (.inr (.inr ⟨f, hfm, rfl⟩)))) q) hf⟩
  self := fun A i s Q E st h => wpAny_pyIter_zip st.1 h
def Sv.obj : Sv → Obj
  | .l a => { cls := .type "list_iterator", data := .fields #[.ref a, .int 0 0] }
  | .t a => { cls := .type "tuple_iterator", data := .fields #[.ref a, .int 0 0] }
  | .s x k => { cls := .type (strIterType x), data := .fields #[.str x k, .int 0 0] }
def Sv.there (h : Heap) (src : Sv) : Prop := ∃ us, src.holds h us
theorem Sv.there_keep {src : Sv} {h h' : Heap} (t : src.there h) (k : ∀ b o, h.get? b = some o → h'.get? b = some o) : src.there h' := by
  obtain ⟨us, t⟩ := t
  cases src with
  | l a => exact ⟨us, t.at fun o e => k a o e⟩
  | t a => exact ⟨us, t.at fun o e => k a o e⟩
  | s x j => exact ⟨[], trivial⟩
section
variable {prog : Program} {w : World} {A : Around} {E : Value → Shared → Prop} {s : Shared}
theorem Sv.begin {src : Sv} {Q : Value → Shared → Prop} (t : src.there s.heap) (q : Q (.ref s.heap.objs.size) { s with heap := s.heap.push src.obj }) : wpAny (model prog w) A (pyIter src.val) Q E s := by
  obtain ⟨us, t⟩ := t
  cases src with
  | l a => exact wpAny_pyIter_list t q
  | t a => exact wpAny_pyIter_tuple t q
  | s x k => exact wpAny_pyIter_strU q
theorem Sv.at_new {src : Sv} {h : Heap} {it : Addr} (e : h.get? it = some src.obj) : src.at h it 0 := by
  cases src <;> exact ⟨_, e, rfl, rfl⟩
theorem Sv.obj_free (src : Sv) : src.obj.isFreed = false := by cases src <;> rfl
/-- the new iterators behind a heap -/
def grown (h : Heap) : List Sv → Heap
  | [] => h
  | src :: l => grown (h.push src.obj) l
theorem grown_size : ∀ (l : List Sv) (h : Heap), (grown h l).objs.size = h.objs.size + l.length
  | [], _ => rfl
  | src :: l, h => by
    show (grown (h.push src.obj) l).objs.size = _
    rw [grown_size l, Heap.size_push, List.length_cons]; omega
theorem grown_append : ∀ (l m : List Sv) (h : Heap), grown h (l ++ m) = grown (grown h l) m
  | [], _, _ => rfl
  | src :: l, m, h => grown_append l m (h.push src.obj)
theorem grown_keep : ∀ (l : List Sv) (h : Heap) (b : Addr) (o : Obj), h.get? b = some o → (grown h l).get? b = some o
  | [], _, _, _, e => e
  | src :: l, h, b, o, e => grown_keep l (h.push src.obj) b o (Heap.get?_push_of_some _ e)
theorem grown_at : ∀ (l : List Sv) (h : Heap) (m : Nat) (src : Sv), l[m]? = some src → (grown h l).get? (h.objs.size + m) = some src.obj
  | src :: l, h, 0, _, e => by
    cases e
    exact grown_keep l _ _ _ (Heap.get?_push_size _ src.obj_free)
  | x :: l, h, m + 1, src, e => by
    have := grown_at l (h.push x.obj) m src (by simpa using e)
    rw [Heap.size_push] at this
    rw [show h.objs.size + (m + 1) = h.objs.size + 1 + m by omega]
    exact this
theorem iterAll_run (l : List Sv) {Q : List Value → Shared → Prop} (t : ∀ src ∈ l, src.there s.heap) (q : Q ((List.range l.length).map fun k => .ref (s.heap.objs.size + k)) { s with heap := grown s.heap l }) :
    wpAny (model prog w) A (Builtin.SmallTypes.iterAll (l.map Sv.val)) Q E s := by
  obtain ⟨hp, g, d, tk, os⟩ := s
  unfold Builtin.SmallTypes.iterAll
  refine wpAny_bind ?_
  refine forIn_steps (fun k b s' => s' = ⟨grown hp (l.take k), g, d, tk, os⟩ ∧ b = ((List.range k).map fun j => Value.ref (hp.objs.size + j)).toArray) _ 0 _ _ ⟨rfl, rfl⟩ ?_ ?_
  · rintro k x b s' e ⟨rfl, rfl⟩
    rw [Nat.zero_add] at *
    obtain ⟨src, es, rfl⟩ : ∃ src, l[k]? = some src ∧ x = src.val := by
      rw [List.getElem?_map] at e
      cases h : l[k]? with
      | none => rw [h] at e; cases e
      | some src => rw [h] at e; cases e; exact ⟨src, rfl, rfl⟩
    have hk : k < l.length := (List.getElem?_eq_some_iff.mp es).1
    have hsz : (grown hp (l.take k)).objs.size = hp.objs.size + k := by rw [grown_size, List.length_take]; omega
    refine wpAny_bind (wpAny_holding (Sv.begin (src := src) (Sv.there_keep (t src (List.mem_of_getElem? es)) fun b o q => grown_keep _ _ _ _ q) ?_))
    refine wpAny_pure ⟨_, rfl, ?_, ?_⟩
    · rw [List.take_add_one, es, grown_append]
      rfl
    · show Array.push _ (Value.ref (grown hp (l.take k)).objs.size) = _
      rw [hsz, List.range_succ, List.map_append]
      simp
  · rintro b s' ⟨rfl, rfl⟩
    rw [Nat.zero_add, List.length_map, List.take_length]
    exact wpAny_pure q
theorem zip_new (l : List Sv) (hl : l.length ≤ 1000) : Meets (Builtin.«zip.__new__» ⟨.type "zip" :: l.map Sv.val, []⟩) (fun _ R s => (∀ src ∈ l, src.there s.heap) ∧ ∀ h', IsZip h' (s.heap.objs.size + l.length + 2) (s.heap.objs.size + l.length) (s.heap.objs.size + l.length + 1) .none →
      TupV h' (s.heap.objs.size + l.length) ((List.range l.length).map fun k => .ref (s.heap.objs.size + k)) → TupV h' (s.heap.objs.size + l.length + 1) (List.replicate l.length .none) → h'.objs.size = s.heap.objs.size + l.length + 3 →
      (∀ b o, (grown s.heap l).get? b = some o → h'.get? b = some o) → R (.ok (.ret (.ref (s.heap.objs.size + l.length + 2)))) { s with heap := h' }) :=
  .of_wp fun prog w A R s h => by
    obtain ⟨hp, g, d, tk, os⟩ := s
    obtain ⟨ht, h⟩ := h
    have hsub := sub_zip
    have it : ∀ {A' : Around} {E : Value → Shared → Prop} {Q : List Value → Shared → Prop}, Q ((List.range l.length).map fun k => .ref (hp.objs.size + k)) ⟨grown hp l, g, d, tk, os⟩ → wpAny (model prog w) A' (Builtin.SmallTypes.iterAll (l.map Sv.val)) Q E ⟨hp, g, d, tk, os⟩ := fun q => iterAll_run (s := ⟨hp, g, d, tk, os⟩) l ht q
    wp_walk using it
    rw [if_neg (by rw [List.size_toArray, List.length_map, List.length_range, sizeLine_eq]; omega)]
    wp_walk
    rw [if_neg (by rw [List.size_toArray, List.length_map, List.length_map, List.length_range, sizeLine_eq]; omega)]
    wp_walk
    have z1 : (grown hp l).objs.size = hp.objs.size + l.length := grown_size l hp
    generalize hT : ({ cls := Value.type "tuple", data := Data.seq ((List.range l.length).map fun k => Value.ref (hp.objs.size + k)).toArray } : Obj) = oT
    have hN : (((List.range l.length).map fun k => Value.ref (hp.objs.size + k)).map fun _ => Value.none) = List.replicate l.length Value.none := by
      rw [List.map_map]
      exact (List.map_const' ..).trans (by rw [List.length_range])
    rw [hN]
    generalize hO : ({ cls := Value.type "tuple", data := Data.seq (List.replicate l.length Value.none).toArray } : Obj) = oO
    have z2 : ((grown hp l).push oT).objs.size = hp.objs.size + l.length + 1 := by rw [Heap.size_push, z1]
    have z3 : (((grown hp l).push oT).push oO).objs.size = hp.objs.size + l.length + 2 := by rw [Heap.size_push, z2]
    generalize hZ : ({ cls := Value.type "zip", data := Data.fields (Builtin.SmallTypes.ownedTupleFields ++ [Value.bool false, Value.ref (grown hp l).objs.size, Value.ref ((grown hp l).push oT).objs.size]).toArray } : Obj) = oZ
    have z4 : ((((grown hp l).push oT).push oO).push oZ).objs.size = hp.objs.size + l.length + 3 := by rw [Heap.size_push, z3]
    have gT : ((((grown hp l).push oT).push oO).push oZ).get? (hp.objs.size + l.length) = some oT := by
      have := Heap.get?_push_of_some oZ (Heap.get?_push_of_some oO (Heap.get?_push_size (grown hp l) (o := oT) (by rw [← hT]; rfl)))
      rw [z1] at this
      exact this
    have gO : ((((grown hp l).push oT).push oO).push oZ).get? (hp.objs.size + l.length + 1) = some oO := by
      have := Heap.get?_push_of_some oZ (Heap.get?_push_size ((grown hp l).push oT) (o := oO) (by rw [← hO]; rfl))
      rw [z2] at this
      exact this
    have gZ : ((((grown hp l).push oT).push oO).push oZ).get? (hp.objs.size + l.length + 2) = some oZ := by
      have := Heap.get?_push_size (((grown hp l).push oT).push oO) (o := oZ) (by rw [← hZ]; rfl)
      rw [z3] at this
      exact this
    refine ⟨_, rfl, ?_⟩
    rw [z3]
    refine h _ ?_ ?_ ?_ z4 fun b o e => Heap.get?_push_of_some _ (Heap.get?_push_of_some _ (Heap.get?_push_of_some _ e))
    · rw [z1, z2] at hZ
      refine gZ.trans ?_
      rw [← hZ]
      rfl
    · exact gT.trans (by rw [← hT])
    · exact gO.trans (by rw [← hO])
theorem tc2 (a b : Value) : checkTypeCall "zip" ⟨[a, b], []⟩ = pure () := by kernel_rfl
theorem tc3 (a b c : Value) : checkTypeCall "zip" ⟨[a, b, c], []⟩ = pure () := by kernel_rfl
theorem tc4 (a b c d : Value) : checkTypeCall "zip" ⟨[a, b, c, d], []⟩ = pure () := by kernel_rfl
theorem nc2 (a b : Value) : checkBuiltinCall "zip.__new__" ⟨[.type "zip", a, b], []⟩ = pure () := by kernel_rfl
theorem nc3 (a b c : Value) : checkBuiltinCall "zip.__new__" ⟨[.type "zip", a, b, c], []⟩ = pure () := by kernel_rfl
theorem nc4 (a b c d : Value) : checkBuiltinCall "zip.__new__" ⟨[.type "zip", a, b, c, d], []⟩ = pure () := by kernel_rfl
theorem oi2 (o a b : Value) : argsOk "object.__init__" ⟨[o, a, b], []⟩ := by unfold argsOk; kernel_rfl
theorem oi3 (o a b c : Value) : argsOk "object.__init__" ⟨[o, a, b, c], []⟩ := by unfold argsOk; kernel_rfl
theorem oi4 (o a b c d : Value) : argsOk "object.__init__" ⟨[o, a, b, c, d], []⟩ := by unfold argsOk; kernel_rfl
/-- zip(..) of two, three, four -/
theorem call_zipN (l : List Sv) (hl : l.length = 2 ∨ l.length = 3 ∨ l.length = 4) {Q : Value → Shared → Prop} (ht : ∀ src ∈ l, src.there s.heap)
    (h : ∀ h', IsZip h' (s.heap.objs.size + l.length + 2) (s.heap.objs.size + l.length) (s.heap.objs.size + l.length + 1) .none →
      TupV h' (s.heap.objs.size + l.length) ((List.range l.length).map fun k => .ref (s.heap.objs.size + k)) → TupV h' (s.heap.objs.size + l.length + 1) (List.replicate l.length .none) → h'.objs.size = s.heap.objs.size + l.length + 3 →
      (∀ b o, (grown s.heap l).get? b = some o → h'.get? b = some o) → Q (.ref (s.heap.objs.size + l.length + 2)) { s with heap := h' }) :
    wpAny (model prog w) A (call (.type "zip") (l.map Sv.val)) Q E s := by
  have fin : ∀ h', IsZip h' (s.heap.objs.size + l.length + 2) (s.heap.objs.size + l.length) (s.heap.objs.size + l.length + 1) .none →
      TupV h' (s.heap.objs.size + l.length) ((List.range l.length).map fun k => .ref (s.heap.objs.size + k)) → TupV h' (s.heap.objs.size + l.length + 1) (List.replicate l.length .none) → h'.objs.size = s.heap.objs.size + l.length + 3 →
      (∀ b o, (grown s.heap l).get? b = some o → h'.get? b = some o) → (∃ ob, h'.get? (s.heap.objs.size + l.length + 2) = some ob ∧ ob.cls = .type "zip") ∧ Q (.ref (s.heap.objs.size + l.length + 2)) { s with heap := h' } := fun h' a b c d e => ⟨⟨_, a, rfl⟩, h h' a b c d e⟩
  have hz := zip_new l (by omega)
  match l, hl, ht, fin, hz with
  | [a, b], _, ht, fin, hz => exact callType_new F.called_zip (by decide) (tc2 _ _) (nc2 _ _) (fun obj => oi2 obj _ _) F.entry_zip_new hz ⟨ht, fin⟩
  | [a, b, c], _, ht, fin, hz => exact callType_new F.called_zip (by decide) (tc3 _ _ _) (nc3 _ _ _) (fun obj => oi3 obj _ _ _) F.entry_zip_new hz ⟨ht, fin⟩
  | [a, b, c, d], _, ht, fin, hz => exact callType_new F.called_zip (by decide) (tc4 _ _ _ _) (nc4 _ _ _ _) (fun obj => oi4 obj _ _ _ _) F.entry_zip_new hz ⟨ht, fin⟩
end
end L3

namespace L3
open PySem PySem.Spec PyProof.Rows L2
open Sem (wp)
def Zk.v : Zk → V
  | .l a => .ref a
  | .t a => .ref a
  | .s x => .str x
theorem svs_of : ∀ {zs : List Zk} {us : List Value}, Vals (zs.map Zk.v) us → ∃ srcs : List Sv, srcs.map Sv.kind = zs ∧ srcs.map Sv.val = us
  | [], _, .nil => ⟨[], rfl, rfl⟩
  | zk :: zs, _, .cons r t => by
    obtain ⟨srcs, h1, h2⟩ := svs_of t
    cases zk with
    | l a => cases r; exact ⟨.l a :: srcs, by rw [List.map_cons, h1]; rfl, by rw [List.map_cons, h2]; rfl⟩
    | t a => cases r; exact ⟨.t a :: srcs, by rw [List.map_cons, h1]; rfl, by rw [List.map_cons, h2]; rfl⟩
    | s x => obtain ⟨k, rfl⟩ := r; exact ⟨.s x k :: srcs, by rw [List.map_cons, h1]; rfl, by rw [List.map_cons, h2]; rfl⟩
def iZipN (K : PySem.W.Frag) (ta : TA) : TI := fun σ H R => ta σ H fun vs H1 => ∃ zs : List Zk, vs = zs.map Zk.v ∧ (zs.length = 2 ∨ zs.length = 3 ∨ zs.length = 4) ∧ (∀ zk ∈ zs, ∃ xs, zk.is K H1 xs) ∧ R (ItzN K zs) H1
theorem pi_zipN {X : Cx} {e : Expr} {es : List Expr} {ta : TA} {p pos tpos : Pos} {elts : List Expr} {kk : Nat} (hg : Gl X "zip") (hm : X.mg "zip" = none) (ha : PA X (e :: es) ta)
    (hs : starEach (e :: es) X.env = (false, eval e X.env) :: starEach es X.env := by rfl) (hpl : (backTo pos (starEach es X.env)).any (·.1) = false := by rfl) :
    PI X (.Tuple elts kk tpos) (.Call (.Name "zip" p) (e :: es) [] pos) (iZipN X.K ta) := by
  refine ⟨fun pins s σ H R I h => ?_⟩
  refine Call_ (ld_blt I hg hm PyProof.Rows.boot_zip (PyProof.Rows.callWith_type1 (thn (ha.run pos pins s σ H _ I h) fun us s1 ⟨vs, H1, I1, r1, q1⟩ => ?_) hs hpl))
  obtain ⟨zs, rfl, hl, hall, q⟩ := q1
  obtain ⟨srcs, rfl, rfl⟩ := svs_of r1
  rw [List.length_map] at hl
  have hfound : ∀ src ∈ srcs, ∃ us, src.holds s1.heap us := fun src hsrc => by
    obtain ⟨xs, hx⟩ := hall src.kind (List.mem_map.mpr ⟨src, hsrc, rfl⟩)
    obtain ⟨us, _, h2⟩ := Zk.found I1 hx
    exact ⟨us, h2⟩
  refine call_zipN srcs hl hfound fun h' hz hTI hTO hsz hk => wpAny_pyIter_zip hz ?_
  have keep : ∀ b o, s1.heap.get? b = some o → h'.get? b = some o := fun b o e => hk b o (grown_keep _ _ _ _ e)
  have I2 : Inv X pins σ H1 { s1 with heap := h' } := I1.kept (t' := s1.toks) keep
  have cells : ∀ src ∈ srcs, ∀ a ∈ src.cells, a < s1.heap.objs.size := fun src hsrc a haa => by
    obtain ⟨us, hh⟩ := hfound src hsrc
    cases src with
    | l b =>
      rw [List.mem_singleton.mp haa]
      obtain ⟨o, e, _⟩ := hh
      exact Heap.lt_size e
    | t b =>
      rw [List.mem_singleton.mp haa]
      obtain ⟨o, e, _⟩ := hh
      exact Heap.lt_size e
    | s x k => cases haa
  have hmem : ∀ b ∈ (List.range srcs.length).map (s1.heap.objs.size + ·), s1.heap.objs.size ≤ b ∧ b < s1.heap.objs.size + srcs.length := fun b hb => by
    obtain ⟨k, hk, rfl⟩ := List.mem_map.mp hb
    have := List.mem_range.mp hk
    omega
  have D : Apart2 (s1.heap.objs.size + srcs.length + 2) (s1.heap.objs.size + srcs.length) (s1.heap.objs.size + srcs.length + 1) ((List.range srcs.length).map (s1.heap.objs.size + ·)) srcs := by
    refine ⟨Nat.ne_of_lt (by omega), Nat.ne_of_lt (by omega), Nat.ne_of_lt (by omega), fun b hb => ?_, fun src hsrc a haa => ?_, ?_⟩
    · have := hmem b hb
      exact ⟨Nat.ne_of_lt (by omega), Nat.ne_of_lt (by omega), Nat.ne_of_lt (by omega)⟩
    · have this : @LT.lt Nat _ a s1.heap.objs.size := cells src hsrc a haa
      exact ⟨Nat.ne_of_lt (by omega), Nat.ne_of_lt (by omega), fun b hb => by have h2 : @LE.le Nat _ s1.heap.objs.size b := (hmem b hb).1; exact Nat.ne_of_lt (Nat.lt_of_lt_of_le this h2)⟩
    · exact List.Pairwise.map _ (fun a b h e => h (Nat.add_left_cancel e)) List.nodup_range
  refine ⟨s1.heap.objs.size + srcs.length + 2, _, _, _, H1, rfl, I2, turn_zipN D (by rw [List.length_map, List.length_range]) (by intro e; rw [e] at hl; simp at hl) (by omega), ⟨hz, ?_, ⟨_, ?_, hTO⟩, fun m it src e1 e2 => ?_⟩, fun c hcm => ?_, q⟩
  · rw [List.map_map]; exact hTI
  · rw [List.length_replicate, List.length_map, List.length_range]
  · have hm : m < srcs.length := (List.getElem?_eq_some_iff.mp e2).1
    rw [List.getElem?_map, List.getElem?_range hm] at e1
    cases e1
    exact Sv.at_new (hk _ _ (grown_at srcs s1.heap m src e2))
  · have hle : s1.heap.objs.size ≤ c := by
      rcases List.mem_cons.mp hcm with rfl | hcm
      · omega
      rcases List.mem_cons.mp hcm with rfl | hcm
      · omega
      rcases List.mem_cons.mp hcm with rfl | hcm
      · omega
      exact (hmem c hcm).1
    exact I1.fpOk hle (I1.hok.fresh hle)
/-! by data -/
def D.seq : D → Option (List D)
  | .lst ds => some ds
  | .tup ds => some ds
  | .str x => some (x.cps.toList.map fun c => D.str ⟨#[c]⟩)
  | _ => none
def minLen : List (List D) → Nat
  | [] => 0
  | [r] => r.length
  | r :: r2 :: rs => min r.length (minLen (r2 :: rs))
def zipL (rows : List (List D)) : List D := (List.range (minLen rows)).map fun i => D.tup (rows.map fun r => r.getD i .non)
theorem minLen_le : ∀ {rows : List (List D)} {r : List D}, r ∈ rows → minLen rows ≤ r.length
  | [r], x, h => by rw [List.mem_singleton.mp h]; exact Nat.le_refl _
  | r :: r2 :: rs, x, h => by
    show min r.length (minLen (r2 :: rs)) ≤ _
    rcases List.mem_cons.mp h with rfl | h
    · exact Nat.min_le_left _ _
    · exact Nat.le_trans (Nat.min_le_right _ _) (minLen_le h)
theorem minLen_at : ∀ {rows : List (List D)}, rows ≠ [] → ∃ r ∈ rows, r.length = minLen rows
  | [r], _ => ⟨r, List.mem_singleton.mpr rfl, rfl⟩
  | r :: r2 :: rs, _ => by
    obtain ⟨x, h1, h2⟩ := minLen_at (rows := r2 :: rs) (by simp)
    by_cases h : r.length ≤ minLen (r2 :: rs)
    · exact ⟨r, List.mem_cons_self, (Nat.min_eq_left h).symm⟩
    · exact ⟨x, List.mem_cons_of_mem _ h1, h2.trans (Nat.min_eq_right (by omega)).symm⟩
def itZN (ds : List D) (P : List D → Prop) : Prop := ∃ rows : List (List D), ds.map D.seq = rows.map some ∧ (ds.length = 2 ∨ ds.length = 3 ∨ ds.length = 4) ∧ P (zipL rows)
section
variable {K : PySem.W.Frag} {r : Addr} {A : Addr → Prop} {H : Hp}
theorem DRs.signs (x : Str) : DRs K r A H (signsV x) (x.cps.toList.map fun c => D.str ⟨#[c]⟩) := by
  unfold signsV
  generalize x.cps.toList = cs
  induction cs with
  | nil => exact .nil
  | cons c cs ih => exact .cons (.str _) ih
theorem DR.src {v : V} {d : D} {row : List D} (h : DR K r A H v d) (e : d.seq = some row) : ∃ zk xs, v = zk.v ∧ (∀ H2, ExtA A H H2 → Zk.is K H2 zk xs) ∧ DRs K r A H xs row := by
  cases d with
  | lst ds =>
    cases e
    obtain ⟨a, xs, rfl, na, e, z, t⟩ := h.sqL
    exact ⟨.l a, xs, rfl, fun H2 x => SqL.of (x a _ na e), t⟩
  | tup ds =>
    cases e
    cases h with
    | tup na e z t => exact ⟨.t _, _, rfl, fun H2 x => SqT.of (x _ _ na e), t⟩
    | ktup o its n e c d z w t => exact ⟨.t _, _, rfl, fun H2 x => .inr ⟨o, its, n, e, c, d, z, w⟩, t⟩
  | str x =>
    cases e
    cases h
    exact ⟨.s x, signsV x, rfl, fun _ _ => rfl, DRs.signs x⟩
  | _ => cases e
theorem DRs.srcs : ∀ {vs : List V} {ds : List D} {rows : List (List D)}, DRs K r A H vs ds → ds.map D.seq = rows.map some → ∃ (zs : List Zk) (xss : List (List V)), vs = zs.map Zk.v ∧ zs.length = ds.length ∧ rows.length = ds.length ∧ xss.length = ds.length ∧
    ∀ (m : Nat) zk xs row, zs[m]? = some zk → xss[m]? = some xs → rows[m]? = some row → (∀ H2, ExtA A H H2 → Zk.is K H2 zk xs) ∧ DRs K r A H xs row
  | _, [], rows, .nil, e => by
    cases rows with
    | nil => exact ⟨[], [], rfl, rfl, rfl, rfl, fun m zk xs row h => by simp at h⟩
    | cons _ _ => cases e
  | _, d :: ds, rows, .cons a t, e => by
    cases rows with
    | nil => cases e
    | cons row rows =>
      rw [List.map_cons, List.map_cons] at e
      injection e with e1 e2
      obtain ⟨zk, xs, rfl, h1, h2⟩ := a.src e1
      obtain ⟨zs, xss, rfl, h3, h4, h5, h6⟩ := DRs.srcs t e2
      refine ⟨zk :: zs, xs :: xss, rfl, by rw [List.length_cons, h3, List.length_cons], by rw [List.length_cons, h4, List.length_cons], by rw [List.length_cons, h5, List.length_cons], fun m zk' xs' row' q1 q2 q3 => ?_⟩
      cases m with
      | zero => cases q1; cases q2; cases q3; exact ⟨h1, h2⟩
      | succ m => exact h6 m zk' xs' row' (by simpa using q1) (by simpa using q2) (by simpa using q3)
end
section
variable {X : Cx} {E : XK} {p pos : Pos} {fs : DA}
theorem i_zipN {a : Expr} {es elts : List Expr} {kk : Nat} {tpos : Pos} (hg : Gl X "zip") (hm : X.mg "zip" = none) (ha : PA X (a :: es) (tA X.K E fs)) (hs : starEach (a :: es) X.env = (false, eval a X.env) :: starEach es X.env := by rfl) (hpl : (backTo pos (starEach es X.env)).any (·.1) = false := by rfl) :
    PI X (.Tuple elts kk tpos) (.Call (.Name "zip" p) (a :: es) [] pos) (tI X.K E (fun δ P Z => fs δ (fun ds => itZN ds P) Z)) := PI.imp (pi_zipN hg hm ha hs hpl) fun σ H R ⟨r, A, δ, P, Z, R0, h2, hq, hz⟩ =>
  ⟨r, A, δ, _, Z, R0, h2, fun ds vs H1 ⟨rows, er, hl, h3⟩ x1 n1 r1 => by
    obtain ⟨zs, xss, rfl, h4, h5, h6, h7⟩ := r1.srcs er
    have row_of : ∀ {m : Nat} {zk}, zs[m]? = some zk → ∃ xs row, xss[m]? = some xs ∧ rows[m]? = some row := fun e => by
      have := (List.getElem?_eq_some_iff.mp e).1
      exact ⟨_, _, List.getElem?_eq_getElem (by omega), List.getElem?_eq_getElem (by omega)⟩
    refine ⟨zs, rfl, by omega, fun zk hzk => ?_, hq _ _ H1 h3 x1 n1 fun i H2 A' ea w wa => ⟨fun hle => ⟨fun zk hzk => ?_, ?_⟩, fun d hd => ?_⟩⟩
    · obtain ⟨m, e⟩ := List.getElem?_of_mem hzk
      obtain ⟨xs, row, q1, q2⟩ := row_of e
      exact ⟨xs, (h7 m zk xs row e q1 q2).1 H1 .refl⟩
    · obtain ⟨m, e⟩ := List.getElem?_of_mem hzk
      obtain ⟨xs, row, q1, q2⟩ := row_of e
      exact ⟨xs, (h7 m zk xs row e q1 q2).1 H2 ea⟩
    · unfold zipL at hle
      rw [List.length_map, List.length_range] at hle
      obtain ⟨row, hr, hrl⟩ := minLen_at (rows := rows) (by intro e; rw [e] at h5; simp at h5; omega)
      obtain ⟨m, e⟩ := List.getElem?_of_mem hr
      have hm := (List.getElem?_eq_some_iff.mp e).1
      have ez := List.getElem?_eq_getElem (show m < zs.length by omega)
      have ex := List.getElem?_eq_getElem (show m < xss.length by omega)
      obtain ⟨g1, g2⟩ := h7 m _ _ row ez ex e
      exact ⟨_, List.getElem_mem _, _, g1 H2 ea, by rw [g2.length]; omega⟩
    · have hi : i < minLen rows := by
        have := (List.getElem?_eq_some_iff.mp hd).1
        unfold zipL at this
        rw [List.length_map, List.length_range] at this
        exact this
      unfold zipL at hd
      rw [List.getElem?_map, List.getElem?_range hi] at hd
      cases hd
      have item : ∀ (m : Nat) zk, zs[m]? = some zk → ∃ xs row u y, xss[m]? = some xs ∧ rows[m]? = some row ∧ Zk.is X.K H2 zk xs ∧ xs[i]? = some u ∧ row[i]? = some y ∧ DR X.K r A H1 u y := fun m zk e => by
        obtain ⟨xs, row, q1, q2⟩ := row_of e
        obtain ⟨g1, g2⟩ := h7 m zk xs row e q1 q2
        have hlt : i < row.length := Nat.lt_of_lt_of_le hi (minLen_le (List.mem_of_getElem? q2))
        obtain ⟨u, hu, ru⟩ := g2.get (List.getElem?_eq_getElem hlt)
        exact ⟨xs, row, u, _, q1, q2, g1 H2 ea, hu, List.getElem?_eq_getElem hlt, ru⟩
      refine ⟨fun zk hzk => ?_, ?_⟩
      · obtain ⟨m, e⟩ := List.getElem?_of_mem hzk
        obtain ⟨xs, row, u, y, _, _, g, hu, _, _⟩ := item m zk e
        exact ⟨xs, u, g, hu⟩
      · rintro q H' ⟨T, ys, rfl, nT, rfl, hyl, hys⟩
        refine ⟨Ext.upd nT, w.rnd.upd nT, w.tup nT (by rw [hyl, sizeLine_eq]; omega) ?_⟩
        have key : ∀ (ys : List V) (rs : List (List D)), ys.length = rs.length → (∀ (m : Nat) u row, ys[m]? = some u → rs[m]? = some row → ∃ y, row[i]? = some y ∧ DR X.K r A' H2 u y) → DRs X.K r A' H2 ys (rs.map fun r => r.getD i .non) := fun ys => by
          induction ys with
          | nil => intro rs hl _; cases rs with
            | nil => exact .nil
            | cons _ _ => cases hl
          | cons u ys ih => intro rs hl h; cases rs with
            | nil => cases hl
            | cons row rs =>
              obtain ⟨y, q1, q2⟩ := h 0 u row rfl rfl
              refine .cons ?_ (ih rs (by simpa using hl) fun m u row e1 e2 => h (m + 1) u row (by simpa using e1) (by simpa using e2))
              show DR X.K r A' H2 u (row.getD i .non)
              rw [List.getD_eq_getElem?_getD, q1]
              exact q2
        refine key ys rows (by omega) fun m u row e1 e2 => ?_
        have hm := (List.getElem?_eq_some_iff.mp e2).1
        have ez := List.getElem?_eq_getElem (show m < zs.length by omega)
        obtain ⟨xs, row', u', y, q1, q2, g, hu, hy, ru⟩ := item m _ ez
        rw [e2] at q2; cases q2
        have := hys m _ u ez e1 xs g
        rw [hu] at this; cases this
        exact ⟨y, hy, ru.move ea wa⟩, hz⟩
end
theorem zipL2 (x y : List D) : zipL [x, y] = zipD x y := by
  apply List.ext_getElem
  · simp [zipL, zipD, minLen]
  · intro i h1 h2
    have hm : i < min x.length y.length := by simpa [zipD] using h2
    have hx : i < x.length := by omega
    have hy : i < y.length := by omega
    simp [zipL, zipD, List.getD_eq_getElem?_getD, hx, hy]
def zipD3 (x y z : List D) : List D := (x.zip (y.zip z)).map fun p => .tup [p.1, p.2.1, p.2.2]
theorem zipL3 (x y z : List D) : zipL [x, y, z] = zipD3 x y z := by
  apply List.ext_getElem
  · simp [zipL, zipD3, minLen]
  · intro i h1 h2
    have hm : i < min x.length (min y.length z.length) := by simpa [zipD3] using h2
    have hx : i < x.length := by omega
    have hy : i < y.length := by omega
    have hz : i < z.length := by omega
    simp [zipL, zipD3, List.getD_eq_getElem?_getD, hx, hy, hz]
def zipD4 (x y z u : List D) : List D := (x.zip (y.zip (z.zip u))).map fun p => .tup [p.1, p.2.1, p.2.2.1, p.2.2.2]
theorem zipL4 (x y z u : List D) : zipL [x, y, z, u] = zipD4 x y z u := by
  apply List.ext_getElem
  · simp [zipL, zipD4, minLen]
  · intro i h1 h2
    have hm : i < min x.length (min y.length (min z.length u.length)) := by simpa [zipD4] using h2
    have hx : i < x.length := by omega
    have hy : i < y.length := by omega
    have hz : i < z.length := by omega
    have hu : i < u.length := by omega
    simp [zipL, zipD4, List.getD_eq_getElem?_getD, hx, hy, hz, hu]
theorem gz_2 {a b : D} {x y : List D} {P : List D → Prop} (ha : a.seq = some x) (hb : b.seq = some y) (h : P (zipD x y)) : itZN [a, b] P := ⟨[x, y], by simp [ha, hb], .inl rfl, by rw [zipL2]; exact h⟩
theorem gz_3 {a b c : D} {x y z : List D} {P : List D → Prop} (ha : a.seq = some x) (hb : b.seq = some y) (hc : c.seq = some z) (h : P (zipD3 x y z)) : itZN [a, b, c] P := ⟨[x, y, z], by simp [ha, hb, hc], .inr (.inl rfl), by rw [zipL3]; exact h⟩
theorem gz_4 {a b c d : D} {x y z u : List D} {P : List D → Prop} (ha : a.seq = some x) (hb : b.seq = some y) (hc : c.seq = some z) (hd : d.seq = some u) (h : P (zipD4 x y z u)) : itZN [a, b, c, d] P := ⟨[x, y, z, u], by simp [ha, hb, hc, hd], .inr (.inr rfl), by rw [zipL4]; exact h⟩
/-! targets of three and four names, a global tuple of ints -/
def gN3 (i j k : Nat) : DG := fun d δ P => match d with
  | .tup [x, y, z] => P (((δ.set i (.val x)).set j (.val y)).set k (.val z))
  | _ => False
def gN4 (i j k l : Nat) : DG := fun d δ P => match d with
  | .tup [x, y, z, u] => P ((((δ.set i (.val x)).set j (.val y)).set k (.val z)).set l (.val u))
  | _ => False
theorem gs_three {K : PySem.W.Frag} (i j k : Nat) : tGs K (gN3 i j k) (gTup K 3 (gCons (gName i) (gCons (gName j) (gCons (gName k) gNil)))) := fun r A0 H0 v d σ H δ P Q R hd h q => by
  cases d with
  | tup ds =>
    obtain ⟨a, xs, rfl, e, z, t⟩ := hd.sqT
    match ds, t, h with
    | [x, y, w], t, h =>
      cases t with
      | cons t1 t => cases t with
        | cons t2 t => cases t with
          | cons t3 t =>
            cases t
            have R1 := R.set (i := i) t1
            have R2 := R1.set (i := j) (R.set_val t1 t2)
            exact ⟨a, _, rfl, e, rfl, _, _, rfl, _, _, rfl, _, _, rfl, rfl, q _ _ h (R2.set (R1.set_val (R.set_val t1 t2) (R.set_val t1 t3)))⟩
  | _ => exact h.elim
theorem gs_four {K : PySem.W.Frag} (i j k l : Nat) : tGs K (gN4 i j k l) (gTup K 4 (gCons (gName i) (gCons (gName j) (gCons (gName k) (gCons (gName l) gNil))))) := fun r A0 H0 v d σ H δ P Q R hd h q => by
  cases d with
  | tup ds =>
    obtain ⟨a, xs, rfl, e, z, t⟩ := hd.sqT
    match ds, t, h with
    | [x, y, w, u], t, h =>
      cases t with
      | cons t1 t => cases t with
        | cons t2 t => cases t with
          | cons t3 t => cases t with
            | cons t4 t =>
              cases t
              have R1 := R.set (i := i) t1
              have s2 := R.set_val (i := i) t1 t2
              have s3 := R.set_val (i := i) t1 t3
              have s4 := R.set_val (i := i) t1 t4
              have R2 := R1.set (i := j) s2
              have u3 := R1.set_val (i := j) s2 s3
              have u4 := R1.set_val (i := j) s2 s4
              have R3 := R2.set (i := k) u3
              exact ⟨a, _, rfl, e, rfl, _, _, rfl, _, _, rfl, _, _, rfl, _, _, rfl, rfl, q _ _ h (R3.set (R2.set_val u3 u4))⟩
  | _ => exact h.elim
theorem gc_three {K : PySem.W.Frag} {vs : List Nat} (i j k : Nat) (hi : i ∈ vs := by simp) (hj : j ∈ vs := by simp) (hk : k ∈ vs := by simp) : tGc K vs (gN3 i j k) (gTup K 3 (gCons (gName i) (gCons (gName j) (gCons (gName k) gNil)))) := fun r A v d σ H δ P Q R hd h q => by
  cases d with
  | tup ds =>
    obtain ⟨a, xs, rfl, e, z, t⟩ := hd.sqT
    match ds, t, h with
    | [x, y, w], t, h =>
      cases t with
      | cons t1 t => cases t with
        | cons t2 t => cases t with
          | cons t3 t =>
            cases t
            exact ⟨a, _, rfl, e, rfl, _, _, rfl, _, _, rfl, _, _, rfl, rfl, q _ _ h (by rw [wipe_set _ _ hk, wipe_set _ _ hj, wipe_set _ _ hi]) (((OwnSub.set _ _ _ _ _).trans (OwnSub.set _ _ _ _ _)).trans (OwnSub.set _ _ _ _ _)) (((R.set t1).set t2).set t3)⟩
  | _ => exact h.elim
def TupG (K : PySem.W.Frag) (mg : Str → Option Value) (x : Str) (ns : List Int) : Prop := ∃ (a : Addr) (o : Obj) (its : Array Value) (n : Nat), mg x = some (.ref a) ∧ K.lookup a = some o ∧ o.cls = .type "tuple" ∧ o.data = .seq its n ∧ its.size ≤ sizeLine ∧ Vals (ns.map V.int) its.toList
theorem e_gt {X : Cx} {E : XK} {x : Str} {pos : Pos} {ns : List Int} (h : TupG X.K X.mg x ns) (hg : Gl X x := by rfl) (hd : (x == ("__debug__" : Str)) = false := by decide) : PE X (.Name x pos) (tE X.K E (fun _ P _ => P (intsT ns))) := by
  obtain ⟨a, o, its, n, hm, hk, hc, hdt, hz, hv⟩ := h
  exact e_glob (v := .ref a) hg hm rfl (fun _ _ _ => .ktup o its n hk hc hdt hz hv DRs.of_ints) hd
end L3

namespace L3
open PySem PySem.Spec PyProof.Rows L2
/-! texts: split, the place of a thing in a list, order -/
def splD : D → D → DP → Prop
  | .str z, .str y, P => (y.length == 0) = false ∧ z.length + 2 ≤ sizeLine ∧ P (.lst ((Txt.split z y).map D.str))
  | _, _, _ => False
section
variable {X : Cx} {E : XK} {e a : Expr} {fe fa : DE} {pos apos : Pos}
theorem e_split (he : PE X e (tE X.K E fe)) (ha : PE X a (tE X.K E fa)) (hs : starEach [a] X.env = [(false, eval a X.env)] := by rfl) (hbase : attributeBase e "split" X.env (eval e X.env) = eval e X.env := by rfl)
    (hline : (apos.endLine == pos.line) = true := by rfl) :
    PE X (.Call (.Attribute e "split" apos) [a] [] pos) (tE X.K E (fun δ P Z => fe δ (fun d => ∃ z, d = .str z ∧ fa δ (fun d' => splD (.str z) d' P) Z) Z)) :=
  PE.imp (pe_split he ha hs hbase hline) fun σ H Q ⟨r, A, δ, P, Z, R, h, hq, hz⟩ =>
  ⟨r, A, δ, _, Z, R, h, fun d v H1 h1 x1 n1 r1 => by
    obtain ⟨z, rfl, h1⟩ := h1
    cases r1
    refine ⟨⟨_, rfl⟩, r, A, δ, _, Z, R.ext x1 n1, h1, fun d' v' H2 h2 x2 n2 r2 => ?_, fun x c dd H' z x2 => hz x c dd H' z (x1.trans x2)⟩
    cases d' with
    | str y =>
      obtain ⟨q1, q2, q3⟩ := h2
      cases r2
      exact ⟨_, _, rfl, rfl, q1, q2, fun p np => hq _ _ _ q3 ((x1.trans x2).trans (Ext.upd np)) (n2.upd np) (((R.ext x1 n1).ext x2 n2).wd.lst np (by rw [List.length_map]; exact Nat.le_trans (PyProof.Rows.split_le _ _) q2) DRs.of_strs)⟩
    | _ => exact h2.elim, hz⟩
/-- xs.index(y), flat things -/
def idxA (ds : List D) (d : D) (P : DP) : Prop := d.flat = true ∧ ds.all D.flat = true ∧ ∃ (j : Nat) (z : D), ds[j]? = some z ∧ eqV z.toV d.toV = true ∧ (∀ (m : Nat) z', m < j → ds[m]? = some z' → eqV z'.toV d.toV = false) ∧ P (.int (j : Nat))
theorem e_indexA (he : PE X e (tE X.K E fe)) (ha : PE X a (tE X.K E fa)) (hs : starEach [a] X.env = [(false, eval a X.env)] := by rfl) (hbase : attributeBase e "index" X.env (eval e X.env) = eval e X.env := by rfl)
    (hfew : ((backTo pos (starEach [a] X.env)).all (fun x => !x.1) && (backToKw pos (keywordEach [] X.env)).all (fun x => x.1.isSome)
      && decide ([a].length + ([] : List Keyword).length + (if ([] : List Keyword).isEmpty then 0 else 1) < 30)) = true := by rfl)
    (hline : (apos.endLine == pos.line) = true := by rfl) (hplain : (backTo pos (starEach [] X.env)).any (·.1) = false := by rfl) :
    PE X (.Call (.Attribute e "index" apos) [a] [] pos) (tE X.K E (fun δ P Z => fe δ (fun d => ∃ ds, d = .lst ds ∧ fa δ (fun d' => idxA ds d' P) Z) Z)) :=
  PE.imp (pe_bm PySem.F.plainAttrs_list PySem.F.slot_list_index PySem.F.type_list_index mt_index he (pa_cons ha pa_nil hs) hbase hfew hline hs hplain) fun σ H Q ⟨r, A, δ, P, Z, R, h, hq, hz⟩ =>
  ⟨r, A, δ, _, Z, R, h, fun d v H1 h1 x1 n1 r1 => by
    obtain ⟨ds, rfl, h1⟩ := h1
    obtain ⟨p, xs, rfl, na, e1, z1, t1⟩ := r1.sqL
    refine ⟨.inl ⟨rfl, xs, SqL.of e1⟩, r, A, δ, _, Z, R.ext x1 n1, h1, fun d' v' H2 h2 x2 n2 r2 => ?_, fun x c dd H' z x2 => hz x c dd H' z (x1.trans x2)⟩
    obtain ⟨f1, f2, j, z, hj, he, hno, h2⟩ := h2
    obtain ⟨rfl, fv⟩ := r2.toV f1
    obtain ⟨rfl, fvs⟩ := t1.toVs f2
    refine ⟨p, ds.map D.toV, d'.toV, j, z.toV, rfl, rfl, SqL.of (x2 p _ (fun z => na (z ▸ R.ar)) e1), fv, fvs, by rw [List.getElem?_map, hj]; rfl, he, fun m z' hm hz' => ?_, hq _ _ _ h2 (x1.trans x2) n2 (.int _)⟩
    rw [List.getElem?_map] at hz'
    cases hb : ds[m]? with
    | none => rw [hb] at hz'; cases hz'
    | some c =>
      rw [hb] at hz'
      cases hz'
      exact hno m c hm hb, hz⟩
end
section
variable {K : PySem.W.Frag}
def ltSD : D → D → DP → Prop
  | .str i, .str j, P => P (.bl (decide (i.cps.toList < j.cps.toList)))
  | _, _, _ => False
theorem od_ltS : OpD K (fun x y H Q => ∃ i j, x = .str i ∧ y = .str j ∧ Q (.bl (decide (i.cps.toList < j.cps.toList))) H) ltSD := fun r A H x y d e P Q w hx hy h q => by
  cases d with
  | str i =>
    cases e with
    | str j =>
      cases hx
      cases hy
      exact ⟨i, j, rfl, rfl, q _ _ H h .refl w.rnd (.bl _)⟩
    | _ => exact h.elim
  | _ => exact h.elim
def leSD : D → D → DP → Prop
  | .str i, .str j, P => P (.bl (!decide (j.cps.toList < i.cps.toList)))
  | _, _, _ => False
theorem od_leS : OpD K (fun x y H Q => ∃ i j, x = .str i ∧ y = .str j ∧ Q (.bl (!decide (j.cps.toList < i.cps.toList))) H) leSD := fun r A H x y d e P Q w hx hy h q => by
  cases d with
  | str i =>
    cases e with
    | str j =>
      cases hx
      cases hy
      exact ⟨i, j, rfl, rfl, q _ _ H h .refl w.rnd (.bl _)⟩
    | _ => exact h.elim
  | _ => exact h.elim
end
end L3

namespace L3
open PySem PySem.Spec PyProof.Rows L2
/-! an own list walked while it stays an own list: its slot holds nothing but its address meanwhile -/
section
variable {K : PySem.W.Frag} {r : Addr} {A0 : Addr → Prop} {H0 H : Hp} {σ : L2.St} {δ : Env} {i : Nat} {ds : List D} {l : Addr} {xs : List V}
/-- what stands meanwhile -/
noncomputable def lockH (H0 H : Hp) (A : Addr → Prop) (l : Addr) (xs : List V) : Hp := upd (held H0 H A) l (.lst xs)
theorem lock_av (hi : δ[i]? = some (.own ds)) (e1 : σ[i]? = some (some (.ref l))) (b : Addr) : Av (fun b => A0 b ∨ b = l) r σ (δ.set i (.val (.adr l))) b ↔ Av A0 r σ δ b := by
  have hil := (List.getElem?_eq_some_iff.mp hi).1
  constructor
  · rintro ((h | rfl) | h | ⟨j, es, q1, q2⟩)
    · exact .inl h
    · exact .inr (.inr ⟨i, ds, hi, e1⟩)
    · exact .inr (.inl h)
    · by_cases hj : i = j
      · subst hj
        rw [List.getElem?_set_self hil] at q1; cases q1
      · rw [List.getElem?_set_ne hj] at q1
        exact .inr (.inr ⟨j, es, q1, q2⟩)
  · rintro (h | h | ⟨j, es, q1, q2⟩)
    · exact .inl (.inl h)
    · exact .inr (.inl h)
    · by_cases hj : i = j
      · subst hj
        rw [e1] at q2; cases q2
        exact .inl (.inr rfl)
      · exact .inr (.inr ⟨j, es, by rw [List.getElem?_set_ne hj]; exact q1, q2⟩)
theorem SR.lock (R : SR K r A0 H0 σ H δ) (hi : δ[i]? = some (.own ds)) (e1 : σ[i]? = some (some (.ref l))) (lr : l ≠ r) (e4 : H l = some (.lst xs)) :
    SR K r (fun b => A0 b ∨ b = l) (lockH H0 H (Av A0 r σ δ) l xs) σ H (δ.set i (.val (.adr l))) := by
  have hil := (List.getElem?_eq_some_iff.mp hi).1
  have sl : ∀ (j : Nat) s, (δ.set i (.val (.adr l)))[j]? = some s → (i = j ∧ s = .val (.adr l)) ∨ (i ≠ j ∧ δ[j]? = some s) := fun j s q => by
    by_cases hj : i = j
    · subst hj
      rw [List.getElem?_set_self hil] at q; cases q; exact .inl ⟨rfl, rfl⟩
    · rw [List.getElem?_set_ne hj] at q; exact .inr ⟨hj, q⟩
  have avE := lock_av (A0 := A0) (r := r) hi e1
  refine ⟨⟨R.er.rnd, (avE r).mpr R.er.ar, fun b hb => R.er.all b ((avE b).mp hb), by rw [List.length_set]; exact R.er.len, fun j d q => ?_, fun j es q => ?_, fun j k es fs m hjk q1 q2 q3 q4 => ?_⟩, fun b o hr q => ?_, fun j es m q1 q2 => ?_, fun b hb => ?_⟩
  · rcases sl j _ q with ⟨rfl, y⟩ | ⟨_, q'⟩
    · cases y
      exact ⟨_, e1, .adr l⟩
    · obtain ⟨v, f1, f2⟩ := R.er.val j d q'
      exact ⟨v, f1, f2.bar fun b o hb _ => (avE b).mp hb⟩
  · rcases sl j _ q with ⟨rfl, y⟩ | ⟨_, q'⟩
    · cases y
    · obtain ⟨m, ys, f1, f2, f3, f4, f5, f6⟩ := R.er.own j es q'
      exact ⟨m, ys, f1, (avE m).mpr f2, f3, f4, f5, f6.bar fun b o hb _ => (avE b).mp hb⟩
  · rcases sl j _ q1 with ⟨_, y⟩ | ⟨_, q1'⟩
    · cases y
    · rcases sl k _ q2 with ⟨_, y⟩ | ⟨_, q2'⟩
      · cases y
      · exact R.er.sep j k es fs m hjk q1' q2' q3 q4
  · unfold lockH at q
    by_cases hb : b = l
    · rw [hb, upd_same] at q; cases q; rw [hb]; exact e4
    · rw [upd_ne hb] at q
      exact held_in R.ext hr q
  · rcases sl j _ q1 with ⟨_, y⟩ | ⟨hij, q1'⟩
    · cases y
    · have hne : m ≠ l := fun z => R.er.sep i j ds es l hij hi q1' e1 (z ▸ q2)
      unfold lockH
      rw [upd_ne hne]
      exact held_none (R.fresh j es m q1' q2) (.inr (.inr ⟨j, es, q1', q2⟩))
  · unfold lockH
    by_cases hbl : b = l
    · rw [hbl, upd_same]; simp
    · rw [upd_ne hbl]
      rcases hb with hb | hb
      · cases q : H0 b with
        | none => exact absurd q (R.a0 b hb)
        | some o => rw [held_of q]; simp
      · exact absurd hb hbl
theorem lock_keep (R : SR K r A0 H0 σ H δ) {H' : Hp} {σ' : L2.St} {δ' : Env} (e1 : σ[i]? = some (some (.ref l))) (hi : δ[i]? = some (.own ds)) (S : SR K r (fun b => A0 b ∨ b = l) (lockH H0 H (Av A0 r σ δ) l xs) σ' H' δ') : ExtA (Av A0 r σ δ) H H' := fun b o nb q => by
  have hbl : b ≠ l := fun z => nb (z ▸ .inr (.inr ⟨i, ds, hi, e1⟩))
  refine S.ext b o (fun z => nb (.inr (.inl z))) ?_
  unfold lockH
  rw [upd_ne hbl]
  exact held_new R.ext (fun z => nb (.inr (.inl z))) nb q
theorem lock_bar (R : SR K r A0 H0 σ H δ) {H' : Hp} {σ' : L2.St} {δ' : Env} (e1 : σ[i]? = some (some (.ref l))) (hi : δ[i]? = some (.own ds)) (S : SR K r (fun b => A0 b ∨ b = l) (lockH H0 H (Av A0 r σ δ) l xs) σ' H' δ') :
    ∀ b o, Av (fun b => A0 b ∨ b = l) r σ' δ' b → H b = some o → Av A0 r σ δ b := fun b o hb q => by
  rcases hb with (hb | rfl) | hb | ⟨j, es, q1, q2⟩
  · exact .inl hb
  · exact .inr (.inr ⟨i, ds, hi, e1⟩)
  · exact .inr (.inl hb)
  · have z := S.fresh j es b q1 q2
    by_cases hA : Av A0 r σ δ b
    · exact hA
    · by_cases hr : b = r
      · exact .inr (.inl hr)
      · have hbl : b ≠ l := fun z => hA (z ▸ .inr (.inr ⟨i, ds, hi, e1⟩))
        unfold lockH at z
        rw [upd_ne hbl, held_new R.ext hr hA q] at z; cases z
theorem SR.unlock (R : SR K r A0 H0 σ H δ) {H' : Hp} {σ' : L2.St} {δ' : Env} (hi : δ[i]? = some (.own ds)) (e1 : σ[i]? = some (some (.ref l))) (lr : l ≠ r) (t : DRs K r (Av A0 r σ δ) H xs ds) (z : xs.length ≤ sizeLine)
    (S : SR K r (fun b => A0 b ∨ b = l) (lockH H0 H (Av A0 r σ δ) l xs) σ' H' δ') (hs : δ'[i]? = some (.val (.adr l))) : SR K r A0 H0 σ' H' (δ'.set i (.own ds)) := by
  have hil := (List.getElem?_eq_some_iff.mp hs).1
  have e1' : σ'[i]? = some (some (.ref l)) := by
    obtain ⟨v, f1, f2⟩ := S.er.val i _ hs
    cases f2
    exact f1
  have e4' : H' l = some (.lst xs) := S.ext l _ lr (by unfold lockH; rw [upd_same])
  have hl0 : H0 l = none := R.fresh i ds l hi e1
  have dn : ∀ b o, H0 b = some o → lockH H0 H (Av A0 r σ δ) l xs b = some o := fun b o q => by
    unfold lockH
    rw [upd_ne (fun e => by rw [e, hl0] at q; cases q)]
    exact held_of q
  have sl : ∀ (j : Nat) s, (δ'.set i (.own ds))[j]? = some s → (i = j ∧ s = .own ds) ∨ (i ≠ j ∧ δ'[j]? = some s) := fun j s q => by
    by_cases hj : i = j
    · subst hj
      rw [List.getElem?_set_self hil] at q; cases q; exact .inl ⟨rfl, rfl⟩
    · rw [List.getElem?_set_ne hj] at q; exact .inr ⟨hj, q⟩
  have avE : ∀ b, Av A0 r σ' (δ'.set i (.own ds)) b ↔ Av (fun b => A0 b ∨ b = l) r σ' δ' b := fun b => by
    constructor
    · rintro (h | h | ⟨j, es, q1, q2⟩)
      · exact .inl (.inl h)
      · exact .inr (.inl h)
      · rcases sl j _ q1 with ⟨rfl, _⟩ | ⟨_, q1'⟩
        · rw [e1'] at q2; cases q2
          exact .inl (.inr rfl)
        · exact .inr (.inr ⟨j, es, q1', q2⟩)
    · rintro ((h | rfl) | h | ⟨j, es, q1, q2⟩)
      · exact .inl h
      · exact .inr (.inr ⟨i, ds, List.getElem?_set_self hil, e1'⟩)
      · exact .inr (.inl h)
      · by_cases hj : i = j
        · subst hj
          rw [hs] at q1; cases q1
        · exact .inr (.inr ⟨j, es, by rw [List.getElem?_set_ne hj]; exact q1, q2⟩)
  have hA : Av (fun b => A0 b ∨ b = l) r σ' δ' l := .inl (.inr rfl)
  have t' : DRs K r (Av (fun b => A0 b ∨ b = l) r σ' δ') H' xs ds := t.move (lock_keep R e1 hi S) (lock_bar R e1 hi S)
  refine ⟨⟨S.er.rnd, (avE r).mpr S.er.ar, fun b hb => S.er.all b ((avE b).mp hb), by rw [List.length_set]; exact S.er.len, fun j d q => ?_, fun j es q => ?_, fun j k es fs m hjk q1 q2 q3 q4 => ?_⟩, fun b o hr q => S.ext b o hr (dn b o q), fun j es m q1 q2 => ?_, R.a0⟩
  · rcases sl j _ q with ⟨_, y⟩ | ⟨_, q'⟩
    · cases y
    · obtain ⟨v, f1, f2⟩ := S.er.val j d q'
      exact ⟨v, f1, f2.bar fun b o hb _ => (avE b).mp hb⟩
  · rcases sl j _ q with ⟨rfl, y⟩ | ⟨_, q'⟩
    · cases y
      exact ⟨l, xs, e1', (avE l).mpr hA, lr, e4', z, t'.bar fun b o hb _ => (avE b).mp hb⟩
    · obtain ⟨m, ys, f1, f2, f3, f4, f5, f6⟩ := S.er.own j es q'
      exact ⟨m, ys, f1, (avE m).mpr f2, f3, f4, f5, f6.bar fun b o hb _ => (avE b).mp hb⟩
  · have nol : ∀ (k : Nat) fs, δ'[k]? = some (.own fs) → σ'[k]? ≠ some (some (.ref l)) := fun k fs q3 q4 => by
      have y := S.fresh k fs l q3 q4
      unfold lockH at y
      rw [upd_same] at y; cases y
    rcases sl j _ q1 with ⟨rfl, _⟩ | ⟨_, q1'⟩
    · rcases sl k _ q2 with ⟨rfl, _⟩ | ⟨_, q2'⟩
      · exact hjk rfl
      · rw [e1'] at q3; cases q3
        exact nol k fs q2' q4
    · rcases sl k _ q2 with ⟨rfl, _⟩ | ⟨_, q2'⟩
      · rw [e1'] at q4; cases q4
        exact nol j es q1' q3
      · exact S.er.sep j k es fs m hjk q1' q2' q3 q4
  · rcases sl j _ q1 with ⟨rfl, _⟩ | ⟨_, q1'⟩
    · rw [e1'] at q2; cases q2
      exact hl0
    · have y := S.fresh j es m q1' q2
      cases q : H0 m with
      | none => rfl
      | some o => rw [dn m o q] at y; cases y
end
theorem forOwn_of {K : PySem.W.Frag} {E : XK} {g : DG} {gt : TG} {body : DS} {i : Nat} (hg : tGs K g gt) : ∀ Dd σ H, tS K E (fun P δ => ∃ ds, δ[i]? = some (.own ds) ∧
      ∀ a : Addr, forD g body { P with nx := fun δ' => δ'[i]? = some (.val (.adr a)) ∧ P.nx (δ'.set i (.own ds)), bk := fun _ => False, ct := fun _ => False } ds (δ.set i (.val (.adr a)))) Dd σ H →
    tFor (iList K (tVar i)) gt (tS K E body) Dd σ H := fun Dd σ H ⟨r, A0, H0, δ, P, R, ⟨ds, hi, h2⟩, L⟩ => by
  obtain ⟨l, xs, e1, e2, lr, e4, z, t⟩ := R.er.own i ds hi
  have S := R.lock hi e1 lr e4
  refine ⟨.ref l, e1, l, rfl, ⟨xs, SqL.of e4⟩, ?_⟩
  have h3 := h2 l
  refine ⟨fun k m σ' H' => m = ds.length - k ∧ k ≤ ds.length ∧ ∃ δ', SR K r (fun b => A0 b ∨ b = l) (lockH H0 H (Av A0 r σ δ) l xs) σ' H' δ' ∧ forD g body { P with nx := fun δ' => δ'[i]? = some (.val (.adr l)) ∧ P.nx (δ'.set i (.own ds)), bk := fun _ => False, ct := fun _ => False } (ds.drop k) δ', ⟨ds.length, by simp, Nat.zero_le _, _, S, h3⟩, ?_⟩
  rintro k m σ' H' ⟨rfl, hk, δ', S', h4⟩
  have el : H' l = some (.lst xs) := S'.ext l _ lr (by unfold lockH; rw [upd_same])
  have hl := t.length
  by_cases hlt : k < ds.length
  · have t' : DRs K r (Av (fun b => A0 b ∨ b = l) r σ' δ') H' xs ds := t.move (lock_keep R e1 hi S') (lock_bar R e1 hi S')
    obtain ⟨u, hu, ru⟩ := t'.get (List.getElem?_eq_getElem hlt)
    refine .inr ⟨⟨xs, u, SqL.of el, hu⟩, fun σ2 H2 => ∃ m', m' < ds.length - k ∧ m' = ds.length - (k + 1) ∧ k + 1 ≤ ds.length ∧ ∃ δ', SR K r (fun b => A0 b ∨ b = l) (lockH H0 H (Av A0 r σ δ) l xs) σ2 H2 δ' ∧ forD g body { P with nx := fun δ' => δ'[i]? = some (.val (.adr l)) ∧ P.nx (δ'.set i (.own ds)), bk := fun _ => False, ct := fun _ => False } (ds.drop (k + 1)) δ', fun σ2 H2 h => h, fun x H2 hy => ?_⟩
    obtain ⟨rfl, hy⟩ := hy
    have hx := hy xs (SqL.of el)
    rw [hu] at hx; cases hx
    rw [List.drop_eq_getElem_cons hlt] at h4
    refine hg r _ _ u ds[k] _ _ _ _ _ S' ru h4 fun δ2 σ2 h6 R6 => ⟨r, _, _, δ2, _, R6, h6, ?_⟩
    have dn : ∀ b o, H0 b = some o → lockH H0 H (Av A0 r σ δ) l xs b = some o := fun b o q => by
      unfold lockH
      rw [upd_ne (fun e => by rw [e, R.fresh i ds l hi e1] at q; cases q)]
      exact held_of q
    refine ⟨fun δ3 σ3 H3 q R7 => ⟨_, by omega, rfl, by omega, δ3, R7, q⟩, fun d v H3 q x7 n7 d7 => L.rt d v H3 q (fun b o hr z => x7 b o hr (dn b o z)) n7 (d7.bar fun b o hb _ => .inl hb), fun δ3 σ3 H3 q R7 => L.nx _ _ _ q.2 (R.unlock hi e1 lr t z R7 q.1), fun δ3 σ3 H3 q R7 => ⟨_, by omega, rfl, by omega, δ3, R7, q⟩,
      fun x c dd H3 q x7 n7 z => L.ex x c dd H3 q (fun b o hr z => x7 b o hr (dn b o z)) n7 (z.bar fun b o hb _ => .inl hb)⟩
  · have ei : k = ds.length := by omega
    rw [List.drop_eq_nil_of_le (by omega)] at h4
    obtain ⟨q1, q2⟩ := h4
    exact .inl ⟨⟨xs, SqL.of el, by omega⟩, L.nx _ _ _ q2 (R.unlock hi e1 lr t z S' q1)⟩
section
variable {X : Cx} {E : XK} {tg : Expr} {body : List Stmt} {g : DG} {gt : TG} {fb : DS} {pos p : Pos} {i : Nat} {x : Str}
theorem s_forOwn (hp : PassesOwn (model X.prog X.w) X.A X.env X.xe) (hc : X.calm = true) (hN : X.N[i]? = some x) (hv : Vis X.env.scope x) (hG : tGs X.K g gt) (hg : PG X tg gt) (hb : PSs X body (tS X.K E fb))
    (hd : (x == ("__debug__" : Str)) = false := by decide) (hcd : (x == ("__classdict__" : Str)) = false := by decide) (hs : ∀ y, foldedSetIterable (.Name x p) X.env y = pure y := by intro _; rfl) :
    PS X (.For tg (.Name x p) body [] pos) (tS X.K E (fun P δ => ∃ ds, δ[i]? = some (.own ds) ∧
      ∀ a : Addr, forD g fb { P with nx := fun δ' => δ'[i]? = some (.val (.adr a)) ∧ P.nx (δ'.set i (.own ds)), bk := fun _ => False, ct := fun _ => False } ds (δ.set i (.val (.adr a))))) :=
  PS.imp (ps_for hp hc (pi_list (pe_var hN hv hd hcd)) hg hb hs) (forOwn_of hG)
end
end L3

/-! itertools.combinations of a range -/
namespace CpCmb
open PySem PySem.Spec
open Sem (wp)
theorem mro_cmb : mroOf (.type "itertools.combinations") = pure [.type "itertools.combinations", .type "object"] := by rw [mroOf_type]; kernel_rfl
theorem lookup_cmb_new : typeLookup (.type "itertools.combinations") "__new__" = pure (some (.builtin "itertools.combinations.__new__")) := by rw [typeLookup_type, builtinLookup_eq_fast]; kernel_rfl
theorem slot_cmb_init : Slot "itertools.combinations" "__init__" "object.__init__" :=
  .of (owner := "object") (n := "__init__") (by rw [typeLookup_type, builtinLookup_eq_fast]; kernel_rfl) (by decide +kernel) (by decide +kernel) (by decide +kernel)
    (by first | exact .inl (by decide +kernel) | exact .inr (by decide +kernel)) (by rw [isSubtype_type]; kernel_rfl)
theorem sub_cmb : isSubtype (.type "itertools.combinations") (.type "itertools.combinations") = pure true := by rw [isSubtype_type]; kernel_rfl
theorem called_cmb : TypeCalled "itertools.combinations" "itertools.combinations.__new__" "object.__init__" :=
  ⟨by decide +kernel, by decide +kernel, ⟨_, _, mro_cmb⟩, madeBy_type mro_cmb lookup_cmb_new (by decide +kernel), by decide +kernel, sub_cmb, slot_cmb_init⟩
theorem typeCall_cmb_2 (a b : Value) : checkTypeCall "itertools.combinations" ⟨[a, b], []⟩ = pure () := by kernel_rfl
theorem newCall_cmb_2 (a b : Value) : checkBuiltinCall "itertools.combinations.__new__" ⟨[.type "itertools.combinations", a, b], []⟩ = pure () := by kernel_rfl
theorem entry_cmb_new : entryFor table "itertools.combinations.__new__" = some Builtin.«itertools.combinations.__new__» := entryFor_of_tree (by kernel_rfl)
theorem plain_cmb_new : plainId "itertools.combinations.__new__" = true := by decide +kernel
theorem slot_cmb_iter : Slot "itertools.combinations" "__iter__" "itertools.combinations.__iter__" :=
  .of (owner := "itertools.combinations") (n := "__iter__") (by rw [typeLookup_type, builtinLookup_eq_fast]; kernel_rfl) (by decide +kernel) (by decide +kernel) (by decide +kernel)
    (by first | exact .inl (by decide +kernel) | exact .inr (by decide +kernel)) sub_cmb
theorem slot_cmb_next : Slot "itertools.combinations" "__next__" "itertools.combinations.__next__" :=
  .of (owner := "itertools.combinations") (n := "__next__") (by rw [typeLookup_type, builtinLookup_eq_fast]; kernel_rfl) (by decide +kernel) (by decide +kernel) (by decide +kernel)
    (by first | exact .inl (by decide +kernel) | exact .inr (by decide +kernel)) sub_cmb
theorem entry_cmb_iter : entryFor table "itertools.combinations.__iter__" = some Builtin.«dict_keyiterator.__iter__» :=
  entryFor_alias (id' := "dict_keyiterator.__iter__") (by kernel_rfl) (by first | rfl | decide +kernel | (unfold String.splitOn; simp +decide [String.splitOnAux])) (by decide +kernel) (by kernel_rfl)
theorem entry_cmb_next : entryFor table "itertools.combinations.__next__" = some Builtin.«itertools.combinations.__next__» := entryFor_of_tree (by kernel_rfl)
theorem owner_cmb : Manifest.owners.lookup (String.ofList ['s', 'n', 'o', 'i', 't', 'a', 'n', 'i', 'b', 'm', 'o', 'c', '.', 's', 'l', 'o', 'o', 't', 'r', 'e', 't', 'i'].reverse) = some Manifest.sig_itertools_combinations := by kernel_rfl
theorem args_cmb_iter (a : Value) : argsOk "itertools.combinations.__iter__" ⟨[a], []⟩ := by
  unfold argsOk; rw [signature?_of (id := "itertools.combinations.__iter__") (n := ['_', '_', 'r', 'e', 't', 'i', '_', '_']) (o := ['s', 'n', 'o', 'i', 't', 'a', 'n', 'i', 'b', 'm', 'o', 'c', '.', 's', 'l', 'o', 'o', 't', 'r', 'e', 't', 'i']) (by kernel_rfl) owner_cmb]; kernel_rfl
theorem args_cmb_next (a : Value) : argsOk "itertools.combinations.__next__" ⟨[a], []⟩ := by
  unfold argsOk; rw [signature?_of (id := "itertools.combinations.__next__") (n := ['_', '_', 't', 'x', 'e', 'n', '_', '_']) (o := ['s', 'n', 'o', 'i', 't', 'a', 'n', 'i', 'b', 'm', 'o', 'c', '.', 's', 'l', 'o', 'o', 't', 'r', 'e', 't', 'i']) (by kernel_rfl) owner_cmb]; kernel_rfl
theorem noDict_cmb : typeHasDict (.type "itertools.combinations") = false := by decide +kernel
/-- the next choice of places -/
def nextC (n : Nat) (indices : List Nat) : Option (List Nat) :=
  let r := indices.length
  match (List.range r).reverse.find? fun i => indices.getD i 0 != i + n - r with
  | none => none
  | some i => some (indices.take i ++ (List.range (r - i)).map (indices.getD i 0 + 1 + ·))
/-- the object at work: its pool, its state, the last tuple, the places -/
abbrev cmbObj (p : Addr) (k : Int) (last : Value) (idx : List Nat) : Obj := { cls := .type "itertools.combinations", dict := none, data := .fields ([.ref p, rawInt k, last] ++ idx.map fun i : Nat => rawInt i).toArray, slots := #[] }
section
variable {prog : Program} {w : World} {A : Around} {E : Value → Shared → Prop} {s : Shared}
theorem iter_cmb {it p : Addr} {k : Int} {l : Value} {idx : List Nat} {Q : Value → Shared → Prop} (hit : s.heap.get? it = some (cmbObj p k l idx)) (h : Q (.ref it) s) : wpAny (model prog w) A (pyIter (.ref it)) Q E s := by
  have hT : s.TypeIs (.ref it) "itertools.combinations" := ⟨_, hit, rfl⟩
  refine wpAny_pyIter_slot hT slot_cmb_iter (wpAny_call_entry slot_cmb_iter hT entry_cmb_iter ?_ (args_cmb_iter _))
  show wpAny _ _ (ret (.ref it)) _ _ s
  exact wpAny_pure ⟨_, rfl, "itertools.combinations", _, hT, slot_cmb_next.lookup, h⟩
theorem numbers_cmb {it p : Addr} {k : Int} {l : Value} {idx : List Nat} {Q : List Nat → Shared → Prop} (hit : s.heap.get? it = some (cmbObj p k l idx)) (h : Q idx s) : wpAny (model prog w) A (Builtin.Itertools.itNumbersFrom (.ref it) 3) Q E s := by
  unfold Builtin.Itertools.itNumbersFrom
  refine wpAny_bind (wpAny_load hit ?_)
  refine wpAny_pure ?_
  refine Eq.mpr (congrArg (Q · s) ?_) h
  show ((idx.map fun i : Nat => rawInt i).map _) = idx
  rw [List.map_map]
  conv => rhs; rw [← List.map_id idx]
  exact List.map_congr_left fun i _ => Int.toNat_natCast i
theorem fields_set1 {p : Addr} {k k2 : Int} {l : Value} {idx : List Nat} : (cmbObj p k l idx).mapFields (fun x => x.setIfInBounds 1 (rawInt k2)) = cmbObj p k2 l idx := by
  unfold Obj.mapFields
  simp [cmbObj]
theorem fields_set2 {p : Addr} {k : Int} {l l2 : Value} {idx : List Nat} : (cmbObj p k l idx).mapFields (fun x => x.setIfInBounds 2 l2) = cmbObj p k l2 idx := by
  unfold Obj.mapFields
  simp [cmbObj]
theorem fields_set3 {p : Addr} {k : Int} {l : Value} {idx idx2 : List Nat} : (cmbObj p k l idx).mapFields (fun fs => fs.extract 0 3 ++ (idx2.map fun n : Nat => rawInt n).toArray) = cmbObj p k l idx2 := by
  unfold Obj.mapFields
  simp [cmbObj]
/-- the pool: a tuple of the first whole numbers -/
def Pool (h : Heap) (p : Addr) (n : Nat) : Prop := ∃ its : Array Value, h.get? p = some { cls := .type "tuple", data := .seq its } ∧ its.size = n ∧ ∀ i, i < n → ∃ t, its.getD i .none = .int (i : Nat) t
theorem Pool.keep {h h' : Heap} {p : Addr} {n : Nat} (P : Pool h p n) (k : ∀ o, h.get? p = some o → h'.get? p = some o) : Pool h' p n := by
  obtain ⟨its, e, r⟩ := P
  exact ⟨its, k _ e, r⟩
/-- the tuple that is handed out -/
def Picked (h : Heap) (a : Addr) (idx : List Nat) : Prop := ∃ vs : List Value, h.get? a = some { cls := .type "tuple", data := .seq vs.toArray } ∧ vs.length = idx.length ∧ ∀ (m : Nat) v, vs[m]? = some v → ∃ i t, idx[m]? = some i ∧ v = .int (i : Nat) t
theorem hand_cmb {it p : Addr} {k : Int} {l : Value} {old idx : List Nat} {n : Nat} {Q : Fin → Shared → Prop} (hit : s.heap.get? it = some (cmbObj p k l old)) (hP : Pool s.heap p n) (hip : it ≠ p) (hidx : ∀ i ∈ idx, i < n) (hl : idx.length ≤ 1000)
    (h : ∀ h', h'.get? it = some (cmbObj p k (.ref s.heap.objs.size) old) → Pool h' p n → Picked h' s.heap.objs.size idx → h'.objs.size = s.heap.objs.size + 1 → (∀ b o, b ≠ it → s.heap.get? b = some o → h'.get? b = some o) → Q (.done (.ret (.ref s.heap.objs.size))) { s with heap := h' }) :
    wpAny (model prog w) A (do
      let result ← (do let items ← Builtin.Itertools.itPoolItems (.ref p); newTuple (idx.map fun i => items.getD i .none))
      let before ← field (.ref it) 2
      setField (.ref it) 2 result
      letGo [before] [result]
      ret result) Q E s := by
  obtain ⟨its, e, hs, hi⟩ := hP
  refine wpAny_bind (wpAny_bind ?_)
  unfold Builtin.Itertools.itPoolItems
  refine wpAny_bind (wpAny_seqItems e rfl (wpAny_pure ?_))
  refine wpAny_newTuple ?_ (by rw [sizeLine_eq, List.length_map]; omega)
  have hit2 := Heap.get?_push_of_some { cls := .type "tuple", data := .seq (idx.map fun i => its.getD i .none).toArray } hit
  refine wpAny_bind (wpAny_field hit2 rfl (x := l) rfl ?_)
  refine wpAny_bind (wpAny_setField hit2 rfl (by simp) ?_)
  refine wpAny_bind (wpAny_letGo (wpAny_pure ?_))
  refine h _ ?_ ?_ ?_ ?_ fun b o hb q => ?_
  · rw [Heap.get?_update_self _ hit2 rfl, fields_set2]
  · refine ⟨its, ?_, hs, hi⟩
    exact (Heap.get?_update_other _ _ hip).trans (Heap.get?_push_of_some _ e)
  · refine ⟨idx.map fun i => its.getD i .none, ?_, List.length_map _, fun m v hv => ?_⟩
    · exact (Heap.get?_update_other _ _ (Nat.ne_of_lt (Heap.lt_size hit))).trans (Heap.get?_push_size _ rfl)
    · rw [List.getElem?_map] at hv
      cases q : idx[m]? with
      | none => rw [q] at hv; cases hv
      | some i =>
        rw [q] at hv
        cases hv
        obtain ⟨t, et⟩ := hi i (hidx i (List.mem_of_getElem? q))
        exact ⟨i, t, rfl, et⟩
  · show (Heap.update _ _ _).objs.size = _
    rw [Heap.size_update, Heap.size_push]
  · exact (Heap.get?_update_other _ _ (Ne.symm hb)).trans (Heap.get?_push_of_some _ q)
theorem cmb_first {it p : Addr} {l : Value} {idx : List Nat} {n : Nat} {Q : Value → Shared → Prop} (hit : s.heap.get? it = some (cmbObj p 0 l idx)) (hP : Pool s.heap p n) (hip : it ≠ p) (hidx : ∀ i ∈ idx, i < n) (hl : idx.length ≤ 1000)
    (h : ∀ h', h'.get? it = some (cmbObj p 1 (.ref s.heap.objs.size) idx) → Pool h' p n → Picked h' s.heap.objs.size idx → h'.objs.size = s.heap.objs.size + 1 → (∀ b o, b ≠ it → s.heap.get? b = some o → h'.get? b = some o) → Q (.ref s.heap.objs.size) { s with heap := h' }) :
    wpAny (model prog w) A (Builtin.«itertools.combinations.__next__» ⟨[.ref it], []⟩) (fun fin s' => ∃ v, fin = .done (.ret v) ∧ Q v s') E s := by
  show wpAny _ _ (field (.ref it) 0 >>= _) _ _ s
  refine wpAny_bind (wpAny_field hit rfl (x := .ref p) rfl ?_)
  refine wpAny_bind (numbers_cmb hit ?_)
  show wpAny _ _ (Builtin.Itertools.itIntField (.ref it) 1 >>= _) _ _ s
  refine wpAny_bind ?_
  unfold Builtin.Itertools.itIntField
  refine wpAny_bind (wpAny_field hit rfl (x := rawInt 0) rfl (wpAny_pure ?_))
  show wpAny _ _ (setField (.ref it) 1 (rawInt 1) >>= _) _ _ s
  refine wpAny_bind (wpAny_setField hit rfl (by simp) ?_)
  have hit2 : (s.heap.update it (Obj.mapFields fun x => x.setIfInBounds 1 (rawInt 1))).get? it = some (cmbObj p 1 l idx) := by rw [Heap.get?_update_self _ hit rfl, fields_set1]
  have hsz : (s.heap.update it (Obj.mapFields fun x => x.setIfInBounds 1 (rawInt 1))).objs.size = s.heap.objs.size := Heap.size_update ..
  have hot : ∀ b o, b ≠ it → s.heap.get? b = some o → (s.heap.update it (Obj.mapFields fun x => x.setIfInBounds 1 (rawInt 1))).get? b = some o := fun b o hb q => (Heap.get?_update_other _ _ (Ne.symm hb)).trans q
  refine hand_cmb (s := { s with heap := s.heap.update it (Obj.mapFields fun x => x.setIfInBounds 1 (rawInt 1)) }) hit2 (hP.keep fun o q => hot _ _ (Ne.symm hip) q) hip hidx hl fun h' a b c d e => ⟨_, rfl, ?_⟩
  show Q (.ref (s.heap.update it (Obj.mapFields fun x => x.setIfInBounds 1 (rawInt 1))).objs.size) _
  rw [hsz]
  have a' : h'.get? it = some (cmbObj p 1 (.ref (s.heap.update it (Obj.mapFields fun x => x.setIfInBounds 1 (rawInt 1))).objs.size) idx) := a
  have c' : Picked h' (s.heap.update it (Obj.mapFields fun x => x.setIfInBounds 1 (rawInt 1))).objs.size idx := c
  have d' : h'.objs.size = (s.heap.update it (Obj.mapFields fun x => x.setIfInBounds 1 (rawInt 1))).objs.size + 1 := d
  rw [hsz] at a' c' d'
  exact h h' a' b c' d' fun b o hb q => e b o hb (hot b o hb q)
theorem cmb_next {it p : Addr} {l : Value} {idx idx2 : List Nat} {n : Nat} {Q : Value → Shared → Prop} (hit : s.heap.get? it = some (cmbObj p 1 l idx)) (hn : nextC n idx = some idx2) (hP : Pool s.heap p n) (hip : it ≠ p) (hidx : ∀ i ∈ idx2, i < n) (hl : idx2.length ≤ 1000)
    (h : ∀ h', h'.get? it = some (cmbObj p 1 (.ref s.heap.objs.size) idx2) → Pool h' p n → Picked h' s.heap.objs.size idx2 → h'.objs.size = s.heap.objs.size + 1 → (∀ b o, b ≠ it → s.heap.get? b = some o → h'.get? b = some o) → Q (.ref s.heap.objs.size) { s with heap := h' }) :
    wpAny (model prog w) A (Builtin.«itertools.combinations.__next__» ⟨[.ref it], []⟩) (fun fin s' => ∃ v, fin = .done (.ret v) ∧ Q v s') E s := by
  show wpAny _ _ (field (.ref it) 0 >>= _) _ _ s
  refine wpAny_bind (wpAny_field hit rfl (x := .ref p) rfl ?_)
  refine wpAny_bind (numbers_cmb hit ?_)
  show wpAny _ _ (Builtin.Itertools.itIntField (.ref it) 1 >>= _) _ _ s
  refine wpAny_bind ?_
  unfold Builtin.Itertools.itIntField
  refine wpAny_bind (wpAny_field hit rfl (x := rawInt 1) rfl (wpAny_pure ?_))
  show wpAny _ _ (Builtin.Itertools.itPoolItems (.ref p) >>= _) _ _ s
  refine wpAny_bind ?_
  obtain ⟨its, e, hs, hi⟩ := hP
  unfold Builtin.Itertools.itPoolItems
  refine wpAny_bind (wpAny_seqItems e rfl (wpAny_pure ?_))
  subst hs
  show wpAny _ _ (match nextC its.size idx with | some next => _ | none => _) _ _ s
  rw [hn]
  show wpAny _ _ (Builtin.Itertools.itSetNumbersFrom (.ref it) 3 idx2 >>= _) _ _ s
  unfold Builtin.Itertools.itSetNumbersFrom
  refine wpAny_bind (wpAny_updateFields hit rfl ?_ (by
    rw [sizeLine_eq]
    simp
    omega))
  have hit2 : (s.heap.update it (Obj.mapFields fun fs => fs.extract 0 3 ++ (idx2.map fun n : Nat => rawInt n).toArray)).get? it = some (cmbObj p 1 l idx2) := by rw [Heap.get?_update_self _ hit rfl, fields_set3]
  have hsz : (s.heap.update it (Obj.mapFields fun fs => fs.extract 0 3 ++ (idx2.map fun n : Nat => rawInt n).toArray)).objs.size = s.heap.objs.size := Heap.size_update ..
  have hot : ∀ b o, b ≠ it → s.heap.get? b = some o → (s.heap.update it (Obj.mapFields fun fs => fs.extract 0 3 ++ (idx2.map fun n : Nat => rawInt n).toArray)).get? b = some o := fun b o hb q => (Heap.get?_update_other _ _ (Ne.symm hb)).trans q
  refine hand_cmb (s := { s with heap := s.heap.update it (Obj.mapFields fun fs => fs.extract 0 3 ++ (idx2.map fun n : Nat => rawInt n).toArray) }) hit2 ⟨its, hot _ _ (Ne.symm hip) e, rfl, hi⟩ hip hidx hl fun h' a b c d e => ⟨_, rfl, ?_⟩
  have a' : h'.get? it = some (cmbObj p 1 (.ref (s.heap.update it (Obj.mapFields fun fs => fs.extract 0 3 ++ (idx2.map fun n : Nat => rawInt n).toArray)).objs.size) idx2) := a
  have c' : Picked h' (s.heap.update it (Obj.mapFields fun fs => fs.extract 0 3 ++ (idx2.map fun n : Nat => rawInt n).toArray)).objs.size idx2 := c
  have d' : h'.objs.size = (s.heap.update it (Obj.mapFields fun fs => fs.extract 0 3 ++ (idx2.map fun n : Nat => rawInt n).toArray)).objs.size + 1 := d
  show Q (.ref (s.heap.update it (Obj.mapFields fun fs => fs.extract 0 3 ++ (idx2.map fun n : Nat => rawInt n).toArray)).objs.size) _
  rw [hsz] at a' c' d' ⊢
  exact h h' a' b c' d' fun b o hb q => e b o hb (hot b o hb q)
theorem cmb_end {it p : Addr} {l : Value} {idx : List Nat} {n : Nat} {Q : Fin → Shared → Prop} (hh : A.handled = none) (hit : s.heap.get? it = some (cmbObj p 1 l idx)) (hn : nextC n idx = none) (hP : Pool s.heap p n)
    (h : ∀ h' e, (∃ o, h'.get? e = some o ∧ o.cls = .type "StopIteration") → (∀ b o, b ≠ it → s.heap.get? b = some o → h'.get? b = some o) → E (.ref e) { s with heap := h' }) :
    wpAny (model prog w) A (Builtin.«itertools.combinations.__next__» ⟨[.ref it], []⟩) Q E s := by
  show wpAny _ _ (field (.ref it) 0 >>= _) _ _ s
  refine wpAny_bind (wpAny_field hit rfl (x := .ref p) rfl ?_)
  refine wpAny_bind (numbers_cmb hit ?_)
  show wpAny _ _ (Builtin.Itertools.itIntField (.ref it) 1 >>= _) _ _ s
  refine wpAny_bind ?_
  unfold Builtin.Itertools.itIntField
  refine wpAny_bind (wpAny_field hit rfl (x := rawInt 1) rfl (wpAny_pure ?_))
  show wpAny _ _ (Builtin.Itertools.itPoolItems (.ref p) >>= _) _ _ s
  refine wpAny_bind ?_
  obtain ⟨its, e, hs, hi⟩ := hP
  unfold Builtin.Itertools.itPoolItems
  refine wpAny_bind (wpAny_seqItems e rfl (wpAny_pure ?_))
  subst hs
  show wpAny _ _ (match nextC its.size idx with | some next => _ | none => _) _ _ s
  rw [hn]
  show wpAny _ _ (setField (.ref it) 1 (rawInt 2) >>= _) _ _ s
  refine wpAny_bind (wpAny_setField hit rfl (by simp) ?_)
  show wpAny _ _ (newExc (.type "StopIteration") [] >>= _) _ _ _
  refine wpAny_bind ?_
  simp only [newExc, newTuple]
  refine wpAny_bind (wpAny_newObj_type ?_ (by size_fits))
  refine wpAny_bind (m := firstArgMember _ _) (wpAny_of_eq (a := Value.none) (by first | rfl | (simp only [firstArgMember]; rfl)) ?_)
  refine wpAny_newObj_type ?_ (by size_fits)
  simp only [raiseNew]
  refine wpAny_bind (wpAny_handled ?_)
  rw [hh]
  refine wpAny_bind (wpAny_pure (wpAny_throw ?_))
  exact h _ _ ⟨_, Heap.get?_push_size _ rfl, rfl⟩ fun b o hb q => Heap.get?_push_of_some _ (Heap.get?_push_of_some _ ((Heap.get?_update_other _ _ (Ne.symm hb)).trans q))
theorem pyNext_item {it : Addr} {o : Obj} {Q : Option Value → Shared → Prop} (ho : s.heap.get? it = some o) (hc : o.cls = .type "itertools.combinations")
    (h : wpAny (model prog w) A.in1 (Builtin.«itertools.combinations.__next__» ⟨[.ref it], []⟩) (fun fin s' => ∃ v, fin = .done (.ret v) ∧ Q (some v) s') (fun e s' => (∃ a, e = .ref a ∧ ∃ o, s'.heap.get? a = some o ∧ o.cls = .type "StopIteration") ∧ Q none s') s) :
    wpAny (model prog w) A (pyNext (.ref it)) Q E s := by
  have hT : s.TypeIs (.ref it) "itertools.combinations" := ⟨_, ho, hc⟩
  unfold pyNext
  refine wpAny_bind (wpAny_attempt (wpAny_callSpecial?_slot (name := Str.ofString "__next__") hT slot_cmb_next
    (wpAny_call_entry slot_cmb_next hT entry_cmb_next (wpAny_mono h (fun fin s' q => ?_) fun e s' q => ?_) (args_cmb_next _))))
  · obtain ⟨v, rfl, q⟩ := q
    exact ⟨v, rfl, wpAny_pure q⟩
  · obtain ⟨⟨a, rfl, o, ho, hc⟩, q⟩ := q
    refine wpAny_bind (wpAny_isInstance (T := "StopIteration") (b := true) ⟨o, ho, hc⟩ isSubtype_stop ?_)
    exact wpAny_pure q
end
section
variable {prog : Program} {w : World} {A : Around} {E : Value → Shared → Prop} {s : Shared}
theorem code_cmb_new {Q₁ : Value → Shared → Prop} {r : Addr} {n k : Nat} {t0 t1 t2 t3 : Tok} (hh : A.handled = none) (hr : IsRange s.heap r 0 n 1 t0 t1 t2) (hk : k ≤ n) (hn : n ≤ 1000)
    (h : ∀ (hm h' : Heap) (tk : Nat) (it p : Addr), h'.get? it = some (cmbObj p 0 .none (List.range k)) → Pool h' p n → it ≠ p → hm.objs.size ≤ it → hm.objs.size ≤ p → (∀ b o, s.heap.get? b = some o → hm.get? b = some o) → (∀ b o, hm.get? b = some o → h'.get? b = some o) → Q₁ (.ref it) { s with heap := h', toks := tk }) :
    codeAny (model prog w) A (.call (.builtin "itertools.combinations.__new__") ⟨[.type "itertools.combinations", .ref r, .int (k : Nat) t3], []⟩) (wants Q₁ E) s := by
  refine codeAny_of_tree ?_
  show wpAny _ A.in1 (do checkBuiltinCall "itertools.combinations.__new__" ⟨[.type "itertools.combinations", .ref r, .int (k : Nat) t3], []⟩; again (.builtin "itertools.combinations.__new__" ⟨[.type "itertools.combinations", .ref r, .int (k : Nat) t3], []⟩)) _ _ s
  refine wpAny_bind (wpAny_of_eq (newCall_cmb_2 _ _) (wpAny_pure ⟨plainId_quiet plain_cmb_new _, codeAny_builtin entry_cmb_new ?_⟩))
  rw [Around.under_plainId plain_cmb_new _]
  have hsub := sub_cmb
  have hd := noDict_cmb
  have hh1 : A.in1.handled = none := hh
  unfold Builtin.«itertools.combinations.__new__»
  refine wpAny_bind ?_
  show wpAny _ _ (Builtin.Itertools.itClassAndRest "combinations" _ >>= _) _ _ s
  repeat (first
    | wp_step
    | simp only [List.head?_cons, Option.some_or, List.getElem?_cons_succ, List.getElem?_cons_zero, List.length_cons, List.length_nil, List.forIn_nil])
  refine wpAny_of_eq hsub ?_
  repeat (first
    | wp_step
    | simp only [List.head?_cons, Option.some_or, List.getElem?_cons_succ, List.getElem?_cons_zero, List.length_cons, List.length_nil, List.forIn_nil])
  have hb : ¬ ((decide ((k : Int) < -2 ^ 63) || decide ((k : Int) ≥ 2 ^ 63)) = true) := by
    rw [decide_eq_false (by omega), decide_eq_false (by omega)]; decide
  rw [if_neg hb]
  refine wpAny_pure ?_
  refine wpAny_bind (L2.collect_range (n := n) hh1 hr (PySem.small_one (by omega) (by omega) (by omega) (by omega)) (by rw [PyProof.Rows.rangeSize_nat]; omega) (by omega) fun h' tk acc hk' hacc => ?_)
  have h1 : ¬ ((k : Int) < 0) := by omega
  have h2 : ¬ (Builtin.Itertools.itTooMany (k : Int) = true) := by
    unfold Builtin.Itertools.itTooMany
    rw [decide_eq_false (by omega)]; decide
  rw [if_neg h1, if_neg h2]
  have hal : acc.toList.length = n := by rw [Array.length_toList]; exact hacc.1
  refine wpAny_bind (wpAny_newTuple (wpAny_pure ?_) (by rw [hal, sizeLine_eq]; omega))
  show wpAny _ _ (Builtin.Itertools.itNewRecord _ _ >>= _) _ _ _
  refine wpAny_bind ?_
  unfold Builtin.Itertools.itNewRecord
  rw [hd, if_pos (show (!false) = true from rfl)]
  have hkn : ¬ ((k : Int).toNat > acc.toList.length) := by omega
  have hkk : (k : Int).toNat = k := Int.toNat_natCast k
  have ea : acc.toList.toArray = acc := by simp
  dsimp only
  rw [if_neg hkn, hkk, ea]
  refine wpAny_newObj_type (wpAny_pure ?_) (by
    show Array.size _ ≤ _
    rw [sizeLine_eq]
    simp
    omega)
  have hsz : (h'.push { cls := .type "tuple", data := .seq acc }).objs.size = h'.objs.size + 1 := Heap.size_push ..
  refine h h' _ tk _ h'.objs.size (Heap.get?_push_size _ rfl) ⟨acc, Heap.get?_push_of_some _ (Heap.get?_push_size _ rfl), hacc.1, fun i hi => ?_⟩ (by rw [hsz]; exact Nat.ne_of_gt (Nat.lt_succ_self _)) (by rw [hsz]; exact Nat.le_succ _) (Nat.le_refl _) hk' fun b o q => Heap.get?_push_of_some _ (Heap.get?_push_of_some _ q)
  have hlt : i < acc.size := by rw [hacc.1]; exact hi
  obtain ⟨t, et⟩ := hacc.2 i acc[i] (Array.getElem?_eq_getElem hlt)
  refine ⟨t, ?_⟩
  rw [Array.getD_eq_getD_getElem?, Array.getElem?_eq_getElem hlt]
  show acc[i] = _
  rw [et]
  congr 1
  omega
theorem call_cmb {Q : Value → Shared → Prop} {r : Addr} {n k : Nat} {t0 t1 t2 t3 : Tok} (hh : A.handled = none) (hr : IsRange s.heap r 0 n 1 t0 t1 t2) (hk : k ≤ n) (hn : n ≤ 1000)
    (h : ∀ (hm h' : Heap) (tk : Nat) (it p : Addr), h'.get? it = some (cmbObj p 0 .none (List.range k)) → Pool h' p n → it ≠ p → hm.objs.size ≤ it → hm.objs.size ≤ p → (∀ b o, s.heap.get? b = some o → hm.get? b = some o) → (∀ b o, hm.get? b = some o → h'.get? b = some o) → Q (.ref it) { s with heap := h', toks := tk }) :
    wpAny (model prog w) A (call (.type "itertools.combinations") [.ref r, .int (k : Nat) t3]) Q E s := by
  refine callType_codes (Q₁ := fun obj s₁ => s₁.TypeIs obj "itertools.combinations" ∧ Q obj s₁) called_cmb (typeCall_cmb_2 _ _) F.entry_object_init
    (code_cmb_new (A := A.in1) hh hr hk hn fun hm h' tk it p a b c d e f g => ⟨⟨_, a, rfl⟩, h hm h' tk it p a b c d e f g⟩) fun obj s₁ h₁ => ?_
  exact ⟨h₁.1, F.args_object_init_3 obj _ _, object_init_meets called_cmb.init.lookup called_cmb.made (by decide) prog w A.in1 _ s₁ ⟨h₁.1, rfl, h₁.2⟩⟩
end
end CpCmb

/-! for .. in combinations(range(n), k) -/
namespace L3
open PySem PySem.Spec PyProof.Rows L2 CpCmb
/-- all choices of k things, in their order -/
def comb : List Nat → Nat → List (List Nat)
  | _, 0 => [[]]
  | [], _ + 1 => []
  | x :: l, k + 1 => (comb l k).map (x :: ·) ++ comb l (k + 1)
abbrev combN (n k : Nat) : List (List Nat) := comb (List.range n) k
theorem comb_steps : ∀ n ≤ 6, ∀ k ≤ n, (combN n k)[0]? = some (List.range k) ∧ (∀ i < (combN n k).length, nextC n ((combN n k).getD i []) = (combN n k)[i + 1]?) ∧ ∀ c ∈ combN n k, c.length = k ∧ ∀ j ∈ c, j < n := by decide +kernel
theorem comb_pos {n k : Nat} (hn : n ≤ 6) (hk : k ≤ n) : 0 < (combN n k).length := by
  have := (comb_steps n hn k hk).1
  exact (List.getElem?_eq_some_iff.mp this).1
/-- the items: new tuples -/
def Itc (L : List (List Nat)) : It :=
  ⟨fun i _ => i < L.length, fun i H v H' => ∃ T, v = .ref T ∧ H T = none ∧ H' = upd H T (.tup ((L.getD i []).map fun j => V.int (j : Nat))), fun i _ => L.length ≤ i⟩
/-- the object behind i turns -/
def cmbAt (it p : Addr) (n k : Nat) (i : Nat) (h : Heap) : Prop :=
  Pool h p n ∧ (i = 0 ∧ (∃ l, h.get? it = some (cmbObj p 0 l (List.range k))) ∨ ∃ m c l, i = m + 1 ∧ (combN n k)[m]? = some c ∧ h.get? it = some (cmbObj p 1 l c))
theorem vals_picked {h : Heap} {a : Addr} {idx : List Nat} (P : Picked h a idx) : ∃ vs : List Value, h.get? a = some { cls := .type "tuple", data := .seq vs.toArray } ∧ Vals (idx.map fun j => V.int (j : Nat)) vs := by
  obtain ⟨vs, e, hl, hv⟩ := P
  refine ⟨vs, e, ?_⟩
  clear e
  induction idx generalizing vs with
  | nil =>
    cases vs with
    | nil => exact .nil
    | cons _ _ => cases hl
  | cons i idx ih =>
    cases vs with
    | nil => cases hl
    | cons v vs =>
      obtain ⟨j, t, e1, e2⟩ := hv 0 v rfl
      cases e1
      refine .cons ⟨t, e2⟩ (ih vs (by simpa using hl) fun m u e => ?_)
      have := hv (m + 1) u (by simpa using e)
      simpa using this
theorem turn_cmb {P : Program} {w : World} {K : PySem.W.Frag} {tg : Expr} {it p : Addr} {n k : Nat} (hip : it ≠ p) (hn : n ≤ 6) (hk : k ≤ n) : Turn P w K tg (Itc (combN n k)) [it, p] it (cmbAt it p n k) where
  mem := List.mem_cons_self
  obj := fun i h ⟨⟨its, e, _⟩, st⟩ c hc => by
    rcases List.mem_cons.mp hc with rfl | hc
    · rcases st with ⟨_, l, e2⟩ | ⟨m, q, l, _, _, e2⟩
      · exact ⟨_, e2, fun v z => nomatch z⟩
      · exact ⟨_, e2, fun v z => nomatch z⟩
    · rw [List.mem_singleton.mp hc]
      exact ⟨_, e, fun v z => nomatch z⟩
  keep := fun i h h' ⟨hP, st⟩ kp => by
    refine ⟨hP.keep fun o e => kp p (by simp) o e, ?_⟩
    rcases st with ⟨h0, l, e2⟩ | ⟨m, q, l, h1, h2, e2⟩
    · exact .inl ⟨h0, l, kp it (by simp) _ e2⟩
    · exact .inr ⟨m, q, l, h1, h2, kp it (by simp) _ e2⟩
  item := by
    intro X hP hw hK hc i pins s σ H E I hf st hg
    subst hP hw hK
    obtain ⟨s1, s2, s3⟩ := comb_steps n hn k hk
    obtain ⟨hPool, st⟩ := st
    have hg : i < (combN n k).length := hg
    have hci : (combN n k)[i]? = some ((combN n k).getD i []) := by rw [List.getD_eq_getElem?_getD, List.getElem?_eq_getElem hg]; rfl
    obtain ⟨c1, c2⟩ := s3 _ (List.mem_of_getElem? hci)
    obtain ⟨oit, eit, cit⟩ : ∃ o, s.heap.get? it = some o ∧ o.cls = .type "itertools.combinations" := by
      rcases st with ⟨_, l, e2⟩ | ⟨m, q, l, _, _, e2⟩
      · exact ⟨_, e2, rfl⟩
      · exact ⟨_, e2, rfl⟩
    have hlt : it < s.heap.objs.size := Heap.lt_size eit
    have hpl : p < s.heap.objs.size := by obtain ⟨its, e, _⟩ := hPool; exact Heap.lt_size e
    have fin : ∀ h', h'.get? it = some (cmbObj p 1 (.ref s.heap.objs.size) ((combN n k).getD i [])) → Pool h' p n → Picked h' s.heap.objs.size ((combN n k).getD i []) → h'.objs.size = s.heap.objs.size + 1 → (∀ b o, b ≠ it → s.heap.get? b = some o → h'.get? b = some o) →
        ∃ u, some (Value.ref s.heap.objs.size) = some u ∧ wpAny (model X.prog X.w) X.A (letOwnedTupleGo tg (.ref it) u) (fun _ s2 => ∃ x H', Inv X pins σ H' s2 ∧ RelV x u ∧ (Itc (combN n k)).yld i H x H' ∧ cmbAt it p n k (i + 1) s2.heap ∧ ∀ b ∈ [it, p], H' b = none) E { s with heap := h' } := fun h' a b c d e => by
      refine ⟨_, rfl, go_of (s := { s with heap := h' }) a rfl rfl (by decide) ?_⟩
      obtain ⟨vs, ev, rv⟩ := vals_picked c
      have new : ObjOk X.prog X.w (upd H s.heap.objs.size (.tup (((combN n k).getD i []).map fun j => V.int (j : Nat)))) h' s.heap.objs.size (.tup (((combN n k).getD i []).map fun j => V.int (j : Nat))) :=
        ⟨by rw [List.length_map, c1, sizeLine_eq]; omega, vs, rv, ⟨_, ev, rfl, _, rfl⟩⟩
      refine ⟨.ref s.heap.objs.size, _, I.turnedNew (t' := s.toks) (ch := [it, p]) (fun c o hb q => e c o (fun z => hb (by rw [z]; exact List.mem_cons_self)) q) hf (Nat.le_refl _) new, rfl, ⟨_, rfl, I.hok.fresh (Nat.le_refl _), rfl⟩, ⟨b, .inr ⟨i, _, _, rfl, hci, a⟩⟩, fun c hcm => ?_⟩
      have hcl : c < s.heap.objs.size := by
        rcases List.mem_cons.mp hcm with rfl | hcm
        · exact hlt
        · rw [List.mem_singleton.mp hcm]; exact hpl
      rw [upd_ne (Nat.ne_of_lt hcl)]
      exact (hf c hcm).1
    refine pyNext_item eit cit ?_
    rcases st with ⟨h0, l, e2⟩ | ⟨m, q, l, h1, h2, e2⟩
    · subst h0
      have er : List.range k = (combN n k).getD 0 [] := by rw [List.getD_eq_getElem?_getD, s1]; rfl
      refine cmb_first (n := n) e2 hPool hip (fun j hj => by rw [er] at hj; exact c2 j hj) (by rw [List.length_range]; omega) fun h' a b c d e => ?_
      rw [er] at a c
      exact fin h' a b c d e
    · subst h1
      have em : (combN n k).getD m [] = q := by rw [List.getD_eq_getElem?_getD, h2]; rfl
      have hm : m < (combN n k).length := (List.getElem?_eq_some_iff.mp h2).1
      have hnx := s2 m hm
      rw [em, hci] at hnx
      exact cmb_next (n := n) e2 hnx hPool hip c2 (by rw [c1]; omega) fin
  done := by
    intro X hP hw hK hc i pins s σ H E I hf st hg
    subst hP hw hK
    obtain ⟨s1, s2, s3⟩ := comb_steps n hn k hk
    have hpos := comb_pos hn hk
    obtain ⟨hPool, st⟩ := st
    have hg : (combN n k).length ≤ i := hg
    rcases st with ⟨h0, _⟩ | ⟨m, q, l, h1, h2, e2⟩
    · omega
    · subst h1
      have em : (combN n k).getD m [] = q := by rw [List.getD_eq_getElem?_getD, h2]; rfl
      have hm : m < (combN n k).length := (List.getElem?_eq_some_iff.mp h2).1
      have hnx := s2 m hm
      rw [em, List.getElem?_eq_none (by omega)] at hnx
      refine pyNext_item e2 rfl (cmb_end (n := n) (show X.A.in1.handled = none from I.ok.hd hc) e2 hnx hPool fun h' e ho hk' => ⟨⟨e, rfl, ho⟩, rfl, ?_⟩)
      exact I.turnedL (t' := s.toks) (ch := [it, p]) (fun c o hb q => hk' c o (fun z => hb (by rw [z]; exact List.mem_cons_self)) q) hf
  self := fun A i s Q E ⟨_, st⟩ h => by
    rcases st with ⟨_, l, e2⟩ | ⟨m, q, l, _, _, e2⟩
    · exact iter_cmb e2 h
    · exact iter_cmb e2 h
def iCmb (te ta : TE) : TI := fun σ H R => te σ H fun x H1 => ∃ n : Nat, x = .int (n : Nat) ∧ n ≤ 6 ∧ ta σ H1 fun y H2 => ∃ k : Nat, y = .int (k : Nat) ∧ k ≤ n ∧ R (Itc (combN n k)) H2
section
variable {X : Cx} {tg e a : Expr} {te ta : TE} {p p2 q pos : Pos}
theorem pi_cmb (hc : X.calm = true) (hg : Gl X "combinations") (hm : X.mg "combinations" = some (.type "itertools.combinations")) (hg2 : Gl X "range") (hm2 : X.mg "range" = none) (he : PE X e te) (ha : PE X a ta)
    (n1 : starEach [e] X.env = (false, eval e X.env) :: starEach [] X.env := by rfl)
    (n2 : starEach [.Call (.Name "range" p2) [e] [] q, a] X.env = (false, eval (.Call (.Name "range" p2) [e] [] q) X.env) :: starEach [a] X.env := by rfl)
    (n3 : starEach [a] X.env = (false, eval a X.env) :: starEach [] X.env := by rfl) (hp : (backTo pos (starEach [a] X.env)).any (·.1) = false := by rfl) :
    PI X tg (.Call (.Name "combinations" p) [.Call (.Name "range" p2) [e] [] q, a] [] pos) (iCmb te ta) := by
  refine ⟨fun pins s σ H R I h => ?_⟩
  refine Call_ (ld_glob I hg hm (PyProof.Rows.callWith_type1 (args_cons (thn (Q := fun v s1 => ∃ (r : Addr) (n : Nat) (t0 t1 t2 : Tok) (H1 : Hp), v = .ref r ∧ IsRange s1.heap r 0 n 1 t0 t1 t2 ∧ Inv X (pins ++ pinsAt [r] s1.heap) σ H1 s1 ∧ n ≤ 6 ∧ ta σ H1 fun y H2 => ∃ k : Nat, y = .int (k : Nat) ∧ k ≤ n ∧ R (Itc (combN n k)) H2)
    (Call_ (ld_blt I hg2 hm2 boot_range (PyProof.Rows.callWith_type1 (one_arg he I h (fun v s2 x H2 I2 r qq => ?_) n1) n1))) fun v s1 ⟨r, n, t0, t1, t2, H1, ev, hr, I1, hn, q1⟩ => one_arg ha I1 q1 (fun u s2 y H2 I2 r2 q2 => ?_) n3) n2) n2 hp))
  · obtain ⟨n, rfl, hn, qq⟩ := qq
    obtain ⟨t, rfl⟩ := r
    have hr0 : IsRange (s2.heap.push { cls := .type "range", data := .fields #[.int 0 0, .int n t, .int 1 0] }) s2.heap.objs.size 0 n 1 0 t 0 := IsRange.new _ _ _ _ _ _ _
    refine call_range_1 ⟨_, n, _, _, _, H2, rfl, IsRange.new _ _ _ _ _ _ _, ?_, hn, qq⟩
    refine Inv.pinned (fp := [s2.heap.objs.size]) (I2.kept fun b u e => Heap.get?_push_of_some _ e) (fun b hb => ?_) fun b hb => ?_
    · rw [List.mem_singleton.mp hb]
      exact I2.fpOk (Nat.le_refl _) (I2.hok.fresh (Nat.le_refl _))
    · rw [List.mem_singleton.mp hb]
      exact ⟨_, Heap.get?_push_size _ rfl, fun v z => nomatch z⟩
  · subst ev
    obtain ⟨k, rfl, hk, q2⟩ := q2
    obtain ⟨t, rfl⟩ := r2
    have hr2 : IsRange s2.heap r 0 n 1 t0 t1 t2 := (I2.pin (r, _) (List.mem_append_right _ (List.mem_append_right _ (mem_pinsAt (List.mem_singleton.mpr rfl) hr)))).1
    have I3 : Inv X pins σ H2 s2 := I2.unpinned
    refine call_cmb (I3.ok.hd hc) hr2 hk (by omega) fun hm h' tk it p a b c d e f g => ?_
    have Im : Inv X pins σ H2 { s2 with heap := hm, toks := tk } := I3.kept f
    refine iter_cmb (s := { s2 with heap := h', toks := tk }) a ⟨it, [it, p], cmbAt it p n k, _, H2, rfl, I3.kept fun b o e => g b o (f b o e), turn_cmb c hn hk, ⟨b, .inl ⟨rfl, _, a⟩⟩, fun x hx => ?_, q2⟩
    rcases List.mem_cons.mp hx with rfl | hx
    · exact Im.fpOk d (Im.hok.fresh d)
    · rw [List.mem_singleton.mp hx]
      exact Im.fpOk e (Im.hok.fresh e)
end
/-! by data -/
def cmbD (L : List (List Nat)) : List D := L.map fun c => D.tup (c.map fun j => D.int (j : Nat))
def itC (n : Nat) : D → (List D → Prop) → Prop
  | .int k, P => 0 ≤ k ∧ k ≤ n ∧ P (cmbD (combN n k.toNat))
  | _, _ => False
theorem DRs.of_nats {K : PySem.W.Frag} {r : Addr} {A : Addr → Prop} {H : Hp} : ∀ {ns : List Nat}, DRs K r A H (ns.map fun j => V.int (j : Nat)) (ns.map fun j => D.int (j : Nat))
  | [] => .nil
  | _ :: _ => .cons (.int _) DRs.of_nats
section
variable {X : Cx} {E : XK} {tg e a : Expr} {fe fa : DE} {p p2 q pos : Pos}
theorem i_cmb (hc : X.calm = true) (hg : Gl X "combinations") (hm : X.mg "combinations" = some (.type "itertools.combinations")) (hg2 : Gl X "range") (hm2 : X.mg "range" = none) (he : PE X e (tE X.K E fe)) (ha : PE X a (tE X.K E fa))
    (n1 : starEach [e] X.env = (false, eval e X.env) :: starEach [] X.env := by rfl)
    (n2 : starEach [.Call (.Name "range" p2) [e] [] q, a] X.env = (false, eval (.Call (.Name "range" p2) [e] [] q) X.env) :: starEach [a] X.env := by rfl)
    (n3 : starEach [a] X.env = (false, eval a X.env) :: starEach [] X.env := by rfl) (hp : (backTo pos (starEach [a] X.env)).any (·.1) = false := by rfl) :
    PI X tg (.Call (.Name "combinations" p) [.Call (.Name "range" p2) [e] [] q, a] [] pos) (tI X.K E (fun δ P Z => fe δ (fun d => ∃ n : Nat, d = .int (n : Nat) ∧ n ≤ 6 ∧ fa δ (fun d' => itC n d' P) Z) Z)) :=
  PI.imp (pi_cmb hc hg hm hg2 hm2 he ha n1 n2 n3 hp) fun σ H R ⟨r, A, δ, P, Z, R0, h, hq, hz⟩ => by
  refine ⟨r, A, δ, _, Z, R0, h, fun d v H1 h1 x1 n1 r1 => ?_, hz⟩
  obtain ⟨n, rfl, hn, h1⟩ := h1
  cases r1
  refine ⟨n, rfl, hn, r, A, δ, _, Z, R0.ext x1 n1, h1, fun d' v' H2 h2 x2 n2 r2 => ?_, fun x c dd H' z x2 => hz x c dd H' z (x1.trans x2)⟩
  cases d' with
  | int k =>
    obtain ⟨k0, kn, h2⟩ := h2
    cases r2
    obtain ⟨j, rfl⟩ : ∃ j : Nat, k = (j : Nat) := ⟨k.toNat, by omega⟩
    refine ⟨j, rfl, by omega, hq _ _ H2 h2 (x1.trans x2) n2 fun i H3 A' ea w wa => ⟨fun hle => ?_, fun d hd => ?_⟩⟩
    · show (combN n j).length ≤ i
      have : (cmbD (combN n (j : Int).toNat)).length = (combN n j).length := by unfold cmbD; rw [List.length_map]; rfl
      omega
    · have hd' : (combN n j)[i]?.map (fun c => D.tup (c.map fun j => D.int (j : Nat))) = some d := by
        have : (cmbD (combN n (j : Int).toNat))[i]? = some d := hd
        unfold cmbD at this
        rw [List.getElem?_map] at this
        exact this
      cases hc : (combN n j)[i]? with
      | none => rw [hc] at hd'; cases hd'
      | some c =>
        rw [hc] at hd'
        cases hd'
        have hi := (List.getElem?_eq_some_iff.mp hc).1
        have eg : (combN n j).getD i [] = c := by rw [List.getD_eq_getElem?_getD, hc]; rfl
        refine ⟨hi, ?_⟩
        rintro x H' ⟨T, rfl, nT, rfl⟩
        rw [eg]
        have hl := ((comb_steps n hn j (by omega)).2.2 c (List.mem_of_getElem? hc)).1
        exact ⟨Ext.upd nT, w.rnd.upd nT, w.tup nT (by rw [List.length_map, hl, sizeLine_eq]; omega) DRs.of_nats⟩
  | _ => exact h2.elim
end
end L3

/-! min and sorted of data, tuples within tuples -/
namespace L3
open PySem PySem.Spec PyProof.Rows L2 PySem.W
/-- where the least stands, the first of them -/
def minAt (ys : List PyData) : Nat := argBest (fun i j => dataLt (ys.getD i .none) (ys.getD j .none)) (ys.length - 1)
theorem lt_irrefl (x : PyData) : dataLt x x = false := by unfold dataLt; exact lex_irrefl _
theorem lt_trans {x y z : PyData} (h1 : dataLt x y = true) (h2 : dataLt y z = true) : dataLt x z = true := by unfold dataLt at *; exact lex_trans _ _ _ h1 h2
theorem best_least {ys : List PyData} : ∀ k, argBest (fun i j => dataLt (ys.getD i .none) (ys.getD j .none)) k ≤ k ∧ ∀ j ≤ k, dataLt (ys.getD j .none) (ys.getD (argBest (fun i j => dataLt (ys.getD i .none) (ys.getD j .none)) k) .none) = false
  | 0 => ⟨Nat.le_refl _, fun j hj => by
    obtain rfl : j = 0 := Nat.le_zero.mp hj
    exact lt_irrefl _⟩
  | k + 1 => by
    obtain ⟨i1, i2⟩ := best_least (ys := ys) k
    by_cases hb : dataLt (ys.getD (k + 1) .none) (ys.getD (argBest (fun i j => dataLt (ys.getD i .none) (ys.getD j .none)) k) .none) = true
    · have e : argBest (fun i j => dataLt (ys.getD i .none) (ys.getD j .none)) (k + 1) = k + 1 := if_pos hb
      rw [e]
      refine ⟨Nat.le_refl _, fun j hj => ?_⟩
      rcases Nat.lt_succ_iff_lt_or_eq.mp (Nat.lt_succ_of_le hj) with hj | rfl
      · cases hc : dataLt (ys.getD j .none) (ys.getD (k + 1) .none) with
        | false => rfl
        | true =>
          have := lt_trans hc hb
          rw [i2 j (by omega)] at this
          exact absurd this Bool.false_ne_true
      · exact lt_irrefl _
    · have e : argBest (fun i j => dataLt (ys.getD i .none) (ys.getD j .none)) (k + 1) = argBest (fun i j => dataLt (ys.getD i .none) (ys.getD j .none)) k := if_neg hb
      rw [e]
      refine ⟨Nat.le_succ_of_le i1, fun j hj => ?_⟩
      rcases Nat.lt_succ_iff_lt_or_eq.mp (Nat.lt_succ_of_le hj) with hj | rfl
      · exact i2 j (by omega)
      · cases hc : dataLt (ys.getD (k + 1) .none) (ys.getD (argBest (fun i j => dataLt (ys.getD i .none) (ys.getD j .none)) k) .none) with
        | false => rfl
        | true => exact absurd hc hb
theorem minAt_least {ys : List PyData} (h : ys ≠ []) : minAt ys < ys.length ∧ ∀ j < ys.length, dataLt (ys.getD j .none) (ys.getD (minAt ys) .none) = false := by
  have hl := List.length_pos_iff.mpr h
  obtain ⟨a, b⟩ := best_least (ys := ys) (ys.length - 1)
  exact ⟨by unfold minAt; omega, fun j hj => b j (by omega)⟩
section
variable {prog : Program} {w : World} {A : Around} {E : Value → Shared → Prop} {s : Shared}
theorem min_list_at {l : Addr} {vs : Array Value} {ys : List PyData} {as : List Addr} {Q : Value → Shared → Prop} (hh : A.handled = none) (hl : s.heap.IsList l vs) (hr : ReadsAll s.heap vs.toList ys as) (hne : ys ≠ []) (ha : AlikeAll ys) (hu : A.units + 1 + PyData.depthAll ys < cLine)
    (h : ∀ v h' tk, vs[minAt ys]? = some v → (∀ b o, s.heap.get? b = some o → h'.get? b = some o) → Q v { s with heap := h', toks := tk }) :
    wpAny (model prog w) A (call (.builtin "min") [.ref l]) Q E s := by
  have hn : vs.size = ys.length := readsAll_len hr
  have hp := List.length_pos_iff.mpr hne
  refine call_min_walkH (iter_listW (A := A.in1) hh hl fun s₂ e W st hfp hw hk => ?_)
  refine ⟨_, _, _, _, _, _, _, s.heap, _, rfl, W, st, hfp, by omega, hw, hk, cmpIn_lt (A := A.in1) hr ha (by show A.units + 1 + _ < _; exact hu), fun v s' hP m => ?_⟩
  obtain ⟨h', tk, rfl, hk'⟩ := moved_old e rfl m
  refine h v h' tk ?_ hk'
  unfold minAt
  rw [← hn]
  exact hP
end
section
variable {X : Cx}
def rMinD (K : PySem.W.Frag) : List V → Hp → VK → Prop := fun vs H Q => ∃ (p : Addr) (xs : List V) (ys : List PyData), vs = [V.ref p] ∧ SqL K H p xs ∧ DpAll K H xs ys ∧ ys ≠ [] ∧ AlikeAll ys ∧ PyData.depthAll ys ≤ 60 ∧ ∀ v, xs[minAt ys]? = some v → Q v H
theorem cr_minD (hc : X.calm = true) (hu : X.A.units + 64 < cLine) : CallR X (.builtin "min") (rMinD X.K) := by
  intro pins s σ H vs us Q I r h
  obtain ⟨p, xs, ys, rfl, hS, hD, hne, ha, hdp, q⟩ := h
  obtain ⟨its, rv, hl, _⟩ := I.list hS
  obtain ⟨as, hr⟩ := Dp.readsAll I ys xs its hD rv
  rw [Vals.ref1 r]
  refine min_list_at (I.ok.hd hc) hl.isList (show ReadsAll s.heap its.toArray.toList ys as from hr) hne ha (by omega) fun v h' tk hv hk => ?_
  have hv' : its[minAt ys]? = some v := by simpa using hv
  obtain ⟨x, hx, rx⟩ := Vals.getV rv hv'
  exact ⟨x, H, I.kept hk, rx, q x hx⟩
theorem sortsAt_one {prog : Program} {w : World} {A : Around} {s : Shared} {vs : List Value} {ds : List PyData} (e : EachIs (fun v d => ∃ as, Reads s.heap v d as) vs ds) (hal : AllAlike ds) (h1 : vs.length ≤ 1) (hne : ∀ d ∈ ds, d ≠ .none) (hu : ∀ d, d ∈ ds → A.units + d.depth < cLine) : SortsAt prog w A s (dataKind s.heap ds) vs := by
  refine ⟨fun v hv => ?_, sortPriv% PySem.Builtin.KeyKind.general, ?_, fun h2 => absurd h2 (by omega)⟩
  · obtain ⟨d, hd, as, r⟩ := e.left v hv
    exact ⟨_, dataKind_some hal hd r⟩
  · intro E x y a b Q ha hb hq
    obtain ⟨d, as, hd, ra, rfl⟩ := dataKind_inv ha
    obtain ⟨d', as', hd', rb, rfl⟩ := dataKind_inv hb
    show wpAny _ _ (oneLt' false x y) _ _ _
    exact oneLt_alike (fun h => by cases h) ra rb (hal d hd d' hd') (hne d hd) (Nat.lt_of_le_of_lt (Nat.add_le_add_left (Nat.min_le_left _ _) _) (hu d hd)) hq
theorem sorted_data1 {prog : Program} {w : World} {A : Around} {E : Value → Shared → Prop} {s : Shared} {β : Type} {R : Value → β → Prop} {enc : β → PyData} {vs : List Value} {bs : List β} {l : Addr} {Q : Value → Shared → Prop} (hl : s.heap.IsList l vs.toArray) (e : EachIs R vs bs) (er : EachIs (fun v b => ∃ as, Reads s.heap v (enc b) as) vs bs) (hal : AllAlike (bs.map enc)) (h1 : bs.length ≤ 1) (hne : ∀ b ∈ bs, enc b ≠ .none)
    (hu : ∀ b, b ∈ bs → A.units + 2 + (enc b).depth < cLine) (h : ∀ out, out.length = bs.length → EachIs R out (bs.mergeSort (dataLe false enc)) → Q (.ref (s.heap.objs.size + 1)) { s with heap := sortedAll s.heap vs (List.toArray out) }) :
    wpAny (model prog w) A (call (.builtin "sorted") [.ref l]) Q E s := by
  have er' : EachIs (fun v b => ∃ as, Reads (sortingHeap (copyHeap s.heap vs) (s.heap.objs.size + 1) vs) v (enc b) as) vs bs := er.mono fun _ _ ⟨as, r⟩ => ⟨as, PyProof.Rows.Reads.keeps (fun _ _ => sorting_copy_old) r⟩
  have hlen : vs.length = bs.length := e.length
  refine sorted_vals hl (sortsAt_one (s := { s with heap := sortingHeap (copyHeap s.heap vs) (s.heap.objs.size + 1) vs }) (each_map (R := fun v d => ∃ as, Reads (sortingHeap (copyHeap s.heap vs) (s.heap.objs.size + 1) vs) v d as) enc er') hal (by omega) (fun d hd => ?_) (bound_map hu)) (by rw [hlen, sizeLine_eq]; omega)
    (h _ (by rw [sortVals_length false rfl]; exact e.length) (sortVals_data false e er' hal))
  obtain ⟨b, hb, rfl⟩ := List.mem_map.mp hd
  exact hne b hb
/-- what sorted can put in order -/
def SortOk (ys : List PyData) : Prop := Sortable ys ∨ ys.length ≤ 1 ∧ ∀ y ∈ ys, y ≠ .none
def rSortD (K : PySem.W.Frag) : List V → Hp → VK → Prop := fun vs H Q => ∃ (β : Type) (p : Addr) (bs : List β) (fv : β → V) (fp : β → PyData), vs = [V.ref p] ∧ SqL K H p (bs.map fv) ∧ DpAll K H (bs.map fv) (bs.map fp) ∧ AllAlike (bs.map fp) ∧ SortOk (bs.map fp) ∧ (∀ b ∈ bs, (fp b).depth ≤ 60) ∧ bs.length ≤ sizeLine ∧
  ∀ (cs : List β) (l : Addr), cs.Perm bs → cs.Pairwise (fun a b => dataLt (fp b) (fp a) = false) → H l = none → Q (.ref l) (upd H l (.lst (cs.map fv)))
theorem each_vals {β : Type} {fv : β → V} : ∀ {us : List Value} {bs : List β}, Vals (bs.map fv) us → EachIs (fun u b => RelV (fv b) u) us bs
  | _, [], .nil => .nil
  | _, _ :: _, .cons r t => .cons r (each_vals t)
theorem vals_each {β : Type} {fv : β → V} : ∀ {us : List Value} {bs : List β}, EachIs (fun u b => RelV (fv b) u) us bs → Vals (bs.map fv) us
  | _, _, .nil => .nil
  | _, _, .cons r t => .cons r (vals_each t)
theorem lt_total {a b : PyData} (h : dataLt a b = false) (h2 : dataLt b a = false) : keyToks a = keyToks b := lex_total _ _ h h2
theorem nlt_trans {a b c : PyData} (h1 : dataLt b a = false) (h2 : dataLt c b = false) : dataLt c a = false := by
  cases h : dataLt c a with
  | false => rfl
  | true =>
    cases hb : dataLt a b with
    | true =>
      have := lt_trans h hb
      rw [h2] at this
      exact absurd this Bool.false_ne_true
    | false =>
      have e := lt_total hb h1
      unfold dataLt at h h2
      rw [e] at h
      rw [h2] at h
      exact absurd h Bool.false_ne_true
theorem cr_sortedD (hu : X.A.units + 64 < cLine) : CallR X (.builtin "sorted") (rSortD X.K) := by
  intro pins s σ H vs us Q I r h
  obtain ⟨β, p, bs, fv, fp, rfl, hS, hD, ha, hso, hdp, hz, q⟩ := h
  obtain ⟨its, rv, hl, _⟩ := I.list hS
  obtain ⟨as, hr⟩ := Dp.readsAll I (bs.map fp) (bs.map fv) its hD rv
  rw [Vals.ref1 r]
  have room : ∀ b, b ∈ bs → X.A.units + 2 + (fp b).depth < cLine := fun b hb => by
    have := hdp b hb
    omega
  have go : ∀ out : List Value, out.length = bs.length → EachIs (fun u b => RelV (fv b) u) out (bs.mergeSort (dataLe false fp)) → EP X pins σ Q (.ref (s.heap.objs.size + 1)) { s with heap := sortedAll s.heap its (List.toArray out) } := fun out h1 h2 => by
    obtain ⟨ep, he'⟩ := PyProof.Rows.sortedAll_at s.heap its (List.toArray out)
    have hv := vals_each h2
    have hperm : (bs.mergeSort (dataLe false fp)).Perm bs := List.mergeSort_perm _ _
    have hlen : ((bs.mergeSort (dataLe false fp)).map fv).length ≤ sizeLine := by rw [List.length_map, hperm.length_eq]; exact hz
    refine ⟨.ref _, upd H (s.heap.objs.size + 1) (.lst ((bs.mergeSort (dataLe false fp)).map fv)), I.laid (t' := s.toks) (fun _ _ => PyProof.Rows.sortedAll_old) (Nat.le_succ _) ⟨hlen, out, ep, hv, he'⟩, rfl, q _ _ hperm ?_ (I.hok.fresh (Nat.le_succ _))⟩
    have hp := List.pairwise_mergeSort (le := dataLe false fp) (fun a b c h1 h2 => ?_) (fun a b => ?_) bs
    · exact hp.imp fun {a b} h => by
        rw [dataLe_eq] at h
        simpa using h
    · rw [dataLe_eq] at *
      simp at *
      exact nlt_trans h1 h2
    · rw [dataLe_eq]
      cases hb : dataLt (fp b) (fp a) with
      | false => simp [hb]
      | true =>
        cases hc : dataLt (fp a) (fp b) with
        | false => simp [hc]
        | true =>
          have := lt_trans hb hc
          rw [lt_irrefl] at this
          exact absurd this Bool.false_ne_true
  rcases hso with hso | ⟨k1, k2⟩
  · exact sorted_data (enc := fp) (bs := bs) (R := fun u b => RelV (fv b) u) hl.isList (each_vals rv) (readsAll_each fp hr) ha hso hz room go
  · exact sorted_data1 (enc := fp) (bs := bs) (R := fun u b => RelV (fv b) u) hl.isList (each_vals rv) (readsAll_each fp hr) ha (by rw [List.length_map] at k1; exact k1) (fun b hb => k2 _ (List.mem_map_of_mem hb)) room go
end
/-! by data -/
def sortDD : List D → DP → Prop
  | [.lst ds], P => ∃ (β : Type) (bs : List β) (fd : β → D) (fp : β → PyData), ds = bs.map fd ∧ (∀ b ∈ bs, (fd b).py = some (fp b)) ∧ AllAlike (bs.map fp) ∧ SortOk (bs.map fp) ∧ (∀ b ∈ bs, (fp b).depth ≤ 60) ∧
      ∀ cs : List β, cs.Perm bs → cs.Pairwise (fun a b => dataLt (fp b) (fp a) = false) → P (.lst (cs.map fd))
  | _, _ => False
def minDD : List D → DP → Prop
  | [.lst ds], P => ∃ ys, D.pys ds = some ys ∧ ys ≠ [] ∧ AlikeAll ys ∧ PyData.depthAll ys ≤ 60 ∧ ∀ (i : Nat) d y, ds[i]? = some d → ys[i]? = some y → (∀ z ∈ ys, dataLt z y = false) → P d
  | _, _ => False
theorem pys_len : ∀ {ds : List D} {ys : List PyData}, D.pys ds = some ys → ds.length = ys.length
  | [], ys, h => by cases h; rfl
  | d :: ds, ys, h => by
    unfold D.pys at h
    cases q : d.py with
    | none => rw [q] at h; cases h
    | some x =>
      cases q2 : D.pys ds with
      | none => rw [q, q2] at h; cases h
      | some xs =>
        rw [q, q2] at h
        cases h
        rw [List.length_cons, List.length_cons, pys_len q2]
theorem cd_minD {K : PySem.W.Frag} : CallD K (rMinD K) minDD := fun r A H xs ds P Q w t h q => by
  match ds, h with
  | [.lst ds], h =>
    obtain ⟨ys, hy, hne, ha, hd, h⟩ := h
    obtain ⟨v, rfl, a⟩ := t.one
    obtain ⟨p, xs, rfl, _, e1, z1, t1⟩ := a.sqL
    obtain ⟨m1, m2⟩ := minAt_least hne
    refine ⟨p, xs, ys, rfl, SqL.of e1, t1.dps hy, hne, ha, hd, fun v hv => ?_⟩
    have hl := pys_len hy
    have hd : ds[minAt ys]? = some ds[minAt ys] := List.getElem?_eq_getElem (by omega)
    obtain ⟨u, hu, ru⟩ := t1.get hd
    rw [hv] at hu
    cases hu
    refine q _ _ _ (h (minAt ys) _ _ hd (List.getElem?_eq_getElem m1) fun z hz => ?_) .refl w.rnd ru
    obtain ⟨j, hj, rfl⟩ := List.mem_iff_getElem.mp hz
    have := m2 j hj
    rw [List.getD_eq_getElem?_getD, List.getD_eq_getElem?_getD, List.getElem?_eq_getElem hj, List.getElem?_eq_getElem m1] at this
    exact this
theorem pairs_of {K : PySem.W.Frag} {r : Addr} {A : Addr → Prop} {H : Hp} {β : Type} {fd : β → D} : ∀ {xs : List V} {bs : List β}, DRs K r A H xs (bs.map fd) → ∃ ps : List (V × β), ps.map (·.1) = xs ∧ ps.map (·.2) = bs ∧ ∀ p ∈ ps, DR K r A H p.1 (fd p.2)
  | _, [], .nil => ⟨[], rfl, rfl, fun _ h => by cases h⟩
  | _, b :: bs, .cons a t => by
    obtain ⟨ps, h1, h2, h3⟩ := pairs_of t
    refine ⟨(_, b) :: ps, by rw [List.map_cons, h1], by rw [List.map_cons, h2], fun p hp => ?_⟩
    rcases List.mem_cons.mp hp with rfl | hp
    · exact a
    · exact h3 p hp
theorem drs_of {K : PySem.W.Frag} {r : Addr} {A : Addr → Prop} {H : Hp} {β : Type} {fd : β → D} : ∀ {ps : List (V × β)}, (∀ p ∈ ps, DR K r A H p.1 (fd p.2)) → DRs K r A H (ps.map (·.1)) (ps.map fun p => fd p.2)
  | [], _ => .nil
  | p :: ps, h => .cons (h p List.mem_cons_self) (drs_of fun q hq => h q (List.mem_cons_of_mem _ hq))
theorem pys_map {β : Type} {fd : β → D} {fp : β → PyData} : ∀ {bs : List β}, (∀ b ∈ bs, (fd b).py = some (fp b)) → D.pys (bs.map fd) = some (bs.map fp)
  | [], _ => rfl
  | b :: bs, h => by
    rw [List.map_cons, List.map_cons]
    unfold D.pys
    rw [h b List.mem_cons_self, pys_map fun x hx => h x (List.mem_cons_of_mem _ hx)]
    rfl
theorem cd_sortedD {K : PySem.W.Frag} : CallD K (rSortD K) sortDD := fun r A H xs ds P Q w t h q => by
  match ds, h with
  | [.lst ds], h =>
    obtain ⟨β, bs, fd, fp, rfl, hy, ha, hso, hdp, h⟩ := h
    obtain ⟨v, rfl, a⟩ := t.one
    obtain ⟨p, xs, rfl, _, e1, z1, t1⟩ := a.sqL
    obtain ⟨ps, p1, p2, p3⟩ := pairs_of t1
    have e3 : (ps.map fun x : V × β => fp x.2) = bs.map fp := by rw [← p2, List.map_map]; rfl
    have hpl : ps.length = bs.length := by rw [← p2, List.length_map]
    refine ⟨V × β, p, ps, (·.1), fun x => fp x.2, rfl, SqL.of (by rw [p1]; exact e1), ?_, by rw [e3]; exact ha, by rw [e3]; exact hso, fun b hb => hdp b.2 (by rw [← p2]; exact List.mem_map_of_mem hb), ?_, fun cs l hperm hpw nl => ?_⟩
    · rw [e3, p1]
      exact t1.dps (pys_map hy)
    · rw [← List.length_map (f := fun x : V × β => x.1) (as := ps), p1]; exact z1
    · have hperm2 : (cs.map (·.2)).Perm bs := by rw [← p2]; exact hperm.map _
      have hP := h (cs.map (·.2)) hperm2 (List.pairwise_map.mpr hpw)
      rw [List.map_map] at hP
      refine q _ _ _ hP (Ext.upd nl) (w.rnd.upd nl) (w.lst nl ?_ (drs_of fun x hx => p3 x (hperm.mem_iff.mp hx)))
      rw [List.length_map, hperm.length_eq, ← List.length_map (f := fun x : V × β => x.1) (as := ps), p1]; exact z1
end L3

namespace L3
open PySem PySem.Spec PyProof.Rows L2
/-! sorted(set(xs)) of a list of ints -/
section
variable {P : Program} {w : World} {A : Around} {E : Value → Shared → Prop} {s : Shared}
abbrev lstIt (l : Addr) : Obj := { cls := .type "list_iterator", data := .fields #[.ref l, .int 0 0] }
theorem set_from_list {l : Addr} {items : Array Value} {Q : Value → Shared → Prop} {Good : Shared → Prop} (hl : s.heap.IsList l items)
    (loop : ∀ R : Result → Shared → Prop, (∀ s', Good s' → R (.ok (.ret .none)) s') →
      codeAny (model P w) A.in1.in1 (.builtin "set.update.loop" ⟨[.ref s.heap.objs.size, .ref (s.heap.push (newSet w)).objs.size], []⟩) R { s with heap := (s.heap.push (newSet w)).push (lstIt l) })
    (h : ∀ s', Good s' → Q (.ref s.heap.objs.size) s') : wpAny (model P w) A (call (.type "set") [.ref l]) Q E s := by
  obtain ⟨c, tl, hmro⟩ := F.called_set.mro
  have made := F.called_set.made; have hsub := F.called_set.sub
  refine wpAny_call (codeAny_of_tree ?_); show wpAny _ _ (callAny (.type "set") _) _ _ _
  refine wpAny_pure ⟨Code.quiet_builtin _ (by decide +kernel), codeAny_builtin F.entry_type_call ?_⟩
  rw [Around.under_plain (weight_type_call_type "set" [.ref l] []) rfl]
  have nt := F.called_set.notType; have cc := F.called_set.canCreate; have tc := F.typeCall_set_1 (.ref l)
  repeat (any_goals (first | assumption | wp_step))
  refine codeAny_mono (code_set_led1 (.ref l) (E := E) (Q₁ := fun obj s₁ => obj = .ref s.heap.objs.size ∧ s₁ = { s with heap := s.heap.push (newSet w) }) ⟨rfl, rfl⟩) fun r s₁ hr => ?_
  cases r with
  | error e => exact hr
  | ok fl =>
    cases fl with
    | next => exact hr.elim
    | brk => exact hr.elim
    | cont => exact hr.elim
    | ret obj =>
      obtain ⟨rfl, rfl⟩ := hr
      have isS : (s.heap.push (newSet w)).get? s.heap.objs.size = some (newSet w) := Heap.get?_push_size _ rfl
      have tyS : Shared.TypeIs { s with heap := s.heap.push (newSet w) } (.ref s.heap.objs.size) "set" := ⟨_, isS, rfl⟩
      have li := F.called_set.init.lookup; have bi := F.called_set.init.bind (.ref s.heap.objs.size)
      repeat (any_goals (first | assumption | wp_step))
      refine codeAny_mono (codeAny_call_builtin (R := wants (fun r s₂ => r = .none ∧ Good s₂) E) F.called_set.init.plain F.entry_set_init (check_set_init_1 tyS ?_)) fun r₂ s₂ hr₂ => ?_
      · obtain ⟨⟨oc, od, odt, os⟩, hol, hcl, nl, hdl⟩ := hl
        simp only at hcl hdl; subst hcl hdl
        have hol' : (s.heap.push (newSet w)).get? l = some { cls := .type "list", dict := od, data := .seq items nl, slots := os } := Heap.get?_push_of_some _ hol
        have st1 := F.sub_list_set; have st2 := F.sub_list_frozenset
        have ne : (Value.type "list" == Value.type "dict") = false := by decide
        have isT : (s.heap.push (newSet w)).IsList l items := ⟨_, hol', rfl, nl, rfl⟩
        unfold Builtin.«set.__init__» noKeywords Builtin.Frozenset.updateFrom
        generalize hPI : pyIter = PI
        wp_walk
        subst hPI
        refine wpAny_pyIter_list isT (wpAny_bind (wpAny_runValue (loop _ fun s' g => ?_)))
        refine wpAny_pure ?_; show wpAny _ _ (ret Value.none) _ _ _
        exact wpAny_pure ⟨rfl, g⟩
      · cases r₂ with
        | error e => exact hr₂
        | ok fl₂ =>
          cases fl₂ with
          | ret r =>
            obtain ⟨rfl, g⟩ := hr₂
            repeat (any_goals (first | assumption | wp_step))
            exact h _ g
          | _ => exact hr₂.elim
end
section
variable {X : Cx}
def rSetLI (K : PySem.W.Frag) (w : World) : List V → Hp → VK → Prop := fun xs H Q => ∃ (l : Addr) (ns : List Int), xs = [V.ref l] ∧ SqL K H l (ns.map V.int) ∧ ns.length < 64 ∧
  ∀ a c, H a = none → c ≤ ns.length → Q (.ref a) (upd H a (SetO w a (fun j => decide (j ∈ ns)) c))
theorem cr_setLI (hc : X.calm = true) : CallR X (.type "set") (rSetLI X.K X.w) := by
  intro pins s σ H xs us Q I r h
  obtain ⟨l, ns, rfl, hl, hf, q⟩ := h
  rw [Vals.ref1 r]
  obtain ⟨its, rv, pl, hz⟩ := I.list hl
  have hh := I.ok.hd hc
  have pt : s.heap.IsList l its.toArray := pl.isList
  have hit : IntsAre its.toArray.toList ns := by simpa using rv.ints
  have hisz : its.toArray.size = ns.length := by
    have q := IntsAre.length hit
    rw [Array.length_toList] at q
    exact q
  have hll : l < s.heap.objs.size := by obtain ⟨_, e, _⟩ := pt; exact Heap.lt_size e
  have hsz : (s.heap.push (newSet X.w)).objs.size = s.heap.objs.size + 1 := Heap.size_push ..
  refine set_from_list (P := X.prog) (w := X.w) (Good := fun s' => ∃ h' tk c, s' = { s with heap := h', toks := tk } ∧ SetR X.w h' s.heap.objs.size (fun j => decide (j ∈ ns)) c ∧ c ≤ ns.length ∧ ∀ b o, s.heap.get? b = some o → h'.get? b = some o) pt ?_ ?_
  · intro R hR
    have pt1 : (s.heap.push (newSet X.w)).IsList l its.toArray := by
      obtain ⟨o, e, r⟩ := pt
      exact ⟨o, Heap.get?_push_of_some _ e, r⟩
    have isS : ((s.heap.push (newSet X.w)).push (lstIt l)).get? s.heap.objs.size = some (newSet X.w) := Heap.get?_push_of_some _ (Heap.get?_push_size _ rfl)
    refine set_update_ints (A := X.A.in1.in1) ((Walks.list (A := X.A.in1.in1.in1) (by simp [hh]) (s.heap.push (newSet X.w)).objs.size l (by rw [hsz]; exact Nat.ne_of_lt (Nat.lt_succ_of_lt hll)) its.toArray).toS) s.heap.objs.size ?_ ns hisz (by unfold scanBound; omega) (fun i v hv => ?_)
      (its.toArray.size - 0) 0 _ (by omega) (Nat.zero_le _) ⟨⟨_, Heap.get?_push_size _ rfl, rfl, rfl⟩, pt1.push _⟩ ⟨0, Nat.le_refl 0, setR_new_at isS⟩ ?_
    · rw [hsz]
      simp only [List.mem_cons, List.not_mem_nil, or_false, not_or]
      exact ⟨Nat.ne_of_lt (Nat.lt_succ_self _), Nat.ne_of_gt hll⟩
    · have hi : i < ns.length := by rw [← hisz]; exact (Array.getElem?_eq_some_iff.mp hv).1
      obtain ⟨t, e⟩ := PyProof.Rows.IntsAre.int_at hit i v (by rw [Array.getElem?_toList]; exact hv)
      refine ⟨ns[i], t, List.getElem?_eq_getElem hi, ?_⟩
      rw [e, List.getD_eq_getElem?_getD, List.getElem?_eq_getElem hi] <;> rfl
    · intro s' c' hm hc' hS'
      obtain ⟨h', g2, d', tk', os'⟩ := s'
      have eg : g2 = s.gens := hm.gens
      have ed : d' = s.drawn := hm.drawn
      have eo : os' = s.os := hm.os
      subst eg ed eo
      refine hR _ ⟨h', tk', c', rfl, hS', by omega, fun b o e => ?_⟩
      have hb0 : b < s.heap.objs.size := Heap.lt_size e
      have hb1 : b ≠ s.heap.objs.size := Nat.ne_of_lt hb0
      have hb2 : b ≠ (s.heap.push (newSet X.w)).objs.size := by rw [hsz]; exact Nat.ne_of_lt (Nat.lt_succ_of_lt hb0)
      exact hm.heap b o (by simp only [List.mem_cons, List.not_mem_nil, or_false, not_or]; exact ⟨hb1, hb2⟩) (Heap.get?_push_of_some _ (Heap.get?_push_of_some _ e))
  · rintro s' ⟨h', tk, c, rfl, R, hcl, k⟩
    exact ⟨.ref s.heap.objs.size, upd H s.heap.objs.size (SetO X.w s.heap.objs.size (fun j => decide (j ∈ ns)) c), I.laid (t' := tk) k (Nat.le_refl _) (setO_new R), rfl, q _ c (I.hok.fresh (Nat.le_refl _)) hcl⟩
def ssLD : D → DP → Prop
  | .lst ds, P => ∃ ns : List Int, ds = ns.map D.int ∧ ns.length < 64 ∧ ∀ ms : List Int, ms.Pairwise (· < ·) → (∀ k, k ∈ ms ↔ k ∈ ns) → P (.lst (ms.map D.int))
  | _, _ => False
variable {E : XK} {a : Expr} {fa : DE} {p p2 pos q : Pos}
theorem e_sortedSetL (hc : X.calm = true) (hg : Gl X "sorted") (hm : X.mg "sorted" = none) (hg2 : Gl X "set") (hm2 : X.mg "set" = none) (ha : PE X a (tE X.K E fa))
    (na : starEach [a] X.env = (false, eval a X.env) :: starEach [] X.env := by rfl) (nb : starEach [.Call (.Name "set" p2) [a] [] q] X.env = (false, eval (.Call (.Name "set" p2) [a] [] q) X.env) :: starEach [] X.env := by rfl) :
    PE X (.Call (.Name "sorted" p) [.Call (.Name "set" p2) [a] [] q] [] pos) (tE X.K E (fun δ P Z => fa δ (fun d => ssLD d P) Z)) :=
  PE.imp (pe_callB (cr_sortedSet hc) hg hm (by decide +kernel) (pa_cons (pe_callTy (cr_setLI hc) hg2 hm2 (by decide +kernel) (pa_cons ha pa_nil na) (by decide) (by decide) na) pa_nil nb) (by decide) (by decide) nb) fun σ H Q ⟨r, A, δ, P, Z, R, h, hq, hz⟩ => by
    refine ⟨r, A, δ, _, Z, R, h, fun d v H1 h1 x1 n1 r1 => ?_, hz⟩
    have w1 := (R.ext x1 n1).wd
    cases d with
    | lst ds =>
      obtain ⟨l, xs, rfl, _, e1, z1, t1⟩ := r1.sqL
      obtain ⟨ns, rfl, hl, h1⟩ := h1
      have := t1.ints
      subst this
      refine ⟨l, ns, rfl, SqL.of e1, hl, fun a c na hcl => ⟨a, _, c, rfl, upd_same, by omega, fun ms p pw hm hlen np => ?_⟩⟩
      have w2 : Wd r A (upd H1 a (SetO X.w a (fun j => decide (j ∈ ns)) c)) := w1.ext (Ext.upd na) (n1.upd na)
      exact hq _ _ _ (h1 ms pw fun k => by rw [hm k]; simp) ((x1.trans (Ext.upd na)).trans (Ext.upd np)) ((n1.upd na).upd np) (w2.lst np (by rw [List.length_map, sizeLine_eq]; omega) DRs.of_ints)
    | _ => exact h1.elim
end
/-! range(i, j, -1) -/
def downD (lo : Int) (n : Nat) : List D := (List.range n).map fun i => D.int (lo - (i : Nat))
def itR3 : List D → (List D → Prop) → Prop
  | [.int i, .int j, .int k], P => k = -1 ∧ -1073741824 ≤ i ∧ i ≤ 1073741824 ∧ -1073741824 ≤ j ∧ j ≤ 1073741824 ∧ P (downD i (i - j).toNat)
  | _, _ => False
theorem yd_down {K : PySem.W.Frag} {r : Addr} {A : Addr → Prop} {H : Hp} {lo : Int} {n : Nat} : YD K r A (L2.Itc lo (-1) n) (downD lo n) H := fun i H2 A' ea w wa => ⟨fun hl => by
    show n ≤ i
    simpa [downD] using hl, fun d hd => by
    unfold downD at hd
    rw [List.getElem?_map] at hd
    cases hr : (List.range n)[i]? with
    | none => rw [hr] at hd; cases hd
    | some k =>
      rw [hr] at hd
      cases hd
      obtain ⟨hlt, hk⟩ := List.getElem?_eq_some_iff.mp hr
      rw [List.getElem_range] at hk
      subst hk
      refine ⟨by show i < n; simpa using hlt, ?_⟩
      rintro x H2 ⟨rfl, rfl⟩
      refine ⟨.refl, w.rnd, ?_⟩
      have e : lo + (i : Nat) * (-1) = lo - (i : Nat) := by omega
      rw [e]
      exact .int _⟩
section
variable {X : Cx} {E : XK} {tg a b c : Expr} {fs : DA} {p pos : Pos}
theorem i_range3 (hg : Gl X "range") (hm : X.mg "range" = none) (ha : PA X [a, b, c] (tA X.K E fs)) (hs : starEach [a, b, c] X.env = (false, eval a X.env) :: starEach [b, c] X.env := by rfl) (hpl : (backTo pos (starEach [b, c] X.env)).any (·.1) = false := by rfl) :
    PI X tg (.Call (.Name "range" p) [a, b, c] [] pos) (tI X.K E (fun δ P Z => fs δ (fun ds => itR3 ds P) Z)) := PI.imp (pi_range3 hg hm ha hs hpl) fun σ H R ⟨r, A, δ, P, Z, R0, h2, hq, hz⟩ =>
  ⟨r, A, δ, _, Z, R0, h2, fun ds vs H1 h3 x1 n1 r1 => by
    match ds, h3 with
    | [.int i, .int j, .int k], h3 =>
      obtain ⟨rfl, b1, b2, b3, b4, h3⟩ := h3
      cases r1 with
      | cons r r1 => cases r1 with
        | cons r' r1 => cases r1 with
          | cons r'' r1 =>
            cases r1; cases r; cases r'; cases r''
            exact ⟨i, j, -1, (i - j).toNat, rfl, RgC.neg (by omega) (by omega) (by omega) (by omega), hq _ _ H1 h3 x1 n1 yd_down⟩, hz⟩
end
end L3

namespace L3
open PySem PySem.Spec PyProof.Rows L2
/-! t[::-1] of a tuple -/
section
variable {prog : Program} {w : World} {A : Around} {E : Value → Shared → Prop} {s : Shared}
theorem adjust_rev (n : Nat) : Builtin.Slice.sliceAdjust none none (-1) (n : Int) = ((n : Int) - 1, -1) := rfl
theorem places_rev (n : Nat) : Builtin.Slice.slicePlaces ((n : Int) - 1) (-1) (-1) = n := by
  unfold Builtin.Slice.slicePlaces
  have h1 : ¬ ((-1 : Int) > 0) := by omega
  simp only [h1, if_false]
  rw [show (-(-1) : Int) = 1 by decide, Int.ediv_one]
  split <;> omega
theorem sliceApplied_rev {sl : Addr} {vs : Value} {n : Nat} {Q : Int × Int × Nat → Shared → Prop} (hs : s.heap.IsSliceOf sl .none .none vs) (ps : IsPart vs (some (-1)))
    (h : Q ((n : Int) - 1, -1, n) s) : wpAny (model prog w) A (Builtin.Slice.sliceApplied (.ref sl) (pure (n : Int))) Q E s := by
  obtain ⟨os, hos, hcs, hds⟩ := id hs
  unfold Builtin.Slice.sliceApplied Builtin.Slice.sliceFields
  refine wpAny_bind (wpAny_bind (wpAny_field hos hds (x := .none) rfl (wpAny_bind (wpAny_field hos hds (x := .none) rfl (wpAny_bind (wpAny_field hos hds (x := vs) rfl (wpAny_pure ?_)))))))
  refine wpAny_bind (HT.slicePart_ ps ?_)
  show wpAny _ _ (if ((-1 : Int) == 0) = true then _ else _) _ _ s
  rw [if_neg (by decide)]
  refine wpAny_bind (slicePart_none (wpAny_bind (slicePart_none (wpAny_bind (wpAny_pure ?_)))))
  show wpAny _ _ (match Builtin.Slice.sliceAdjust none none (-1) (n : Int) with | (lo, hi) => pure (lo, (-1 : Int), Builtin.Slice.slicePlaces lo hi (-1))) _ _ s
  rw [adjust_rev n]
  show wpAny _ _ (pure ((n : Int) - 1, (-1 : Int), Builtin.Slice.slicePlaces ((n : Int) - 1) (-1) (-1))) _ _ s
  rw [places_rev]
  exact wpAny_pure h
theorem fm_congr {α β : Type} {f g : α → Option β} : ∀ l : List α, (∀ a ∈ l, f a = g a) → l.filterMap f = l.filterMap g
  | [], _ => rfl
  | a :: l, h => by
    rw [List.filterMap_cons, List.filterMap_cons, h a (List.mem_cons_self ..), fm_congr l fun b hb => h b (List.mem_cons_of_mem _ hb)]
theorem pick_rev (xs : Array Value) : ((List.range xs.size).filterMap fun (m : Nat) => xs[((xs.size : Int) - 1 + (m : Int) * (-1)).toNat]?).toArray = xs.toList.reverse.toArray := by
  congr 1
  have h1 : ((List.range xs.size).filterMap fun (m : Nat) => xs[((xs.size : Int) - 1 + (m : Int) * (-1)).toNat]?) = (List.range xs.size).filterMap fun (m : Nat) => xs.toList.reverse[m]? := by
    refine fm_congr _ fun m hm => ?_
    have hm := List.mem_range.mp hm
    rw [List.getElem?_reverse (by simpa using hm), Array.length_toList, Array.getElem?_toList]
    congr 1
    omega
  rw [h1]
  have := pick_run xs.toList.reverse.toArray 0 xs.size
  rw [List.filterMap_map] at this
  have e2 : ((fun x => xs.toList.reverse.toArray[x]?) ∘ fun x => 0 + x) = fun m => xs.toList.reverse[m]? := by
    funext m
    show xs.toList.reverse.toArray[0 + m]? = _
    rw [Nat.zero_add]
    simp
  rw [e2] at this
  rw [this]
  show (xs.toList.reverse.drop 0).take xs.size = xs.toList.reverse
  rw [List.drop_zero]
  exact List.take_of_length_le (by rw [List.length_reverse, Array.length_toList]; omega)
theorem getItem_tuple_rev {t sl : Addr} {items : Array Value} {vs : Value} {Q : Value → Shared → Prop} (ht : IsTup s.heap t items) (hs : s.heap.IsSliceOf sl .none .none vs) (ps : IsPart vs (some (-1)))
    (h : Q (.ref s.heap.objs.size) { s with heap := s.heap.push { cls := .type "tuple", data := .seq items.toList.reverse.toArray } })
    (hsz : items.size ≤ sizeLine) : wpAny (model prog w) A (getItem (.ref t) (.ref sl)) Q E s := by
  have htake : sizeOk (.seq items.toList.reverse.toArray) := by
    show items.toList.reverse.toArray.size ≤ sizeLine
    rw [List.size_toArray, List.length_reverse, Array.length_toList]
    omega
  obtain ⟨os, hos, hcs, hds⟩ := id hs
  have hTs : s.TypeIs (.ref sl) "slice" := ⟨os, hos, hcs⟩
  unfold getItem
  try with_reducible refine wpAny_holding ?_
  first | refine wpAny_bind (wpAny_pure ?_) | skip
  refine wpAny_bind (wpAny_sequenceKey ht.typeIs (by decide) ?_)
  refine wpAny_bind (wpAny_callSpecial?_slot (name := Str.ofString "__getitem__") ht.typeIs PyProof.Rows.slot_tuple_getitem
    (wpAny_call_entry PyProof.Rows.slot_tuple_getitem ht.typeIs entry_tuple_getitem ?_ (args_tuple_getitem _ _)))
  show wpAny _ _ (Builtin.Tuple.tupleItemsOf (.ref t) >>= _) _ _ s
  refine wpAny_bind (tupleItemsOf_ ht ?_)
  refine wpAny_bind (wpAny_typeOf hTs ?_)
  rw [if_pos (by decide)]
  refine wpAny_bind (sliceApplied_rev hs ps ?_)
  have hno : ¬ ((((items.size : Int) - 1) == 0 && (-1 : Int) == 1 && items.size == items.size) = true) := by
    rw [show ((-1 : Int) == 1) = false from rfl, Bool.and_false, Bool.false_and]
    exact Bool.false_ne_true
  show wpAny _ _ (if (((items.size : Int) - 1) == 0 && (-1 : Int) == 1 && items.size == items.size) = true then _ else _) _ _ s
  rw [if_neg hno, pick_rev]
  first
    | exact wpAny_bind (m := Builtin.Tuple.tupleExact _) (wpAny_newObj_type (wpAny_pure ⟨_, rfl, wpAny_pure h⟩) htake)
    | exact wpAny_bind (m := Builtin.Tuple.tupleExact _) (wpAny_newObj_type (wpAny_bind (wpAny_pure (wpAny_pure ⟨_, rfl, wpAny_pure h⟩))) htake)
    | exact wpAny_bind (wpAny_bind (m := Builtin.Tuple.tupleExact _) (wpAny_newObj_type (wpAny_pure (wpAny_pure ⟨_, rfl, wpAny_pure h⟩)) htake))
    | exact wpAny_bind (wpAny_bind (m := Builtin.Tuple.tupleExact _) (wpAny_newObj_type (wpAny_pure ⟨_, rfl, wpAny_pure h⟩) htake))
end
def tRevT (K : PySem.W.Frag) (te : TE) : TE := fun σ H Q => te σ H fun x H1 => ∃ a xs, x = .ref a ∧ SqT K H1 a xs ∧ ∀ p, H1 p = none → Q (.ref p) (upd H1 p (.tup xs.reverse))
section
variable {X : Cx} {E : XK} {e : Expr} {te : TE} {fe : DE} {k : Nat} {p1 p2 p3 pos : Pos}
theorem pe_revT (he : PE X e te) : PE X (.Subscript e (.Slice none none (some (.UnaryOp .USub (.Constant (.int 1) k p1) p2)) p3) pos) (tRevT X.K te) := by
  refine ⟨fun pins s σ H Q I h => ?_⟩
  refine Subscript_ (thn (he.run pins s σ H _ I h) fun v s1 ⟨x, H1, I1, r1, q1⟩ => ?_)
  obtain ⟨a, xs, ex, hx, q⟩ := q1
  subst ex
  cases r1
  have hst : PO X (some (.UnaryOp .USub (.Constant (.int 1) k p1) p2)) (tPart (tUn (rU fun i => .int (-i)) (tC (.int 1)))) := po_some (pe_un un_neg pe_int)
  refine wpAny_Slice (thn (po_none.run pins s1 σ H1 (fun o H2 => o = none ∧ H2 = H1) I1 ⟨rfl, rfl⟩) fun vl s2 ⟨l, H2, I2, pl, el, e2⟩ => ?_)
  subst el e2
  refine thn (po_none.run pins s2 σ H2 (fun o H3 => o = none ∧ H3 = H2) I2 ⟨rfl, rfl⟩) fun vu s3 ⟨u, H3, I3, pu, eu, e3⟩ => ?_
  subst eu e3
  refine thn (hst.run pins s3 σ H3 (fun o H4 => o = some (-1) ∧ H4 = H3) I3 ⟨1, rfl, -1, rfl, rfl, rfl⟩) fun vs s4 ⟨o, H4, I4, ps, eo, e4⟩ => ?_
  subst eo e4
  cases pl
  cases pu
  have I5 : Inv X pins σ H4 { s4 with heap := s4.heap.push { cls := .type "slice", data := .fields #[.none, .none, vs] } } := I4.kept (t' := s4.toks) fun b ob q => Heap.get?_push_of_some _ q
  obtain ⟨its, r, ht, hz⟩ := I5.tuple hx
  have hlen := r.length
  show wpAny (model X.prog X.w) X.A (subscriptTail e (.Slice none none (some (.UnaryOp .USub (.Constant (.int 1) k p1) p2)) p3) (.ref a) (.ref s4.heap.objs.size)) (EP X pins σ Q) X.xe { s4 with heap := s4.heap.push { cls := .type "slice", data := .fields #[.none, .none, vs] } }
  refine tail_any (ops := [.ref a, .ref s4.heap.objs.size]) ht.typeIs (PyProof.Rows.slot_tuple_getitem.lookup) ?_ (by with_unfolding_all rfl)
  refine getItem_tuple_rev ht (Heap.IsSliceOf.new _ .none .none vs) ps ?_ (by rw [List.size_toArray]; omega)
  refine ⟨.ref _, _, I5.laid (t' := s4.toks) (o := .tup xs.reverse) (fun b ob q => Heap.get?_push_of_some _ q) (Nat.le_refl _) ?_, rfl, q _ (I5.hok.fresh (Nat.le_refl _))⟩
  exact ⟨by rw [List.length_reverse]; exact hz, _, r.reverse, IsTup.new _ _⟩
def revTD : D → DP → Prop
  | .tup ds, P => P (.tup ds.reverse)
  | _, _ => False
theorem DRs.app {K : PySem.W.Frag} {r : Addr} {A : Addr → Prop} {H : Hp} : ∀ {vs us : List V} {ds es : List D}, DRs K r A H vs ds → DRs K r A H us es → DRs K r A H (vs ++ us) (ds ++ es)
  | _, _, _, _, .nil, t => t
  | _, _, _, _, .cons a t, u => .cons a (t.app u)
theorem DRs.rev {K : PySem.W.Frag} {r : Addr} {A : Addr → Prop} {H : Hp} : ∀ {vs : List V} {ds : List D}, DRs K r A H vs ds → DRs K r A H vs.reverse ds.reverse
  | _, _, .nil => .nil
  | _, _, .cons a t => by
    rw [List.reverse_cons, List.reverse_cons]
    exact DRs.app t.rev (.cons a .nil)
theorem e_revT (he : PE X e (tE X.K E fe)) : PE X (.Subscript e (.Slice none none (some (.UnaryOp .USub (.Constant (.int 1) k p1) p2)) p3) pos) (tE X.K E (fun δ P Z => fe δ (fun d => revTD d P) Z)) :=
  PE.imp (pe_revT he) fun σ H Q ⟨r, A, δ, P, Z, R, h, hq, hz⟩ =>
  ⟨r, A, δ, _, Z, R, h, fun d v H1 h1 x1 n1 r1 => by
    have w1 := (R.ext x1 n1).wd
    cases d with
    | tup ds =>
      obtain ⟨a, xs, rfl, e1, z, t⟩ := r1.sqT
      exact ⟨a, xs, rfl, e1, fun p np => hq _ _ _ h1 (x1.trans (Ext.upd np)) (n1.upd np) (w1.tup np (by rw [List.length_reverse]; exact z) t.rev)⟩
    | _ => exact h1.elim, hz⟩
end
/-! len(set(xs)) of a list or a tuple of ints -/
section
variable {X : Cx} {E : XK} {a : Expr} {fa : DE} {p p2 pos q : Pos}
def rLenSO (w : World) : List V → Hp → VK → Prop := fun vs H Q => ∃ (a : Addr) (S : Int → Bool) (n : Nat), vs = [V.ref a] ∧ H a = some (SetO w a S n) ∧ n < 64 ∧
  ∀ ks : List Int, ks.Nodup → (∀ k, S k = true ↔ k ∈ ks) → ks.length = n → Q (.int (ks.length : Nat)) H
theorem cr_lenSO : CallR X (.builtin "len") (rLenSO X.w) := by
  intro pins s σ H vs us Q I r h
  obtain ⟨a, S, n, rfl, ha, h64, q⟩ := h
  obtain ⟨o, es, ep, t, ho, hex, hd, _, hn, hm, _, hf, hsz, _⟩ := setO_get I ha
  rw [Vals.ref1 r]
  have hl : (es.toList.map keyOf).length = n := by rw [List.length_map, Array.length_toList]; exact hsz
  refine call_len_set ho hex hd hf (by rw [hsz]; omega) ⟨.int ((es.toList.map keyOf).length : Nat), H, I.tok _, ⟨s.toks + 1, by rw [hl, hsz]⟩, q _ hn hm hl⟩
def ls2D : D → DP → Prop := fun d P => ∃ ns : List Int, (d = .lst (ns.map D.int) ∨ d = .tup (ns.map D.int)) ∧ ns.length < 64 ∧ ∀ ks : List Int, ks.Nodup → (∀ k, k ∈ ks ↔ k ∈ ns) → P (.int (ks.length : Nat))
theorem e_lenSet2 (hc : X.calm = true) (hg : Gl X "len") (hm : X.mg "len" = none) (hg2 : Gl X "set") (hm2 : X.mg "set" = none) (ha : PE X a (tE X.K E fa))
    (na : starEach [a] X.env = (false, eval a X.env) :: starEach [] X.env := by rfl) (nb : starEach [.Call (.Name "set" p2) [a] [] q] X.env = (false, eval (.Call (.Name "set" p2) [a] [] q) X.env) :: starEach [] X.env := by rfl) :
    PE X (.Call (.Name "len" p) [.Call (.Name "set" p2) [a] [] q] [] pos) (tE X.K E (fun δ P Z => fa δ (fun d => ls2D d P) Z)) :=
  PE.imp (pe_callB cr_lenSO hg hm (by decide +kernel) (pa_cons (pe_callTy ((cr_setI hc).or (cr_setLI hc)) hg2 hm2 (by decide +kernel) (pa_cons ha pa_nil na) (by decide) (by decide) na) pa_nil nb) (by decide) (by decide) nb) fun σ H Q ⟨r, A, δ, P, Z, R, h, hq, hz⟩ => by
    refine ⟨r, A, δ, _, Z, R, h, fun d v H1 h1 x1 n1 r1 => ?_, hz⟩
    obtain ⟨ns, hd, h64, h1⟩ := h1
    have fin : ∀ (b : Addr) (c : Nat), H1 b = none → c ≤ ns.length → rLenSO X.w [V.ref b] (upd H1 b (SetO X.w b (fun j => decide (j ∈ ns)) c)) Q := fun b c nb hcl =>
      ⟨b, _, c, rfl, upd_same, by omega, fun ks hn hm hl => hq _ _ _ (h1 ks hn fun k => by rw [← hm k]; simp) (x1.trans (Ext.upd nb)) (n1.upd nb) (.int _)⟩
    rcases hd with rfl | rfl
    · obtain ⟨l, xs, rfl, _, e1, z1, t1⟩ := r1.sqL
      have := t1.ints
      subst this
      exact .inr ⟨l, ns, rfl, SqL.of e1, h64, fin⟩
    · obtain ⟨l, xs, rfl, e1, z1, t1⟩ := r1.sqT
      have := t1.ints
      subst this
      exact .inl ⟨l, ns, rfl, e1, h64, fin⟩
end
/-! x in xs, of data of any depth -/
def inDp (d e : D) (P : DP) : Prop := ∃ ds, e = .lst ds ∧ d.eqOk = true ∧ e.eqOk = true ∧ P (.bl (ds.any fun z => eqD z d))
theorem pys_any {a : PyData} {d : D} (hd : d.py = some a) : ∀ {ds : List D} {xs : List PyData}, D.pys ds = some xs → (ds.any fun z => eqD z d) = xs.any fun z => PyData.eqv z a
  | [], _, e => by cases e; rfl
  | x :: ds, _, e => by
    unfold D.pys at e
    cases q : x.py with
    | none => rw [q] at e; cases e
    | some y =>
      cases q2 : D.pys ds with
      | none => rw [q, q2] at e; cases e
      | some ys =>
        rw [q, q2] at e
        cases e
        rw [List.any_cons, List.any_cons, pys_any hd q2, eqD_py q hd]
theorem od_inDp {K : PySem.W.Frag} : OpD K (rInD K) inDp := fun r A H x y d e P Q w hx hy h q => by
  obtain ⟨ds, rfl, h1, h2, h3⟩ := h
  unfold D.eqOk at h1 h2
  cases p1 : d.py with
  | none => rw [p1] at h1; cases h1
  | some a =>
    cases p2 : (D.lst ds).py with
    | none => rw [p2] at h2; cases h2
    | some b =>
      rw [p1] at h1
      rw [p2] at h2
      have p3 := p2
      unfold D.py at p3
      cases p4 : D.pys ds with
      | none => rw [p4] at p3; cases p3
      | some ys =>
        rw [p4] at p3
        cases p3
        refine ⟨a, ys, hx.dp p1, hy.dp p2, h1, h2, q _ _ _ ?_ .refl w.rnd (.bl _)⟩
        rw [← pys_any p1 p4]
        exact h3
theorem u65 {k : Nat} {A : Around} (r : Room k A) : A.units + 65 < cLine := by have := r.un; omega
/-! x is True, x is not True, of bools -/
def isBD (d e : D) (P : DP) : Prop := ∃ a b : Bool, d = .bl a ∧ e = .bl b ∧ P (.bl (decide (a = b)))
def notBD (d e : D) (P : DP) : Prop := ∃ a b : Bool, d = .bl a ∧ e = .bl b ∧ P (.bl (!decide (a = b)))
theorem od_isBD {K : PySem.W.Frag} : OpD K (fun x y H Q => ∃ a b, x = .bl a ∧ y = .bl b ∧ Q (.bl (decide (a = b))) H) isBD := fun r A H x y d e P Q w hx hy h q => by
  obtain ⟨a, b, rfl, rfl, h⟩ := h
  cases hx
  cases hy
  exact ⟨a, b, rfl, rfl, q _ _ _ h .refl w.rnd (.bl _)⟩
theorem od_notBD {K : PySem.W.Frag} : OpD K (fun x y H Q => ∃ a b, x = .bl a ∧ y = .bl b ∧ Q (.bl (!decide (a = b))) H) notBD := fun r A H x y d e P Q w hx hy h q => by
  obtain ⟨a, b, rfl, rfl, h⟩ := h
  cases hx
  cases hy
  exact ⟨a, b, rfl, rfl, q _ _ _ h .refl w.rnd (.bl _)⟩
end L3

namespace L3
open PySem PySem.Spec PyProof.Rows L2
/-! x not in xs, of data of any depth; a new own list with items -/
def notInDp (d e : D) (P : DP) : Prop := ∃ ds, e = .lst ds ∧ d.eqOk = true ∧ e.eqOk = true ∧ P (.bl (!ds.any fun z => eqD z d))
theorem od_notInDp {K : PySem.W.Frag} : OpD K (rNotInD K) notInDp := fun r A H x y d e P Q w hx hy h q => by
  obtain ⟨ds, rfl, h1, h2, h3⟩ := h
  unfold D.eqOk at h1 h2
  cases p1 : d.py with
  | none => rw [p1] at h1; cases h1
  | some a =>
    cases p2 : (D.lst ds).py with
    | none => rw [p2] at h2; cases h2
    | some b =>
      rw [p1] at h1
      rw [p2] at h2
      have p3 := p2
      unfold D.py at p3
      cases p4 : D.pys ds with
      | none => rw [p4] at p3; cases p3
      | some ys =>
        rw [p4] at p3
        cases p3
        refine ⟨a, ys, hx.dp p1, hy.dp p2, h1, h2, q _ _ _ ?_ .refl w.rnd (.bl _)⟩
        rw [← pys_any p1 p4]
        exact h3
section
variable {X : Cx} {E : XK} {es : List Expr} {fs : DA} {p2 : Pos}
theorem x_lst (h : PA X es (tA X.K E fs)) : PE X (.List es p2) (tX X.K E (fun δ P Z => fs δ (fun ds => ds.length ≤ sizeLine ∧ P (.own ds)) Z)) := PE.imp (pe_lst h) fun σ H Q ⟨r, A, δ, P, Z, R, h2, hq, hz⟩ =>
  ⟨r, A, δ, _, Z, R, h2, fun ds vs H1 h3 x1 n1 r1 => ⟨by rw [r1.length]; exact h3.1, fun l nl => by
    have w1 := (R.ext x1 n1).wd
    have nl0 : H l = none := by
      cases q : H l with
      | none => rfl
      | some o =>
        by_cases hr : l = r
        · obtain ⟨ns, e, _⟩ := n1
          rw [hr, e] at nl; cases nl
        · rw [x1 l o hr q] at nl; cases nl
    exact hq _ _ _ h3.2 (x1.trans (Ext.upd nl)) (n1.upd nl) ⟨l, vs, rfl, nl0, upd_same, by rw [r1.length]; exact h3.1, (DRs.bar (A' := fun b => A b ∨ b = l) (fun b o q y => q.elim id fun q => by rw [q, nl] at y; cases y) r1).ext ((Ext.upd nl).toA (.inl R.ar))⟩⟩, hz⟩
end
end L3

/-! Cubes: what the program's defs hand back, as plain functions of data, and facts of these. -/
namespace Q
open PySem PySem.Spec PyProof.Rows L2 L3
abbrev cubeD (c : List Int) : D := intsT c
abbrev cubesD (cs : List (List Int)) : D := .tup (cs.map cubeD)
abbrev pairD (p : Int × Int) : D := .tup [.int p.1, .int p.2]
abbrev turnsD (ts : List (Int × Int)) : D := .tup (ts.map pairD)
/-- any value that is no instance and no source of draws -/
def D.any1 (d : D) : Prop := ∃ t, d.tyName = some t
def isFig : D → Bool
  | .int i => decide (0 ≤ i ∧ i ≤ 9)
  | _ => false
def gFig : DF := fun ds P _ => ∃ d, ds = [d] ∧ D.any1 d ∧ P (.bl (isFig d))
def ltP (p q : Int × Int) : Prop := p.1 < q.1 ∨ p.1 = q.1 ∧ p.2 < q.2
instance : DecidableRel ltP := fun p q => by unfold ltP; infer_instance
def gAsc : DF := fun ds P _ => (∃ ns : List Int, ds = [intsT ns] ∧ ns.length < 64 ∧ P (.bl (decide (ns.Pairwise (· < ·))))) ∨
  ∃ ps : List (Int × Int), ds = [turnsD ps] ∧ ps.length < 64 ∧ (∀ p ∈ ps, 0 ≤ p.1 ∧ p.1 ≤ 9 ∧ 0 ≤ p.2 ∧ p.2 ≤ 9) ∧ P (.bl (decide (ps.Pairwise ltP)))
def toI : D → Int
  | .int i => i
  | _ => 0
/-- a cube, of any value -/
def isCube : D → Bool
  | .tup es => !es.isEmpty && es.all isFig && decide ((es.map toI).Pairwise (· < ·))
  | _ => false
/-- what is_cube may be asked of -/
def CubeOk (d : D) : Prop := D.any1 d ∧ ∀ es, d = .tup es → es.length < 64 ∧ ∀ e ∈ es, D.any1 e
def gCube : DF := fun ds P _ => ∃ d, ds = [d] ∧ CubeOk d ∧ P (.bl (isCube d))
def len2 : D → Bool
  | .tup es => es.length == 2
  | _ => false
def toP : D → Int × Int
  | .tup [.int a, .int b] => (a, b)
  | _ => (0, 0)
def figsOf (ps : List (Int × Int)) : List Int := ps.flatMap fun p => [p.1, p.2]
/-- turns, of any value -/
def isTurns : D → Bool
  | .tup es => es.all (fun d => isCube d && len2 d) && decide ((es.map toP).Pairwise ltP) && decide (figsOf (es.map toP)).Nodup
  | _ => false
def TurnsOk (d : D) : Prop := D.any1 d ∧ ∀ es, d = .tup es → es.length < 32 ∧ ∀ e ∈ es, CubeOk e
def gTurns : DF := fun ds P _ => ∃ d, ds = [d] ∧ TurnsOk d ∧ P (.bl (isTurns d))
def isNum : D → Bool
  | .str z => decide (1 ≤ z.length ∧ z.length ≤ 6) && z.cps.toList.all fun c => decide (48 ≤ c ∧ c ≤ 57)
  | _ => false
def gNum : DF := fun ds P _ => ∃ d, ds = [d] ∧ D.any1 d ∧ (∀ z, d = .str z → z.length ≤ 1000000) ∧ P (.bl (isNum d))
/-- the error of cubes that are none -/
def cubesErr : D → Option D
  | .tup es => if es.isEmpty || decide (6 < es.length) then some .non else (es.findIdx? fun d => !isCube d).map fun i => .int (i : Nat)
  | _ => some .non
def CubesOk (d : D) : Prop := D.any1 d ∧ ∀ es, d = .tup es → es.length ≤ 1000000 ∧ ∀ e ∈ es, CubeOk e
def gChkC (C : Addr) : DF := fun ds P Z => ∃ d, ds = [d] ∧ CubesOk d ∧ match cubesErr d with
  | none => P .non
  | some i => Z ⟨C, some ("index", i)⟩
def gChkT (C : Addr) : DF := fun ds P Z => ∃ d, ds = [d] ∧ TurnsOk d ∧ if isTurns d = true then P .non else Z ⟨C, none⟩
def gChkN (C : Addr) : DF := fun ds P Z => ∃ d, ds = [d] ∧ D.any1 d ∧ (∀ z, d = .str z → z.length ≤ 1000000) ∧ if isNum d = true then P .non else Z ⟨C, none⟩
/-! what == is asked of -/
theorem cube_E (c : List Int) : D.Eqs 1 (cubeD c) := Eqs.ints c
theorem pair_E (p : Int × Int) : D.Eqs 1 (pairD p) := Eqs.tup (f := D.int) (xs := [p.1, p.2]) fun _ _ => Eqs.int
theorem turns_E (ts : List (Int × Int)) : D.Eqs 2 (turnsD ts) := Eqs.tup fun p _ => pair_E p
theorem cubes_E (cs : List (List Int)) : D.Eqs 2 (cubesD cs) := Eqs.tup fun c _ => cube_E c
theorem pair_inj {p q : Int × Int} (h : pairD p = pairD q) : p = q := by
  injection h with h
  injection h with h1 h2
  injection h1 with h1
  injection h2 with h2
  injection h2 with h2
  exact Prod.ext h1 h2
theorem turns_inj {a b : List (Int × Int)} : turnsD a = turnsD b ↔ a = b := ⟨fun h => by
  injection h with h
  exact int_inj (fun _ _ e => pair_inj e) h, fun h => by rw [h]⟩
/-! sorted, all apart -/
theorem asc_of {ns ms : List Int} (pw : ms.Pairwise (· < ·)) (hm : ∀ k, k ∈ ms ↔ k ∈ ns) : decide (ns.Pairwise (· < ·)) = true ↔ intsT ns = intsT ms := by
  rw [decide_eq_true_iff, intsT_inj]
  constructor
  · intro h
    exact List.Perm.eq_of_pairwise (le := (· < ·)) (fun a b _ _ h1 h2 => absurd h1 (Int.lt_asymm h2)) h pw ((List.perm_ext_iff_of_nodup (h.imp fun h => Int.ne_of_lt h) (pw.imp fun h => Int.ne_of_lt h)).mpr fun k => (hm k).symm)
  · intro h
    rw [h]; exact pw
theorem code2 (p : Int × Int) : TS.code 64 [p.1, p.2] = p.1 * 64 + p.2 := code_pair p.1 p.2
theorem ascP_of {ps : List (Int × Int)} {ms : List (List Int)} (hb : ∀ p ∈ ps, 0 ≤ p.1 ∧ p.1 ≤ 9 ∧ 0 ≤ p.2 ∧ p.2 ≤ 9) (nd : ms.Nodup) (hm : ∀ k, k ∈ ms ↔ k ∈ ps.map fun p => [p.1, p.2]) (pw : ms.Pairwise fun x y => TS.code 64 x ≤ TS.code 64 y) :
    decide (ps.Pairwise ltP) = true ↔ turnsD ps = .tup (ms.map fun k => D.tup (k.map D.int)) := by
  have e0 : turnsD ps = .tup ((ps.map fun p => [p.1, p.2]).map fun k => D.tup (k.map D.int)) := by
    show D.tup _ = D.tup _
    rw [List.map_map]; rfl
  rw [decide_eq_true_iff, e0]
  have inj : ∀ a b : List Int, D.tup (a.map D.int) = D.tup (b.map D.int) → a = b := fun a b h => intsT_inj.mp h
  constructor
  · intro h
    have h1 : (ps.map fun p => [p.1, p.2]).Pairwise fun x y => TS.code 64 x < TS.code 64 y := by
      rw [List.pairwise_map]
      refine List.Pairwise.imp_of_mem (fun {p q} hp hq h => ?_) h
      have a := hb p hp
      have b := hb q hq
      rw [code2, code2]
      rcases h with h | ⟨h1, h2⟩ <;> omega
    have e : (ps.map fun p => [p.1, p.2]) = ms := by
      refine List.Perm.eq_of_pairwise (le := fun x y => TS.code 64 x ≤ TS.code 64 y) (fun a b ha hb' h1 h2 => ?_) (h1.imp fun h => Int.le_of_lt h) pw ((List.perm_ext_iff_of_nodup (h1.imp fun {a b} h e => by rw [e] at h; exact Int.lt_irrefl _ h) nd).mpr fun k => (hm k).symm)
      obtain ⟨p, hp, rfl⟩ := List.mem_map.mp ha
      obtain ⟨q, hq, rfl⟩ := List.mem_map.mp ((hm b).mp hb')
      have a1 := hb p hp
      have b1 := hb q hq
      rw [code2, code2] at h1 h2
      have : p.1 = q.1 ∧ p.2 = q.2 := by omega
      rw [this.1, this.2]
    rw [e]
  · intro h
    injection h with h
    have e := int_inj inj h
    rw [← e] at pw nd
    rw [List.pairwise_map] at pw
    have nd2 : ps.Pairwise fun p q => ([p.1, p.2] : List Int) ≠ [q.1, q.2] := List.pairwise_map.mp nd
    refine List.Pairwise.imp_of_mem (fun {p q} hp hq h => ?_) (pw.and nd2)
    have a := hb p hp
    have b := hb q hq
    obtain ⟨h1, h2⟩ := h
    rw [code2, code2] at h1
    have h3 : ¬ (p.1 = q.1 ∧ p.2 = q.2) := fun z => h2 (by rw [z.1, z.2])
    unfold ltP
    omega
/-! isinstance -/
def isTup : D → Bool
  | .tup _ => true
  | _ => false
def isInt : D → Bool
  | .int _ => true
  | .bl _ => true
  | _ => false
def isBl : D → Bool
  | .bl _ => true
  | _ => false
def isStr : D → Bool
  | .str _ => true
  | _ => false
theorem isT_tuple {d : D} {P : DP} (h : D.any1 d) (hp : P (.bl (isTup d))) : isTD "tuple" d P := by
  cases d <;> first | (obtain ⟨t, ht⟩ := h; cases ht; done) | exact ⟨_, true, rfl, by decide +kernel, hp⟩ | exact ⟨_, false, rfl, by decide +kernel, hp⟩
theorem isT_int {d : D} {P : DP} (h : D.any1 d) (hp : P (.bl (isInt d))) : isTD "int" d P := by
  cases d <;> first | (obtain ⟨t, ht⟩ := h; cases ht; done) | exact ⟨_, true, rfl, by decide +kernel, hp⟩ | exact ⟨_, false, rfl, by decide +kernel, hp⟩
theorem isT_bool {d : D} {P : DP} (h : D.any1 d) (hp : P (.bl (isBl d))) : isTD "bool" d P := by
  cases d <;> first | (obtain ⟨t, ht⟩ := h; cases ht; done) | exact ⟨_, true, rfl, by decide +kernel, hp⟩ | exact ⟨_, false, rfl, by decide +kernel, hp⟩
theorem isT_str {d : D} {P : DP} (h : D.any1 d) (hp : P (.bl (isStr d))) : isTD "str" d P := by
  cases d <;> first | (obtain ⟨t, ht⟩ := h; cases ht; done) | exact ⟨_, true, rfl, by decide +kernel, hp⟩ | exact ⟨_, false, rfl, by decide +kernel, hp⟩
theorem figs_ints {es : List D} (h : es.all isFig = true) : es = (es.map toI).map D.int := by
  induction es with
  | nil => rfl
  | cons e es ih =>
    rw [List.all_cons, Bool.and_eq_true] at h
    rw [List.map_cons, List.map_cons, ← ih h.2]
    cases e with
    | int i => rfl
    | _ => cases h.1
theorem bd_pair {a b : Int} (h1 : 0 ≤ a) (h2 : a < 64) (h3 : 0 ≤ b) (h4 : b < 64) : TS.Bd 64 [a, b] := by
  intro x hx
  rcases List.mem_cons.mp hx with rfl | hx
  · exact ⟨h1, h2⟩
  · rw [List.mem_singleton.mp hx]; exact ⟨h3, h4⟩
theorem eq_I {P : DP} {i j : Int} (h : P (.bl (decide (i = j)))) : (D.int i).eqOk = true ∧ (D.int j).eqOk = true ∧ P (.bl (eqD (.int i) (.int j))) :=
  eq_E (k := 0) (j := 0) Eqs.int Eqs.int (by rw [decide_eq_true_iff]; constructor <;> (intro h; cases h; rfl)) h
theorem ne_I {P : DP} {i j : Int} (h : P (.bl (decide (i ≠ j)))) : (D.int i).eqOk = true ∧ (D.int j).eqOk = true ∧ P (.bl (!eqD (.int i) (.int j))) :=
  ne_E (k := 0) (j := 0) Eqs.int Eqs.int (by rw [decide_eq_true_iff]; constructor <;> (intro h z; cases z; exact h rfl)) h
section
variable {P : DP} {ds es : List D} {z : Str} {i j : Int} {b : Bool}
theorem gl_t (h : P (.int ds.length)) : lenD [.tup ds] P := h
theorem gl_l (h : P (.int ds.length)) : lenD [.lst ds] P := h
theorem gl_s (k : z.length ≤ sizeLine) (h : P (.int z.length)) : lenD [.str z] P := ⟨k, h⟩
theorem gt_l (h : P (.tup ds)) : tupleD [.lst ds] P := h
theorem gi_t {P : List D → Prop} (h : P ds) : itT (.tup ds) P := h
theorem gi_l {P : List D → Prop} (h : P ds) : itL (.lst ds) P := h
theorem gi_s {P : List D → Prop} (h : P (z.cps.toList.map fun c => D.str ⟨#[c]⟩)) : itS (.str z) P := h
theorem gi_e {P : List D → Prop} (h : P (enumD ds)) : itE [.tup ds] P := h
theorem gr_1 {P : List D → Prop} (k : 0 ≤ j) (k2 : j ≤ 1000000) (h : P (rngD 0 j.toNat)) : itR1 [.int j] P := ⟨by omega, by omega, h⟩
theorem gb_b {P : Bool → Prop} (h : P b) : truD (.bl b) P := h
theorem gb_l {P : Bool → Prop} (h : P (!ds.isEmpty)) : truD (.lst ds) P := h
theorem gn_is {x : D} (h : P (.bl x.isNon)) : isND x .non P := h
theorem gn_not {x : D} (h : P (.bl (!x.isNon))) : notND x .non P := h
theorem g_le (h : P (.bl (decide (i ≤ j)))) : leD (.int i) (.int j) P := h
theorem g_lt (h : P (.bl (decide (i < j)))) : ltD (.int i) (.int j) P := h
theorem g_add (h : P (.int (i + j))) : addD (.int i) (.int j) P := h
theorem g_sub (h : P (.int (i - j))) : subD (.int i) (.int j) P := h
theorem ga_l (k : ds.length + es.length ≤ sizeLine) (h : P (.lst (ds ++ es))) : addD (.lst ds) (.lst es) P := ⟨k, h⟩
theorem ga_t (k : ds.length + es.length ≤ sizeLine) (h : P (.tup (ds ++ es))) : addD (.tup ds) (.tup es) P := ⟨k, h⟩
theorem gx_l {x : D} (k : atI ds i = some x) (h : P x) : ixD (.lst ds) (.int i) P := ⟨x, k, h⟩
theorem gx_t {x : D} (k : atI ds i = some x) (h : P x) : ixD (.tup ds) (.int i) P := ⟨x, k, h⟩
theorem gin_t {x : D} (k : x.flat = true) (k2 : ds.all D.flat = true) (h : P (.bl (inL x ds))) : inD x (.tup ds) P := by cases x <;> first | exact ⟨k, k2, h⟩ | cases k
theorem gnin_t {x : D} (k : x.flat = true) (k2 : ds.all D.flat = true) (h : P (.bl (!inL x ds))) : notInD x (.tup ds) P := by cases x <;> first | exact ⟨k, k2, h⟩ | cases k
end
theorem inV_ints {i : Int} {ns : List Int} : inV (V.int i) (ns.map V.int) = decide (i ∈ ns) := by
  unfold inV
  rw [List.any_map, Bool.eq_iff_iff, List.any_eq_true, decide_eq_true_iff]
  constructor
  · rintro ⟨x, hx, e⟩
    have : x = i := by simpa [eqV] using e
    rw [← this]; exact hx
  · intro h
    exact ⟨i, h, by simp [eqV]⟩
theorem inL_ints {i : Int} {ns : List Int} : inL (.int i) (ns.map D.int) = decide (i ∈ ns) := by
  unfold inL
  rw [List.map_map]
  exact inV_ints
theorem flat_ints {ns : List Int} : (ns.map D.int).all D.flat = true := by
  rw [List.all_map, List.all_eq_true]
  exact fun _ _ => rfl
theorem inD2_of {g : DG} {tt : DT} {te : DE} {δw : L3.Env} {k : D → Bool} {f : D → D} {Q : List D → Prop} : ∀ (ds acc : List D), (∀ d ∈ ds, ∀ (R : D → Prop) (S : Prop), (if k d = true then R (f d) else S) → g d δw fun δ2 => tt δ2 (fun b => if b = true then te δ2 R XF else S) XF) →
    acc.length + ds.length ≤ sizeLine → Q (acc ++ (ds.filter k).map f) → inD2 g tt te δw ds acc Q
  | [], acc, _, _, q => by
    rw [List.filter_nil, List.map_nil, List.append_nil] at q
    exact q
  | d :: ds, acc, h, hl, q => by
    rw [List.length_cons] at hl
    unfold inD2
    refine h d List.mem_cons_self (fun y => acc.length + 1 ≤ sizeLine ∧ inD2 g tt te δw ds (acc ++ [y]) Q) _ ?_
    cases hk : k d with
    | true =>
      rw [if_pos rfl]
      refine ⟨by omega, inD2_of ds (acc ++ [f d]) (fun x hx => h x (List.mem_cons_of_mem _ hx)) (by rw [List.length_append, List.length_singleton]; omega) ?_⟩
      rw [List.filter_cons, hk] at q
      rw [List.append_assoc]
      exact q
    | false =>
      rw [if_neg Bool.false_ne_true]
      refine inD2_of ds acc (fun x hx => h x (List.mem_cons_of_mem _ hx)) (by omega) ?_
      rw [List.filter_cons, hk] at q
      exact q
theorem lc2D_of {g : DG} {tt : DT} {fi1 : DI} {g1 : DG} {tt1 : DT} {te : DE} {vs1 : List Nat} {δw : L3.Env} {Q : List D → Prop} (its : D → List D) (δe : D → L3.Env) (k : D → D → Bool) (f : D → D → D) : ∀ (ds acc : List D),
    (∀ d ∈ ds, ∀ (R : L3.Env → List D → Prop) (S : Prop), R (δe d) (its d) → g d δw fun δ2 => tt δ2 (fun b => if b = true then fi1 δ2 (fun es => R (wipeE δ2 vs1) es) XF else S) XF) →
    (∀ d ∈ ds, ∀ e ∈ its d, ∀ (R : D → Prop) (S : Prop), (if k d e = true then R (f d e) else S) → g1 e (δe d) fun δ2 => tt1 δ2 (fun b => if b = true then te δ2 R XF else S) XF) →
    acc.length + (ds.map fun d => (its d).length).sum ≤ sizeLine → Q (acc ++ ds.flatMap fun d => ((its d).filter (k d)).map (f d)) → lc2D g tt fi1 g1 tt1 te vs1 δw ds acc Q
  | [], acc, _, _, _, q => by
    rw [List.flatMap_nil, List.append_nil] at q
    exact q
  | d :: ds, acc, h1, h2, hl, q => by
    rw [List.map_cons, List.sum_cons] at hl
    unfold lc2D
    refine h1 d List.mem_cons_self (fun δ3 es => inD2 g1 tt1 te δ3 es acc fun acc' => lc2D g tt fi1 g1 tt1 te vs1 δw ds acc' Q) _ ?_
    refine inD2_of (its d) acc (fun e he => h2 d List.mem_cons_self e he) (by omega) ?_
    refine lc2D_of its δe k f ds _ (fun x hx => h1 x (List.mem_cons_of_mem _ hx)) (fun x hx => h2 x (List.mem_cons_of_mem _ hx)) ?_ ?_
    · rw [List.length_append, List.length_map]
      have := List.length_filter_le (k d) (its d)
      omega
    · rw [List.flatMap_cons, ← List.append_assoc] at q
      exact q
theorem kept_all {α : Type} (l : List α) : l.filter (fun _ => true) = l := List.filter_eq_self.mpr fun _ _ => rfl
theorem sign_in (k : Nat) : decide (k ∈ ("0123456789" : Str).cps.toList) = decide (48 ≤ k ∧ k ≤ 57) := by
  have e : ("0123456789" : Str).cps.toList = [48, 49, 50, 51, 52, 53, 54, 55, 56, 57] := by decide +kernel
  rw [e]
  apply decide_eq_decide.mpr
  simp only [List.mem_cons, List.not_mem_nil, or_false]
  omega
theorem cube_tup {d : D} (h : isCube d = true) : ∃ fs, d = .tup fs := by cases d <;> first | exact ⟨_, rfl⟩ | cases h
theorem pair_of {d : D} (h1 : isCube d = true) (h2 : len2 d = true) : d = pairD (toP d) ∧ 0 ≤ (toP d).1 ∧ (toP d).1 ≤ 9 ∧ 0 ≤ (toP d).2 ∧ (toP d).2 ≤ 9 := by
  obtain ⟨fs, rfl⟩ := cube_tup h1
  have h2' : (fs.length == 2) = true := h2
  match fs, h2' with
  | [x, y], _ =>
    unfold isCube at h1
    rw [Bool.and_eq_true, Bool.and_eq_true] at h1
    have h3 := h1.1.2
    rw [List.all_cons, List.all_cons, Bool.and_eq_true, Bool.and_eq_true] at h3
    obtain ⟨a, b, _⟩ := h3
    cases x with
    | int i =>
      cases y with
      | int j =>
        have a' := of_decide_eq_true a
        have b' := of_decide_eq_true b
        exact ⟨rfl, a'.1, a'.2, b'.1, b'.2⟩
      | _ => cases b
    | _ => cases a
theorem okI {i : Int} : (D.int i).eqOk = true := D.eqOk_of rfl (Nat.zero_le _)
theorem eqI {i j : Int} : eqD (.int i) (.int j) = decide (i = j) := by
  rw [Bool.eq_iff_iff, eqD_iff _ _ rfl rfl rfl rfl, decide_eq_true_iff]
  constructor <;> (intro h; cases h; rfl)
theorem okE {d : D} {k : Nat} (h : D.Eqs k d) (hk : k ≤ 64 := by decide) : d.eqOk = true := D.eqOk_of h.lays (Nat.le_trans h.dep hk)
theorem eqE {d e : D} {k j : Nat} (h1 : D.Eqs k d) (h2 : D.Eqs j e) {b : Bool} (hb : b = true ↔ d = e) : eqD d e = b := by
  rw [Bool.eq_iff_iff, eqD_iff _ _ h1.lays h2.lays h1.nb h2.nb, hb]
theorem isCube_tup {es : List D} : isCube (.tup es) = (!es.isEmpty && es.all isFig && decide ((es.map toI).Pairwise (· < ·))) := rfl
theorem enum_get {es : List D} {i : Nat} {d : D} (h : es[i]? = some d) : (enumD es)[i]? = some (.tup [.int (i : Nat), d]) := by
  unfold enumD
  rw [List.getElem?_mapIdx, h]; rfl
theorem enum_len {es : List D} : (enumD es).length = es.length := List.length_mapIdx
theorem rfl_fmt {es : List D} {i : Nat} (h : i < es.length) (h2 : es.length ≤ 1000000) : (D.int (i : Nat)).fmt = true := by
  unfold D.fmt
  refine decide_eq_true ?_
  omega
def itsOf : D → List D
  | .tup l => l
  | _ => []
theorem its_pairs (ps : List (Int × Int)) : ([] : List D) ++ (ps.map Q.pairD).flatMap (fun d => ((itsOf d).filter (fun _ => true)).map (fun e => e)) = (figsOf ps).map D.int := by
  rw [List.nil_append, List.flatMap_map, figsOf, List.map_flatMap]
  rfl
theorem its_sum (ps : List (Int × Int)) : ((ps.map Q.pairD).map fun d => (itsOf d).length).sum = ps.length * 2 := by
  rw [List.map_map, show ((fun d => (itsOf d).length) ∘ Q.pairD) = fun _ => 2 from rfl, List.map_const', List.sum_replicate_nat]
/-! the program's cubes, as plain functions -/
def setD (C : Addr) (cs : List (List Int)) (ts : List (Int × Int)) : D := .obj C ["_cubes", "_turns"] [cubesD cs, turnsD ts]
structure Good (cs : List (List Int)) (ts : List (Int × Int)) : Prop where
  ne : cs ≠ []
  few : cs.length ≤ 6
  cub : ∀ c ∈ cs, c.length ≤ 10
  trn : ts.length ≤ 5
  nod : (figsOf ts).Nodup
def inP (f : Int) (p : Int × Int) : Bool := decide (f = p.1 ∨ f = p.2)
def facesFor (f : Int) (ts : List (Int × Int)) : List Int := match ts.find? (inP f) with
  | some p => [p.1, p.2]
  | none => [f]
def hasF (c : List Int) (f : Int) (ts : List (Int × Int)) : Bool := (facesFor f ts).any fun x => decide (x ∈ c)
def withL (cs : List (List Int)) (ts : List (Int × Int)) (f : Int) : List Int := (cs.zipIdx.filter fun p => hasF p.1 f ts).map fun p => (p.2 : Int)
def stepW (found : List (List Int)) (cubes : List Int) : List (List Int) := found.flatMap fun way => (cubes.filter fun c => !decide (c ∈ way)).map fun c => way ++ [c]
def waysBy (ls : List (List Int)) : List (List Int) := ls.foldl stepW [[]]
def digs : D → List Int
  | .str z => z.cps.toList.map fun c : Nat => (c : Int) - 48
  | _ => []
def waysOf (cs : List (List Int)) (ts : List (Int × Int)) (ns : List Int) : List (List Int) := waysBy (ns.map (withL cs ts))
def howD (ws : List (List Int)) : D := match ws with
  | w :: _ => intsT w
  | [] => .non
def gFor : DF := fun ds P _ => ∃ f ts, ds = [.int f, turnsD ts] ∧ P (intsT (facesFor f ts))
def gHas : DF := fun ds P _ => ∃ c f ts, ds = [cubeD c, .int f, turnsD ts] ∧ P (.bl (hasF c f ts))
def gWith : DF := fun ds P _ => ∃ cs ts f, ds = [cubesD cs, .int f, turnsD ts] ∧ Good cs ts ∧ P (intsT (withL cs ts f))
def gPlace : DF := fun ds P _ => ∃ cs ts d, ds = [cubesD cs, turnsD ts, d] ∧ Good cs ts ∧ isNum d = true ∧ P (.lst ((digs d).map fun n => intsT (withL cs ts n)))
def gAll (C : Addr) : DF := fun ds P _ => ∃ cs ts d, ds = [setD C cs ts, d] ∧ Good cs ts ∧ isNum d = true ∧ P (.lst ((waysOf cs ts (digs d)).map intsT))
def NumAsk (d : D) : Prop := D.any1 d ∧ ∀ z, d = .str z → z.length ≤ 1000000
def gNumF (C CF : Addr) (g : List (List Int) → List (Int × Int) → List Int → D) : DF := fun ds P Z => ∃ cs ts d, ds = [setD C cs ts, d] ∧ Good cs ts ∧ NumAsk d ∧ if isNum d = true then P (g cs ts (digs d)) else Z ⟨CF, none⟩
abbrev gHow (C CF : Addr) := gNumF C CF fun cs ts ns => howD (waysOf cs ts ns)
abbrev gShows (C CF : Addr) := gNumF C CF fun cs ts ns => .bl (!(waysOf cs ts ns).isEmpty)
abbrev gWays (C CF : Addr) := gNumF C CF fun cs ts ns => .int (waysOf cs ts ns).length
theorem numOf {d : D} (h : isNum d = true) : ∃ z, d = .str z ∧ 1 ≤ z.length ∧ z.length ≤ 6 ∧ ∀ c ∈ z.cps.toList, 48 ≤ c ∧ c ≤ 57 := by
  cases d with
  | str z =>
    have h2 : (decide (1 ≤ z.length ∧ z.length ≤ 6) && z.cps.toList.all fun c => decide (48 ≤ c ∧ c ≤ 57)) = true := h
    rw [Bool.and_eq_true] at h2
    exact ⟨z, rfl, (of_decide_eq_true h2.1).1, (of_decide_eq_true h2.1).2, fun c hc => of_decide_eq_true (List.all_eq_true.mp h2.2 c hc)⟩
  | _ => cases h
theorem int_sign {c : Nat} (h : 48 ≤ c ∧ c ≤ 57) : PySem.intText? ⟨#[c]⟩ = some ((c : Int) - 48) := by
  obtain ⟨k, rfl⟩ : ∃ k : Fin 10, c = 48 + k.1 := ⟨⟨c - 48, by omega⟩, by show c = 48 + (c - 48); omega⟩
  revert k
  decide +kernel
theorem enum_zip (cs : List (List Int)) : enumD (cs.map cubeD) = cs.zipIdx.map fun p => .tup [.int (p.2 : Nat), cubeD p.1] := by
  unfold enumD
  rw [List.mapIdx_eq_zipIdx_map, List.zipIdx_map, List.map_map]
  rfl
theorem facesFor_cons (f : Int) (p : Int × Int) (ts : List (Int × Int)) : facesFor f (p :: ts) = if inP f p = true then [p.1, p.2] else facesFor f ts := by
  unfold facesFor
  rw [List.find?_cons]
  cases inP f p <;> rfl
theorem facesFor_len (f : Int) (ts : List (Int × Int)) : (facesFor f ts).length ≤ 2 := by
  unfold facesFor
  split <;> simp
def kW (f : Int) (ts : List (Int × Int)) : D → Bool
  | .tup [_, .tup c] => hasF (c.map toI) f ts
  | _ => false
def fW : D → D
  | .tup [i, _] => i
  | _ => .non
theorem toI_ints (c : List Int) : (c.map D.int).map toI = c := by
  rw [List.map_map]
  exact List.map_id c
theorem kW_pair {f : Int} {ts : List (Int × Int)} {i : D} {c : List Int} : kW f ts (.tup [i, cubeD c]) = hasF c f ts := by
  show hasF ((c.map D.int).map toI) f ts = _
  rw [toI_ints]
theorem withL_eq (cs : List (List Int)) (ts : List (Int × Int)) (f : Int) : ((enumD (cs.map cubeD)).filter (kW f ts)).map fW = (withL cs ts f).map D.int := by
  rw [enum_zip, List.filter_map, List.map_map, withL, List.map_map]
  rw [show (kW f ts ∘ fun p : List Int × Nat => D.tup [.int (p.2 : Nat), cubeD p.1]) = fun p => hasF p.1 f ts from funext fun p => kW_pair]
  rfl
theorem withL_len (cs : List (List Int)) (ts : List (Int × Int)) (f : Int) : (withL cs ts f).length ≤ cs.length := by
  unfold withL
  rw [List.length_map]
  exact Nat.le_trans (List.length_filter_le _ _) (by rw [List.length_zipIdx]; exact Nat.le_refl _)
theorem stepW_len {found : List (List Int)} {cubes : List Int} (h : cubes.length ≤ 6) : (stepW found cubes).length ≤ found.length * 6 := by
  unfold stepW
  induction found with
  | nil => exact Nat.zero_le _
  | cons w ws ih =>
    rw [List.flatMap_cons, List.length_append, List.length_cons, List.length_map]
    have := List.length_filter_le (fun c => !decide (c ∈ w)) cubes
    omega
theorem waysBy_snoc (ls : List (List Int)) (l : List Int) : waysBy (ls ++ [l]) = stepW (waysBy ls) l := by
  unfold waysBy
  rw [List.foldl_append]; rfl
theorem waysBy_len : ∀ (n : Nat) (ls : List (List Int)), ls.length = n → (∀ l ∈ ls, l.length ≤ 6) → (waysBy ls).length ≤ 6 ^ n
  | 0, ls, h, _ => by
    rw [List.length_eq_zero_iff.mp h]
    exact Nat.le_refl _
  | n + 1, ls, h, hb => by
    obtain ⟨l2, l, rfl⟩ : ∃ l2 l, ls = l2 ++ [l] := ⟨ls.dropLast, ls.getLast (by intro e; rw [e] at h; cases h), (List.dropLast_concat_getLast _).symm⟩
    rw [waysBy_snoc]
    have h1 := stepW_len (found := waysBy l2) (hb l (by simp))
    have h2 := waysBy_len n l2 (by simp at h; omega) fun x hx => hb x (by simp [hx])
    rw [Nat.pow_succ]
    omega
theorem waysBy_mem : ∀ (n : Nat) (ls : List (List Int)), ls.length = n → ∀ w ∈ waysBy ls, w.length = n
  | 0, ls, h, w, hw => by
    rw [List.length_eq_zero_iff.mp h] at hw
    rw [List.mem_singleton.mp hw]; rfl
  | n + 1, ls, h, w, hw => by
    obtain ⟨l2, l, rfl⟩ : ∃ l2 l, ls = l2 ++ [l] := ⟨ls.dropLast, ls.getLast (by intro e; rw [e] at h; cases h), (List.dropLast_concat_getLast _).symm⟩
    rw [waysBy_snoc] at hw
    unfold stepW at hw
    obtain ⟨w2, h2, h3⟩ := List.mem_flatMap.mp hw
    obtain ⟨c, _, rfl⟩ := List.mem_map.mp h3
    have := waysBy_mem n l2 (by simp at h; omega) w2 h2
    simp [this]
def kA (d e : D) : Bool := !inL e (itsOf d)
def fA (d e : D) : D := .tup (itsOf d ++ [e])
theorem stepW_eq (found : List (List Int)) (cubes : List Int) : [] ++ (found.map intsT).flatMap (fun d => ((cubes.map D.int).filter (kA d)).map (fA d)) = (stepW found cubes).map intsT := by
  rw [List.nil_append, List.flatMap_map, stepW, List.map_flatMap]
  congr 1
  funext way
  rw [List.filter_map, List.map_map, List.map_map]
  rw [show (kA (intsT way) ∘ D.int) = fun c => !decide (c ∈ way) from funext fun c => by show (!inL (.int c) (way.map D.int)) = _; rw [inL_ints]]
  exact List.map_congr_left fun c _ => by show D.tup (way.map D.int ++ [.int c]) = D.tup _; rw [List.map_append]; rfl
/-! the law's own side -/
def EqOk : Nat → D → Prop
  | 0, d => d.flat = true ∧ d.lays = true
  | n + 1, d => (d.flat = true ∧ d.lays = true) ∨ ∃ es, (d = .tup es ∨ d = .lst es) ∧ es.length ≤ 1000000 ∧ ∀ e ∈ es, EqOk n e
def gEq (n : Nat) : DF := fun ds P _ => ∃ d, ds = [d, d] ∧ EqOk n d ∧ P (.bl true)
/-- what the call within may be asked -/
def gIn : Nat → DF
  | 0 => fun _ _ _ => False
  | n + 1 => gEq n
def TSs : List (List (Int × Int)) := [[(6, 9)], [], [(0, 8)], [(2, 5), (6, 9)], [(1, 7), (3, 8), (6, 9)]]
def gTurnsL : DF := fun ds P _ => ds = [.rnd] ∧ ∀ ts, ts ∈ TSs → P (turnsD ts)
def gCubeL : DF := fun ds P _ => ∃ fs : List Int, ds = [.rnd, intsL fs] ∧ fs ≠ [] ∧ fs.length ≤ 10 ∧ ∀ c : List Int, c ≠ [] → c.Sublist fs → P (cubeD c)
structure GoodV (cs : List (List Int)) (ts : List (Int × Int)) : Prop where
  ne : cs ≠ []
  few : cs.length ≤ 6
  cub : ∀ c ∈ cs, c ≠ [] ∧ c.Pairwise (· < ·) ∧ ∀ x ∈ c, 0 ≤ x ∧ x ≤ 9
  trn : ts ∈ TSs
def gSetL (C : Addr) : DF := fun ds P _ => ∃ m : Int, ds = [.rnd, .int m] ∧ 1 ≤ m ∧ m ≤ 6 ∧ ∀ cs ts, GoodV cs ts → (cs.length : Int) ≤ m → P (setD C cs ts)
def gNumL : DF := fun ds P _ => ∃ m : Int, ds = [.rnd, .int m] ∧ 1 ≤ m ∧ m ≤ 6 ∧ ∀ z, isNum (.str z) = true → P (.str z)
def gHasL : DF := fun ds P _ => ∃ c ts, ∃ k : Nat, ds = [cubeD c, turnsD ts, .str ⟨#[k]⟩] ∧ 48 ≤ k ∧ k ≤ 57 ∧ c.length ≤ 10 ∧ ts.length ≤ 5 ∧ (figsOf ts).Nodup ∧ P (.bl (hasF c ((k : Int) - 48) ts))
def gWaysL (C : Addr) : DF := fun ds P _ => ∃ cs ts d, ds = [setD C cs ts, d] ∧ Good cs ts ∧ isNum d = true ∧ P (.lst ((waysOf cs ts (digs d)).map intsT))
section
variable {X : Cx} {E : XK} {sts : List Stmt}
theorem ss_dead : PSs X sts (tS X.K E (fun _ _ => False)) := ⟨fun pins s σ H D I h => by
  obtain ⟨r, A, H0, δ, P, R, h, L⟩ := h
  exact h.elim⟩
end
theorem eqBl {a b : Bool} : eqD (.bl a) (.bl b) = (a == b) := by cases a <;> cases b <;> decide +kernel
theorem okBl {a : Bool} : (D.bl a).eqOk = true := D.eqOk_of rfl (Nat.zero_le _)
theorem all_true {α : Type} (l : List α) : (l.map fun _ => true).all id = true := by
  rw [List.all_map]
  exact List.all_eq_true.mpr fun _ _ => rfl
def isDic : D → Bool
  | .dic => true
  | _ => false
def isLst : D → Bool
  | .lst _ => true
  | .rnd => true
  | _ => false
theorem isT_dict {d : D} {P : DP} (h : D.any1 d) (hp : P (.bl (isDic d))) : isTD "dict" d P := by
  cases d <;> first | (obtain ⟨t, ht⟩ := h; cases ht; done) | exact ⟨_, true, rfl, by decide +kernel, hp⟩ | exact ⟨_, false, rfl, by decide +kernel, hp⟩
theorem isT_list {d : D} {P : DP} (h : D.any1 d) (hp : P (.bl (isLst d))) : isTD "list" d P := by
  cases d <;> first | (obtain ⟨t, ht⟩ := h; cases ht; done) | exact ⟨_, true, rfl, by decide +kernel, hp⟩ | exact ⟨_, false, rfl, by decide +kernel, hp⟩
theorem rng_mem {n : Nat} {d : D} (h : d ∈ rngD 0 n) : ∃ i : Nat, i < n ∧ d = .int i := by
  unfold rngD at h
  obtain ⟨i, hi, rfl⟩ := List.mem_map.mp h
  exact ⟨i, List.mem_range.mp hi, by rw [Int.zero_add]⟩
theorem rng_len {lo : Int} {n : Nat} : (rngD lo n).length = n := by
  unfold rngD
  rw [List.length_map, List.length_range]
theorem sub_step {fs pre c rs : List Int} {x : Int} (e : fs = pre ++ x :: rs) (h : c.Sublist pre) : (c ++ [x]).Sublist (pre ++ [x]) ∧ c.Sublist (pre ++ [x]) :=
  ⟨h.append (List.Sublist.refl _), h.trans (List.sublist_append_left _ _)⟩
theorem isCube_ok {c : List Int} (h1 : c ≠ []) (h2 : c.Pairwise (· < ·)) (h3 : ∀ x ∈ c, 0 ≤ x ∧ x ≤ 9) : isCube (cubeD c) = true := by
  rw [isCube_tup, toI_ints, decide_eq_true h2, Bool.and_true, List.isEmpty_map]
  rw [show (c.map D.int).all isFig = true from by
    rw [List.all_map, List.all_eq_true]
    exact fun x hx => decide_eq_true (h3 x hx), Bool.and_true]
  cases c with
  | nil => exact absurd rfl h1
  | cons _ _ => rfl
theorem asc_len : ∀ {c : List Int} {lo : Int}, c.Pairwise (· < ·) → (∀ x ∈ c, lo ≤ x ∧ x ≤ 9) → (c.length : Int) ≤ max 0 (10 - lo)
  | [], _, _, _ => by simp; omega
  | x :: c, lo, h, hb => by
    have h1 := List.pairwise_cons.mp h
    have hx := hb x List.mem_cons_self
    have := asc_len (lo := x + 1) h1.2 fun y hy => ⟨by have := h1.1 y hy; omega, (hb y (List.mem_cons_of_mem _ hy)).2⟩
    rw [List.length_cons]
    omega
theorem GoodV.good {cs : List (List Int)} {ts : List (Int × Int)} (h : GoodV cs ts) : Good cs ts where
  ne := h.ne
  few := h.few
  cub := fun c hc => by
    have := asc_len (lo := 0) (h.cub c hc).2.1 (h.cub c hc).2.2
    omega
  trn := by
    have : ∀ t ∈ TSs, t.length ≤ 5 := by decide
    exact this ts h.trn
  nod := by
    have : ∀ t ∈ TSs, (figsOf t).Nodup := by decide
    exact this ts h.trn
theorem szz {n : Nat} (h : Nat.ble n sizeLine = true) : n ≤ sizeLine := Nat.le_of_ble_eq_true h
theorem ne_empty {c : List Int} : (!eqD (intsL c) (.lst [])) = !c.isEmpty := by
  show (!eqD (intsL c) (intsL [])) = _
  rw [eqE (b := c.isEmpty) (Eqs.intsL c) (Eqs.intsL []) (by cases c with
    | nil => exact ⟨fun _ => rfl, fun _ => rfl⟩
    | cons x c => exact ⟨fun h => (by cases h), fun h => (by cases h)⟩)]
def kH (f : Int) (d : D) : Bool := inP f (toP d)
def fH (f : Int) (d : D) : D := .int ((toP d).1 + (toP d).2 - f)
def likes (f : Int) (ts : List (Int × Int)) : List Int := [f] ++ (ts.filter (inP f)).map fun p => p.1 + p.2 - f
theorem likes_eq (f : Int) (ts : List (Int × Int)) : [D.int f] ++ ([] ++ ((ts.map Q.pairD).filter (kH f)).map (fH f)) = (likes f ts).map D.int := by
  rw [List.nil_append, List.filter_map, List.map_map, likes, List.map_append, List.map_map]
  rfl
theorem figs_cons (p : Int × Int) (ts : List (Int × Int)) : figsOf (p :: ts) = p.1 :: p.2 :: figsOf ts := rfl
theorem none_in {f : Int} {ts : List (Int × Int)} (h : f ∉ figsOf ts) : ts.filter (inP f) = [] ∧ facesFor f ts = [f] := by
  induction ts with
  | nil => exact ⟨rfl, rfl⟩
  | cons p ts ih =>
    rw [figs_cons] at h
    have h1 : f ≠ p.1 := fun e => h (by rw [e]; exact List.mem_cons_self)
    have h2 : f ≠ p.2 := fun e => h (by rw [e]; exact List.mem_cons_of_mem _ List.mem_cons_self)
    have h3 : inP f p = false := decide_eq_false fun z => z.elim h1 h2
    have i := ih fun z => h (List.mem_cons_of_mem _ (List.mem_cons_of_mem _ z))
    exact ⟨by rw [List.filter_cons, h3]; exact i.1, by rw [facesFor_cons, h3]; exact i.2⟩
theorem likes_mem {f : Int} : ∀ {ts : List (Int × Int)}, (figsOf ts).Nodup → ∀ x, x ∈ likes f ts ↔ x ∈ facesFor f ts
  | [], _, x => Iff.rfl
  | p :: ts, h, x => by
    rw [figs_cons, List.nodup_cons, List.nodup_cons] at h
    rw [facesFor_cons, likes, List.filter_cons]
    cases hp : inP f p with
    | true =>
      rw [if_pos rfl, if_pos rfl]
      have hp' : f = p.1 ∨ f = p.2 := of_decide_eq_true hp
      have hf : f ∉ figsOf ts := by
        rcases hp' with rfl | rfl
        · exact fun z => h.1 (List.mem_cons_of_mem _ z)
        · exact h.2.1
      rw [(none_in hf).1]
      simp only [List.map_cons, List.map_nil, List.singleton_append, List.mem_cons, List.not_mem_nil, or_false]
      omega
    | false =>
      rw [if_neg Bool.false_ne_true, if_neg Bool.false_ne_true]
      exact likes_mem h.2.2 x
theorem likes_has {c : List Int} {f : Int} {ts : List (Int × Int)} (h : (figsOf ts).Nodup) : (!((likes f ts).filter fun x => decide (x ∈ c)).isEmpty) = hasF c f ts := by
  rw [Bool.eq_iff_iff, Bool.not_eq_true', hasF, List.any_eq_true]
  constructor
  · intro e
    cases hl : (likes f ts).filter fun x => decide (x ∈ c) with
    | nil => rw [hl] at e; cases e
    | cons x xs =>
      have hx : x ∈ (likes f ts).filter fun x => decide (x ∈ c) := by rw [hl]; exact List.mem_cons_self
      exact ⟨x, (likes_mem h x).mp (List.mem_filter.mp hx).1, (List.mem_filter.mp hx).2⟩
  · rintro ⟨x, h1, h2⟩
    have hx : x ∈ (likes f ts).filter fun x => decide (x ∈ c) := List.mem_filter.mpr ⟨(likes_mem h x).mpr h1, h2⟩
    cases hl : (likes f ts).filter fun x => decide (x ∈ c) with
    | nil => rw [hl] at hx; cases hx
    | cons _ _ => rfl
def kO (c : List Int) (d : D) : Bool := inL d (c.map D.int)
theorem kept_ints (c ns : List Int) : [] ++ ((ns.map D.int).filter (kO c)).map (fun d => d) = (ns.filter fun x => decide (x ∈ c)).map D.int := by
  rw [List.nil_append, List.map_id', List.filter_map]
  rw [show kO c ∘ D.int = fun x => decide (x ∈ c) from funext fun x => inL_ints]
/-! texts of digits -/
def sig (c : Nat) : Str := ⟨#[c]⟩
theorem joinL_one : ∀ cs : List Nat, TL.joinL [] (cs.map fun c => [c]) = cs
  | [] => rfl
  | [_] => rfl
  | a :: b :: r => by
    show [a] ++ ([] ++ TL.joinL [] ((b :: r).map fun c => [c])) = _
    rw [joinL_one (b :: r)]; rfl
theorem join_sig (cs : List Nat) : Txt.join "" (cs.map sig) = ⟨cs.toArray⟩ := by
  have e : TL.tl (Txt.join "" (cs.map sig)) = cs := by
    rw [TL.join_eq, TL.tl_join, List.map_map]
    exact joinL_one cs
  rw [← TL.mk_tl (Txt.join "" (cs.map sig)), e]
theorem isNum_of {cs : List Nat} (h1 : 1 ≤ cs.length) (h6 : cs.length ≤ 6) (h : ∀ c ∈ cs, 48 ≤ c ∧ c ≤ 57) : isNum (.str ⟨cs.toArray⟩) = true := by
  show (decide (1 ≤ cs.toArray.size ∧ cs.toArray.size ≤ 6) && cs.all fun c => decide (48 ≤ c ∧ c ≤ 57)) = true
  rw [List.size_toArray, decide_eq_true ⟨h1, h6⟩, Bool.true_and, List.all_eq_true]
  exact fun c hc => decide_eq_true (h c hc)
def SgOk (z : Str) : Prop := 1 ≤ z.length ∧ z.length ≤ 10 ∧ ∀ c ∈ z.cps.toList, 48 ≤ c ∧ c ≤ 57
theorem sum_ones (cs : List Nat) : ((cs.map sig).map (·.length)).sum = cs.length := by
  rw [List.map_map, show ((fun z : Str => z.length) ∘ sig) = fun _ => 1 from rfl, List.map_const', List.sum_replicate_nat, Nat.mul_one]
/-! ways, cube by cube -/
theorem zip_range (cs : List (List Int)) : cs.zipIdx = (List.range cs.length).map fun j => (cs.getD j [], j) := by
  apply List.ext_getElem
  · simp
  · intro i h1 h2
    have : i < cs.length := by simpa using h1
    simp [this]
def withT (cs : List (List Int)) (ts : List (Int × Int)) (f : Int) (i : Nat) : List Int := ((List.range i).filter fun j => hasF (cs.getD j []) f ts).map fun j : Nat => (j : Int)
theorem withT_all (cs : List (List Int)) (ts : List (Int × Int)) (f : Int) : withT cs ts f cs.length = withL cs ts f := by
  unfold withT withL
  rw [zip_range, List.filter_map, List.map_map]
  rfl
def partW (cubes way : List Int) : List (List Int) := (cubes.filter fun c => !decide (c ∈ way)).map fun c => way ++ [c]
theorem part_len (cubes way : List Int) : (partW cubes way).length ≤ cubes.length := by
  unfold partW
  rw [List.length_map]
  exact List.length_filter_le _ _
theorem step_snoc (ws : List (List Int)) (w cubes : List Int) : stepW (ws ++ [w]) cubes = stepW ws cubes ++ partW cubes w := by
  unfold stepW partW
  rw [List.flatMap_append, List.flatMap_singleton]
theorem withT_succ (cs : List (List Int)) (ts : List (Int × Int)) (f : Int) (i : Nat) : withT cs ts f (i + 1) = withT cs ts f i ++ if hasF (cs.getD i []) f ts = true then [(i : Int)] else [] := by
  unfold withT
  rw [List.range_succ, List.filter_append, List.map_append]
  congr 1
  rw [List.filter_cons, List.filter_nil]
  split <;> rfl
theorem part_succ (cs : List (List Int)) (ts : List (Int × Int)) (f : Int) (i : Nat) (way : List Int) : partW (withT cs ts f (i + 1)) way = partW (withT cs ts f i) way ++ if (!decide ((i : Int) ∈ way) && hasF (cs.getD i []) f ts) = true then [way ++ [(i : Int)]] else [] := by
  rw [withT_succ]
  unfold partW
  rw [List.filter_append, List.map_append]
  congr 1
  cases hasF (cs.getD i []) f ts with
  | false => rw [Bool.and_false]; rfl
  | true =>
    rw [Bool.and_true, if_pos rfl, List.filter_cons, List.filter_nil]
    split <;> rfl
theorem withT_len (cs : List (List Int)) (ts : List (Int × Int)) (f : Int) (i : Nat) : (withT cs ts f i).length ≤ i := by
  unfold withT
  rw [List.length_map]
  exact Nat.le_trans (List.length_filter_le _ _) (Nat.le_of_eq List.length_range)
theorem rng_drop {n i : Nat} {d : D} {rest : List D} (h : d :: rest = (rngD 0 n).drop i) : i < n ∧ d = .int (i : Nat) ∧ rest = (rngD 0 n).drop (i + 1) := by
  have hi : i < n := by
    have := congrArg List.length h
    rw [List.length_cons, List.length_drop, rng_len] at this
    omega
  refine ⟨hi, ?_, by rw [← List.drop_drop, ← h]; rfl⟩
  have := congrArg (fun l => l[0]?) h
  rw [List.getElem?_drop, Nat.add_zero] at this
  unfold rngD at this
  rw [List.getElem?_map, List.getElem?_range hi] at this
  injection this with this
  rw [this]
  show D.int (0 + (i : Int)) = _
  rw [Int.zero_add]
theorem GoodV.cubes {cs : List (List Int)} {ts : List (Int × Int)} (h : GoodV cs ts) : cubesErr (cubesD cs) = none ∧ CubesOk (cubesD cs) := by
  constructor
  · show (if (cs.map cubeD).isEmpty || decide (6 < (cs.map cubeD).length) then some D.non else ((cs.map cubeD).findIdx? fun d => !isCube d).map fun i => D.int (i : Nat)) = none
    have hf := h.few
    rw [List.length_map, decide_eq_false (by omega), Bool.or_false, List.isEmpty_map]
    rw [show cs.isEmpty = false from by
      cases cs with
      | nil => exact absurd rfl h.ne
      | cons _ _ => rfl, if_neg Bool.false_ne_true]
    rw [List.findIdx?_eq_none_iff.mpr fun d hd => by
      obtain ⟨c, hc, rfl⟩ := List.mem_map.mp hd
      obtain ⟨a, b, e⟩ := h.cub c hc
      rw [isCube_ok a b e]; rfl]
    rfl
  · refine ⟨⟨_, rfl⟩, fun es he => ?_⟩
    injection he with he
    subst he
    have hf := h.few
    refine ⟨by rw [List.length_map]; omega, fun e hc => ?_⟩
    obtain ⟨c, hc', rfl⟩ := List.mem_map.mp hc
    refine ⟨⟨_, rfl⟩, fun es he => ?_⟩
    injection he with he
    subst he
    have := h.good.cub c hc'
    exact ⟨by rw [List.length_map]; omega, fun e he => by
      obtain ⟨x, _, rfl⟩ := List.mem_map.mp he
      exact ⟨_, rfl⟩⟩
theorem GoodV.turns {cs : List (List Int)} {ts : List (Int × Int)} (h : GoodV cs ts) : isTurns (turnsD ts) = true ∧ TurnsOk (turnsD ts) := by
  constructor
  · have : ∀ t ∈ TSs, isTurns (turnsD t) = true := by decide +kernel
    exact this ts h.trn
  · refine ⟨⟨_, rfl⟩, fun es he => ?_⟩
    injection he with he
    subst he
    have hf := h.good.trn
    refine ⟨by rw [List.length_map]; omega, fun e hc => ?_⟩
    obtain ⟨p, hc, rfl⟩ := List.mem_map.mp hc
    refine ⟨⟨_, rfl⟩, fun es he => ?_⟩
    injection he with he
    subst he
    exact ⟨by show 2 < 64; decide, fun e he => by
      rcases List.mem_cons.mp he with rfl | he
      · exact ⟨_, rfl⟩
      · rw [List.mem_singleton.mp he]; exact ⟨_, rfl⟩⟩
structure Figs (fs : List Int) : Prop where
  ne : fs ≠ []
  len : fs.length ≤ 10
  asc : fs.Pairwise (· < ·)
  bd : ∀ x ∈ fs, 0 ≤ x ∧ x ≤ 9
theorem Figs.sub {fs c : List Int} (h : Figs fs) (hs : c.Sublist fs) (hc : c ≠ []) : c ≠ [] ∧ c.Pairwise (· < ·) ∧ ∀ x ∈ c, 0 ≤ x ∧ x ≤ 9 :=
  ⟨hc, h.asc.sublist hs, fun x hx => h.bd x (hs.subset hx)⟩
theorem figs_rng {n : Int} (h : n = 3 ∨ n = 5 ∨ n = 10) : ∃ fs, D.lst (rngD 0 n.toNat) = intsL fs ∧ Figs fs := by
  rcases h with rfl | rfl | rfl
  · exact ⟨[0, 1, 2], rfl, by decide, by decide, by decide, by decide⟩
  · exact ⟨[0, 1, 2, 3, 4], rfl, by decide, by decide, by decide, by decide⟩
  · exact ⟨[0, 1, 2, 3, 4, 5, 6, 7, 8, 9], rfl, by decide, by decide, by decide, by decide⟩
/-- the law -/
def spLaw (K : PySem.W.Frag) : Sp := fun vs H Q _ => ∃ (a : Addr) (ns : List Int), vs = [.ref a] ∧ SqL K H a (ns.map V.int) ∧ ns.length ≤ 63 ∧ ∀ H', Q (.bl true) H'
theorem ways_E (ws : List (List Int)) : D.Eqs 2 (.lst (ws.map intsT)) := Eqs.lst fun w _ => Eqs.ints w
theorem ways_ne (ws : List (List Int)) : (!eqD (.lst (ws.map intsT)) (.lst [])) = !ws.isEmpty := by
  show (!eqD _ (intsL [])) = _
  rw [eqE (b := ws.isEmpty) (ways_E ws) (Eqs.intsL []) (by cases ws with
    | nil => exact ⟨fun _ => rfl, fun _ => rfl⟩
    | cons x c => exact ⟨fun h => (by cases h), fun h => (by cases h)⟩)]
theorem how_ok (ws : List (List Int)) (h : ∀ w ∈ ws, w.length ≤ 6) : EqOk 1 (howD ws) := by
  cases ws with
  | nil => exact .inl ⟨rfl, rfl⟩
  | cons w ws =>
    refine .inr ⟨_, .inl rfl, ?_, fun e he => ?_⟩
    · have := h w List.mem_cons_self
      rw [List.length_map]; omega
    · obtain ⟨x, _, rfl⟩ := List.mem_map.mp he
      exact ⟨rfl, rfl⟩
theorem eqok_bl {b : Bool} : EqOk 1 (.bl b) := .inl ⟨rfl, rfl⟩
theorem eqok_int {i : Int} : EqOk 1 (.int i) := .inl ⟨rfl, rfl⟩
def gMk (CC CT : Addr) : List D → Prop → XP → Prop := fun ds P Z => ∃ d e, ds = [d, e] ∧ CubesOk d ∧ TurnsOk e ∧ match cubesErr d with
  | none => if isTurns e = true then P else Z ⟨CT, none⟩
  | some i => Z ⟨CC, some ("index", i)⟩
theorem er_lawN {K : PySem.W.Frag} {p : Addr} {H : Hp} {v0 : Option V} {ms : List Int} (n : Nat) (e : H p = some (.lst (ms.map V.int))) (rn : Rnd ms) (hl : ms.length ≤ 65) : ER K p (fun b => b = p) (v0 :: some (.ref p) :: List.replicate n none) H (.emp :: .val .rnd :: List.replicate n .emp) where
  rnd := ⟨ms, e, rn, hl⟩
  ar := rfl
  all := fun b hb => by rw [hb, e]; simp
  len := by simp
  val := fun i x h => by
    match i, h with
    | 0, h => cases h
    | 1, h => cases h; exact ⟨_, rfl, .rnd⟩
    | i + 2, h =>
      rw [List.getElem?_cons_succ, List.getElem?_cons_succ, List.getElem?_replicate] at h
      split at h <;> cases h
  own := fun i x h => by
    match i, h with
    | 0, h => cases h
    | 1, h => cases h
    | i + 2, h =>
      rw [List.getElem?_cons_succ, List.getElem?_cons_succ, List.getElem?_replicate] at h
      split at h <;> cases h
  sep := fun i j x y l _ h => by
    match i, h with
    | 0, h => cases h
    | 1, h => cases h
    | i + 2, h =>
      rw [List.getElem?_cons_succ, List.getElem?_cons_succ, List.getElem?_replicate] at h
      split at h <;> cases h
theorem no_own {n : Nat} {i : Nat} {ds : List D} (h : (Sl.emp :: .val .rnd :: List.replicate n .emp)[i]? = some (.own ds)) : False := by
  match i, h with
  | 0, h => cases h
  | 1, h => cases h
  | i + 2, h =>
    rw [List.getElem?_cons_succ, List.getElem?_cons_succ, List.getElem?_replicate] at h
    split at h <;> cases h
theorem eqok_turns (ts : List (Int × Int)) (h : ts.length ≤ 5) : EqOk 2 (turnsD ts) := .inr ⟨_, .inl rfl, by rw [List.length_map]; omega, fun e he => by
  obtain ⟨p, _, rfl⟩ := List.mem_map.mp he
  exact .inr ⟨_, .inl rfl, by show 2 ≤ 1000000; decide, fun x hx => by
    rcases List.mem_cons.mp hx with rfl | hx
    · exact ⟨rfl, rfl⟩
    · rw [List.mem_singleton.mp hx]; exact ⟨rfl, rfl⟩⟩⟩
theorem eqok_cubes (cs : List (List Int)) (h : cs.length ≤ 6) (h2 : ∀ c ∈ cs, c.length ≤ 10) : EqOk 2 (cubesD cs) := .inr ⟨_, .inl rfl, by rw [List.length_map]; omega, fun e he => by
  obtain ⟨c, hc, rfl⟩ := List.mem_map.mp he
  refine .inr ⟨_, .inl rfl, ?_, fun x hx => ?_⟩
  · have := h2 c hc
    rw [List.length_map]; omega
  · obtain ⟨i, _, rfl⟩ := List.mem_map.mp hx
    exact ⟨rfl, rfl⟩⟩
end Q

namespace Q
open PySem PySem.Spec PyProof.Rows L2 L3
def isWithin (d : D) (lo hi : Int) : Bool := match d with
  | .int i => decide (lo ≤ i ∧ i ≤ hi)
  | _ => false
def gWithin : DF := fun ds P _ => ∃ d lo hi, ds = [d, .int lo, .int hi] ∧ D.any1 d ∧ P (.bl (isWithin d lo hi))
theorem within_fig (d : D) : isWithin d 0 9 = isFig d := by cases d <;> rfl
/-- the error of needed numbers that are none -/
def neededErr : D → Option D
  | .tup es => if es.isEmpty || decide (60 < es.length) then some .non else (es.findIdx? fun d => !isNum d).map fun i => .int (i : Nat)
  | _ => some .non
def NeededOk (d : D) : Prop := D.any1 d ∧ ∀ es, d = .tup es → es.length ≤ 1000000 ∧ ∀ e ∈ es, NumAsk e
def gChkNd (C : Addr) : DF := fun ds P Z => ∃ d, ds = [d] ∧ NeededOk d ∧ match neededErr d with
  | none => P .non
  | some i => Z ⟨C, some ("index", i)⟩
def leastF (f : Int) (ts : List (Int × Int)) : Int := (facesFor f ts).headD 0
def gLeast : DF := fun ds P _ => ∃ f ts, ds = [.int f, turnsD ts] ∧ P (.int (leastF f ts))
theorem least_at (f : Int) (ts : List (Int × Int)) : atI ((facesFor f ts).map D.int) 0 = some (.int (leastF f ts)) := by
  have : (facesFor f ts)[0]? = some (leastF f ts) := by
    unfold leastF facesFor
    split <;> rfl
  exact atI_nat (j := 0) (by rw [List.getElem?_map, this]; rfl)
/-! what is shown, by the cubes that are taken -/
def shownB (cs : List (List Int)) (ts : List (Int × Int)) (ns : List Int) : Bool := !(waysOf cs ts ns).isEmpty
def gIsShown : DF := fun ds P _ => ∃ cs ts d, ds = [cubesD cs, turnsD ts, d] ∧ Good cs ts ∧ isNum d = true ∧ P (.bl (shownB cs ts (digs d)))
structure TakenOk (tk : List Int) (ws : List (List Int)) : Prop where
  few : tk.length < 64
  all : ∀ b ∈ tk, ∃ w ∈ ws, b = (maskN w : Int)
  has : ∀ w ∈ ws, (maskN w : Int) ∈ tk
def kB (d e : D) : Bool := !((toI d).toNat.testBit (toI e).toNat)
def fB (d e : D) : D := .int (((toI d).toNat ||| 2 ^ (toI e).toNat : Nat) : Int)
def putsOf (tk l : List Int) : List Int := tk.flatMap fun b => (l.filter fun c => !(b.toNat.testBit c.toNat)).map fun c => ((b.toNat ||| 2 ^ c.toNat : Nat) : Int)
theorem puts_eq (tk l : List Int) : [] ++ (tk.map D.int).flatMap (fun d => ((l.map D.int).filter (kB d)).map (fB d)) = (putsOf tk l).map D.int := by
  rw [List.nil_append, List.flatMap_map, putsOf, List.map_flatMap]
  congr 1
  funext b
  rw [List.filter_map, List.map_map, List.map_map]
  rfl
theorem waysBy_ent : ∀ (n : Nat) (ls : List (List Int)), ls.length = n → ∀ w ∈ waysBy ls, ∀ c ∈ w, ∃ l ∈ ls, c ∈ l
  | 0, ls, h, w, hw => by
    rw [List.length_eq_zero_iff.mp h] at hw
    rw [List.mem_singleton.mp hw]
    exact fun c hc => by cases hc
  | n + 1, ls, h, w, hw => by
    obtain ⟨l2, l, rfl⟩ : ∃ l2 l, ls = l2 ++ [l] := ⟨ls.dropLast, ls.getLast (by intro e; rw [e] at h; cases h), (List.dropLast_concat_getLast _).symm⟩
    rw [waysBy_snoc] at hw
    unfold stepW at hw
    obtain ⟨w2, h2, h3⟩ := List.mem_flatMap.mp hw
    obtain ⟨c, h4, rfl⟩ := List.mem_map.mp h3
    intro x hx
    rcases List.mem_append.mp hx with hx | hx
    · obtain ⟨m, h5, h6⟩ := waysBy_ent n l2 (by simp at h; omega) w2 h2 x hx
      exact ⟨m, List.mem_append_left _ h5, h6⟩
    · rw [List.mem_singleton.mp hx]
      exact ⟨l, by simp, (List.mem_filter.mp h4).1⟩
theorem withL_ent {cs : List (List Int)} {ts : List (Int × Int)} {f c : Int} (h : c ∈ withL cs ts f) : 0 ≤ c ∧ c < cs.length := by
  unfold withL at h
  obtain ⟨p, hp, rfl⟩ := List.mem_map.mp h
  have := List.mem_zipIdx (List.mem_filter.mp hp).1
  omega
theorem taken_step {tk l ms : List Int} {ws : List (List Int)} (hw : ∀ w ∈ ws, ∀ c ∈ w, 0 ≤ c ∧ c < 6) (hl : ∀ c ∈ l, 0 ≤ c ∧ c < 6) (h : TakenOk tk ws) (hf : ms.length < 64) (hm : ∀ k, k ∈ ms ↔ k ∈ putsOf tk l) : TakenOk ms (stepW ws l) where
  few := hf
  all := fun b hb => by
    obtain ⟨b0, h0, h1⟩ := List.mem_flatMap.mp ((hm b).mp hb)
    obtain ⟨c, h2, rfl⟩ := List.mem_map.mp h1
    obtain ⟨h3, h4⟩ := List.mem_filter.mp h2
    obtain ⟨w, hw1, rfl⟩ := h.all b0 h0
    rw [Int.toNat_natCast] at h4 ⊢
    rw [maskN_bit (fun x hx => (hw w hw1 x hx).1) (hl c h3).1] at h4
    refine ⟨w ++ [c], List.mem_flatMap.mpr ⟨w, hw1, List.mem_map.mpr ⟨c, List.mem_filter.mpr ⟨h3, h4⟩, rfl⟩⟩, ?_⟩
    rw [maskN_snoc]
  has := fun w hw2 => by
    obtain ⟨w0, h0, h1⟩ := List.mem_flatMap.mp hw2
    obtain ⟨c, h2, rfl⟩ := List.mem_map.mp h1
    obtain ⟨h3, h4⟩ := List.mem_filter.mp h2
    refine (hm _).mpr (List.mem_flatMap.mpr ⟨_, h.has w0 h0, List.mem_map.mpr ⟨c, List.mem_filter.mpr ⟨h3, ?_⟩, ?_⟩⟩)
    · rw [Int.toNat_natCast, maskN_bit (fun x hx => (hw w0 h0 x hx).1) (hl c h3).1]
      exact h4
    · rw [Int.toNat_natCast, maskN_snoc]
theorem nodup_len {n : Nat} {ms : List Int} (nd : ms.Nodup) (hb : ∀ k ∈ ms, 0 < k ∧ k < n) : ms.length < n ∨ n = 0 := by
  have : (ms.map Int.toNat).Nodup := by
    refine List.Pairwise.map _ (fun a b h => ?_) (List.Pairwise.imp_of_mem (S := fun a b => a ≠ b ∧ 0 < a ∧ 0 < b) (fun ha hb' h => ⟨h, (hb _ ha).1, (hb _ hb').1⟩) nd)
    obtain ⟨h1, h2, h3⟩ := h
    omega
  have sub : (ms.map Int.toNat) ⊆ (List.range n).erase 0 := fun k hk => by
    obtain ⟨x, hx, rfl⟩ := List.mem_map.mp hk
    have := hb x hx
    exact (List.mem_erase_of_ne (by omega)).mpr (List.mem_range.mpr (by omega))
  have h2 := nat_nodup_len _ _ this sub
  rw [List.length_map] at h2
  by_cases h0 : n = 0
  · exact .inr h0
  · rw [List.length_erase_of_mem (List.mem_range.mpr (by omega)), List.length_range] at h2
    exact .inl (by omega)
theorem puts_few {tk l : List Int} {ws : List (List Int)} (hw : ∀ w ∈ ws, ∀ c ∈ w, 0 ≤ c ∧ c < 6) (hl : ∀ c ∈ l, 0 ≤ c ∧ c < 6) (h : TakenOk tk ws) {ms : List Int} (nd : ms.Nodup) (hm : ∀ k, k ∈ ms ↔ k ∈ putsOf tk l) : ms.length < 64 := by
  refine (nodup_len (n := 64) nd fun k hk => ?_).elim id fun z => absurd z (by decide)
  obtain ⟨b0, h0, h1⟩ := List.mem_flatMap.mp ((hm k).mp hk)
  obtain ⟨c, h2, rfl⟩ := List.mem_map.mp h1
  obtain ⟨w, hw1, rfl⟩ := h.all b0 h0
  have h3 := hl c (List.mem_filter.mp h2).1
  rw [Int.toNat_natCast]
  have a1 : maskN w < 2 ^ 6 := maskN_lt fun x hx => (hw w hw1 x hx).2
  have a2 : 2 ^ c.toNat < 2 ^ 6 := Nat.pow_lt_pow_right (by decide) (by omega)
  have a3 := Nat.or_lt_two_pow a1 a2
  have a4 : 2 ^ c.toNat ≤ maskN w ||| 2 ^ c.toNat := Nat.right_le_or
  have a5 : 0 < 2 ^ c.toNat := Nat.pow_pos (by decide)
  omega
theorem asc_nodup {ms : List Int} (h : ms.Pairwise (· < ·)) : ms.Nodup := h.imp fun h => Int.ne_of_lt h
theorem taken_end {tk : List Int} {ws : List (List Int)} (h : TakenOk tk ws) : decide ((0 : Int) < (tk.length : Nat)) = !ws.isEmpty := by
  cases ws with
  | nil =>
    have : tk = [] := List.eq_nil_iff_forall_not_mem.mpr fun b hb => by
      obtain ⟨w, hw, _⟩ := h.all b hb
      cases hw
    rw [this]; rfl
  | cons w ws =>
    have := List.length_pos_of_mem (h.has w List.mem_cons_self)
    exact decide_eq_true (by omega)
theorem taken_start : TakenOk [0] [[]] := ⟨by decide, fun b hb => ⟨[], List.mem_singleton.mpr rfl, by rw [List.mem_singleton.mp hb]; rfl⟩, fun w hw => by rw [List.mem_singleton.mp hw]; exact List.mem_singleton.mpr rfl⟩
section
variable {K : PySem.W.Frag}
theorem kitCls_of {C : Addr} {t : Value} (iC : PySem.W.isClsIn K C = true) (tC : PySem.W.typeIn K (.ref C) = some (.type "type")) : PySem.W.kitCls K t (.ref C) = PySem.W.subIn K t (.ref C) := by
  have h2 : ((PySem.W.clsIn K C).isSome && PySem.W.typeIn K (.ref C) == some (.type "type")) = true := by
    have i2 : (PySem.W.clsIn K C).isSome = true := iC
    rw [i2, tC] <;> rfl
  show (if ((PySem.W.clsIn K C).isSome && PySem.W.typeIn K (.ref C) == some (.type "type")) = true then PySem.W.subIn K t (.ref C) else none) = _
  rw [if_pos h2]
theorem kit_self {C : Addr} : PySem.W.kitOne K (.ref C) (.ref C) = some true := by
  unfold PySem.W.kitOne
  rw [if_pos (by simp)]
theorem kit_not {C : Addr} {t : String} (iC : PySem.W.isClsIn K C = true) (tC : PySem.W.typeIn K (.ref C) = some (.type "type")) (s : PySem.W.subIn K (.type t) (.ref C) = some false) : PySem.W.kitOne K (.type t) (.ref C) = some false := by
  unfold PySem.W.kitOne
  rw [if_neg (by simp), kitCls_of iC tC, s]
theorem exm_of {A C : Addr} {b : Bool} (iC : PySem.W.isClsIn K C = true) (tC : PySem.W.typeIn K (.ref C) = some (.type "type")) (e : PySem.W.subIn K (.ref C) (.type "BaseException") = some true) (s : PySem.W.subIn K (.ref A) (.ref C) = some b) : PySem.W.exmOne K (.ref A) (.ref C) = some b := by
  unfold PySem.W.exmOne
  rw [if_pos (by rw [e] <;> rfl), kitCls_of iC tC, s]
end
theorem if_any {c : Bool} {A B : Prop} (h1 : A) (h2 : B) : if c = true then A else B := by
  cases c
  · exact if_no rfl h2
  · exact if_so rfl h1
end Q

namespace Q
open PySem PySem.Spec PyProof.Rows L2 L3
/-! needed numbers -/
def gNeed (C CB : Addr) (g : List (List Int) → List (Int × Int) → List D → D) : DF := fun ds P Z => ∃ cs ts d, ds = [setD C cs ts, d] ∧ Good cs ts ∧ NeededOk d ∧ match neededErr d with
  | none => P (g cs ts (itsOf d))
  | some i => Z ⟨CB, some ("index", i)⟩
def gBad2 (C CB : Addr) : DF := fun ds P Z => ∃ cs ts d i, ds = [setD C cs ts, d] ∧ NeededOk d ∧ neededErr d = some i ∧ Z ⟨CB, some ("index", i)⟩
def gBad4 (CB : Addr) : DF := fun ds P Z => ∃ d a b c i, ds = [d, a, b, c] ∧ NeededOk d ∧ neededErr d = some i ∧ Z ⟨CB, some ("index", i)⟩
theorem needed_none {d : D} (h : neededErr d = none) : ∃ es, d = .tup es ∧ es ≠ [] ∧ es.length ≤ 60 ∧ ∀ e ∈ es, isNum e = true := by
  cases d with
  | tup es =>
    have h2 : (if es.isEmpty || decide (60 < es.length) then some D.non else (es.findIdx? fun d => !isNum d).map fun i => D.int (i : Nat)) = none := h
    by_cases hc : (es.isEmpty || decide (60 < es.length)) = true
    · rw [if_pos hc] at h2; cases h2
    · rw [if_neg hc] at h2
      rw [Bool.or_eq_true, not_or] at hc
      refine ⟨es, rfl, fun e => hc.1 (by rw [e]; rfl), by have := hc.2; simp at this; exact this, fun e he => ?_⟩
      rw [Option.map_eq_none_iff, List.findIdx?_eq_none_iff] at h2
      have := h2 e he
      simpa using this
  | _ => cases h
theorem needed_ok {es : List D} (h0 : es ≠ []) (h1 : es.length ≤ 60) (h : ∀ e ∈ es, isNum e = true) : neededErr (.tup es) = none := by
  show (if es.isEmpty || decide (60 < es.length) then some D.non else (es.findIdx? fun d => !isNum d).map fun i => D.int (i : Nat)) = none
  rw [decide_eq_false (by omega), Bool.or_false, show es.isEmpty = false from by cases es with
    | nil => exact absurd rfl h0
    | cons _ _ => rfl, if_neg Bool.false_ne_true, List.findIdx?_eq_none_iff.mpr fun e he => by rw [h e he]; rfl]
  rfl
theorem num_ask {e : D} (h : isNum e = true) : NumAsk e := by
  obtain ⟨z, rfl, _, h6, _⟩ := numOf h
  exact ⟨⟨_, rfl⟩, fun y hy => by cases hy; omega⟩
theorem needed_ask {es : List D} (h1 : es.length ≤ 60) (h : ∀ e ∈ es, isNum e = true) : NeededOk (.tup es) := ⟨⟨_, rfl⟩, fun es' he => by
  injection he with he
  subst he
  exact ⟨by omega, fun e he => num_ask (h e he)⟩⟩
def firstU (cs : List (List Int)) (ts : List (Int × Int)) (es : List D) : D := (es.find? fun e => !shownB cs ts (digs e)).getD .non
theorem firstU_hit {cs : List (List Int)} {ts : List (Int × Int)} {did rest : List D} {e : D} (h : ∀ x ∈ did, shownB cs ts (digs x) = true) (he : shownB cs ts (digs e) = false) : firstU cs ts (did ++ e :: rest) = e := by
  unfold firstU
  rw [List.find?_append, List.find?_eq_none.mpr fun x hx => by rw [h x hx]; decide, List.find?_cons, he]
  rfl
theorem firstU_none {cs : List (List Int)} {ts : List (Int × Int)} {es : List D} (h : ∀ x ∈ es, shownB cs ts (digs x) = true) : firstU cs ts es = .non := by
  unfold firstU
  rw [List.find?_eq_none.mpr fun x hx => by rw [h x hx]; decide]
  rfl
/-! drawn needed numbers -/
structure NdOk (zs : List Str) (m k : Int) (sg : Str) : Prop where
  ne : zs ≠ []
  few : (zs.length : Int) ≤ m
  num : ∀ z ∈ zs, isNum (.str z) = true
  len : ∀ z ∈ zs, (z.length : Int) ≤ k
  sgn : ∀ z ∈ zs, ∀ c ∈ z.cps.toList, c ∈ sg.cps.toList
def strsT (zs : List Str) : D := .tup (zs.map D.str)
def gNeedL : DF := fun ds P _ => ∃ (m : Int) (sg : Str) (k : Int), ds = [.rnd, .int m, .str sg, .int k] ∧ 1 ≤ m ∧ m ≤ 60 ∧ SgOk sg ∧ 1 ≤ k ∧ k ≤ 6 ∧ ∀ zs : List Str, NdOk zs m k sg → P (strsT zs)
theorem NdOk.all {zs : List Str} {m k : Int} {sg : Str} (h : NdOk zs m k sg) (hm : m ≤ 60) : neededErr (strsT zs) = none ∧ NeededOk (strsT zs) := by
  have hf := h.few
  have hn : ∀ e ∈ zs.map D.str, isNum e = true := fun e he => by
    obtain ⟨z, hz, rfl⟩ := List.mem_map.mp he
    exact h.num z hz
  have hl : (zs.map D.str).length ≤ 60 := by rw [List.length_map]; omega
  exact ⟨needed_ok (fun e => h.ne (List.map_eq_nil_iff.mp e)) hl hn, needed_ask hl hn⟩
def gNoNd : DF := fun ds P _ => ds = [.rnd] ∧ ∀ d x, NeededOk d → neededErr d = some x → (x = .non ∨ ∃ i : Nat, x = .int i) → P (.tup [d, x])
def gFirstL (C : Addr) : DF := fun ds P _ => ∃ nm : Str, ∃ cs ts d i, ds = [.str nm, setD C cs ts, d] ∧ (D.str nm).lays = true ∧ Good cs ts ∧ NeededOk d ∧ neededErr d = some i ∧ P (.lst [i])
def gSecondL : DF := fun ds P _ => ∃ nm : Str, ∃ d i, ds = [.str nm, d] ∧ (D.str nm).lays = true ∧ NeededOk d ∧ neededErr d = some i ∧ P (.lst [i])
theorem okS {z : Str} (h : (D.str z).lays = true) : (D.str z).eqOk = true := D.eqOk_of h (Nat.zero_le _)
theorem missing_head (cs : List (List Int)) (ts : List (Int × Int)) (es : List D) : atI (([] ++ (es.filter fun e => !shownB cs ts (digs e)).map fun e => e) ++ [D.non]) 0 = some (firstU cs ts es) := by
  have e : firstU cs ts es = ((es.filter fun e => !shownB cs ts (digs e)) ++ [D.non]).headD .non := by
    unfold firstU
    induction es with
    | nil => rfl
    | cons x es ih =>
      rw [List.find?_cons, List.filter_cons]
      cases (!shownB cs ts (digs x)) with
      | true => rfl
      | false => exact ih
  rw [List.nil_append, List.map_id', e]
  refine atI_nat (j := 0) ?_
  cases (es.filter fun e => !shownB cs ts (digs e)) <;> rfl
theorem ways_none (ws : List (List Int)) : eqD (.lst (ws.map intsT)) (.lst []) = ws.isEmpty := by
  have := ways_ne ws
  cases h : eqD (.lst (ws.map intsT)) (.lst []) <;> rw [h] at this <;> cases hw : ws.isEmpty <;> rw [hw] at this <;> first | rfl | cases this
theorem one_E {x : D} (h : x = .non ∨ ∃ i : Nat, x = .int i) : (D.lst [x]).eqOk = true ∧ eqD (.lst [x]) (.lst [x]) = true := by
  have e : D.Eqs 1 (.lst [x]) := Eqs.lst (f := fun d : D => d) (xs := [x]) fun y hy => by
    rw [List.mem_singleton.mp hy]
    rcases h with rfl | ⟨i, rfl⟩
    · exact Eqs.non
    · exact Eqs.int
  exact ⟨okE e, eqE e e ⟨fun _ => rfl, fun _ => rfl⟩⟩
theorem num_lays {e : D} (h : isNum e = true) : e.flat = true ∧ e.lays = true := by
  obtain ⟨z, rfl, _, _, hz⟩ := numOf h
  refine ⟨rfl, ?_⟩
  show PyData.strOk z = true
  unfold PyData.strOk
  rw [← Array.all_toList, List.all_eq_true]
  intro c hc
  have := hz c hc
  exact decide_eq_true (by omega)
theorem firstU_ok {cs : List (List Int)} {ts : List (Int × Int)} {es : List D} (h : ∀ e ∈ es, isNum e = true) : EqOk 1 (firstU cs ts es) := by
  unfold firstU
  cases hf : es.find? fun e => !shownB cs ts (digs e) with
  | none => exact .inl ⟨rfl, rfl⟩
  | some e => exact .inl (num_lays (h e (List.mem_of_find?_eq_some hf)))
def numAskB (d : D) : Bool := d.tyName.isSome && (match d with
  | .str z => decide (z.length ≤ 1000000)
  | _ => true)
def neededOkB (d : D) : Bool := d.tyName.isSome && (match d with
  | .tup es => decide (es.length ≤ 1000000) && es.all numAskB
  | _ => true)
theorem numAsk_of {d : D} (h : numAskB d = true) : NumAsk d := by
  unfold numAskB at h
  rw [Bool.and_eq_true] at h
  refine ⟨Option.isSome_iff_exists.mp h.1, fun z hz => ?_⟩
  subst hz
  exact of_decide_eq_true h.2
theorem neededOk_of {d : D} (h : neededOkB d = true) : NeededOk d := by
  unfold neededOkB at h
  rw [Bool.and_eq_true] at h
  refine ⟨Option.isSome_iff_exists.mp h.1, fun es he => ?_⟩
  subst he
  have h2 := h.2
  rw [Bool.and_eq_true] at h2
  exact ⟨of_decide_eq_true h2.1, fun e he => numAsk_of (List.all_eq_true.mp h2.2 e he)⟩
end Q

namespace Q
open PySem PySem.Spec PyProof.Rows L2 L3
def gEqS (C : Addr) : DF := fun ds P _ => ∃ cs ts e, ds = [setD C cs ts, e] ∧ ((∃ t, e.tyName = some t) ∧ P (.bl false) ∨ ∃ cs' ts', e = setD C cs' ts' ∧ P (.bl (decide (cs = cs') && decide (ts = ts'))))
def gLenS (C : Addr) : DF := fun ds P _ => ∃ cs ts, ds = [setD C cs ts] ∧ P (.int cs.length)
def toldD (d e : D) : D := match cubesErr d with
  | some i => .lst [i]
  | none => if isTurns e = true then .lst [] else .lst [.str "turns"]
def gTold : DF := fun ds P _ => ∃ d e, ds = [d, e] ∧ CubesOk d ∧ TurnsOk e ∧ P (toldD d e)
theorem cubes_inj {a b : List (List Int)} : cubesD a = cubesD b ↔ a = b := ⟨fun h => by
  injection h with h
  exact int_inj (fun a b e => intsT_inj.mp e) h, fun h => by rw [h]⟩
theorem noObj {C : Addr} {d : D} {t : String} (h : d.tyName = some t) : d.isObj = false := by
  cases d <;> first | rfl | cases h
theorem both_E (cs : List (List Int)) (ts : List (Int × Int)) : D.Eqs 3 (.tup [cubesD cs, turnsD ts]) := by
  have := Eqs.tup (k := 2) (f := fun d : D => d) (xs := [cubesD cs, turnsD ts]) fun x hx => by
    rcases List.mem_cons.mp hx with rfl | hx
    · exact cubes_E cs
    · rw [List.mem_singleton.mp hx]; exact turns_E ts
  exact this
theorem both_eq (cs cs2 : List (List Int)) (ts ts2 : List (Int × Int)) : eqD (.tup [cubesD cs, turnsD ts]) (.tup [cubesD cs2, turnsD ts2]) = (decide (cs = cs2) && decide (ts = ts2)) := by
  rw [eqE (b := decide (cs = cs2) && decide (ts = ts2)) (both_E cs ts) (both_E cs2 ts2) (by
    rw [Bool.and_eq_true, decide_eq_true_iff, decide_eq_true_iff]
    constructor
    · rintro ⟨rfl, rfl⟩; rfl
    · intro h
      injection h with h
      injection h with h1 h2
      injection h2 with h2
      exact ⟨cubes_inj.mp h1, turns_inj.mp h2⟩)]
theorem turns_ok {ts : List (Int × Int)} (h : ts.length < 32) : TurnsOk (turnsD ts) := ⟨⟨_, rfl⟩, fun es he => by
  injection he with he
  subst he
  refine ⟨by rw [List.length_map]; omega, fun e hc => ?_⟩
  obtain ⟨p, hc, rfl⟩ := List.mem_map.mp hc
  refine ⟨⟨_, rfl⟩, fun es he => ?_⟩
  injection he with he
  subst he
  exact ⟨by show 2 < 64; decide, fun e he => by
    rcases List.mem_cons.mp he with rfl | he
    · exact ⟨_, rfl⟩
    · rw [List.mem_singleton.mp he]; exact ⟨_, rfl⟩⟩⟩
theorem kept_none {α : Type} (l : List α) : l.filter (fun _ => false) = [] := List.filter_eq_nil_iff.mpr fun _ _ => Bool.false_ne_true
theorem nil_ne : (!eqD (.lst []) (.lst [])) = false := ne_empty (c := [])
theorem E1 {d : D} (h : D.Eqs 0 d) : D.Eqs 1 (.lst [d]) := Eqs.lst (f := fun x : D => x) (xs := [d]) fun x hx => (List.mem_singleton.mp hx) ▸ h
theorem told_ne {d : D} (h : D.Eqs 0 d) : (!eqD (.lst [d]) (.lst [d])) = false := by
  rw [eqE (b := true) (E1 h) (E1 h) (by simp)]
  rfl
theorem one_ok {d : D} (h : D.Eqs 0 d) : (D.lst [d]).eqOk = true := okE (k := 1) (E1 h)
theorem cubesErr_tup {es : List D} : cubesErr (.tup es) = if (es.isEmpty || decide (6 < es.length)) = true then some .non else (es.findIdx? fun d => !isCube d).map fun i => .int (i : Nat) := rfl
theorem non_turns : TurnsOk .non := ⟨⟨_, rfl⟩, fun es he => by cases he⟩
/-- a value that is asked of freely as a cube -/
theorem cube_any {d : D} {t : String} (h : d.tyName = some t) (k : ∀ es, d = .tup es → es.length < 64 ∧ ∀ e ∈ es, D.any1 e) : CubeOk d := ⟨⟨t, h⟩, k⟩
theorem cube_of {es : List D} (h : es.length < 64) (k : ∀ e ∈ es, ∃ t, e.tyName = some t) : CubeOk (.tup es) := ⟨⟨_, rfl⟩, fun es' he => by
  injection he with he
  subst he
  exact ⟨h, k⟩⟩
theorem cubes_of {es : List D} (h : es.length < 1000) (k : ∀ e ∈ es, CubeOk e) : CubesOk (.tup es) := ⟨⟨_, rfl⟩, fun es' he => by
  injection he with he
  subst he
  exact ⟨by omega, k⟩⟩
theorem flat_cube {d : D} {t : String} (h : d.tyName = some t) (k : ∀ es, d ≠ .tup es) : CubeOk d := ⟨⟨t, h⟩, fun es he => absurd he (k es)⟩
def Bad (d : D) : Prop := CubeOk d ∧ isCube d = false
theorem bad_at {d : D} (h : Bad d) {k : Int} (h0 : 0 ≤ k) (h1 : k < 4) : cubesErr (.tup ((List.replicate k.toNat [D.tup [.int 1, .int 2]]).flatten ++ [d, .non])) = some (.int k) ∧ CubesOk (.tup ((List.replicate k.toNat [D.tup [.int 1, .int 2]]).flatten ++ [d, .non])) := by
  have e : isCube (.tup [.int 1, .int 2]) = true := by decide +kernel
  have ce : CubeOk (.tup [.int 1, .int 2]) := cube_of (by decide) fun x hx => by
    rcases List.mem_cons.mp hx with rfl | hx
    · exact ⟨_, rfl⟩
    · rw [List.mem_singleton.mp hx]; exact ⟨_, rfl⟩
  have ne : CubeOk .non := flat_cube rfl fun _ z => by cases z
  have hk : k = 0 ∨ k = 1 ∨ k = 2 ∨ k = 3 := by omega
  rcases hk with rfl | rfl | rfl | rfl
  · refine ⟨?_, cubes_of (by show 2 < 1000; decide) fun x hx => ?_⟩
    · show cubesErr (.tup [d, .non]) = some (.int 0)
      rw [cubesErr_tup]
      simp [List.findIdx?_cons, e, h.2]
    · rcases List.mem_cons.mp hx with rfl | hx
      · exact h.1
      · rw [List.mem_singleton.mp hx]; exact ne
  · refine ⟨?_, cubes_of (by show 3 < 1000; decide) fun x hx => ?_⟩
    · show cubesErr (.tup [.tup [.int 1, .int 2], d, .non]) = some (.int 1)
      rw [cubesErr_tup]
      simp [List.findIdx?_cons, e, h.2]
    · rcases List.mem_cons.mp hx with rfl | hx
      · exact ce
      rcases List.mem_cons.mp hx with rfl | hx
      · exact h.1
      · rw [List.mem_singleton.mp hx]; exact ne
  · refine ⟨?_, cubes_of (by show 4 < 1000; decide) fun x hx => ?_⟩
    · show cubesErr (.tup [.tup [.int 1, .int 2], .tup [.int 1, .int 2], d, .non]) = some (.int 2)
      rw [cubesErr_tup]
      simp [List.findIdx?_cons, e, h.2]
    · rcases List.mem_cons.mp hx with rfl | hx
      · exact ce
      rcases List.mem_cons.mp hx with rfl | hx
      · exact ce
      rcases List.mem_cons.mp hx with rfl | hx
      · exact h.1
      · rw [List.mem_singleton.mp hx]; exact ne
  · refine ⟨?_, cubes_of (by show 5 < 1000; decide) fun x hx => ?_⟩
    · show cubesErr (.tup [.tup [.int 1, .int 2], .tup [.int 1, .int 2], .tup [.int 1, .int 2], d, .non]) = some (.int 3)
      rw [cubesErr_tup]
      simp [List.findIdx?_cons, e, h.2]
    · rcases List.mem_cons.mp hx with rfl | hx
      · exact ce
      rcases List.mem_cons.mp hx with rfl | hx
      · exact ce
      rcases List.mem_cons.mp hx with rfl | hx
      · exact ce
      rcases List.mem_cons.mp hx with rfl | hx
      · exact h.1
      · rw [List.mem_singleton.mp hx]; exact ne
theorem bad_of {es : List D} (h : isCube (.tup es) = false) (h1 : es.length < 64) (k : ∀ e ∈ es, ∃ t, e.tyName = some t) : Bad (.tup es) := ⟨cube_of h1 k, h⟩
def okC : D → Bool
  | .tup es => decide (es.length < 64) && es.all fun e => e.tyName.isSome
  | d => d.tyName.isSome
def okT : D → Bool
  | .tup es => decide (es.length < 32) && es.all okC
  | d => d.tyName.isSome
theorem okC_ok {d : D} (h : okC d = true) : CubeOk d := by
  cases d with
  | tup es =>
    have h' : (decide (es.length < 64) && es.all fun e => e.tyName.isSome) = true := h
    rw [Bool.and_eq_true] at h'
    exact cube_of (of_decide_eq_true h'.1) fun e he => Option.isSome_iff_exists.mp (List.all_eq_true.mp h'.2 e he)
  | obj _ _ _ => cases h
  | adr _ => cases h
  | exc _ _ _ => cases h
  | _ => exact flat_cube rfl fun _ z => (by cases z)
theorem okT_ok {d : D} (h : okT d = true) : TurnsOk d := by
  cases d with
  | tup es =>
    have h' : (decide (es.length < 32) && es.all okC) = true := h
    rw [Bool.and_eq_true] at h'
    exact ⟨⟨_, rfl⟩, fun es' he => by
      injection he with he
      subst he
      exact ⟨of_decide_eq_true h'.1, fun e he => okC_ok (List.all_eq_true.mp h'.2 e he)⟩⟩
  | obj _ _ _ => cases h
  | adr _ => cases h
  | exc _ _ _ => cases h
  | _ => exact ⟨⟨_, rfl⟩, fun es he => (by cases he)⟩
theorem turnsE : D.Eqs 0 (.str "turns") := ⟨by decide +kernel, Nat.zero_le _, rfl⟩
theorem told_one {v : D} (h : isTurns v = false) : toldD (.tup [.tup [.int 1]]) v = .lst [.str "turns"] := by
  unfold toldD
  rw [show cubesErr (.tup [.tup [.int 1]]) = none from by decide +kernel, h]
  rfl
end Q

namespace Q
open PySem PySem.Spec PyProof.Rows L2 L3
/-! faces struck -/
def exch (cs : List (List Int)) (i : Nat) (c : List Int) : List (List Int) := cs.take i ++ c :: cs.drop (i + 1)
theorem exch_len {cs : List (List Int)} {i : Nat} {c : List Int} (h : i < cs.length) : (exch cs i c).length = cs.length := by
  unfold exch
  rw [List.length_append, List.length_take, List.length_cons, List.length_drop]
  omega
theorem exch_mem {cs : List (List Int)} {i : Nat} {c x : List Int} (h : x ∈ exch cs i c) : x = c ∨ x ∈ cs := by
  unfold exch at h
  rcases List.mem_append.mp h with h | h
  · exact .inr (List.mem_of_mem_take h)
  · rcases List.mem_cons.mp h with h | h
    · exact .inl h
    · exact .inr (List.mem_of_mem_drop h)
theorem exch_get {cs : List (List Int)} {i : Nat} {c : List Int} (h : i < cs.length) (j : Nat) : (exch cs i c).getD j [] = if j = i then c else cs.getD j [] := by
  unfold exch
  rw [List.getD_eq_getElem?_getD, List.getD_eq_getElem?_getD]
  by_cases h1 : j < i
  · rw [List.getElem?_append_left (by rw [List.length_take]; omega), List.getElem?_take, if_pos h1, if_neg (by omega)]
  · rw [List.getElem?_append_right (by rw [List.length_take]; omega), List.length_take, Nat.min_eq_left (by omega)]
    by_cases h2 : j = i
    · subst h2
      rw [Nat.sub_self, if_pos rfl]; rfl
    · rw [if_neg h2, show j - i = (j - i - 1) + 1 by omega, List.getElem?_cons_succ, List.getElem?_drop, show i + 1 + (j - i - 1) = j by omega]
def without (cs : List (List Int)) (i : Nat) (f : Int) : List (List Int) := exch cs i ((cs.getD i []).filter fun x => decide (x ≠ f))
def gExch : DF := fun ds P _ => ∃ cs, ∃ i : Nat, ∃ c, ds = [cubesD cs, .int i, cubeD c] ∧ i < cs.length ∧ cs.length ≤ 6 ∧ P (cubesD (exch cs i c))
def gWithout : DF := fun ds P _ => ∃ cs, ∃ i : Nat, ∃ f, ds = [cubesD cs, .int i, .int f] ∧ i < cs.length ∧ cs.length ≤ 6 ∧ (∀ c ∈ cs, c.length ≤ 10) ∧ P (cubesD (without cs i f))
def facesUp (cs : List (List Int)) (n : Nat) : List (Nat × Int) := (List.range n).flatMap fun j => (cs.getD j []).map fun f => (j, f)
def facesOf (cs : List (List Int)) : List (Nat × Int) := facesUp cs cs.length
def faceD (p : Nat × Int) : D := .tup [.int (p.1 : Nat), .int p.2]
def gFaces : DF := fun ds P _ => ∃ cs, ds = [cubesD cs] ∧ cs.length ≤ 6 ∧ (∀ c ∈ cs, c.length ≤ 10) ∧ P (.lst ((facesOf cs).map faceD))
def shownL (cs : List (List Int)) (ts : List (Int × Int)) (es : List D) : List D := es.filter fun e => shownB cs ts (digs e)
def gAmong : DF := fun ds P _ => ∃ cs ts es d, ds = [cubesD cs, turnsD ts, d] ∧ (d = .tup es ∨ d = .lst es) ∧ Good cs ts ∧ es.length ≤ 60 ∧ (∀ e ∈ es, isNum e = true) ∧ P (.lst (shownL cs ts es))
/-- all that is shown is shown by the rest -/
def keepsB (cs : List (List Int)) (ts : List (Int × Int)) (es : List D) (rest : List (List Int)) : Bool := (shownL cs ts es).all fun e => shownB rest ts (digs e)
def needlessOf (cs : List (List Int)) (ts : List (Int × Int)) (es : List D) : List (Nat × Int) := (facesOf cs).filter fun p => keepsB cs ts es (without cs p.1 p.2)
def leanStep (cs : List (List Int)) (ts : List (Int × Int)) (es : List D) (cur : List (List Int)) (p : Nat × Int) : List (List Int) :=
  if (!((without cur p.1 p.2).getD p.1 []).isEmpty && keepsB cs ts es (without cur p.1 p.2)) = true then without cur p.1 p.2 else cur
def leanOf (cs : List (List Int)) (ts : List (Int × Int)) (es : List D) : List (List Int) := (facesOf cs).foldl (leanStep cs ts es) cs
def gNeedV (C CB : Addr) (g : List (List Int) → List (Int × Int) → List D → D) : DF := fun ds P Z => ∃ cs ts d, ds = [setD C cs ts, d] ∧ GoodV cs ts ∧ NeededOk d ∧ match neededErr d with
  | none => P (g cs ts (itsOf d))
  | some i => Z ⟨CB, some ("index", i)⟩
def itsE : D → List D
  | .tup [_, c] => itsOf c
  | _ => []
def envE (v : D) : D → L3.Env
  | .tup [i, c] => [.val v, .val i, .val c, .emp]
  | _ => []
def fE : D → D → D
  | .tup [i, _], e => .tup [i, e]
  | _, _ => .non
theorem faces_its (cs : List (List Int)) : [] ++ (enumD (cs.map cubeD)).flatMap (fun d => ((itsE d).filter fun _ => true).map (fE d)) = (facesOf cs).map faceD := by
  rw [Q.enum_zip, List.nil_append, List.flatMap_map, facesOf, facesUp, List.map_flatMap, zip_range, List.flatMap_map]
  congr 1
  funext j
  rw [kept_all, List.map_map]
  show ((cs.getD j []).map D.int).map _ = _
  rw [List.map_map]
  rfl
theorem faces_sum {cs : List (List Int)} (hc : ∀ c ∈ cs, c.length ≤ 10) : ((enumD (cs.map cubeD)).map fun d => (itsE d).length).sum ≤ cs.length * 10 := by
  rw [Q.enum_zip, List.map_map]
  have hb : ∀ (l : List (List Int × Nat)), (∀ p ∈ l, p.1.length ≤ 10) → (l.map ((fun d => (itsE d).length) ∘ fun p : List Int × Nat => D.tup [.int (p.2 : Nat), cubeD p.1])).sum ≤ l.length * 10 := fun l => by
    induction l with
    | nil => intro _; exact Nat.le_refl _
    | cons p l ih =>
      intro h
      rw [List.map_cons, List.sum_cons, List.length_cons]
      have h1 := ih fun q hq => h q (List.mem_cons_of_mem _ hq)
      have h2 : ((fun d => (itsE d).length) ∘ fun p : List Int × Nat => D.tup [.int (p.2 : Nat), cubeD p.1]) p = p.1.length := List.length_map _
      have h3 := h p List.mem_cons_self
      omega
  have := hb cs.zipIdx fun p hp => hc _ (by obtain ⟨_, _, e⟩ := List.mem_zipIdx hp; rw [e]; exact List.getElem_mem _)
  rw [List.length_zipIdx] at this
  exact this
theorem faces_in {cs : List (List Int)} {n : Nat} {p : Nat × Int} (h : p ∈ facesUp cs n) : p.1 < n ∧ p.2 ∈ cs.getD p.1 [] := by
  obtain ⟨j, hj, h2⟩ := List.mem_flatMap.mp h
  obtain ⟨f, hf, rfl⟩ := List.mem_map.mp h2
  exact ⟨List.mem_range.mp hj, hf⟩
theorem faces_len {cs : List (List Int)} (hc : ∀ c ∈ cs, c.length ≤ 10) : ∀ n, (facesUp cs n).length ≤ n * 10
  | 0 => Nat.le_refl _
  | n + 1 => by
    have ih := faces_len hc n
    unfold facesUp at ih ⊢
    rw [List.range_succ, List.flatMap_append, List.length_append, List.flatMap_singleton, List.length_map]
    have : (cs.getD n []).length ≤ 10 := by
      rw [List.getD_eq_getElem?_getD]
      cases h : cs[n]? with
      | none => exact Nat.zero_le _
      | some c => exact hc c (List.mem_of_getElem? h)
    omega
theorem faces_succ (cs : List (List Int)) (n : Nat) : facesUp cs (n + 1) = facesUp cs n ++ (cs.getD n []).map fun f => (n, f) := by
  unfold facesUp
  rw [List.range_succ, List.flatMap_append, List.flatMap_singleton]
theorem face_eqs (p : Nat × Int) : D.Eqs 1 (faceD p) := Eqs.tup (f := D.int) (xs := [(p.1 : Int), p.2]) fun _ _ => Eqs.int
theorem nums_eqs {es : List D} (h : ∀ e ∈ es, isNum e = true) : D.Eqs 1 (.lst es) := by
  have := Eqs.lst (f := fun d : D => d) (k := 0) (xs := es) fun e he => by
    obtain ⟨z, rfl, _⟩ := numOf (h e he)
    exact ⟨(num_lays (h _ he)).2, Nat.zero_le _, rfl⟩
  rw [List.map_id'] at this
  exact this
theorem shown_in {cs : List (List Int)} {ts : List (Int × Int)} {es : List D} (h : ∀ e ∈ es, isNum e = true) : ∀ e ∈ shownL cs ts es, isNum e = true := fun e he => h e (List.mem_filter.mp he).1
theorem keeps_eq {cs rest : List (List Int)} {ts : List (Int × Int)} {es : List D} (h : ∀ e ∈ es, isNum e = true) : eqD (.lst (shownL rest ts (shownL cs ts es))) (.lst (shownL cs ts es)) = keepsB cs ts es rest := by
  have h1 := shown_in (cs := cs) (ts := ts) h
  rw [eqE (b := keepsB cs ts es rest) (nums_eqs (shown_in h1)) (nums_eqs h1)]
  unfold keepsB
  constructor
  · intro h2
    show D.lst ((shownL cs ts es).filter fun e => shownB rest ts (digs e)) = _
    rw [List.filter_eq_self.mpr (fun e he => List.all_eq_true.mp h2 e he)]
  · intro h2
    injection h2 with h2
    rw [List.all_eq_true]
    intro e he
    rw [← h2] at he
    exact (List.mem_filter.mp he).2
theorem without_good {cs : List (List Int)} {ts : List (Int × Int)} {i : Nat} {f : Int} (h : Good cs ts) (hi : i < cs.length) : Good (without cs i f) ts where
  ne := fun e => by
    have := exch_len (c := (cs.getD i []).filter fun x => decide (x ≠ f)) hi
    rw [show exch cs i _ = without cs i f from rfl, e] at this
    simp at this; omega
  few := by show (exch _ _ _).length ≤ 6; rw [exch_len hi]; exact h.few
  cub := fun c hc => by
    rcases exch_mem hc with rfl | hc
    · refine Nat.le_trans (List.length_filter_le _ _) ?_
      rw [List.getD_eq_getElem?_getD, List.getElem?_eq_getElem hi]
      exact h.cub _ (List.getElem_mem hi)
    · exact h.cub c hc
  trn := h.trn
  nod := h.nod
theorem without_goodV {cs : List (List Int)} {ts : List (Int × Int)} {i : Nat} {f : Int} (h : GoodV cs ts) (hi : i < cs.length) (hn : (without cs i f).getD i [] ≠ []) : GoodV (without cs i f) ts where
  ne := (without_good h.good hi).ne
  few := (without_good h.good hi).few
  cub := fun c hc => by
    rcases exch_mem hc with rfl | hc
    · have e : (without cs i f).getD i [] = (cs.getD i []).filter fun x => decide (x ≠ f) := by show (exch _ _ _).getD i [] = _; rw [exch_get hi, if_pos rfl]
      rw [e] at hn
      have hm : cs.getD i [] ∈ cs := by rw [List.getD_eq_getElem?_getD, List.getElem?_eq_getElem hi]; exact List.getElem_mem hi
      obtain ⟨_, h2, h3⟩ := h.cub _ hm
      exact ⟨hn, h2.filter _, fun x hx => h3 x (List.mem_filter.mp hx).1⟩
    · exact h.cub c hc
  trn := h.trn
/-! the law's side -/
def isCubes (d : D) (cs : List (List Int)) : Prop := d = cubesD cs ∨ d = .lst (cs.map cubeD)
def gCountL : DF := fun ds P _ => ∃ dc cs ts d, ds = [dc, turnsD ts, d] ∧ isCubes dc cs ∧ Good cs ts ∧ isNum d = true ∧ P (.int (waysOf cs ts (digs d)).length)
def stillB (cs : List (List Int)) (ts : List (Int × Int)) (es : List D) (rest : List (List Int)) : Bool := es.all fun e => !shownB cs ts (digs e) || shownB rest ts (digs e)
def gIsNL : DF := fun ds P _ => ∃ dc cs ts es, ∃ i : Nat, ∃ f, ds = [dc, turnsD ts, .tup es, .int i, .int f] ∧ isCubes dc cs ∧ Good cs ts ∧ i < cs.length ∧ es.length ≤ 60 ∧ (∀ e ∈ es, isNum e = true) ∧ P (.bl (stillB cs ts es (without cs i f)))
theorem still_keeps (cs rest : List (List Int)) (ts : List (Int × Int)) (es : List D) : stillB cs ts es rest = keepsB cs ts es rest := by
  unfold stillB keepsB shownL
  rw [List.all_filter]
theorem still_cur {cs cur rest : List (List Int)} {ts : List (Int × Int)} {es : List D} (h : ∀ e ∈ es, shownB cur ts (digs e) = shownB cs ts (digs e)) : stillB cur ts es rest = keepsB cs ts es rest := by
  rw [← still_keeps]
  unfold stillB
  rw [Bool.eq_iff_iff, List.all_eq_true, List.all_eq_true]
  constructor <;> intro h2 e he <;> have h3 := h2 e he <;> rw [h e he] at * <;> exact h3
theorem pos_len (ws : List (List Int)) : decide ((0 : Int) < (ws.length : Nat)) = !ws.isEmpty := by cases ws <;> simp
theorem zero_len (ws : List (List Int)) : decide (((ws.length : Nat) : Int) = 0) = ws.isEmpty := by cases ws <;> simp <;> omega
end Q

namespace Q
open PySem PySem.Spec PyProof.Rows L2 L3
/-! fewer faces show less -/
structure Less (rest cs : List (List Int)) : Prop where
  len : rest.length = cs.length
  sub : ∀ j, ∀ x ∈ rest.getD j [], x ∈ cs.getD j []
theorem hasF_mono {c c' : List Int} {f : Int} {ts : List (Int × Int)} (h : ∀ x ∈ c, x ∈ c') (hh : hasF c f ts = true) : hasF c' f ts = true := by
  unfold hasF at hh ⊢
  rw [List.any_eq_true] at hh ⊢
  obtain ⟨x, h1, h2⟩ := hh
  exact ⟨x, h1, decide_eq_true (h x (of_decide_eq_true h2))⟩
theorem withL_mem {cs : List (List Int)} {ts : List (Int × Int)} {f c : Int} : c ∈ withL cs ts f ↔ ∃ j : Nat, j < cs.length ∧ c = j ∧ hasF (cs.getD j []) f ts = true := by
  rw [← withT_all]
  unfold withT
  constructor
  · intro h
    obtain ⟨j, hj, rfl⟩ := List.mem_map.mp h
    obtain ⟨h1, h2⟩ := List.mem_filter.mp hj
    exact ⟨j, List.mem_range.mp h1, rfl, h2⟩
  · rintro ⟨j, h1, rfl, h2⟩
    exact List.mem_map.mpr ⟨j, List.mem_filter.mpr ⟨List.mem_range.mpr h1, h2⟩, rfl⟩
theorem withL_mono {rest cs : List (List Int)} {ts : List (Int × Int)} (h : Less rest cs) (f : Int) : ∀ c ∈ withL rest ts f, c ∈ withL cs ts f := fun c hc => by
  obtain ⟨j, h1, rfl, h2⟩ := withL_mem.mp hc
  exact withL_mem.mpr ⟨j, by rw [← h.len]; exact h1, rfl, hasF_mono (h.sub j) h2⟩
theorem waysBy_mono {rest cs : List (List Int)} {ts : List (Int × Int)} (h : Less rest cs) : ∀ (ns : List Int) (a b : List (List Int)), (∀ w ∈ a, w ∈ b) → ∀ w ∈ (ns.map (withL rest ts)).foldl stepW a, w ∈ (ns.map (withL cs ts)).foldl stepW b
  | [], a, b, hab, w, hw => hab w hw
  | n :: ns, a, b, hab, w, hw => by
    rw [List.map_cons, List.foldl_cons] at hw ⊢
    refine waysBy_mono h ns _ _ (fun w hw => ?_) w hw
    obtain ⟨w0, h0, h1⟩ := List.mem_flatMap.mp hw
    obtain ⟨c, h2, rfl⟩ := List.mem_map.mp h1
    obtain ⟨h3, h4⟩ := List.mem_filter.mp h2
    exact List.mem_flatMap.mpr ⟨w0, hab w0 h0, List.mem_map.mpr ⟨c, List.mem_filter.mpr ⟨withL_mono h n c h3, h4⟩, rfl⟩⟩
theorem shown_mono {rest cs : List (List Int)} {ts : List (Int × Int)} (h : Less rest cs) {ns : List Int} (hs : shownB rest ts ns = true) : shownB cs ts ns = true := by
  unfold shownB waysOf at hs ⊢
  cases hr : waysBy (ns.map (withL rest ts)) with
  | nil => rw [hr] at hs; cases hs
  | cons w ws =>
    have hm := waysBy_mono (ts := ts) h ns [[]] [[]] (fun _ h => h) w (show w ∈ waysBy _ by rw [hr]; exact List.mem_cons_self)
    cases hc : waysBy (ns.map (withL cs ts)) with
    | nil => rw [show (ns.map (withL cs ts)).foldl stepW [[]] = waysBy (ns.map (withL cs ts)) from rfl, hc] at hm; cases hm
    | cons _ _ => rfl
theorem without_get {cs : List (List Int)} {i : Nat} {f : Int} (hi : i < cs.length) (j : Nat) : (without cs i f).getD j [] = if j = i then (cs.getD i []).filter (fun x => decide (x ≠ f)) else cs.getD j [] := exch_get hi j
theorem without_less {cs : List (List Int)} {i : Nat} {f : Int} (hi : i < cs.length) : Less (without cs i f) cs := ⟨exch_len hi, fun j x hx => by
  rw [without_get hi] at hx
  by_cases h : j = i
  · rw [if_pos h] at hx
    rw [h]
    exact (List.mem_filter.mp hx).1
  · rw [if_neg h] at hx
    exact hx⟩
theorem Less.trans {a b c : List (List Int)} (h1 : Less a b) (h2 : Less b c) : Less a c := ⟨h1.len.trans h2.len, fun j x hx => h2.sub j x (h1.sub j x hx)⟩
theorem Less.refl (a : List (List Int)) : Less a a := ⟨rfl, fun _ _ h => h⟩
theorem getD_mem {cs : List (List Int)} {i : Nat} (hi : i < cs.length) : cs.getD i [] ∈ cs := by
  rw [List.getD_eq_getElem?_getD, List.getElem?_eq_getElem hi]
  exact List.getElem_mem hi
/-! what stands while faces are struck -/
structure LeanInv (cs : List (List Int)) (ts : List (Int × Int)) (es : List D) (todo : List (Nat × Int)) (cur : List (List Int)) : Prop where
  less : Less cur cs
  good : GoodV cur ts
  same : ∀ e ∈ es, shownB cur ts (digs e) = shownB cs ts (digs e)
  left : ∀ p ∈ todo, p.2 ∈ cur.getD p.1 []
theorem lean_step {cs cur : List (List Int)} {ts : List (Int × Int)} {es : List D} {p : Nat × Int} {todo : List (Nat × Int)} (h : LeanInv cs ts es (p :: todo) cur) (hi : p.1 < cs.length) (nd : p ∉ todo) : LeanInv cs ts es todo (leanStep cs ts es cur p) := by
  have hi2 : p.1 < cur.length := by rw [h.less.len]; exact hi
  unfold leanStep
  by_cases hc : (!((without cur p.1 p.2).getD p.1 []).isEmpty && keepsB cs ts es (without cur p.1 p.2)) = true
  · rw [if_pos hc]
    rw [Bool.and_eq_true] at hc
    have hne : (without cur p.1 p.2).getD p.1 [] ≠ [] := fun e => by rw [e] at hc; cases hc.1
    refine ⟨(without_less hi2).trans h.less, without_goodV h.good hi2 hne, fun e he => ?_, fun q hq => ?_⟩
    · rw [Bool.eq_iff_iff]
      constructor
      · exact shown_mono ((without_less hi2).trans h.less)
      · exact fun hs => List.all_eq_true.mp hc.2 e (List.mem_filter.mpr ⟨he, hs⟩)
    · have hq2 := h.left q (List.mem_cons_of_mem _ hq)
      rw [without_get hi2]
      by_cases hj : q.1 = p.1
      · rw [if_pos hj]
        rw [hj] at hq2
        refine List.mem_filter.mpr ⟨hq2, decide_eq_true fun e => nd ?_⟩
        rw [show p = q from Prod.ext hj.symm e.symm]
        exact hq
      · rw [if_neg hj]; exact hq2
  · rw [if_neg hc]
    exact ⟨h.less, h.good, h.same, fun q hq => h.left q (List.mem_cons_of_mem _ hq)⟩
theorem faces_nodup {cs : List (List Int)} (hp : ∀ c ∈ cs, c.Nodup) : ∀ n, n ≤ cs.length → (facesUp cs n).Nodup
  | 0, _ => List.nodup_nil
  | n + 1, hn => by
    rw [faces_succ, List.nodup_append]
    refine ⟨faces_nodup hp n (by omega), ?_, fun a ha b hb e => ?_⟩
    · exact List.Pairwise.map _ (fun a b h e => h (congrArg Prod.snd e)) (hp _ (getD_mem (by omega)))
    · obtain ⟨x, _, rfl⟩ := List.mem_map.mp hb
      have := (faces_in ha).1
      rw [e] at this
      simp at this
theorem lean_inv {cs : List (List Int)} {ts : List (Int × Int)} {es : List D} (hg : GoodV cs ts) : ∀ (did todo : List (Nat × Int)) (cur : List (List Int)), LeanInv cs ts es (did ++ todo) cur → (did ++ todo).Nodup → (∀ p ∈ did ++ todo, p.1 < cs.length) → LeanInv cs ts es todo (did.foldl (leanStep cs ts es) cur)
  | [], todo, cur, h, _, _ => h
  | p :: did, todo, cur, h, nd, hb => by
    rw [List.foldl_cons]
    rw [List.cons_append] at h nd hb
    have nd' := List.nodup_cons.mp nd
    exact lean_inv hg did todo _ (lean_step h (hb p List.mem_cons_self) nd'.1) nd'.2 fun q hq => hb q (List.mem_cons_of_mem _ hq)
theorem lean_at {cs : List (List Int)} {ts : List (Int × Int)} {es : List D} (hg : GoodV cs ts) {did todo : List (Nat × Int)} (he : did ++ todo = facesOf cs) : LeanInv cs ts es todo (did.foldl (leanStep cs ts es) cs) := by
  refine lean_inv hg did todo cs ⟨Less.refl cs, hg, fun _ _ => rfl, fun p hp => ?_⟩ ?_ ?_
  · rw [he] at hp
    exact (faces_in hp).2
  · rw [he]
    exact faces_nodup (fun c hc => (hg.cub c hc).2.1.imp fun h => Int.ne_of_lt h) _ (Nat.le_refl _)
  · intro p hp
    rw [he] at hp
    exact (faces_in hp).1
theorem strike_len {c : List Int} {f : Int} (h : c.Pairwise (· < ·)) (hf : f ∈ c) : decide ((1 : Int) < (c.length : Nat)) = !(c.filter fun x => decide (x ≠ f)).isEmpty := by
  have key : ∀ c : List Int, c.Pairwise (· < ·) → f ∈ c → (c.filter fun x => decide (x ≠ f)).length + 1 = c.length := fun c => by
    induction c with
    | nil => intro _ h; cases h
    | cons x c ih =>
      intro hp hm
      have hp' := List.pairwise_cons.mp hp
      rw [List.filter_cons]
      by_cases hx : x = f
      · subst hx
        rw [decide_eq_false (fun z => z rfl), if_neg Bool.false_ne_true, List.filter_eq_self.mpr fun y hy => decide_eq_true (Int.ne_of_gt (hp'.1 y hy))]
        rfl
      · rw [decide_eq_true hx, if_pos rfl, List.length_cons, List.length_cons, ih hp'.2 ((List.mem_cons.mp hm).resolve_left fun e => hx e.symm)]
  have := key c h hf
  cases hl : c.filter fun x => decide (x ≠ f) with
  | nil => rw [hl] at this; exact decide_eq_false (by simp at this; omega)
  | cons y ys => rw [hl] at this; exact decide_eq_true (by simp at this; omega)
theorem tup_ne (c : List Int) : (!eqD (intsT c) (.tup [])) = !c.isEmpty := by
  show (!eqD (intsT c) (intsT [])) = _
  rw [eqE (b := c.isEmpty) (Eqs.ints c) (Eqs.ints []) (by cases c with
    | nil => exact ⟨fun _ => rfl, fun _ => rfl⟩
    | cons x c => exact ⟨fun h => (by cases h), fun h => (by cases h)⟩)]
theorem ixN_nat {n i : Nat} (h : i < n) : ixN n (i : Int) = some i := by
  unfold ixN
  rw [if_pos (by omega), if_pos (by omega)]
  rfl
theorem set_exch {cs : List (List Int)} {i : Nat} {c : List Int} (h : i < cs.length) : (cs.map cubeD).set i (cubeD c) = (exch cs i c).map cubeD := by
  rw [← List.map_set]
  congr 1
  apply List.ext_getElem?
  intro j
  unfold exch
  by_cases hj : i = j
  · subst hj
    rw [List.getElem?_set_self h, List.getElem?_append_right (by rw [List.length_take]; omega), List.length_take, Nat.min_eq_left (by omega), Nat.sub_self]
    rfl
  · rw [List.getElem?_set_ne hj]
    by_cases h1 : j < i
    · rw [List.getElem?_append_left (by rw [List.length_take]; omega), List.getElem?_take, if_pos h1]
    · rw [List.getElem?_append_right (by rw [List.length_take]; omega), List.length_take, Nat.min_eq_left (by omega), show j - i = (j - i - 1) + 1 by omega, List.getElem?_cons_succ, List.getElem?_drop, show i + 1 + (j - i - 1) = j by omega]
theorem get_cube {cs : List (List Int)} {i : Nat} (hi : i < cs.length) : (cs.map cubeD)[i]? = some (cubeD (cs.getD i [])) := by
  rw [List.getElem?_map, List.getElem?_eq_getElem hi, List.getD_eq_getElem?_getD, List.getElem?_eq_getElem hi]; rfl
theorem eqok_faces (l : List (Nat × Int)) (h : l.length ≤ 1000) : EqOk 3 (.lst (l.map faceD)) := .inr ⟨_, .inr rfl, by rw [List.length_map]; omega, fun e he => by
  obtain ⟨p, _, rfl⟩ := List.mem_map.mp he
  exact .inr ⟨_, .inl rfl, by show 2 ≤ 1000000; decide, fun x hx => by
    rcases List.mem_cons.mp hx with rfl | hx
    · exact .inl ⟨rfl, rfl⟩
    · rw [List.mem_singleton.mp hx]; exact .inl ⟨rfl, rfl⟩⟩⟩
theorem eqok_both (cs : List (List Int)) (ts : List (Int × Int)) (h1 : cs.length ≤ 6) (h2 : ∀ c ∈ cs, c.length ≤ 10) (h3 : ts.length ≤ 5) : EqOk 3 (.tup [cubesD cs, turnsD ts]) := .inr ⟨_, .inl rfl, by show 2 ≤ 1000000; decide, fun e he => by
  rcases List.mem_cons.mp he with rfl | he
  · exact eqok_cubes cs h1 h2
  · rw [List.mem_singleton.mp he]; exact eqok_turns ts h3⟩
end Q

/-! The choices of cubes that are taken, all in one number. -/
namespace Q
open PySem PySem.Spec PyProof.Rows L2 L3
def wo (c : Nat) : Nat := [0x5555555555555555, 0x3333333333333333, 0x0F0F0F0F0F0F0F0F, 0x00FF00FF00FF00FF, 0x0000FFFF0000FFFF, 0x00000000FFFFFFFF].getD c 0
theorem wo_bit : ∀ c < 6, ∀ j < 64, (wo c).testBit j = !(j.testBit c) := by decide +kernel
theorem wo_lt : ∀ c < 6, wo c < 2 ^ 64 := by decide +kernel
theorem or_put : ∀ c < 6, ∀ j < 64, j.testBit c = false → j ||| 2 ^ c = j + 2 ^ c ∧ j + 2 ^ c < 64 := by decide +kernel
def behN (T : Nat) (l : List Int) : Nat := l.foldl (fun f c => f ||| ((T &&& wo c.toNat) <<< (2 ^ c.toNat))) 0
theorem lt_of_bit {T k : Nat} (h : T < 2 ^ 64) (b : T.testBit k = true) : k < 64 := by
  apply Decidable.byContradiction
  intro z
  rw [Nat.testBit_lt_two_pow (Nat.lt_of_lt_of_le h (Nat.pow_le_pow_right (by decide) (by omega)))] at b
  cases b
theorem one_bit {T c k : Nat} (hT : T < 2 ^ 64) (hc : c < 6) : ((T &&& wo c) <<< (2 ^ c)).testBit k = true ↔ ∃ j, j < 64 ∧ T.testBit j = true ∧ j.testBit c = false ∧ k = j ||| 2 ^ c := by
  rw [Nat.testBit_shiftLeft, Bool.and_eq_true, decide_eq_true_iff, Nat.testBit_and, Bool.and_eq_true]
  constructor
  · rintro ⟨h1, h2, h3⟩
    have h4 := lt_of_bit hT h2
    rw [wo_bit c hc _ h4, Bool.not_eq_true'] at h3
    refine ⟨_, h4, h2, h3, ?_⟩
    rw [(or_put c hc _ h4 h3).1]
    omega
  · rintro ⟨j, h1, h2, h3, rfl⟩
    rw [(or_put c hc _ h1 h3).1, Nat.add_sub_cancel]
    exact ⟨by omega, h2, by rw [wo_bit c hc _ h1, h3]; rfl⟩
theorem behN_bit {T : Nat} (hT : T < 2 ^ 64) {l : List Int} (hl : ∀ c ∈ l, 0 ≤ c ∧ c < 6) (k : Nat) : (behN T l).testBit k = true ↔ ∃ c ∈ l, ∃ j, j < 64 ∧ T.testBit j = true ∧ j.testBit c.toNat = false ∧ k = j ||| 2 ^ c.toNat := by
  have key : ∀ (l : List Int) (f : Nat), (∀ c ∈ l, 0 ≤ c ∧ c < 6) → ((l.foldl (fun f c => f ||| ((T &&& wo c.toNat) <<< (2 ^ c.toNat))) f).testBit k = true ↔ f.testBit k = true ∨ ∃ c ∈ l, ∃ j, j < 64 ∧ T.testBit j = true ∧ j.testBit c.toNat = false ∧ k = j ||| 2 ^ c.toNat) := fun l => by
    induction l with
    | nil => intro f _; simp
    | cons c l ih =>
      intro f h
      rw [List.foldl_cons, ih _ fun x hx => h x (List.mem_cons_of_mem _ hx), Nat.testBit_or, Bool.or_eq_true]
      have hc := h c List.mem_cons_self
      rw [one_bit hT (show c.toNat < 6 by omega)]
      constructor
      · rintro ((h1 | h1) | ⟨x, hx, h1⟩)
        · exact .inl h1
        · exact .inr ⟨c, List.mem_cons_self, h1⟩
        · exact .inr ⟨x, List.mem_cons_of_mem _ hx, h1⟩
      · rintro (h1 | ⟨x, hx, h1⟩)
        · exact .inl (.inl h1)
        · rcases List.mem_cons.mp hx with rfl | hx
          · exact .inl (.inr h1)
          · exact .inr ⟨x, hx, h1⟩
  rw [behN, key l 0 hl, Nat.zero_testBit]
  simp
theorem behN_lt {T : Nat} (hT : T < 2 ^ 64) {l : List Int} (hl : ∀ c ∈ l, 0 ≤ c ∧ c < 6) : behN T l < 2 ^ 64 := by
  refine Nat.lt_pow_two_of_testBit _ fun k hk => ?_
  apply Decidable.byContradiction
  intro z
  rw [Bool.not_eq_false, behN_bit hT hl] at z
  obtain ⟨c, hc, j, h1, h2, h3, rfl⟩ := z
  have := hl c hc
  rw [(or_put c.toNat (by omega) j h1 h3).1] at hk
  have := (or_put c.toNat (by omega) j h1 h3).2
  omega
/-- the bits of T are the masks of the ways -/
structure Tk (T : Nat) (ws : List (List Int)) : Prop where
  lt : T < 2 ^ 64
  bit : ∀ k, T.testBit k = true ↔ ∃ w ∈ ws, maskN w = k
theorem Tk.one : Tk 1 [[]] where
  lt := by decide
  bit := fun k => by
    rw [show (1 : Nat) = 2 ^ 0 from rfl, Nat.testBit_two_pow, decide_eq_true_iff]
    constructor
    · rintro rfl
      exact ⟨[], List.mem_singleton.mpr rfl, rfl⟩
    · rintro ⟨w, hw, rfl⟩
      rw [List.mem_singleton.mp hw]; rfl
theorem Tk.step {T : Nat} {ws : List (List Int)} {l : List Int} (h : Tk T ws) (hw : ∀ w ∈ ws, ∀ c ∈ w, 0 ≤ c ∧ c < 6) (hl : ∀ c ∈ l, 0 ≤ c ∧ c < 6) : Tk (behN T l) (stepW ws l) where
  lt := behN_lt h.lt hl
  bit := fun k => by
    rw [behN_bit h.lt hl]
    constructor
    · rintro ⟨c, hc, j, h1, h2, h3, rfl⟩
      obtain ⟨w, hw1, rfl⟩ := (h.bit j).mp h2
      rw [maskN_bit (fun x hx => (hw w hw1 x hx).1) (hl c hc).1] at h3
      exact ⟨w ++ [c], List.mem_flatMap.mpr ⟨w, hw1, List.mem_map.mpr ⟨c, List.mem_filter.mpr ⟨hc, by rw [h3]; rfl⟩, rfl⟩⟩, by rw [maskN_snoc]⟩
    · rintro ⟨w2, hw2, rfl⟩
      obtain ⟨w, h0, h1⟩ := List.mem_flatMap.mp hw2
      obtain ⟨c, h2, rfl⟩ := List.mem_map.mp h1
      obtain ⟨h3, h4⟩ := List.mem_filter.mp h2
      refine ⟨c, h3, maskN w, maskN_lt fun x hx => (hw w h0 x hx).2, (h.bit _).mpr ⟨w, h0, rfl⟩, ?_, by rw [maskN_snoc]⟩
      rw [maskN_bit (fun x hx => (hw w h0 x hx).1) (hl c h3).1]
      rw [Bool.not_eq_true'] at h4
      exact h4
def takeN (ls : List (List Int)) : Nat := ls.foldl behN 1
def EntOk (l : List Int) : Prop := ∀ c ∈ l, 0 ≤ c ∧ c < 6
theorem ent_with {cs : List (List Int)} {ts : List (Int × Int)} (h : cs.length ≤ 6) (f : Int) : EntOk (withL cs ts f) := fun c hc => by have := withL_ent hc; omega
theorem tk_ways : ∀ (n : Nat) (ls : List (List Int)), ls.length = n → (∀ l ∈ ls, EntOk l) → Tk (takeN ls) (waysBy ls)
  | 0, ls, h, _ => by
    rw [List.length_eq_zero_iff.mp h]
    exact Tk.one
  | n + 1, ls, h, hb => by
    obtain ⟨l2, l, rfl⟩ : ∃ l2 l, ls = l2 ++ [l] := ⟨ls.dropLast, ls.getLast (by intro e; rw [e] at h; cases h), (List.dropLast_concat_getLast _).symm⟩
    have ih := tk_ways n l2 (by simp at h; omega) fun x hx => hb x (by simp [hx])
    rw [waysBy_snoc]
    unfold takeN
    rw [List.foldl_append]
    refine ih.step (fun w hw c hc => ?_) (hb l (by simp))
    obtain ⟨l', hl', h'⟩ := waysBy_ent _ l2 rfl w hw c hc
    exact hb l' (by simp [hl']) c h'
theorem Tk.pos {T : Nat} {ws : List (List Int)} (h : Tk T ws) : decide ((0 : Int) < (T : Nat)) = !ws.isEmpty := by
  cases ws with
  | nil =>
    have : T = 0 := Nat.eq_of_testBit_eq fun k => by
      rw [Nat.zero_testBit]
      cases hb : T.testBit k with
      | false => rfl
      | true =>
        obtain ⟨w, hw, _⟩ := (h.bit k).mp hb
        cases hw
    rw [this]; rfl
  | cons w ws =>
    have hb := (h.bit (maskN w)).mpr ⟨w, List.mem_cons_self, rfl⟩
    have : T ≠ 0 := fun z => by rw [z, Nat.zero_testBit] at hb; cases hb
    exact decide_eq_true (by omega)
theorem fold_lt : ∀ {ls : List (List Int)} {T : Nat}, T < 2 ^ 64 → (∀ l ∈ ls, EntOk l) → ls.foldl behN T < 2 ^ 64
  | [], _, h, _ => h
  | l :: ls, _, h, hb => fold_lt (ls := ls) (behN_lt h (hb l List.mem_cons_self)) fun x hx => hb x (List.mem_cons_of_mem _ hx)
theorem takeN_shown {cs : List (List Int)} {ts : List (Int × Int)} (h : cs.length ≤ 6) (ns : List Int) : decide ((0 : Int) < (takeN (ns.map (withL cs ts)) : Nat)) = shownB cs ts ns :=
  (tk_ways _ _ rfl fun l hl => by obtain ⟨n, _, rfl⟩ := List.mem_map.mp hl; exact ent_with h n).pos
def lastF (f : Int) (ts : List (Int × Int)) : Int := (facesFor f ts).getLastD 0
theorem last_at (f : Int) (ts : List (Int × Int)) : atI ((facesFor f ts).map D.int) (-1) = some (.int (lastF f ts)) := by
  unfold lastF facesFor
  split
  · exact atI_last [D.int _] (D.int _)
  · exact atI_last [] (D.int f)
theorem hasF_two (c : List Int) (f : Int) (ts : List (Int × Int)) : hasF c f ts = (decide (leastF f ts ∈ c) || decide (lastF f ts ∈ c)) := by
  unfold hasF leastF lastF facesFor
  split
  · simp
  · simp
theorem bits_step {T f : Nat} {c : Int} (h0 : 0 ≤ c) : Builtin.bitOr (f : Int) (Builtin.bitAnd (T : Int) (wo c.toNat : Nat) * 2 ^ ((2 ^ c.toNat : Nat) : Int).toNat) = ((f ||| ((T &&& wo c.toNat) <<< (2 ^ c.toNat)) : Nat) : Int) := by
  rw [bitAnd_pp (Int.natCast_nonneg _) (Int.natCast_nonneg _), Int.toNat_natCast, Int.toNat_natCast, Int.toNat_natCast]
  have e : (((T &&& wo c.toNat : Nat) : Int) * (2 : Int) ^ (2 ^ c.toNat)) = (((T &&& wo c.toNat) <<< (2 ^ c.toNat) : Nat) : Int) := by
    rw [Nat.shiftLeft_eq]; simp
  rw [e, bitOr_nn (Int.natCast_nonneg _) (Int.natCast_nonneg _)]
  rfl
theorem wo_at {c : Int} (h : 0 ≤ c ∧ c < 6) : atI ([6148914691236517205, 3689348814741910323, 1085102592571150095, 71777214294589695, 281470681808895, 4294967295].map D.int) c = some (.int (wo c.toNat : Nat)) := by
  obtain ⟨k, rfl⟩ : ∃ k : Nat, c = k := ⟨c.toNat, by omega⟩
  have hk : k < 6 := by omega
  refine atI_nat ?_
  rw [Int.toNat_natCast]
  match k, hk with
  | 0, _ => rfl
  | 1, _ => rfl
  | 2, _ => rfl
  | 3, _ => rfl
  | 4, _ => rfl
  | 5, _ => rfl
theorem shl_ok {T c : Nat} (hT : T < 2 ^ 64) (hc : c < 6) : CShl (Builtin.bitAnd (T : Int) (wo c : Nat)) ((2 ^ c : Nat) : Int) := by
  refine ⟨Int.natCast_nonneg _, ?_⟩
  rw [bitAnd_pp (Int.natCast_nonneg _) (Int.natCast_nonneg _), Int.toNat_natCast, Int.toNat_natCast]
  have h1 : T &&& wo c < 2 ^ 64 := Nat.lt_of_le_of_lt Nat.and_le_left hT
  have h2 : Builtin.Int.intBits ((T &&& wo c : Nat) : Int) ≤ 64 := by
    unfold Builtin.Int.intBits
    split
    · decide
    · rename_i hn
      have h0 : ((T &&& wo c : Nat) : Int).natAbs ≠ 0 := fun z => hn (by
        have : (T &&& wo c) = 0 := by simpa using z
        rw [this]; rfl)
      have := (Nat.log2_lt h0).mpr (show ((T &&& wo c : Nat) : Int).natAbs < 2 ^ 64 from h1)
      omega
  have h3 : (2 ^ c : Nat) ≤ 2 ^ 6 := Nat.pow_le_pow_right (by decide) (by omega)
  have h4 : ((2 ^ c : Nat) : Int) ≤ 64 := by exact_mod_cast h3
  omega
/-- the promises -/
def gInt : DF := fun ds P _ => ∃ d, ds = [d] ∧ D.any1 d ∧ P (.bl (isInt d && !isBl d))
def gBehind : DF := fun ds P _ => ∃ (T : Nat) (l : List Int), ds = [.int (T : Int), intsT l] ∧ T < 2 ^ 64 ∧ EntOk l ∧ P (.int (behN T l : Nat))
def gBehAll : DF := fun ds P _ => ∃ (T : Nat) (ls : List (List Int)) (d : D), ds = [.int (T : Int), d] ∧ (d = .lst (ls.map intsT) ∨ d = .tup (ls.map intsT)) ∧ T < 2 ^ 64 ∧ (∀ l ∈ ls, EntOk l) ∧ P (.int (ls.foldl behN T : Nat))
def figsAll : List Int := [0, 1, 2, 3, 4, 5, 6, 7, 8, 9]
def gByFig : DF := fun ds P _ => ∃ cs ts, ds = [cubesD cs, turnsD ts] ∧ Good cs ts ∧ P (.lst (figsAll.map fun f => intsT (withL cs ts f)))
def gTakings : DF := fun ds P _ => ∃ cs ts es d, ds = [cubesD cs, turnsD ts, d] ∧ (d = .lst es ∨ d = .tup es) ∧ Good cs ts ∧ es.length ≤ 1000 ∧ (∀ e ∈ es, isNum e = true) ∧ P (.lst (es.map fun e => .int (takeN ((digs e).map (withL cs ts)) : Nat)))
def gWidth (C : Addr) : DF := fun ds P Z => ∃ (d : D) (m : Int), ds = [d, .int m] ∧ D.any1 d ∧ if isWithin d 1 m = true then P .non else Z ⟨C, none⟩
theorem fig_at {α : Type} (g : Int → α) {c : Nat} (h : 48 ≤ c ∧ c ≤ 57) : atI (figsAll.map g) ((c : Int) - 48) = some (g ((c : Int) - 48)) := by
  obtain ⟨k, rfl⟩ : ∃ k, c = 48 + k := ⟨c - 48, by omega⟩
  have hk : k < 10 := by omega
  rw [show (((48 + k : Nat) : Int) - 48) = (k : Int) from by omega]
  refine atI_nat ?_
  match k, hk with
  | 0, _ => rfl
  | 1, _ => rfl
  | 2, _ => rfl
  | 3, _ => rfl
  | 4, _ => rfl
  | 5, _ => rfl
  | 6, _ => rfl
  | 7, _ => rfl
  | 8, _ => rfl
  | 9, _ => rfl
theorem zipD_in {ds es : List D} {d : D} (h : d ∈ zipD ds es) : ∃ x y, x ∈ ds ∧ y ∈ es ∧ d = .tup [x, y] := by
  unfold zipD at h
  obtain ⟨⟨x, y⟩, hp, rfl⟩ := List.mem_map.mp h
  exact ⟨x, y, (List.of_mem_zip hp).1, (List.of_mem_zip hp).2, rfl⟩
def kT : D → Bool
  | .tup [_, .int t] => decide (0 < t)
  | _ => false
def fT : D → D
  | .tup [e, _] => e
  | _ => .non
theorem zip_takings {cs : List (List Int)} {ts : List (Int × Int)} (h : cs.length ≤ 6) (es : List D) : ((zipD es (es.map fun e => D.int (takeN ((digs e).map (withL cs ts)) : Nat))).filter kT).map fT = es.filter fun e => shownB cs ts (digs e) := by
  unfold zipD
  rw [List.zip_map_right, List.map_map, List.filter_map, List.map_map, List.zip_eq_zipWith, ]
  induction es with
  | nil => rfl
  | cons e es ih =>
    rw [List.zipWith_cons_cons, List.filter_cons, List.filter_cons]
    have hk : (kT ∘ ((fun p : D × D => D.tup [p.1, p.2]) ∘ Prod.map id fun e => D.int (takeN ((digs e).map (withL cs ts)) : Nat))) (e, e) = shownB cs ts (digs e) := takeN_shown h (digs e)
    rw [hk]
    cases shownB cs ts (digs e) with
    | true => rw [if_pos rfl, if_pos rfl, List.map_cons, ih]; rfl
    | false => rw [if_neg Bool.false_ne_true, if_neg Bool.false_ne_true, ih]
end Q

/-! Texts of sets. -/
namespace Q
open PySem PySem.Spec PyProof.Rows L2 L3
/-- the figures of a word -/
def figsS (z : Str) : List Int := if (z.cps.toList.all fun c => decide (48 ≤ c ∧ c ≤ 57)) = true then z.cps.toList.map fun c : Nat => (c : Int) - 48 else []
def wordS (fs : List Int) : Str := Txt.join "" (fs.map fun f => (Str.ofString (toString f)))
def wordsS (cs : List (List Int)) (ts : List (Int × Int)) : List Str := [("cubes" : Str)] ++ cs.map wordS ++ if ts.isEmpty = true then [] else [("turns" : Str)] ++ ts.map fun p => wordS [p.1, p.2]
def textS (cs : List (List Int)) (ts : List (Int × Int)) : Str := Txt.join " " (wordsS cs ts)
def Digs (fs : List Int) : Prop := ∀ f ∈ fs, 0 ≤ f ∧ f ≤ 9
theorem dig_tl {f : Int} (h : 0 ≤ f ∧ f ≤ 9) : TL.tl (Str.ofString (toString f)) = [(f + 48).toNat] := by
  obtain ⟨n, rfl⟩ : ∃ n : Nat, f = n := ⟨f.toNat, by omega⟩
  rw [TL.tl_num, TL.numL_lt (by omega)]
  congr 1
  omega
theorem wordS_tl {fs : List Int} (h : Digs fs) : TL.tl (wordS fs) = fs.map fun f => (f + 48).toNat := by
  unfold wordS
  rw [TL.join_eq, TL.tl_join, List.map_map]
  have e : (fs.map (TL.tl ∘ fun f => Str.ofString (toString f))) = (fs.map fun f => (f + 48).toNat).map fun c => [c] := by
    rw [List.map_map]
    exact List.map_congr_left fun f hf => dig_tl (h f hf)
  rw [e]
  exact joinL_one _
theorem tl_cps (z : Str) : z.cps.toList = TL.tl z := rfl
theorem figs_word {fs : List Int} (h : Digs fs) : figsS (wordS fs) = fs := by
  unfold figsS
  rw [tl_cps, wordS_tl h]
  rw [if_pos (by
    rw [List.all_map, List.all_eq_true]
    exact fun f hf => decide_eq_true (by have := h f hf; show 48 ≤ (f + 48).toNat ∧ (f + 48).toNat ≤ 57; omega)), List.map_map]
  conv => rhs; rw [← List.map_id fs]
  exact List.map_congr_left fun f hf => by
    have := h f hf
    show (((f + 48).toNat : Nat) : Int) - 48 = f
    omega
def gWordOf : DF := fun ds P _ => ∃ fs : List Int, ds = [intsT fs] ∧ Digs fs ∧ fs.length ≤ 1000 ∧ P (.str (wordS fs))
def gFigsOf : DF := fun ds P _ => ∃ z : Str, ds = [.str z] ∧ z.length ≤ 1000 ∧ P (intsT (figsS z))
def gWrite (C : Addr) : DF := fun ds P _ => ∃ cs ts, ds = [setD C cs ts] ∧ GoodV cs ts ∧ P (.str (textS cs ts))
/-- the first wrong cube -/
def badC (cs : List (List Int)) : Option Nat := cs.zipIdx.findIdx? fun p => decide (p.2 = 6) || !isCube (cubeD p.1)
def badT (ts : List (List Int)) : Option Nat := (List.range ts.length).find? fun i => !isTurns (.tup ((ts.take (i + 1)).map cubeD))
def gChkCT (C : Addr) : DF := fun ds P Z => ∃ (cs : List (List Int)) (f : Nat), ds = [cubesD cs, .int (f : Nat)] ∧ f ≤ 1000 ∧ cs.length ≤ 1000 ∧ (∀ c ∈ cs, c.length < 64) ∧ match badC cs with
  | some i => Z ⟨C, some ("word", .int ((f + i : Nat) : Int))⟩
  | none => if cs.isEmpty = true then Z ⟨C, some ("word", .int (f : Nat))⟩ else P .non
def gChkTT (C : Addr) : DF := fun ds P Z => ∃ (ts : List (List Int)) (f : Nat), ds = [cubesD ts, .int (f : Nat)] ∧ f ≤ 1000 ∧ ts.length < 32 ∧ (∀ c ∈ ts, c.length < 64) ∧ match badT ts with
  | some i => Z ⟨C, some ("word", .int ((f + i : Nat) : Int))⟩
  | none => if ts.isEmpty = true then Z ⟨C, some ("word", .int (f : Nat))⟩ else P .non
def endW (ws : List Str) : Nat := ws.findIdx fun w => decide (w = ("turns" : Str))
def cubW (ws : List Str) : List (List Int) := ((ws.drop 1).take (endW ws - 1)).map figsS
def trnW (ws : List Str) : List (List Int) := (ws.drop (endW ws + 1)).map figsS
/-- what a text is read as: the index of the first wrong word, or cubes and turns -/
def readW (ws : List Str) : Except Nat (List (List Int) × List (List Int)) :=
  if ws.headD "" = ("cubes" : Str) then
    match badC (cubW ws) with
    | some i => .error (1 + i)
    | none => if (cubW ws).isEmpty = true then .error 1 else
      if endW ws < ws.length then
        match badT (trnW ws) with
        | some i => .error (endW ws + 1 + i)
        | none => if (trnW ws).isEmpty = true then .error (endW ws + 1) else .ok (cubW ws, trnW ws)
      else .ok (cubW ws, trnW ws)
  else .error 0
structure WdOk (ws : List Str) : Prop where
  ne : ws ≠ []
  few : ws.length ≤ 30
  len : ∀ w ∈ ws, w.length ≤ 60 ∧ PyData.strOk w = true
def objD (C : Addr) (cs ts : List (List Int)) : D := .obj C ["_cubes", "_turns"] [cubesD cs, cubesD ts]
def gRead (C CB : Addr) : DF := fun ds P Z => (∃ d, ds = [d] ∧ D.any1 d ∧ isStr d = false ∧ Z ⟨CB, some ("word", .non)⟩) ∨
  ∃ z : Str, ds = [.str z] ∧ z.length ≤ 1000 ∧ WdOk (Txt.split z " ") ∧ match readW (Txt.split z " ") with
    | .error i => Z ⟨CB, some ("word", .int (i : Nat))⟩
    | .ok (cs, ts) => P (objD C cs ts)
theorem cut_mid (ds : List D) {a b : Nat} (ha : a ≤ ds.length) (hb : b ≤ ds.length) : L3.cutD ds (some (a : Int)) (some (b : Int)) = (ds.drop a).take (b - a) := by
  unfold L3.cutD
  rw [HT.sIx_nat, HT.sIx_nat, Nat.min_eq_left ha, Nat.min_eq_left hb]
theorem badC_none {cs : List (List Int)} (h : badC cs = none) : cs.length ≤ 6 ∧ ∀ c ∈ cs, isCube (cubeD c) = true := by
  unfold badC at h
  rw [List.findIdx?_eq_none_iff] at h
  have hx : ∀ (i : Nat) (hi : i < cs.length), i ≠ 6 ∧ isCube (cubeD cs[i]) = true := fun i hi => by
    have := h (cs[i], i) (by
      rw [List.mem_zipIdx_iff_getElem?]
      exact List.getElem?_eq_getElem hi)
    rw [Bool.or_eq_false_iff, Bool.not_eq_false'] at this
    exact ⟨of_decide_eq_false this.1, this.2⟩
  constructor
  · apply Decidable.byContradiction
    intro z
    exact (hx 6 (by omega)).1 rfl
  · intro c hc
    obtain ⟨i, hi, rfl⟩ := List.mem_iff_getElem.mp hc
    exact (hx i hi).2
theorem cubes_fine {cs : List (List Int)} (h : badC cs = none) (hne : cs.isEmpty = false) (hl : ∀ c ∈ cs, c.length < 64) : cubesErr (cubesD cs) = none ∧ CubesOk (cubesD cs) := by
  obtain ⟨h6, hc⟩ := badC_none h
  constructor
  · show (if (cs.map cubeD).isEmpty || decide (6 < (cs.map cubeD).length) then some D.non else ((cs.map cubeD).findIdx? fun d => !isCube d).map fun i => D.int (i : Nat)) = none
    rw [List.length_map, decide_eq_false (by omega), Bool.or_false, List.isEmpty_map, hne, if_neg Bool.false_ne_true]
    rw [List.findIdx?_eq_none_iff.mpr fun d hd => by
      obtain ⟨c, hc', rfl⟩ := List.mem_map.mp hd
      rw [hc c hc']; rfl]
    rfl
  · refine ⟨⟨_, rfl⟩, fun es he => ?_⟩
    injection he with he
    subst he
    refine ⟨by rw [List.length_map]; omega, fun e he => ?_⟩
    obtain ⟨c, hc', rfl⟩ := List.mem_map.mp he
    refine ⟨⟨_, rfl⟩, fun es he => ?_⟩
    injection he with he
    subst he
    exact ⟨by rw [List.length_map]; exact hl c hc', fun e he => by
      obtain ⟨x, _, rfl⟩ := List.mem_map.mp he
      exact ⟨_, rfl⟩⟩
theorem trn_ask {ts : List (List Int)} (h : ts.length < 32) (hl : ∀ c ∈ ts, c.length < 64) : TurnsOk (.tup (ts.map cubeD)) := by
  refine ⟨⟨_, rfl⟩, fun es he => ?_⟩
  injection he with he
  subst he
  refine ⟨by rw [List.length_map]; exact h, fun e he => ?_⟩
  obtain ⟨c, hc', rfl⟩ := List.mem_map.mp he
  refine ⟨⟨_, rfl⟩, fun es he => ?_⟩
  injection he with he
  subst he
  exact ⟨by rw [List.length_map]; exact hl c hc', fun e he => by
    obtain ⟨x, _, rfl⟩ := List.mem_map.mp he
    exact ⟨_, rfl⟩⟩
theorem badT_none {ts : List (List Int)} (h : badT ts = none) (hne : ts.isEmpty = false) : isTurns (.tup (ts.map cubeD)) = true := by
  unfold badT at h
  rw [List.find?_eq_none] at h
  have hl : 0 < ts.length := by cases ts with
    | nil => cases hne
    | cons _ _ => exact Nat.succ_pos _
  have := h (ts.length - 1) (List.mem_range.mpr (by omega))
  rw [show ts.length - 1 + 1 = ts.length by omega, List.take_length] at this
  simpa using this
theorem eqSt {a b : Str} (ha : PyData.strOk a = true) (hb : PyData.strOk b = true) : eqD (.str a) (.str b) = decide (a = b) := by
  rw [Bool.eq_iff_iff, eqD_iff (.str a) (.str b) ha hb rfl rfl, decide_eq_true_iff]
  constructor <;> (intro h; cases h; rfl)
theorem okSt {a : Str} (ha : PyData.strOk a = true) : (D.str a).eqOk = true := D.eqOk_of ha (Nat.zero_le _)
theorem dig_len {f : Int} (h : 0 ≤ f ∧ f ≤ 9) : (Str.ofString (toString f)).length = 1 := by
  have := congrArg List.length (dig_tl h)
  rw [← TL.len_tl] at this
  exact this
theorem digs_sum {fs : List Int} (h : Digs fs) : ((fs.map fun f => Str.ofString (toString f)).map (·.length)).sum = fs.length := by
  rw [List.map_map, show (fs.map ((·.length) ∘ fun f => Str.ofString (toString f))) = fs.map fun _ => 1 from List.map_congr_left fun f hf => dig_len (h f hf), List.map_const', List.sum_replicate_nat, Nat.mul_one]
theorem dig_log {f : Int} (h : 0 ≤ f ∧ f ≤ 9) : f.natAbs.log2 < 1920 := by
  have h1 : f.natAbs ≤ 9 := by omega
  exact Nat.lt_of_le_of_lt (Nat.le_trans (Nat.log2_le_self _) h1) (by decide)
theorem word_len {fs : List Int} (h : Digs fs) : (wordS fs).length = fs.length := by
  have := congrArg List.length (wordS_tl h)
  rw [← TL.len_tl, List.length_map] at this
  exact this
def fSig : D → D
  | .str y => .bl (decide (48 ≤ (y.cps.toList.getD 0 0) ∧ (y.cps.toList.getD 0 0) ≤ 57))
  | _ => .non
def fInt : D → D
  | .str y => .int ((y.cps.toList.getD 0 0 : Nat) - 48)
  | _ => .non
theorem GoodV.digs {cs : List (List Int)} {ts : List (Int × Int)} (h : GoodV cs ts) : (∀ c ∈ cs, Digs c) ∧ ∀ p ∈ ts, Digs [p.1, p.2] := by
  refine ⟨fun c hc => (h.cub c hc).2.2, ?_⟩
  have : ∀ t ∈ TSs, ∀ p ∈ t, 0 ≤ p.1 ∧ p.1 ≤ 9 ∧ 0 ≤ p.2 ∧ p.2 ≤ 9 := by decide
  intro p hp f hf
  have := this ts h.trn p hp
  rcases List.mem_cons.mp hf with rfl | hf
  · omega
  · rw [List.mem_singleton.mp hf]; omega
theorem words_sum {cs : List (List Int)} {ts : List (Int × Int)} (h : GoodV cs ts) : ((wordsS cs ts).map (·.length)).sum + (wordsS cs ts).length * (" " : Str).length ≤ 16777216 := by
  have hc : ((cs.map wordS).map (·.length)).sum ≤ cs.length * 10 := by
    have : ∀ c ∈ cs, (wordS c).length ≤ 10 := fun c hc => by rw [word_len (h.digs.1 c hc)]; exact h.good.cub c hc
    clear h
    induction cs with
    | nil => exact Nat.zero_le _
    | cons c cs ih =>
      rw [List.map_cons, List.map_cons, List.sum_cons, List.length_cons]
      have h1 := this c List.mem_cons_self
      have h2 := ih fun x hx => this x (List.mem_cons_of_mem _ hx)
      omega
  have ht : ((ts.map fun p => wordS [p.1, p.2]).map (·.length)).sum = ts.length * 2 := by
    rw [List.map_map, show (ts.map ((·.length) ∘ fun p : Int × Int => wordS [p.1, p.2])) = ts.map fun _ => 2 from List.map_congr_left fun p hp => word_len (h.digs.2 p hp), List.map_const', List.sum_replicate_nat]
  have h1 : ("cubes" : Str).length = 5 := by decide +kernel
  have h2 : ("turns" : Str).length = 5 := by decide +kernel
  have h3 : (" " : Str).length = 1 := by decide +kernel
  have h6 := h.few
  have h5 := h.good.trn
  unfold wordsS
  cases ts with
  | nil =>
    simp only [List.isEmpty_nil, if_true, List.append_nil, List.map_append, List.sum_append, List.map_cons, List.map_nil, List.sum_cons, List.sum_nil, List.length_append, List.length_cons, List.length_nil, List.length_map, h1, h3]
    omega
  | cons t ts =>
    simp only [List.isEmpty_cons, Bool.false_eq_true, if_false, List.map_append, List.sum_append, List.map_cons, List.map_nil, List.sum_cons, List.sum_nil, List.length_append, List.length_cons, List.length_nil, List.length_map, h1, h2, h3] at ht h5 ⊢
    omega
theorem two_ways {c : Bool} {A B Kp : Prop} (hk : Kp) (h1 : c = true → Kp → A) (h2 : c = false → Kp → B) : if c = true then A else B := by
  cases c
  · rw [if_neg Bool.false_ne_true]; exact h2 rfl hk
  · rw [if_pos rfl]; exact h1 rfl hk
theorem inL_strs (y : Str) (ws : List Str) : inL (.str y) (ws.map D.str) = decide (y ∈ ws) := by
  unfold inL inV
  rw [List.map_map, List.any_map, Bool.eq_iff_iff, List.any_eq_true, decide_eq_true_iff]
  constructor
  · rintro ⟨x, hx, e⟩
    have e : (x == y) = true := e
    rw [← eq_of_beq e]; exact hx
  · intro h
    exact ⟨y, h, beq_self_eq_true y⟩
theorem flatStrs {ws : List Str} : (ws.map D.str).all D.flat = true := by
  rw [List.all_map, List.all_eq_true]
  exact fun _ _ => rfl
theorem endW_in {ws : List Str} (h : ("turns" : Str) ∈ ws) : endW ws < ws.length ∧ ws[endW ws]? = some ("turns" : Str) ∧ ∀ (m : Nat) z, m < endW ws → ws[m]? = some z → (z == ("turns" : Str)) = false := by
  have hlt : endW ws < ws.length := List.findIdx_lt_length.mpr ⟨_, h, decide_eq_true rfl⟩
  refine ⟨hlt, ?_, fun m z hm hz => ?_⟩
  · have := List.findIdx_getElem (w := hlt)
    rw [List.getElem?_eq_getElem hlt]
    exact congrArg some (of_decide_eq_true this)
  · have h1 := List.not_of_lt_findIdx hm
    obtain ⟨hm2, rfl⟩ := List.getElem?_eq_some_iff.mp hz
    have h2 : ¬ ws[m] = ("turns" : Str) := by simpa using h1
    exact beq_eq_false_iff_ne.mpr h2
theorem endW_out {ws : List Str} (h : ("turns" : Str) ∉ ws) : endW ws = ws.length := List.findIdx_eq_length.mpr fun w hw => decide_eq_false fun z => h (z ▸ hw)
theorem cut_from (ds : List D) (k : Nat) : L3.cutD ds (some (k : Int)) none = ds.drop k := by
  unfold L3.cutD
  rw [HT.sIx_none, HT.sIx_nat]
  by_cases h : k ≤ ds.length
  · rw [Nat.min_eq_left h]
    exact List.take_of_length_le (by rw [List.length_drop]; omega)
  · rw [Nat.min_eq_right (by omega), List.drop_eq_nil_of_le (by omega), List.drop_eq_nil_of_le (by omega)]; exact List.take_nil
def fFigs : D → D
  | .str z => intsT (figsS z)
  | _ => .non
theorem figs_len {z : Str} (h : z.length ≤ 60) : (figsS z).length ≤ 60 := by
  have hl3 : z.cps.toList.length = z.length := by simp [Str.length]
  unfold figsS
  split
  · rw [List.length_map]; omega
  · exact Nat.zero_le _
theorem fFigs_map (ws : List Str) : [] ++ ((ws.map D.str).filter fun _ => true).map fFigs = (ws.map figsS).map cubeD := by
  rw [kept_all, List.nil_append, List.map_map, List.map_map]
  rfl
theorem gsl_l {P : DP} {ds : List D} {lo hi : Option Int} (h : P (.lst (L3.cutD ds lo hi))) : slD lo hi (.lst ds) P := h
theorem gsl_t {P : DP} {ds : List D} {lo hi : Option Int} (h : P (.tup (L3.cutD ds lo hi))) : slD lo hi (.tup ds) P := h
theorem turns_ne (ts : List (Int × Int)) : (!eqD (turnsD ts) (.tup [])) = !ts.isEmpty := by
  show (!eqD (turnsD ts) (turnsD [])) = _
  rw [eqE (b := ts.isEmpty) (turns_E ts) (turns_E []) (by cases ts with
    | nil => exact ⟨fun _ => rfl, fun _ => rfl⟩
    | cons x c => exact ⟨fun h => (by cases h), fun h => (by cases h)⟩)]
def pairsL (ts : List (Int × Int)) : List (List Int) := ts.map fun p => [p.1, p.2]
theorem pairs_turns (ts : List (Int × Int)) : cubesD (pairsL ts) = turnsD ts := by
  unfold pairsL
  show D.tup _ = D.tup _
  rw [List.map_map]
  rfl
theorem word_free {fs : List Int} (h : Digs fs) : 32 ∉ TL.tl (wordS fs) := by
  rw [wordS_tl h]
  intro hm
  obtain ⟨f, hf, e⟩ := List.mem_map.mp hm
  have := h f hf
  omega
theorem word_ok {fs : List Int} (h : Digs fs) : PyData.strOk (wordS fs) = true := by
  show (wordS fs).cps.all _ = true
  rw [← Array.all_toList, List.all_eq_true]
  intro c hc
  have hc : c ∈ TL.tl (wordS fs) := hc
  rw [wordS_tl h] at hc
  obtain ⟨f, hf, rfl⟩ := List.mem_map.mp hc
  have := h f hf
  exact decide_eq_true (by omega)
theorem words_all {cs : List (List Int)} {ts : List (Int × Int)} (h : GoodV cs ts) : ∀ w ∈ wordsS cs ts, w.length ≤ 60 ∧ PyData.strOk w = true ∧ 32 ∉ TL.tl w := by
  intro w hw
  unfold wordsS at hw
  rcases List.mem_append.mp hw with hw | hw
  · rcases List.mem_append.mp hw with hw | hw
    · rw [List.mem_singleton.mp hw]; exact ⟨by decide +kernel, by decide +kernel, by decide +kernel⟩
    · obtain ⟨c, hc, rfl⟩ := List.mem_map.mp hw
      have hd := h.digs.1 c hc
      exact ⟨by rw [word_len hd]; have := h.good.cub c hc; omega, word_ok hd, word_free hd⟩
  · split at hw
    · cases hw
    · rcases List.mem_append.mp hw with hw | hw
      · rw [List.mem_singleton.mp hw]; exact ⟨by decide +kernel, by decide +kernel, by decide +kernel⟩
      · obtain ⟨p, hp, rfl⟩ := List.mem_map.mp hw
        have hd := h.digs.2 p hp
        exact ⟨by rw [word_len hd]; show 2 ≤ 60; omega, word_ok hd, word_free hd⟩
theorem words_len {cs : List (List Int)} {ts : List (Int × Int)} (h : GoodV cs ts) : (wordsS cs ts).length ≤ 13 := by
  have h6 := h.few
  have h5 := h.good.trn
  unfold wordsS
  split
  · rw [List.append_nil, List.length_append, List.length_map]; show 1 + _ ≤ _; omega
  · rw [List.length_append, List.length_append, List.length_append, List.length_map, List.length_map]; show 1 + _ + (1 + _) ≤ _; omega
theorem split_text {cs : List (List Int)} {ts : List (Int × Int)} (h : GoodV cs ts) : Txt.split (textS cs ts) " " = wordsS cs ts :=
  TL.split_join (s := 32) (S := []) (by decide +kernel) (by decide +kernel) (by unfold wordsS; simp) fun w hw => (words_all h w hw).2.2
theorem word_cubes {fs : List Int} (h : Digs fs) : wordS fs ≠ ("turns" : Str) := fun e => by
  have e2 := congrArg TL.tl e
  rw [wordS_tl h] at e2
  have hm : 116 ∈ TL.tl ("turns" : Str) := by decide +kernel
  rw [← e2] at hm
  obtain ⟨f, hf, e⟩ := List.mem_map.mp hm
  have := h f hf
  omega
theorem read_back {cs : List (List Int)} {ts : List (Int × Int)} (h : GoodV cs ts) : readW (wordsS cs ts) = .ok (cs, pairsL ts) := by
  have hd := h.digs
  have hcw : (cs.map wordS).map figsS = cs := by
    rw [List.map_map]
    conv => rhs; rw [← List.map_id cs]
    exact List.map_congr_left fun c hc => figs_word (hd.1 c hc)
  have hpre : ∀ w ∈ [("cubes" : Str)] ++ cs.map wordS, (fun w => decide (w = ("turns" : Str))) w = false := fun w hw => by
    rcases List.mem_append.mp hw with hw | hw
    · rw [List.mem_singleton.mp hw]; decide +kernel
    · obtain ⟨c, hc, rfl⟩ := List.mem_map.mp hw
      exact decide_eq_false (word_cubes (hd.1 c hc))
  have hend : endW (wordsS cs ts) = cs.length + 1 := by
    unfold endW wordsS
    rw [List.findIdx_append, if_neg (by
      rw [List.findIdx_eq_length.mpr hpre]; exact Nat.lt_irrefl _)]
    rw [List.length_append, List.length_map]
    cases ts with
    | nil => simp; omega
    | cons t ts =>
      rw [List.isEmpty_cons, if_neg Bool.false_ne_true]
      rw [List.findIdx_append, if_pos (by decide +kernel)]
      rw [show List.findIdx (fun w => decide (w = ("turns" : Str))) [("turns" : Str)] = 0 from by decide +kernel]
      show 0 + (1 + _) = _
      omega
  have hcub : cubW (wordsS cs ts) = cs := by
    unfold cubW
    rw [hend]
    have e : ((wordsS cs ts).drop 1).take (cs.length + 1 - 1) = cs.map wordS := by
      unfold wordsS
      rw [List.append_assoc]
      show ((cs.map wordS) ++ _).take _ = _
      rw [show cs.length + 1 - 1 = (cs.map wordS).length from by rw [List.length_map]; rfl, List.take_left]
    rw [e, hcw]
  have htrn : trnW (wordsS cs ts) = pairsL ts := by
    unfold trnW
    rw [hend]
    have e : (wordsS cs ts).drop (cs.length + 1 + 1) = ts.map fun p => wordS [p.1, p.2] := by
      unfold wordsS
      have el : ([("cubes" : Str)] ++ cs.map wordS).length = cs.length + 1 := by rw [List.length_append, List.length_map]; show 1 + _ = _; omega
      rw [← List.drop_drop, ← el, List.drop_left]
      cases ts with
      | nil => rfl
      | cons t ts => rfl
    rw [e, List.map_map]
    exact List.map_congr_left fun p hp => figs_word (hd.2 p hp)
  have hcn : cs.isEmpty = false := by cases cs with
    | nil => exact absurd rfl h.ne
    | cons _ _ => rfl
  have hbc : badC cs = none := by
    unfold badC
    rw [List.findIdx?_eq_none_iff]
    intro p hp
    obtain ⟨j, hj, rfl⟩ := List.mem_iff_getElem.mp hp
    rw [List.getElem_zipIdx, Nat.zero_add]
    have hj2 : j < cs.length := by rw [List.length_zipIdx] at hj; exact hj
    have h6 := h.few
    obtain ⟨a, b, c⟩ := h.cub _ (List.getElem_mem hj2)
    rw [isCube_ok a b c, decide_eq_false (show ¬ j = 6 by omega)]; rfl
  have hbt : badT (pairsL ts) = none := by
    have : ∀ t ∈ TSs, badT (pairsL t) = none := by decide +kernel
    exact this ts h.trn
  unfold readW
  rw [if_pos (by unfold wordsS; rfl), hcub, hbc, htrn, hbt, hend]
  simp only [hcn, Bool.false_eq_true, if_false]
  cases ts with
  | nil => rw [if_neg (by unfold wordsS; simp)]
  | cons t ts => rw [if_pos (by unfold wordsS; simp)]; rfl
theorem obj_set (C : Addr) (cs : List (List Int)) (ts : List (Int × Int)) : objD C cs (pairsL ts) = setD C cs ts := by
  unfold objD setD
  rw [pairs_turns]
theorem text_len {cs : List (List Int)} {ts : List (Int × Int)} (h : GoodV cs ts) : (textS cs ts).length ≤ 1000 ∧ PyData.strOk (textS cs ts) = true := by
  have hw := words_all h
  have hn := words_len h
  have key : ∀ ws : List Str, ws.length ≤ 13 → (∀ w ∈ ws, w.length ≤ 60 ∧ PyData.strOk w = true) → (TL.joinL [32] (ws.map TL.tl)).length ≤ ws.length * 61 ∧ ∀ c ∈ TL.joinL [32] (ws.map TL.tl), c < 0x110000 := fun ws => by
    induction ws with
    | nil => exact fun _ _ => ⟨Nat.zero_le _, fun c hc => by cases hc⟩
    | cons w ws ih =>
      intro hl hw
      obtain ⟨a, b⟩ := hw w List.mem_cons_self
      have b' : ∀ c ∈ TL.tl w, c < 0x110000 := fun c hc => by
        have b2 : w.cps.all (· < 0x110000) = true := b
        rw [← Array.all_toList, List.all_eq_true] at b2
        exact of_decide_eq_true (b2 c hc)
      have a' : (TL.tl w).length ≤ 60 := by rw [← TL.len_tl]; exact a
      cases ws with
      | nil => exact ⟨by show (TL.tl w).length ≤ 1 * 61; omega, b'⟩
      | cons w2 ws =>
        obtain ⟨c1, c2⟩ := ih (by simp at hl ⊢; omega) fun x hx => hw x (List.mem_cons_of_mem _ hx)
        refine ⟨?_, fun c hc => ?_⟩
        · show (TL.tl w ++ ([32] ++ TL.joinL [32] ((w2 :: ws).map TL.tl))).length ≤ _
          rw [List.length_append, List.length_append, List.length_cons (as := w2 :: ws)]
          show _ + (1 + _) ≤ _
          omega
        · have hc : c ∈ TL.tl w ++ ([32] ++ TL.joinL [32] ((w2 :: ws).map TL.tl)) := hc
          rcases List.mem_append.mp hc with hc | hc
          · exact b' c hc
          rcases List.mem_append.mp hc with hc | hc
          · rw [List.mem_singleton.mp hc]; decide
          · exact c2 c hc
  have e : TL.tl (textS cs ts) = TL.joinL [32] ((wordsS cs ts).map TL.tl) := by
    unfold textS
    rw [TL.join_eq, TL.tl_join]
    rfl
  obtain ⟨k1, k2⟩ := key _ hn fun w hw2 => ⟨(hw w hw2).1, (hw w hw2).2.1⟩
  constructor
  · rw [TL.len_tl, e]; omega
  · show (textS cs ts).cps.all _ = true
    rw [← Array.all_toList, List.all_eq_true]
    intro c hc
    have hc : c ∈ TL.tl (textS cs ts) := hc
    rw [e] at hc
    exact decide_eq_true (k2 c hc)
theorem words_wd {cs : List (List Int)} {ts : List (Int × Int)} (h : GoodV cs ts) : WdOk (wordsS cs ts) :=
  ⟨by unfold wordsS; simp, by have := words_len h; omega, fun w hw => ⟨(words_all h w hw).1, (words_all h w hw).2.1⟩⟩
theorem text_inj {cs cs2 : List (List Int)} {ts ts2 : List (Int × Int)} (h : GoodV cs ts) (h2 : GoodV cs2 ts2) (e : textS cs ts = textS cs2 ts2) : cs = cs2 ∧ ts = ts2 := by
  have w : wordsS cs ts = wordsS cs2 ts2 := by rw [← split_text h, e, split_text h2]
  have r := read_back h
  rw [w, read_back h2] at r
  injection r with r
  injection r with r1 r2
  refine ⟨r1.symm, ?_⟩
  have : turnsD ts2 = turnsD ts := by rw [← pairs_turns, r2, pairs_turns]
  exact (turns_inj.mp this).symm
end Q

/-! Texts that are none. -/
namespace Q
open PySem PySem.Spec PyProof.Rows L2 L3
/-! splitting at spaces -/
abbrev sp (acc L : List Nat) : List (List Nat) := TL.spl [32] 0 acc L
theorem sp_sp (acc L : List Nat) : sp acc (32 :: L) = acc :: sp [] L := TL.spl_hit rfl
theorem sp_c {c : Nat} (h : c ≠ 32) (acc L : List Nat) : sp acc (c :: L) = sp (acc ++ [c]) L := TL.spl_miss (TL.pre_of_head [] L h)
theorem sp_nil (acc : List Nat) : sp acc [] = [acc] := TL.spl_nil _ _ _
def run : Nat → List Nat → Nat
  | c, [] => c
  | c, x :: l => if x = 32 then max c (run 0 l) else run (c + 1) l
theorem run_cons (c x : Nat) (l : List Nat) : run c (x :: l) = if x = 32 then max c (run 0 l) else run (c + 1) l := rfl
theorem run_ge : ∀ (l : List Nat) (c : Nat), c ≤ run c l
  | [], c => Nat.le_refl _
  | x :: l, c => by
    rw [run_cons]
    split
    · exact Nat.le_max_left _ _
    · exact Nat.le_trans (Nat.le_succ c) (run_ge l (c + 1))
theorem run_sh : ∀ (l : List Nat) (c d : Nat), run (c + d) l ≤ c + run d l
  | [], c, d => Nat.le_refl _
  | x :: l, c, d => by
    rw [run_cons, run_cons]
    split
    · have := run_ge l 0
      omega
    · exact run_sh l c (d + 1)
theorem run_mono : ∀ (l : List Nat) {c d : Nat}, c ≤ d → run c l ≤ run d l
  | [], c, d, h => h
  | x :: l, c, d, h => by
    rw [run_cons, run_cons]
    split
    · omega
    · exact run_mono l (Nat.succ_le_succ h)
theorem run_app : ∀ (a b : List Nat) (c : Nat), run c (a ++ b) ≤ run c a + run 0 b
  | [], b, c => run_sh b c 0
  | x :: a, b, c => by
    show run c (x :: (a ++ b)) ≤ _
    rw [run_cons, run_cons]
    split
    · have := run_app a b 0
      omega
    · exact run_app a b (c + 1)
theorem run_pre : ∀ (a b : List Nat) (c : Nat), run c a ≤ run c (a ++ b)
  | [], b, c => run_ge b c
  | x :: a, b, c => by
    show _ ≤ run c (x :: (a ++ b))
    rw [run_cons, run_cons]
    split
    · have := run_pre a b 0
      omega
    · exact run_pre a b (c + 1)
theorem run_suf : ∀ (a b : List Nat) (c : Nat), run 0 b ≤ run c (a ++ b)
  | [], b, c => run_mono b (Nat.zero_le c)
  | x :: a, b, c => by
    show _ ≤ run c (x :: (a ++ b))
    rw [run_cons]
    split
    · exact Nat.le_trans (run_suf a b 0) (Nat.le_max_right _ _)
    · exact run_suf a b (c + 1)
theorem run_le : ∀ (l : List Nat) (c : Nat), run c l ≤ c + l.length
  | [], c => Nat.le_refl _
  | x :: l, c => by
    rw [run_cons, List.length_cons]
    split
    · have := run_le l 0
      omega
    · have := run_le l (c + 1)
      omega
theorem run_sp (k : Nat) : ∀ (l acc : List Nat), run acc.length l ≤ k ↔ ∀ w ∈ sp acc l, w.length ≤ k
  | [], acc => by
    rw [sp_nil]
    exact ⟨fun h w hw => by rw [List.mem_singleton.mp hw]; exact h, fun h => h _ List.mem_cons_self⟩
  | x :: l, acc => by
    by_cases hx : x = 32
    · subst hx
      rw [sp_sp, show run acc.length (32 :: l) = max acc.length (run 0 l) from if_pos rfl]
      have ih := run_sp k l []
      rw [List.length_nil] at ih
      constructor
      · intro h w hw
        rcases List.mem_cons.mp hw with rfl | hw
        · omega
        · exact ih.mp (by omega) w hw
      · intro h
        have h1 := h _ List.mem_cons_self
        have h2 := ih.mpr fun w hw => h w (List.mem_cons_of_mem _ hw)
        omega
    · rw [sp_c hx, show run acc.length (x :: l) = run (acc.length + 1) l from if_neg hx]
      have ih := run_sp k l (acc ++ [x])
      rw [List.length_append, List.length_singleton] at ih
      exact ih
theorem sp_len : ∀ (l acc : List Nat), (sp acc l).length = l.count 32 + 1
  | [], acc => by rw [sp_nil]; rfl
  | x :: l, acc => by
    by_cases hx : x = 32
    · subst hx
      rw [sp_sp, List.length_cons, sp_len l [], List.count_cons_self]
    · rw [sp_c hx, sp_len l, List.count_cons_of_ne (fun e => hx e)]
theorem sp_mem : ∀ (l acc : List Nat), ∀ w ∈ sp acc l, ∀ c ∈ w, c ∈ acc ∨ c ∈ l
  | [], acc => fun w hw c hc => by
    rw [sp_nil] at hw
    rw [List.mem_singleton.mp hw] at hc
    exact .inl hc
  | x :: l, acc => fun w hw c hc => by
    by_cases hx : x = 32
    · subst hx
      rw [sp_sp] at hw
      rcases List.mem_cons.mp hw with rfl | hw
      · exact .inl hc
      · rcases sp_mem l [] w hw c hc with h | h
        · cases h
        · exact .inr (List.mem_cons_of_mem _ h)
    · rw [sp_c hx] at hw
      rcases sp_mem l _ w hw c hc with h | h
      · rcases List.mem_append.mp h with h | h
        · exact .inl h
        · exact .inr (by rw [List.mem_singleton.mp h]; exact List.mem_cons_self)
      · exact .inr (List.mem_cons_of_mem _ h)
theorem sp_ne (l acc : List Nat) : sp acc l ≠ [] := fun e => by
  have := sp_len l acc
  rw [e] at this
  cases this
theorem sp_join : ∀ (l acc : List Nat), TL.joinL [32] (sp acc l) = acc ++ l
  | [], acc => by rw [sp_nil, List.append_nil]; rfl
  | x :: l, acc => by
    by_cases hx : x = 32
    · subst hx
      rw [sp_sp]
      have ih := sp_join l []
      cases h : sp [] l with
      | nil => exact absurd h (sp_ne _ _)
      | cons w ws =>
        rw [h] at ih
        show acc ++ ([32] ++ TL.joinL [32] (w :: ws)) = _
        rw [ih]; rfl
    · rw [sp_c hx, sp_join l, List.append_assoc]; rfl
theorem split_sp (z : Str) : (Txt.split z " ").map TL.tl = sp [] (TL.tl z) := by
  have e : TL.tl (" " : Str) = [32] := by decide +kernel
  have k : Builtin.Str.strKind (" " : Str) = 1 := by decide +kernel
  have := TL.split_spl z " " (by rw [e]; exact fun h => by cases h) (by rw [k]; have := strKind_pos z; omega)
  rw [this, e]
theorem split_join (z : Str) : Txt.join " " (Txt.split z " ") = z := by
  apply TL.ext_tl
  rw [TL.join_eq, TL.tl_join, split_sp, show TL.tl (" " : Str) = [32] from by decide +kernel, sp_join, List.nil_append]
/-- texts of words that are not too long -/
structure TxOk (l : List Nat) : Prop where
  len : l.length ≤ 900
  run : run 0 l ≤ 60
  cnt : l.count 32 ≤ 29
  ok : ∀ c ∈ l, c < 0x110000
theorem ok_all {z : Str} : PyData.strOk z = true ↔ ∀ c ∈ TL.tl z, c < 0x110000 := by
  show z.cps.all _ = true ↔ _
  rw [← Array.all_toList, List.all_eq_true]
  exact ⟨fun h c hc => of_decide_eq_true (h c hc), fun h c hc => decide_eq_true (h c hc)⟩
theorem wd_of {z : Str} (h : TxOk (TL.tl z)) : z.length ≤ 1000 ∧ WdOk (Txt.split z " ") ∧ PyData.strOk z = true := by
  refine ⟨by rw [TL.len_tl]; have := h.len; omega, ⟨fun e => ?_, ?_, fun w hw => ?_⟩, ok_all.mpr h.ok⟩
  · have := split_sp z
    rw [e] at this
    exact sp_ne _ _ this.symm
  · have := congrArg List.length (split_sp z)
    rw [List.length_map, sp_len] at this
    have := h.cnt
    omega
  · have hm : TL.tl w ∈ sp [] (TL.tl z) := by rw [← split_sp]; exact List.mem_map_of_mem hw
    refine ⟨?_, ok_all.mpr fun c hc => ?_⟩
    · rw [TL.len_tl]
      exact (run_sp 60 (TL.tl z) []).mp h.run _ hm
    · rcases sp_mem _ _ _ hm c hc with h2 | h2
      · cases h2
      · exact h.ok c h2
/-- parts of a text, and few signs between them -/
theorem tx_of {l : List Nat} (h1 : l.length ≤ 800) (h2 : run 0 l ≤ 20) (h3 : l.count 32 ≤ 13) (h4 : ∀ c ∈ l, c < 0x110000) {i j : Nat} {m : List Nat} (hm : m.length ≤ 1) (hm2 : ∀ c ∈ m, c < 0x110000) (hij : i ≤ j) : TxOk (l.take i ++ m ++ l.drop j) := by
  have rm := run_le m 0
  have r1 := run_pre (l.take i) (l.drop i) 0
  have r2 := run_suf (l.take j) (l.drop j) 0
  rw [List.take_append_drop] at r1 r2
  have r3 := run_app (l.take i) m 0
  have r4 := run_app (l.take i ++ m) (l.drop j) 0
  have cm := List.count_le_length (a := 32) (l := m)
  refine ⟨?_, by omega, ?_, fun c hc => ?_⟩
  · rw [List.length_append, List.length_append, List.length_take, List.length_drop]; omega
  · rw [List.count_append, List.count_append]
    have a := (List.take_sublist i l).count_le 32
    have b := (List.drop_sublist j l).count_le 32
    omega
  · rcases List.mem_append.mp hc with hc | hc
    · rcases List.mem_append.mp hc with hc | hc
      · exact h4 c (List.mem_of_mem_take hc)
      · exact hm2 c hc
    · exact h4 c (List.mem_of_mem_drop hc)
theorem Eqs.str {z : Str} (h : PyData.strOk z = true) : D.Eqs 0 (.str z) := ⟨h, Nat.le_refl _, rfl⟩
theorem nil_of {ds : List D} : (ds.isEmpty = true) ↔ (D.lst ds = D.lst []) := by
  cases ds with
  | nil => exact ⟨fun _ => rfl, fun _ => rfl⟩
  | cons x c => exact ⟨fun h => (by cases h), fun h => (by cases h)⟩
theorem ch_E {l : List Nat} (h : ∀ c ∈ l, c < 0x110000) : D.Eqs 1 (.lst (l.map fun c => D.str ⟨#[c]⟩)) := Eqs.lst fun c hc => Eqs.str (by
  show (#[c] : Array Nat).all _ = true
  rw [← Array.all_toList, List.all_eq_true]
  intro x hx
  rw [List.mem_singleton.mp hx]
  exact decide_eq_true (h c hc))
theorem eq_nil {ds : List D} {k : Nat} (h : D.Eqs k (.lst ds)) : eqD (.lst ds) (.lst []) = ds.isEmpty := by
  show eqD _ (intsL []) = _
  rw [eqE (b := ds.isEmpty) h (Eqs.intsL []) nil_of]
/-- signs that rise -/
theorem asc_steps : ∀ l : List Nat, l.Pairwise (· < ·) ↔ ∀ i, i + 1 < l.length → l.getD i 0 < l.getD (i + 1) 0
  | [] => ⟨fun _ i h => absurd h (Nat.not_lt_zero _), fun _ => List.Pairwise.nil⟩
  | [a] => ⟨fun _ i h => absurd (Nat.lt_of_succ_lt_succ h) (Nat.not_lt_zero _), fun _ => List.pairwise_singleton _ _⟩
  | a :: b :: r => by
    rw [List.pairwise_cons, asc_steps (b :: r)]
    constructor
    · rintro ⟨h1, h2⟩ i hi
      cases i with
      | zero => exact h1 b List.mem_cons_self
      | succ i => exact h2 i (Nat.lt_of_succ_lt_succ hi)
    · intro h
      have h2 : ∀ i, i + 1 < (b :: r).length → (b :: r).getD i 0 < (b :: r).getD (i + 1) 0 := fun i hi => h (i + 1) (Nat.succ_lt_succ hi)
      refine ⟨fun x hx => ?_, h2⟩
      have hb : a < b := h 0 (by simp)
      rcases List.mem_cons.mp hx with rfl | hx
      · exact hb
      · exact Nat.lt_trans hb ((List.pairwise_cons.mp ((asc_steps (b :: r)).mpr h2)).1 x hx)
def isDig (c : Nat) : Bool := decide (48 ≤ c ∧ c ≤ 57)
def riseL (l : List Nat) : Bool := !l.isEmpty && l.all isDig && decide (l.Pairwise (· < ·))
def risingW (z : Str) : Bool := riseL (TL.tl z)
theorem figs_cube (z : Str) : isCube (cubeD (figsS z)) = risingW z := by
  unfold figsS risingW riseL
  rw [tl_cps]
  show isCube (.tup _) = _
  cases ha : (TL.tl z).all isDig with
  | false =>
    rw [if_neg (by rw [show ((TL.tl z).all fun c => decide (48 ≤ c ∧ c ≤ 57)) = false from ha]; exact Bool.false_ne_true), Bool.and_false, Bool.false_and]
    rfl
  | true =>
    rw [if_pos (show ((TL.tl z).all fun c => decide (48 ≤ c ∧ c ≤ 57)) = true from ha), isCube_tup, List.isEmpty_map, List.isEmpty_map, List.map_map, List.map_map]
    congr 1
    · congr 1
      rw [List.all_map, List.all_eq_true]
      intro c hc
      have := of_decide_eq_true (List.all_eq_true.mp ha c hc)
      exact decide_eq_true (by show 0 ≤ (c : Int) - 48 ∧ (c : Int) - 48 ≤ 9; omega)
    · apply decide_eq_decide.mpr
      rw [List.pairwise_map]
      constructor
      · intro h; exact h.imp fun {a b} h => by have h : (a : Int) - 48 < (b : Int) - 48 := h; omega
      · intro h; exact h.imp fun {a b} h => by show (a : Int) - 48 < (b : Int) - 48; omega
def gRising : DF := fun ds P _ => ∃ z : Str, ds = [.str z] ∧ z.length ≤ 1000 ∧ PyData.strOk z = true ∧ P (.bl (risingW z))
def fallK (l : List Nat) (d : D) : Bool := decide (l.getD (toI d).toNat 0 ≤ l.getD ((toI d).toNat - 1) 0)
theorem fall_all {l : List Nat} (h : l ≠ []) : ((([] : List D) ++ ((rngD 1 (l.length - 1)).filter (fallK l)).map fun d => d).isEmpty) = decide (l.Pairwise (· < ·)) := by
  rw [List.nil_append, List.isEmpty_map, Bool.eq_iff_iff, decide_eq_true_iff, List.isEmpty_iff, List.filter_eq_nil_iff, asc_steps]
  have hl : 0 < l.length := List.length_pos_iff.mpr h
  constructor
  · intro h i hi
    have hm : D.int ((1 : Int) + (i : Nat)) ∈ rngD 1 (l.length - 1) := List.mem_map.mpr ⟨i, List.mem_range.mpr (by omega), rfl⟩
    have := h _ hm
    unfold fallK at this
    rw [decide_eq_true_iff, show (toI (.int ((1 : Int) + (i : Nat)))).toNat = i + 1 from by show ((1 : Int) + (i : Nat)).toNat = _; omega] at this
    show l.getD i 0 < l.getD (i + 1) 0
    have e : i + 1 - 1 = i := rfl
    rw [e] at this
    omega
  · intro h d hd
    obtain ⟨i, hi, rfl⟩ := List.mem_map.mp hd
    have hi := List.mem_range.mp hi
    unfold fallK
    rw [decide_eq_true_iff, show (toI (.int ((1 : Int) + (i : Nat)))).toNat = i + 1 from by show ((1 : Int) + (i : Nat)).toNat = _; omega]
    have := h i (by omega)
    have e : i + 1 - 1 = i := rfl
    rw [e]
    omega
def isDigD : D → Bool
  | .str y => isDig (y.cps.toList.getD 0 0)
  | _ => true
theorem at_sign {z : Str} {i : Int} {j : Nat} (h : i = (j : Nat)) (hj : j < (TL.tl z).length) : atI z.cps.toList i = some ((TL.tl z).getD j 0) := by
  subst h
  refine atI_nat ?_
  rw [List.getD_eq_getElem?_getD, show z.cps.toList = TL.tl z from rfl, List.getElem?_eq_getElem hj]
  rfl
theorem le_signs (a b : Nat) : (!decide ((⟨#[b]⟩ : Str).cps.toList < (⟨#[a]⟩ : Str).cps.toList)) = decide (a ≤ b) := by
  rw [Bool.eq_iff_iff, Bool.not_eq_true', decide_eq_false_iff_not, decide_eq_true_iff]
  show ¬ ([b] < [a]) ↔ _
  rw [List.cons_lt_cons_iff]
  constructor
  · intro h; exact Nat.le_of_not_lt fun x => h (.inl x)
  · rintro h (x | ⟨_, x⟩)
    · omega
    · exact absurd x (List.lt_irrefl [])
end Q
namespace Q
open PySem PySem.Spec PyProof.Rows L2 L3
def wrongD : Option Nat → D
  | none => .non
  | some i => .int (i : Nat)
def errW (ws : List Str) : Option Nat := match readW ws with
  | .error i => some i
  | .ok _ => none
def gWrong : DF := fun ds P _ => ∃ z : Str, ds = [.str z] ∧ z.length ≤ 1000 ∧ WdOk (Txt.split z " ") ∧ P (wrongD (errW (Txt.split z " ")))
def gSpoilt : DF := fun ds P _ => ∃ cs ts, ds = [.rnd, .str (textS cs ts)] ∧ GoodV cs ts ∧ ∀ z : Str, z.length ≤ 1000 → WdOk (Txt.split z " ") → PyData.strOk z = true → P (.str z)
def toldL : D → List D
  | .str z => match errW (Txt.split z " ") with
    | some i => [.int (i : Nat)]
    | none => []
  | _ => [.non]
def gToldT (C : Addr) : DF := fun ds P _ => ∃ d, ds = [d] ∧ D.any1 d ∧ (∀ z, d = .str z → z.length ≤ 1000 ∧ WdOk (Txt.split z " ")) ∧ P (.lst (toldL d))
end Q
namespace Q
open PySem PySem.Spec PyProof.Rows L2 L3
def stopW (ws : List Str) (a : Nat) : Prop := ws.length ≤ a ∨ 7 ≤ a ∨ risingW (ws.getD a "") = false
structure Lead (ws : List Str) (a : Nat) : Prop where
  one : 1 ≤ a
  len : a ≤ ws.length
  few : a ≤ 7
  up : ∀ j, 1 ≤ j → j < a → risingW (ws.getD j "") = true
theorem turns_no : risingW ("turns" : Str) = false := by decide +kernel
theorem endW_ge {ws : List Str} {a : Nat} (h0 : ws.headD "" = ("cubes" : Str)) (h : Lead ws a) : a ≤ endW ws := by
  apply Decidable.byContradiction
  intro hlt
  have hlt : endW ws < a := by omega
  have hl : endW ws < ws.length := Nat.lt_of_lt_of_le hlt h.len
  have e := of_decide_eq_true (List.findIdx_getElem (p := fun w => decide (w = ("turns" : Str))) (w := hl))
  have e : ws[endW ws] = ("turns" : Str) := e
  have eg : ws.getD (endW ws) "" = ("turns" : Str) := by rw [List.getD_eq_getElem?_getD, List.getElem?_eq_getElem hl]; exact e
  rcases Nat.eq_zero_or_pos (endW ws) with h1 | h1
  · rw [h1] at eg
    have e2 : ws.getD 0 "" = ws.headD "" := by cases ws <;> rfl
    rw [e2, h0] at eg
    revert eg
    decide +kernel
  · have := h.up _ h1 hlt
    rw [eg, turns_no] at this
    cases this
theorem cubW_get {ws : List Str} {j : Nat} (h : j + 1 < endW ws) : (cubW ws)[j]? = some (figsS (ws.getD (j + 1) "")) := by
  have he : endW ws ≤ ws.length := List.findIdx_le_length
  unfold cubW
  rw [List.getElem?_map, List.getElem?_take, if_pos (by omega), List.getElem?_drop, show 1 + j = j + 1 from by omega, List.getElem?_eq_getElem (by omega), List.getD_eq_getElem?_getD, List.getElem?_eq_getElem (by omega)]
  rfl
theorem cubW_len {ws : List Str} : (cubW ws).length = endW ws - 1 := by
  have he : endW ws ≤ ws.length := List.findIdx_le_length
  unfold cubW
  rw [List.length_map, List.length_take, List.length_drop]
  omega
theorem badC_at {cs : List (List Int)} {i : Nat} (hi : i < cs.length) (h6 : i ≤ 6) (hb : ∀ (j : Nat) (c : List Int), j < i → cs[j]? = some c → isCube (cubeD c) = true) (hs : i = 6 ∨ ∀ c, cs[i]? = some c → isCube (cubeD c) = false) : badC cs = some i := by
  unfold badC
  refine List.findIdx?_eq_some_iff_getElem.mpr ⟨by rw [List.length_zipIdx]; exact hi, ?_, fun j hj => ?_⟩
  · rw [List.getElem_zipIdx, Nat.zero_add]
    rcases hs with rfl | hs
    · rfl
    · rw [hs _ (List.getElem?_eq_getElem hi), Bool.not_false, Bool.or_true]
  · rw [List.getElem_zipIdx, Nat.zero_add]
    rw [hb j _ hj (List.getElem?_eq_getElem (by omega)), decide_eq_false (by show ¬ j = 6; omega)]
    decide
theorem badC_no {cs : List (List Int)} (h6 : cs.length ≤ 6) (hb : ∀ (j : Nat) (c : List Int), cs[j]? = some c → isCube (cubeD c) = true) : badC cs = none := by
  unfold badC
  refine List.findIdx?_eq_none_iff.mpr fun p hp => ?_
  obtain ⟨j, hj, rfl⟩ := List.mem_iff_getElem.mp hp
  rw [List.getElem_zipIdx, Nat.zero_add]
  have hj2 : j < cs.length := by rw [List.length_zipIdx] at hj; exact hj
  rw [hb j _ (List.getElem?_eq_getElem hj2), decide_eq_false (by show ¬ j = 6; omega)]
  rfl
theorem lead_cubes {ws : List Str} {a : Nat} (h : Lead ws a) (he : a ≤ endW ws) : ∀ (j : Nat) (c : List Int), j < a - 1 → (cubW ws)[j]? = some c → isCube (cubeD c) = true := fun j c hj hc => by
  rw [cubW_get (by omega)] at hc
  cases hc
  rw [figs_cube]
  exact h.up (j + 1) (by omega) (by omega)
theorem err_all {ws : List Str} {a : Nat} (h0 : ws.headD "" = ("cubes" : Str)) (h : Lead ws a) (hl : ws.length ≤ a) : errW ws = if 1 < a then none else some 1 := by
  have he := endW_ge h0 h
  have he2 : endW ws ≤ ws.length := List.findIdx_le_length
  have := h.len
  have := h.few
  have := h.one
  have hb : badC (cubW ws) = none := badC_no (by rw [cubW_len]; omega) fun j c hc => by
    have hj : j < (cubW ws).length := by
      apply Decidable.byContradiction
      intro z
      rw [List.getElem?_eq_none (by omega)] at hc
      cases hc
    rw [cubW_len] at hj
    exact lead_cubes h he j c (by omega) hc
  unfold errW readW
  rw [if_pos h0, hb]
  by_cases h1 : 1 < a
  · have : (cubW ws).isEmpty = false := by
      rw [List.isEmpty_eq_false_iff, ← List.length_pos_iff, cubW_len]; omega
    rw [if_pos h1]
    simp only [this, Bool.false_eq_true, if_false]
    rw [if_neg (by omega)]
  · have : (cubW ws).isEmpty = true := by
      rw [List.isEmpty_iff_length_eq_zero, cubW_len]; omega
    rw [if_neg h1]
    simp only [this, if_true]
theorem err_word {ws : List Str} {a : Nat} (h0 : ws.headD "" = ("cubes" : Str)) (h : Lead ws a) (hl : a < ws.length) (hs : stopW ws a) (ht : a = 1 ∨ ws.getD a "" ≠ ("turns" : Str)) : errW ws = some a := by
  have he := endW_ge h0 h
  have he2 : endW ws ≤ ws.length := List.findIdx_le_length
  have := h.few
  have := h.one
  unfold errW readW
  rw [if_pos h0]
  by_cases e : endW ws = a
  · have et : ws.getD a "" = ("turns" : Str) := by
      have hl2 : endW ws < ws.length := by omega
      have e2 := of_decide_eq_true (List.findIdx_getElem (p := fun w => decide (w = ("turns" : Str))) (w := hl2))
      have e2 : ws[endW ws] = ("turns" : Str) := e2
      rw [List.getD_eq_getElem?_getD, ← e, List.getElem?_eq_getElem hl2]; exact e2
    rcases ht with rfl | ht
    · have hz : cubW ws = [] := List.length_eq_zero_iff.mp (by rw [cubW_len]; omega)
      rw [hz]
      rfl
    · exact absurd et ht
  · have hb : badC (cubW ws) = some (a - 1) := badC_at (by rw [cubW_len]; omega) (by omega) (lead_cubes h he) (by
      rcases hs with hs | hs | hs
      · omega
      · left; omega
      · right
        intro c hc
        rw [cubW_get (by omega)] at hc
        cases hc
        rw [figs_cube, show a - 1 + 1 = a by omega]
        exact hs)
    rw [hb]
    show some (1 + (a - 1)) = some a
    congr 1
    omega
theorem err_turns {ws : List Str} {a : Nat} (h0 : ws.headD "" = ("cubes" : Str)) (h : Lead ws a) (hl : a < ws.length) (h1 : 1 < a) (ht : ws.getD a "" = ("turns" : Str)) : errW ws = match badT ((ws.drop (a + 1)).map figsS) with
    | some i => some (a + 1 + i)
    | none => if ws.length = a + 1 then some (a + 1) else none := by
  have he := endW_ge h0 h
  have he2 : endW ws ≤ ws.length := List.findIdx_le_length
  have := h.few
  have e : endW ws = a := by
    apply Nat.le_antisymm _ he
    apply Decidable.byContradiction
    intro hlt
    have := List.not_of_lt_findIdx (p := fun w => decide (w = ("turns" : Str))) (xs := ws) (i := a) (by show a < endW ws; omega)
    rw [List.getD_eq_getElem?_getD, List.getElem?_eq_getElem hl] at ht
    have ht : ws[a] = ("turns" : Str) := ht
    simp [ht] at this
  have hb : badC (cubW ws) = none := badC_no (by rw [cubW_len]; omega) fun j c hc => by
    have hj : j < (cubW ws).length := by
      apply Decidable.byContradiction
      intro z
      rw [List.getElem?_eq_none (by omega)] at hc
      cases hc
    rw [cubW_len] at hj
    exact lead_cubes h he j c (by omega) hc
  have hne : (cubW ws).isEmpty = false := by
    rw [List.isEmpty_eq_false_iff, ← List.length_pos_iff, cubW_len]; omega
  unfold errW readW
  rw [if_pos h0, hb]
  simp only [hne, Bool.false_eq_true, if_false]
  rw [if_pos (by omega)]
  have et : trnW ws = (ws.drop (a + 1)).map figsS := by unfold trnW; rw [e]
  rw [et, e]
  cases hbt : badT ((ws.drop (a + 1)).map figsS) with
  | some i => rfl
  | none =>
    by_cases hz : ws.length = a + 1
    · have : ((ws.drop (a + 1)).map figsS).isEmpty = true := by rw [List.isEmpty_map, List.isEmpty_iff_length_eq_zero, List.length_drop]; omega
      simp only [this, if_true, if_pos hz]
    · have : ((ws.drop (a + 1)).map figsS).isEmpty = false := by rw [List.isEmpty_map, List.isEmpty_eq_false_iff, ← List.length_pos_iff, List.length_drop]; omega
      simp only [this, Bool.false_eq_true, if_false, if_neg hz]
end Q
namespace Q
open PySem PySem.Spec PyProof.Rows L2 L3
def cd (f : Int) : Nat := (f + 48).toNat
def wp (p : Int × Int) : List Nat := [cd p.1, cd p.2]
def lastW (ps : List (Int × Int)) : List Nat := match ps.getLast? with
  | some l => wp l
  | none => []
def someW (ps : List (Int × Int)) : List Nat := ps.flatMap wp
def fineW (ps : List (Int × Int)) (l : List Nat) : Bool := riseL l && decide (l.length = 2) && !decide (l < lastW ps) && !l.any fun c => decide (c ∈ someW ps)
theorem pairs_toP (ps : List (Int × Int)) : ((pairsL ps).map cubeD).map toP = ps := by
  unfold pairsL
  rw [List.map_map, List.map_map]
  conv => rhs; rw [← List.map_id ps]
  rfl
theorem someW_eq (ps : List (Int × Int)) : someW ps = (figsOf ps).map cd := by
  unfold someW figsOf
  rw [List.map_flatMap]
  rfl
theorem fig_dig {ps : List (Int × Int)} (h : isTurns (.tup ((pairsL ps).map cubeD)) = true) : ∀ f ∈ figsOf ps, 0 ≤ f ∧ f ≤ 9 := by
  unfold isTurns at h
  rw [Bool.and_eq_true, Bool.and_eq_true] at h
  intro f hf
  obtain ⟨p, hp, hf⟩ := List.mem_flatMap.mp hf
  have hm : cubeD [p.1, p.2] ∈ (pairsL ps).map cubeD := List.mem_map_of_mem (List.mem_map_of_mem hp)
  have := List.all_eq_true.mp h.1.1 _ hm
  rw [Bool.and_eq_true] at this
  have h2 := pair_of this.1 this.2
  have e : toP (cubeD [p.1, p.2]) = p := rfl
  rw [e] at h2
  rcases List.mem_cons.mp hf with rfl | hf
  · exact ⟨h2.2.1, h2.2.2.1⟩
  · rw [List.mem_singleton.mp hf]; exact ⟨h2.2.2.2.1, h2.2.2.2.2⟩
theorem cd_mem {fs : List Int} (hf : ∀ f ∈ fs, 0 ≤ f ∧ f ≤ 9) {x : Int} (hx : 0 ≤ x ∧ x ≤ 9) : cd x ∈ fs.map cd ↔ x ∈ fs := by
  constructor
  · intro h
    obtain ⟨f, h1, h2⟩ := List.mem_map.mp h
    have := hf f h1
    unfold cd at h2
    have : f = x := by omega
    rw [← this]; exact h1
  · exact List.mem_map_of_mem
theorem figs_rise {w : Str} (h : risingW w = true) : TL.tl w = (figsS w).map cd ∧ (∀ f ∈ figsS w, 0 ≤ f ∧ f ≤ 9) ∧ (figsS w).length = (TL.tl w).length := by
  unfold risingW riseL at h
  rw [Bool.and_eq_true, Bool.and_eq_true] at h
  have ha := h.1.2
  unfold figsS
  rw [tl_cps, if_pos (show ((TL.tl w).all fun c => decide (48 ≤ c ∧ c ≤ 57)) = true from ha)]
  have hd : ∀ c ∈ TL.tl w, 48 ≤ c ∧ c ≤ 57 := fun c hc => of_decide_eq_true (List.all_eq_true.mp ha c hc)
  refine ⟨?_, fun f hf => ?_, List.length_map ..⟩
  · rw [List.map_map]
    conv => lhs; rw [← List.map_id (TL.tl w)]
    exact List.map_congr_left fun c hc => by
      have := hd c hc
      show c = (((c : Int) - 48) + 48).toNat
      omega
  · obtain ⟨c, hc, rfl⟩ := List.mem_map.mp hf
    have := hd c hc
    omega
theorem turn_step {ps : List (Int × Int)} (h : isTurns (.tup ((pairsL ps).map cubeD)) = true) (w : Str) : isTurns (.tup ((pairsL ps ++ [figsS w]).map cubeD)) = fineW ps (TL.tl w) := by
  have hdig := fig_dig h
  have h' := h
  unfold isTurns at h' ⊢
  rw [Bool.and_eq_true, Bool.and_eq_true, pairs_toP] at h'
  obtain ⟨⟨ha, hp⟩, hn⟩ := h'
  have hp := of_decide_eq_true hp
  have hn := of_decide_eq_true hn
  have em : (pairsL ps ++ [figsS w]).map cubeD = (pairsL ps).map cubeD ++ [cubeD (figsS w)] := by rw [List.map_append]; rfl
  rw [em]
  show (((pairsL ps).map cubeD ++ [cubeD (figsS w)]).all _ && _ && _) = _
  rw [List.all_append, ha, Bool.true_and, List.map_append, pairs_toP]
  rw [List.all_cons, List.all_nil, Bool.and_true, figs_cube]
  unfold fineW
  cases hr : risingW w with
  | false =>
    rw [show riseL (TL.tl w) = false from hr]
    simp only [Bool.false_and]
  | true =>
    rw [show riseL (TL.tl w) = true from hr, Bool.true_and, Bool.true_and]
    obtain ⟨e1, e2, e3⟩ := figs_rise hr
    have el : len2 (cubeD (figsS w)) = decide ((TL.tl w).length = 2) := by
      show (((figsS w).map D.int).length == 2) = _
      rw [List.length_map, e3]
      rfl
    rw [el]
    by_cases h2 : (TL.tl w).length = 2
    · rw [decide_eq_true h2, Bool.true_and, Bool.true_and]
      rw [← e3] at h2
      match hf : figsS w, h2 with
      | [x, y], _ =>
        rw [hf] at e1 e2
        have hx := e2 x List.mem_cons_self
        have hy := e2 y (List.mem_cons_of_mem _ List.mem_cons_self)
        have hxy : x < y := by
          unfold risingW riseL at hr
          rw [Bool.and_eq_true, e1] at hr
          have := of_decide_eq_true hr.2
          have : cd x < cd y := (List.pairwise_cons.mp this).1 _ List.mem_cons_self
          unfold cd at this
          omega
        show (decide ((ps ++ [(x, y)]).Pairwise ltP) && decide (figsOf (ps ++ [(x, y)])).Nodup) = _
        rw [e1, someW_eq]
        have hfig : figsOf (ps ++ [(x, y)]) = figsOf ps ++ [x, y] := by unfold figsOf; rw [List.flatMap_append]; rfl
        rw [hfig, Bool.eq_iff_iff, Bool.and_eq_true, Bool.and_eq_true, decide_eq_true_iff, decide_eq_true_iff, Bool.not_eq_true', Bool.not_eq_true', decide_eq_false_iff_not]
        have hany : (([x, y].map cd).any fun c => decide (c ∈ (figsOf ps).map cd)) = false ↔ x ∉ figsOf ps ∧ y ∉ figsOf ps := by
          show (decide (cd x ∈ (figsOf ps).map cd) || (decide (cd y ∈ (figsOf ps).map cd) || false)) = false ↔ _
          rw [Bool.or_false, Bool.or_eq_false_iff, decide_eq_false_iff_not, decide_eq_false_iff_not, cd_mem hdig hx, cd_mem hdig hy]
        rw [hany]
        have hnd : (figsOf ps ++ [x, y]).Nodup ↔ x ∉ figsOf ps ∧ y ∉ figsOf ps := by
          rw [List.nodup_append]
          constructor
          · rintro ⟨_, _, h3⟩
            exact ⟨fun z => h3 x z x List.mem_cons_self rfl, fun z => h3 y z y (List.mem_cons_of_mem _ List.mem_cons_self) rfl⟩
          · rintro ⟨h3, h4⟩
            refine ⟨hn, ?_, fun a ha b hb e => ?_⟩
            · rw [List.nodup_cons]
              exact ⟨fun z => by have := List.mem_singleton.mp z; omega, List.nodup_cons.mpr ⟨fun z => (by cases z), List.nodup_nil⟩⟩
            · subst e
              rcases List.mem_cons.mp hb with rfl | hb
              · exact h3 ha
              · rw [List.mem_singleton.mp hb] at ha
                exact h4 ha
        rw [hnd]
        refine and_congr_left fun ⟨hx2, _⟩ => ?_
        rcases List.eq_nil_or_concat ps with rfl | ⟨qs, l, el2⟩
        · exact ⟨fun _ z => absurd z (List.not_lt_nil _), fun _ => List.pairwise_singleton _ _⟩
        · rw [List.concat_eq_append] at el2
          subst el2
          have hl : lastW (qs ++ [l]) = wp l := by unfold lastW; rw [List.getLast?_concat]
          have hlm : l.1 ∈ figsOf (qs ++ [l]) := List.mem_flatMap.mpr ⟨l, List.mem_append.mpr (.inr List.mem_cons_self), List.mem_cons_self⟩
          have hne : l.1 ≠ x := fun e => hx2 (e ▸ hlm)
          have hl1 := hdig _ hlm
          have key : ¬ ([x, y].map cd < lastW (qs ++ [l])) ↔ l.1 < x := by
            rw [hl]
            show ¬ (cd x :: [cd y] < cd l.1 :: [cd l.2]) ↔ _
            rw [List.cons_lt_cons_iff]
            have : cd x ≠ cd l.1 := by unfold cd; omega
            constructor
            · intro z
              have : ¬ cd x < cd l.1 := fun q => z (.inl q)
              unfold cd at this
              omega
            · rintro q (z | ⟨z, _⟩)
              · unfold cd at z; omega
              · exact this z
          rw [key]
          constructor
          · intro z
            have := (List.pairwise_append.mp z).2.2 l (List.mem_append.mpr (.inr List.mem_cons_self)) (x, y) List.mem_cons_self
            unfold ltP at this
            rcases this with q | ⟨q, _⟩
            · exact q
            · exact absurd q hne
          · intro z
            refine List.pairwise_append.mpr ⟨hp, List.pairwise_singleton _ _, fun p hpm q hq => ?_⟩
            rw [List.mem_singleton.mp hq]
            left
            show p.1 < x
            rcases List.mem_append.mp hpm with hpm | hpm
            · have := (List.pairwise_append.mp hp).2.2 p hpm l List.mem_cons_self
              unfold ltP at this
              rcases this with q | ⟨q, _⟩ <;> omega
            · rw [List.mem_singleton.mp hpm]; exact z
    · rw [decide_eq_false h2]
      simp only [Bool.false_and]
theorem fine_pair {ps : List (Int × Int)} {w : Str} (h : fineW ps (TL.tl w) = true) : ∃ p, figsS w = [p.1, p.2] ∧ TL.tl w = wp p := by
  unfold fineW at h
  rw [Bool.and_eq_true, Bool.and_eq_true, Bool.and_eq_true] at h
  obtain ⟨e1, e2, e3⟩ := figs_rise h.1.1.1
  have h2 := of_decide_eq_true h.1.1.2
  rw [← e3] at h2
  match hf : figsS w, h2 with
  | [x, y], _ =>
    rw [hf] at e1
    exact ⟨(x, y), rfl, e1⟩
theorem lastW_snoc (ps : List (Int × Int)) (p : Int × Int) : lastW (ps ++ [p]) = wp p := by unfold lastW; rw [List.getLast?_concat]
theorem someW_snoc (ps : List (Int × Int)) (p : Int × Int) : someW (ps ++ [p]) = someW ps ++ wp p := by unfold someW; rw [List.flatMap_append]; rfl
theorem pairsL_snoc (ps : List (Int × Int)) (p : Int × Int) : pairsL (ps ++ [p]) = pairsL ps ++ [[p.1, p.2]] := by unfold pairsL; rw [List.map_append]; rfl
end Q
namespace Q
open PySem PySem.Spec PyProof.Rows L2 L3
theorem rng_dropA {lo : Int} {n i : Nat} {d : D} {rest : List D} (h : d :: rest = (rngD lo n).drop i) : i < n ∧ d = .int (lo + (i : Nat)) ∧ rest = (rngD lo n).drop (i + 1) := by
  have hi : i < n := by
    have := congrArg List.length h
    rw [List.length_cons, List.length_drop, rng_len] at this
    omega
  refine ⟨hi, ?_, by rw [← List.drop_drop, ← h]; rfl⟩
  have := congrArg (fun l => l[0]?) h
  rw [List.getElem?_drop, Nat.add_zero] at this
  unfold rngD at this
  rw [List.getElem?_map, List.getElem?_range hi] at this
  injection this with this
theorem rng_done {lo : Int} {n i : Nat} (h : [] = (rngD lo n).drop i) : n ≤ i := by
  have := congrArg List.length h
  rw [List.length_drop, rng_len, List.length_nil] at this
  omega
/-- the turns that were looked at -/
structure TrnI (ts : List (List Int)) (i : Nat) (last some : Str) : Prop where
  ok : ∀ j, j < i → isTurns (.tup ((ts.take (j + 1)).map cubeD)) = true
  le : i ≤ ts.length
  pre : ∃ ps, ts.take i = pairsL ps ∧ isTurns (.tup ((pairsL ps).map cubeD)) = true ∧ TL.tl last = lastW ps ∧ TL.tl some = someW ps ∧ some.length = 2 * i
theorem TrnI.zero (ts : List (List Int)) : TrnI ts 0 "" "" := ⟨fun j h => absurd h (Nat.not_lt_zero _), Nat.zero_le _, [], rfl, rfl, by decide +kernel, by decide +kernel, by decide +kernel⟩
theorem TrnI.more {ts : List (List Int)} {i : Nat} {last some w : Str} (h : TrnI ts i last some) (hi : ts[i]? = Option.some (figsS w)) (hw : isTurns (.tup ((ts.take (i + 1)).map cubeD)) = true) : TrnI ts (i + 1) w (some ++ w) := by
  obtain ⟨ps, e1, e2, e3, e4, e5⟩ := h.pre
  have et : ts.take (i + 1) = pairsL ps ++ [figsS w] := by rw [List.take_add_one, hi, e1]; rfl
  have hlt : i < ts.length := by
    apply Decidable.byContradiction
    intro z
    rw [List.getElem?_eq_none (by omega)] at hi
    cases hi
  refine ⟨fun j hj => ?_, hlt, ?_⟩
  · rcases Nat.lt_succ_iff_lt_or_eq.mp hj with hj | rfl
    · exact h.ok j hj
    · exact hw
  · have hf : fineW ps (TL.tl w) = true := by rw [← turn_step e2, ← et]; exact hw
    obtain ⟨p, f1, f2⟩ := fine_pair hf
    refine ⟨ps ++ [p], by rw [et, pairsL_snoc, f1], ?_, by rw [lastW_snoc, f2], by rw [TL.tl_append, someW_snoc, e4, f2], ?_⟩
    · rw [pairsL_snoc, ← f1, ← et]; exact hw
    · rw [Str.length_append, e5, TL.len_tl w, f2]
      show 2 * i + 2 = _
      omega
theorem badT_some {ts : List (List Int)} {i : Nat} {last some w : Str} (h : TrnI ts i last some) (hi : i < ts.length) (hw : isTurns (.tup ((ts.take (i + 1)).map cubeD)) = false) : badT ts = Option.some i := by
  unfold badT
  exact List.find?_range_eq_some.mpr ⟨by rw [hw]; rfl, List.mem_range.mpr hi, fun j hj => by rw [h.ok j hj]; rfl⟩
theorem badT_no {ts : List (List Int)} (h : ∀ j, j < ts.length → isTurns (.tup ((ts.take (j + 1)).map cubeD)) = true) : badT ts = none := by
  unfold badT
  refine List.find?_eq_none.mpr fun j hj => ?_
  rw [h j (List.mem_range.mp hj)]
  exact Bool.false_ne_true
theorem TrnI.step {ts : List (List Int)} {i : Nat} {last some w : Str} (h : TrnI ts i last some) (hi : ts[i]? = Option.some (figsS w)) : isTurns (.tup ((ts.take (i + 1)).map cubeD)) = (risingW w && decide (w.length = 2) && !decide (TL.tl w < TL.tl last) && !(TL.tl w).any fun c => decide (c ∈ TL.tl some)) := by
  obtain ⟨ps, e1, e2, e3, e4, e5⟩ := h.pre
  have et : ts.take (i + 1) = pairsL ps ++ [figsS w] := by rw [List.take_add_one, hi, e1]; rfl
  rw [et, turn_step e2, e3, e4, TL.len_tl]
  rfl
end Q
namespace Q
open PySem PySem.Spec PyProof.Rows L2 L3
def inK (l : List Nat) : D → Bool
  | .str y => decide (y.cps.toList.getD 0 0 ∈ l)
  | _ => false
end Q
namespace Q
open PySem PySem.Spec PyProof.Rows L2 L3
theorem len_run (M : Nat) : ∀ (l : List Nat) (c : Nat), run c l ≤ M → c + l.length + 1 ≤ (M + 1) * (l.count 32 + 1)
  | [], c, h => by
    have h : c ≤ M := h
    show c + 0 + 1 ≤ (M + 1) * (0 + 1)
    omega
  | x :: l, c, h => by
    rw [run_cons] at h
    by_cases hx : x = 32
    · subst hx
      rw [if_pos rfl] at h
      have := len_run M l 0 (by omega)
      rw [List.count_cons_self, List.length_cons, Nat.mul_succ (M + 1) (l.count 32 + 1)]
      omega
    · rw [if_neg hx] at h
      have := len_run M l (c + 1) h
      rw [List.count_cons_of_ne (fun e => hx e), List.length_cons]
      omega
theorem words_20 {cs : List (List Int)} {ts : List (Int × Int)} (h : GoodV cs ts) : ∀ w ∈ wordsS cs ts, (TL.tl w).length ≤ 20 := by
  intro w hw
  unfold wordsS at hw
  rcases List.mem_append.mp hw with hw | hw
  · rcases List.mem_append.mp hw with hw | hw
    · rw [List.mem_singleton.mp hw]; decide +kernel
    · obtain ⟨c, hc, rfl⟩ := List.mem_map.mp hw
      rw [← TL.len_tl, word_len (h.digs.1 c hc)]
      have := h.good.cub c hc
      omega
  · split at hw
    · cases hw
    · rcases List.mem_append.mp hw with hw | hw
      · rw [List.mem_singleton.mp hw]; decide +kernel
      · obtain ⟨p, hp, rfl⟩ := List.mem_map.mp hw
        rw [← TL.len_tl, word_len (h.digs.2 p hp)]
        show 2 ≤ 20
        omega
theorem text_tx {cs : List (List Int)} {ts : List (Int × Int)} (h : GoodV cs ts) : (TL.tl (textS cs ts)).length ≤ 800 ∧ run 0 (TL.tl (textS cs ts)) ≤ 20 ∧ (TL.tl (textS cs ts)).count 32 ≤ 13 ∧ ∀ c ∈ TL.tl (textS cs ts), c < 0x110000 := by
  have e := split_sp (textS cs ts)
  rw [split_text h] at e
  have hr : run 0 (TL.tl (textS cs ts)) ≤ 20 := by
    refine (run_sp 20 _ []).mpr fun w hw => ?_
    rw [← e] at hw
    obtain ⟨x, hx, rfl⟩ := List.mem_map.mp hw
    exact words_20 h x hx
  have hc : (TL.tl (textS cs ts)).count 32 ≤ 13 := by
    have := sp_len (TL.tl (textS cs ts)) []
    rw [← e, List.length_map] at this
    have := words_len h
    omega
  refine ⟨?_, hr, hc, ok_all.mp (text_len h).2⟩
  have := len_run 20 _ 0 hr
  have : (20 + 1) * ((TL.tl (textS cs ts)).count 32 + 1) ≤ (20 + 1) * (13 + 1) := Nat.mul_le_mul_left _ (by omega)
  omega
theorem cut_to (z : Str) (k : Nat) : TL.tl (cutS z none (some (k : Int))) = (TL.tl z).take k := by
  show ((z.cps.toList.drop (HT.sIx z.length 0 none)).take (HT.sIx z.length z.length (some (k : Int)) - HT.sIx z.length 0 none)) = _
  rw [HT.sIx_none, HT.sIx_nat, List.drop_zero, Nat.sub_zero]
  show (TL.tl z).take _ = _
  rw [TL.len_tl]
  by_cases h : k ≤ (TL.tl z).length
  · rw [Nat.min_eq_left h]
  · rw [Nat.min_eq_right (by omega), List.take_of_length_le (Nat.le_refl _), List.take_of_length_le (by omega)]
theorem cut_fr (z : Str) (k : Nat) : TL.tl (cutS z (some (k : Int)) none) = (TL.tl z).drop k := by
  show ((z.cps.toList.drop (HT.sIx z.length 0 (some (k : Int)))).take (HT.sIx z.length z.length none - HT.sIx z.length 0 (some (k : Int)))) = _
  rw [HT.sIx_none, HT.sIx_nat]
  show ((TL.tl z).drop _).take _ = _
  rw [TL.len_tl]
  by_cases h : k ≤ (TL.tl z).length
  · rw [Nat.min_eq_left h]
    exact List.take_of_length_le (by rw [List.length_drop]; omega)
  · rw [Nat.min_eq_right (by omega), List.drop_eq_nil_of_le (by omega), List.drop_eq_nil_of_le (by omega)]; exact List.take_nil
theorem cut_one (z : Str) (k : Nat) (h : k ≤ (TL.tl z).length) : TL.tl (cutS z (some (k : Int)) (some ((k : Int) + 1))) = ((TL.tl z).drop k).take 1 := by
  show ((z.cps.toList.drop (HT.sIx z.length 0 (some (k : Int)))).take (HT.sIx z.length z.length (some ((k + 1 : Nat) : Int)) - HT.sIx z.length 0 (some (k : Int)))) = _
  rw [HT.sIx_nat, HT.sIx_nat]
  show ((TL.tl z).drop _).take _ = _
  rw [TL.len_tl, Nat.min_eq_left h]
  by_cases h2 : k + 1 ≤ (TL.tl z).length
  · rw [Nat.min_eq_left h2]; congr 1; omega
  · rw [Nat.min_eq_right (by omega), List.drop_eq_nil_of_le (by omega), List.take_nil, List.take_nil]
theorem spoilt_of {cs : List (List Int)} {ts : List (Int × Int)} (h : GoodV cs ts) {z : Str} {i j : Nat} {m : List Nat} (hm : m.length ≤ 1) (hm2 : ∀ c ∈ m, c < 0x110000) (hij : i ≤ j) (e : TL.tl z = (TL.tl (textS cs ts)).take i ++ m ++ (TL.tl (textS cs ts)).drop j) : z.length ≤ 1000 ∧ WdOk (Txt.split z " ") ∧ PyData.strOk z = true := by
  obtain ⟨h1, h2, h3, h4⟩ := text_tx h
  exact wd_of (by rw [e]; exact tx_of h1 h2 h3 h4 hm hm2 hij)
end Q
namespace Q
open PySem PySem.Spec PyProof.Rows L2 L3
/-- sets that were read -/
def wordsL (cs ts : List (List Int)) : List Str := [("cubes" : Str)] ++ cs.map wordS ++ if ts.isEmpty = true then [] else [("turns" : Str)] ++ ts.map wordS
structure DigL (cs : List (List Int)) : Prop where
  dig : ∀ c ∈ cs, Digs c
  len : ∀ c ∈ cs, c.length ≤ 60
  few : cs.length ≤ 30
def gWriteL (C : Addr) : DF := fun ds P _ => ∃ cs ts, ds = [objD C cs ts] ∧ DigL cs ∧ DigL ts ∧ P (.str (Txt.join " " (wordsL cs ts)))
theorem words_set (cs : List (List Int)) (ts : List (Int × Int)) : wordsL cs (pairsL ts) = wordsS cs ts := by
  unfold wordsL wordsS pairsL
  rw [List.isEmpty_map, List.map_map]
  rfl
theorem GoodV.digL {cs : List (List Int)} {ts : List (Int × Int)} (h : GoodV cs ts) : DigL cs ∧ DigL (pairsL ts) := by
  refine ⟨⟨h.digs.1, fun c hc => by have := h.good.cub c hc; omega, by have := h.few; omega⟩, ⟨fun c hc => ?_, fun c hc => ?_, by unfold pairsL; rw [List.length_map]; have := h.good.trn; omega⟩⟩
  · obtain ⟨p, hp, rfl⟩ := List.mem_map.mp hc
    exact h.digs.2 p hp
  · obtain ⟨p, hp, rfl⟩ := List.mem_map.mp hc
    show 2 ≤ 60
    omega
theorem wsum {l : List (List Int)} (h : DigL l) : ((l.map wordS).map (·.length)).sum ≤ l.length * 60 := by
  have h1 := h.dig
  have h2 := h.len
  clear h
  induction l with
  | nil => exact Nat.zero_le _
  | cons c l ih =>
    rw [List.map_cons, List.map_cons, List.sum_cons, List.length_cons, word_len (h1 c List.mem_cons_self)]
    have := ih (fun x hx => h1 x (List.mem_cons_of_mem _ hx)) (fun x hx => h2 x (List.mem_cons_of_mem _ hx))
    have := h2 c List.mem_cons_self
    omega
theorem wordsL_sum {cs ts : List (List Int)} (hc : DigL cs) (ht : DigL ts) : ((wordsL cs ts).map (·.length)).sum + (wordsL cs ts).length * (" " : Str).length ≤ 16777216 := by
  have s1 := wsum hc
  have s2 := wsum ht
  have h1 : ("cubes" : Str).length = 5 := by decide +kernel
  have h2 : ("turns" : Str).length = 5 := by decide +kernel
  have h3 : (" " : Str).length = 1 := by decide +kernel
  have l1 := hc.few
  have l2 := ht.few
  unfold wordsL
  split
  · simp only [List.append_nil, List.map_append, List.sum_append, List.map_cons, List.map_nil, List.sum_cons, List.sum_nil, List.length_append, List.length_cons, List.length_nil, List.length_map, h1, h3]
    omega
  · simp only [List.map_append, List.sum_append, List.map_cons, List.map_nil, List.sum_cons, List.sum_nil, List.length_append, List.length_cons, List.length_nil, List.length_map, h1, h2, h3]
    omega
end Q
namespace Q
open PySem PySem.Spec PyProof.Rows L2 L3
theorem word_figs {w : Str} (h : risingW w = true) : Digs (figsS w) ∧ wordS (figsS w) = w := by
  obtain ⟨e1, e2, e3⟩ := figs_rise h
  refine ⟨e2, TL.ext_tl ?_⟩
  rw [wordS_tl e2, e1]
  rfl
theorem digL_of {l : List Str} (h : ∀ w ∈ l, risingW w = true) (h2 : ∀ w ∈ l, w.length ≤ 60) (h3 : l.length ≤ 30) : DigL (l.map figsS) ∧ (l.map figsS).map wordS = l := by
  refine ⟨⟨fun c hc => ?_, fun c hc => ?_, by rw [List.length_map]; exact h3⟩, ?_⟩
  · obtain ⟨w, hw, rfl⟩ := List.mem_map.mp hc
    exact (word_figs (h w hw)).1
  · obtain ⟨w, hw, rfl⟩ := List.mem_map.mp hc
    exact figs_len (h2 w hw)
  · rw [List.map_map]
    conv => rhs; rw [← List.map_id l]
    exact List.map_congr_left fun w hw => (word_figs (h w hw)).2
theorem ok_words {ws : List Str} {cs ts : List (List Int)} (hw : WdOk ws) (h : readW ws = .ok (cs, ts)) : DigL cs ∧ DigL ts ∧ wordsL cs ts = ws := by
  obtain ⟨hne, hfew, hlen⟩ := hw
  unfold readW at h
  by_cases h0 : ws.headD "" = ("cubes" : Str)
  case neg => rw [if_neg h0] at h; cases h
  rw [if_pos h0] at h
  cases hb : badC (cubW ws) with
  | some i => rw [hb] at h; cases h
  | none =>
    rw [hb] at h
    cases hem : (cubW ws).isEmpty with
    | true => simp only [hem, if_true] at h; cases h
    | false =>
      simp only [hem, Bool.false_eq_true, if_false] at h
      obtain ⟨w0, rest, rfl⟩ : ∃ w0 rest, ws = w0 :: rest := by cases ws with
        | nil => exact absurd rfl hne
        | cons a b => exact ⟨a, b, rfl⟩
      have h0 : w0 = ("cubes" : Str) := h0
      subst h0
      have he : 1 ≤ endW (("cubes" : Str) :: rest) := by
        unfold endW
        rw [List.findIdx_cons, show decide (("cubes" : Str) = ("turns" : Str)) = false from by decide +kernel]
        exact Nat.succ_le_succ (Nat.zero_le _)
      have he2 : endW (("cubes" : Str) :: rest) ≤ (("cubes" : Str) :: rest).length := List.findIdx_le_length
      rw [List.length_cons] at he2 hfew
      have hcr : ∀ w ∈ (rest.take (endW (("cubes" : Str) :: rest) - 1)), risingW w = true := fun w hw => by
        rw [← figs_cube]
        exact (badC_none hb).2 _ (List.mem_map_of_mem hw)
      obtain ⟨c1, c2⟩ := digL_of hcr (fun w hw => (hlen w (List.mem_cons_of_mem _ (List.mem_of_mem_take hw))).1) (by rw [List.length_take]; omega)
      by_cases hlt : endW (("cubes" : Str) :: rest) < (("cubes" : Str) :: rest).length
      · rw [if_pos hlt] at h
        cases hbt : badT (trnW (("cubes" : Str) :: rest)) with
        | some i => rw [hbt] at h; cases h
        | none =>
          rw [hbt] at h
          cases het : (trnW (("cubes" : Str) :: rest)).isEmpty with
          | true => simp only [het, if_true] at h; cases h
          | false =>
            simp only [het, Bool.false_eq_true, if_false] at h
            injection h with h
            injection h with h1 h2
            subst h1 h2
            have hT := badT_none hbt het
            have htr : ∀ w ∈ rest.drop (endW (("cubes" : Str) :: rest)), risingW w = true := fun w hw => by
              rw [← figs_cube]
              unfold isTurns at hT
              rw [Bool.and_eq_true, Bool.and_eq_true] at hT
              have := List.all_eq_true.mp hT.1.1 (cubeD (figsS w)) (List.mem_map_of_mem (List.mem_map_of_mem hw))
              rw [Bool.and_eq_true] at this
              exact this.1
            obtain ⟨t1, t2⟩ := digL_of htr (fun w hw => (hlen w (List.mem_cons_of_mem _ (List.mem_of_mem_drop hw))).1) (by rw [List.length_drop]; omega)
            refine ⟨c1, t1, ?_⟩
            unfold wordsL
            rw [het, if_neg Bool.false_ne_true]
            have e1 : (cubW (("cubes" : Str) :: rest)).map wordS = rest.take (endW (("cubes" : Str) :: rest) - 1) := c2
            have e2 : (trnW (("cubes" : Str) :: rest)).map wordS = rest.drop (endW (("cubes" : Str) :: rest)) := t2
            rw [e1, e2]
            have et : (("cubes" : Str) :: rest)[endW (("cubes" : Str) :: rest)] = ("turns" : Str) := of_decide_eq_true (List.findIdx_getElem (p := fun w => decide (w = ("turns" : Str))) (w := hlt))
            obtain ⟨k, hk⟩ : ∃ k, endW (("cubes" : Str) :: rest) = k + 1 := ⟨endW (("cubes" : Str) :: rest) - 1, by omega⟩
            have hkl : k < rest.length := by rw [hk, List.length_cons] at hlt; omega
            have et2 : rest[k]? = some ("turns" : Str) := by
              have : (("cubes" : Str) :: rest)[endW (("cubes" : Str) :: rest)]? = some ("turns" : Str) := by rw [List.getElem?_eq_getElem hlt, et]
              rw [hk] at this
              exact this
            rw [List.getElem?_eq_getElem hkl] at et2
            injection et2 with et2
            rw [hk]
            show ("cubes" : Str) :: (rest.take k ++ (("turns" : Str) :: rest.drop (k + 1))) = _
            rw [← et2, ← List.drop_eq_getElem_cons hkl, List.take_append_drop]
      · rw [if_neg hlt] at h
        injection h with h
        injection h with h1 h2
        subst h1 h2
        rw [List.length_cons] at hlt
        have ht : trnW (("cubes" : Str) :: rest) = [] := by unfold trnW; rw [List.drop_eq_nil_of_le (by rw [List.length_cons]; omega)]; rfl
        rw [ht]
        refine ⟨c1, ⟨fun _ h => (by cases h), fun _ h => (by cases h), Nat.zero_le _⟩, ?_⟩
        unfold wordsL
        have e1 : (cubW (("cubes" : Str) :: rest)).map wordS = rest.take (endW (("cubes" : Str) :: rest) - 1) := c2
        rw [e1, List.take_of_length_le (by omega)]
        show ("cubes" : Str) :: (rest ++ []) = _
        rw [List.append_nil]
def txB (l : List Nat) : Bool := decide (l.length ≤ 900) && decide (run 0 l ≤ 60) && decide (l.count 32 ≤ 29) && l.all fun c => decide (c < 0x110000)
theorem tx_b {l : List Nat} (h : txB l = true) : TxOk l := by
  unfold txB at h
  rw [Bool.and_eq_true, Bool.and_eq_true, Bool.and_eq_true] at h
  exact ⟨of_decide_eq_true h.1.1.1, of_decide_eq_true h.1.1.2, of_decide_eq_true h.1.2, fun c hc => of_decide_eq_true (List.all_eq_true.mp h.2 c hc)⟩
end Q
namespace Q
open PySem PySem.Spec PyProof.Rows L2 L3
theorem nil_nil : eqD (.lst []) (.lst []) = true := by
  have h : D.Eqs 1 (.lst []) := Eqs.intsL []
  rw [eq_nil h]
  rfl
def oddT : List Str := ["", "cubes", "cubes ", "cubes turns", "cubes turns 69", "cubes 1 turns", "cubes 1 turns ", "cubes 11", "cubes 1 turns 96", "cubes 1 turns 69 17", "cubes 1 turns 17 69", "cubes 1 turns 17 78", "cubes 21",
  "cubes 1 turns 169", "cubes 1 1 1 1 1 1", "cubes 1 1 1 1 1 1 1", "cubes 1 1 1 1 1 1 turns 01", "cubes 1  2", "Cubes 1", " cubes 1", "cubes 1 turns 01 23 45 67 89", "cubes 1 turns 69 turns", "cubes 1x", "cubes 1 2 "]
theorem odd_tx : ∀ z ∈ oddT, txB (TL.tl z) = true := by decide +kernel
end Q

/-! The cubes that a set can lose. -/
namespace Q
open PySem PySem.Spec PyProof.Rows L2 L3
def tkOf (cs : List (List Int)) (ts : List (Int × Int)) (e : D) : Nat := takeN ((digs e).map (withL cs ts))
def gTakS (C : Addr) : DF := fun ds P _ => ∃ cs ts es, ds = [setD C cs ts, .tup es] ∧ Good cs ts ∧ es.length ≤ 60 ∧ (∀ e ∈ es, isNum e = true) ∧
  ∀ ms : List Nat, ms.length ≤ 60 → (∀ T, T ∈ ms ↔ 0 < T ∧ ∃ e ∈ es, tkOf cs ts e = T) → P (.lst (ms.map fun T => .int (T : Nat)))
def leftN (T : Nat) (lost : List Nat) : Nat := lost.foldl (fun T c => T &&& wo c) T
def leftB (T : Nat) (lost : List Nat) : Bool := decide (0 < leftN T lost)
abbrev natsT (l : List Nat) : D := .tup (l.map fun j => D.int (j : Nat))
def gIsLeft : DF := fun ds P _ => ∃ (T : Nat) (lost : List Nat), ds = [.int (T : Nat), natsT lost] ∧ (∀ c ∈ lost, c < 6) ∧ lost.length ≤ 6 ∧ P (.bl (leftB T lost))
def gAllLeft : DF := fun ds P _ => ∃ (ms : List Nat) (lost : List Nat), ds = [.lst (ms.map fun T => .int (T : Nat)), natsT lost] ∧ (∀ c ∈ lost, c < 6) ∧ lost.length ≤ 6 ∧ ms.length ≤ 1000 ∧ P (.bl (ms.all fun T => leftB T lost))
/-- all numbers that are shown are still shown without the lost cubes -/
def keepL (cs : List (List Int)) (ts : List (Int × Int)) (es : List D) (lost : List Nat) : Bool := (shownL cs ts es).all fun e => (waysOf cs ts (digs e)).any fun w => w.all fun c => !decide (c.toNat ∈ lost)
def badsOf (cs : List (List Int)) (ts : List (Int × Int)) (es : List D) (k : Nat) : List (List Nat) := (combN cs.length k).filter fun l => !keepL cs ts es l
def goodsOf (cs : List (List Int)) (ts : List (Int × Int)) (es : List D) (k : Nat) : List (List Nat) := (combN cs.length k).filter fun l => keepL cs ts es l
def lostD (cs : List (List Int)) (ts : List (Int × Int)) (es : List D) : D := match (List.range cs.length).find? fun i => !(badsOf cs ts es (i + 1)).isEmpty with
  | some i => .tup [.int ((1 : Int) + (i : Nat)), .lst ((badsOf cs ts es (i + 1)).map natsT)]
  | none => .non
def spareD (cs : List (List Int)) (ts : List (Int × Int)) (es : List D) : D := match (List.range cs.length).find? fun i => !(goodsOf cs ts es (cs.length - i)).isEmpty with
  | some i => .tup [.int ((cs.length : Int) - (i : Nat)), .lst ((goodsOf cs ts es (cs.length - i)).map natsT)]
  | none => .tup [.int 0, .lst [.tup []]]
def gKeepsL (C : Addr) : DF := fun ds P _ => ∃ cs ts es lost, ds = [setD C cs ts, .lst (shownL cs ts es), natsT lost] ∧ Good cs ts ∧ es.length ≤ 60 ∧ (∀ e ∈ es, isNum e = true) ∧ lost.length ≤ 6 ∧ P (.bl (keepL cs ts es lost))
end Q
namespace Q
open PySem PySem.Spec PyProof.Rows L2 L3
theorem tk_of {cs : List (List Int)} {ts : List (Int × Int)} (h : cs.length ≤ 6) (e : D) : Tk (tkOf cs ts e) (waysOf cs ts (digs e)) :=
  tk_ways _ _ rfl fun l hl => by obtain ⟨n, _, rfl⟩ := List.mem_map.mp hl; exact ent_with h n
theorem way_ent {cs : List (List Int)} {ts : List (Int × Int)} (h : cs.length ≤ 6) {ns : List Int} {w : List Int} (hw : w ∈ waysOf cs ts ns) : ∀ c ∈ w, 0 ≤ c ∧ c < 6 := fun c hc => by
  obtain ⟨l, hl, hc⟩ := waysBy_ent _ _ rfl w hw c hc
  obtain ⟨n, _, rfl⟩ := List.mem_map.mp hl
  exact ent_with h n c hc
theorem leftN_bit {j : Nat} (hj : j < 64) : ∀ (lost : List Nat) (T : Nat), (∀ c ∈ lost, c < 6) → (leftN T lost).testBit j = (T.testBit j && lost.all fun c => !j.testBit c)
  | [], T, _ => by show T.testBit j = _; rw [List.all_nil, Bool.and_true]
  | c :: lost, T, h => by
    show (leftN (T &&& wo c) lost).testBit j = _
    rw [leftN_bit hj lost _ fun x hx => h x (List.mem_cons_of_mem _ hx), Nat.testBit_and, wo_bit c (h c List.mem_cons_self) j hj, List.all_cons, Bool.and_assoc]
theorem leftN_lt : ∀ (lost : List Nat) (T : Nat), T < 2 ^ 64 → leftN T lost < 2 ^ 64
  | [], T, h => h
  | c :: lost, T, h => leftN_lt lost _ (Nat.lt_of_le_of_lt Nat.and_le_left h)
theorem left_ways {T : Nat} {ws : List (List Int)} (h : Tk T ws) (hw : ∀ w ∈ ws, ∀ c ∈ w, 0 ≤ c ∧ c < 6) {lost : List Nat} (hl : ∀ c ∈ lost, c < 6) : leftB T lost = ws.any fun w => w.all fun c => !decide (c.toNat ∈ lost) := by
  have key : ∀ w ∈ ws, (lost.all fun c => !(maskN w).testBit c) = w.all fun c => !decide (c.toNat ∈ lost) := fun w hw2 => by
    rw [Bool.eq_iff_iff, List.all_eq_true, List.all_eq_true]
    constructor
    · intro h1 c hc
      have h0 := hw w hw2 c hc
      rw [Bool.not_eq_true', decide_eq_false_iff_not]
      intro hm
      have := h1 c.toNat hm
      rw [maskN_bit (fun x hx => (hw w hw2 x hx).1) h0.1, decide_eq_true hc] at this
      exact absurd this (by decide)
    · intro h1 c hc
      have e : (maskN w).testBit c = (maskN w).testBit (c : Int).toNat := by rw [Int.toNat_natCast]
      rw [e, maskN_bit (fun x hx => (hw w hw2 x hx).1) (Int.natCast_nonneg c), Bool.not_eq_true', decide_eq_false_iff_not]
      intro hm
      have := h1 _ hm
      rw [Int.toNat_natCast, decide_eq_true hc] at this
      exact absurd this (by decide)
  rw [Bool.eq_iff_iff, List.any_eq_true]
  unfold leftB
  rw [decide_eq_true_iff]
  constructor
  · intro hp
    have hex : ∃ j, (leftN T lost).testBit j = true := Nat.exists_testBit_of_ne_zero (by omega)
    obtain ⟨j, hj⟩ := hex
    have hj64 := lt_of_bit (leftN_lt lost T h.lt) hj
    rw [leftN_bit hj64 lost T hl, Bool.and_eq_true] at hj
    obtain ⟨w, h1, rfl⟩ := (h.bit j).mp hj.1
    exact ⟨w, h1, by rw [← key w h1]; exact hj.2⟩
  · rintro ⟨w, h1, h2⟩
    have hm := maskN_lt fun x hx => (hw w h1 x hx).2
    have hb : (leftN T lost).testBit (maskN w) = true := by
      rw [leftN_bit hm lost T hl, (h.bit _).mpr ⟨w, h1, rfl⟩, key w h1, h2]; rfl
    apply Decidable.byContradiction
    intro hz
    have : leftN T lost = 0 := by omega
    rw [this, Nat.zero_testBit] at hb
    cases hb
/-- what the takings tell -/
theorem all_keep {cs : List (List Int)} {ts : List (Int × Int)} (h : cs.length ≤ 6) {es : List D} {ms : List Nat} (hm : ∀ T, T ∈ ms ↔ 0 < T ∧ ∃ e ∈ es, tkOf cs ts e = T) {lost : List Nat} (hl : ∀ c ∈ lost, c < 6) : (ms.all fun T => leftB T lost) = keepL cs ts es lost := by
  unfold keepL shownL
  rw [Bool.eq_iff_iff, List.all_eq_true, List.all_eq_true]
  constructor
  · intro h1 e he
    obtain ⟨he1, he2⟩ := List.mem_filter.mp he
    have hp := takeN_shown (ts := ts) h (digs e)
    rw [he2, decide_eq_true_iff] at hp
    have := h1 _ ((hm _).mpr ⟨by unfold tkOf; omega, e, he1, rfl⟩)
    rw [left_ways (tk_of h e) (fun w hw => way_ent h hw) hl] at this
    exact this
  · intro h1 T hT
    obtain ⟨h0, e, he, rfl⟩ := (hm T).mp hT
    have hp := takeN_shown (ts := ts) h (digs e)
    have h0' : (0 : Int) < (takeN ((digs e).map (withL cs ts)) : Nat) := by unfold tkOf at h0; omega
    rw [decide_eq_true h0'] at hp
    rw [left_ways (tk_of h e) (fun w hw => way_ent h hw) hl]
    exact h1 e (List.mem_filter.mpr ⟨he, hp.symm⟩)
theorem comb_in {n k : Nat} (hn : n ≤ 6) (hk : k ≤ n) {l : List Nat} (h : l ∈ combN n k) : l.length = k ∧ ∀ j ∈ l, j < n := (comb_steps n hn k hk).2.2 l h
theorem comb_len : ∀ n ≤ 6, ∀ k ≤ n, (combN n k).length ≤ 20 := by decide +kernel
def toN : D → List Nat
  | .tup l => l.map fun d => (toI d).toNat
  | _ => []
theorem toN_nats (l : List Nat) : toN (natsT l) = l := by
  show (l.map fun j => D.int (j : Nat)).map _ = l
  rw [List.map_map]
  conv => rhs; rw [← List.map_id l]
  exact List.map_congr_left fun j _ => Int.toNat_natCast j
theorem pick_combs (p : List Nat → Bool) (L : List (List Nat)) : [] ++ ((cmbD L).filter fun d => p (toN d)).map (fun d => d) = (L.filter p).map natsT := by
  rw [List.nil_append, List.map_id', cmbD, List.filter_map]
  congr 1
  exact List.filter_congr fun l _ => by show p (toN (natsT l)) = p l; rw [toN_nats]
end Q
namespace Q
open PySem PySem.Spec PyProof.Rows L2 L3
theorem nodup_le {α : Type} [DecidableEq α] : ∀ (l m : List α), l.Nodup → (∀ x ∈ l, x ∈ m) → l.length ≤ m.length
  | [], _, _, _ => Nat.zero_le _
  | x :: l, m, hn, h => by
    obtain ⟨h1, h2⟩ := List.nodup_cons.mp hn
    have hx := h x List.mem_cons_self
    have := nodup_le l (m.erase x) h2 fun y hy => (List.mem_erase_of_ne (fun e => by subst e; exact h1 hy)).mpr (h y (List.mem_cons_of_mem _ hy))
    rw [List.length_erase_of_mem hx] at this
    have hp : 0 < m.length := List.length_pos_of_mem hx
    rw [List.length_cons]
    omega
theorem pos_nats {ms : List Int} : [] ++ ((ms.map D.int).filter fun d => decide (0 < toI d)).map (fun d => d) = (((ms.filter fun k => decide (0 < k)).map Int.toNat).map fun T : Nat => D.int (T : Nat)) := by
  rw [List.nil_append, List.map_id', List.filter_map, List.map_map]
  refine List.map_congr_left fun k hk => ?_
  have h2 := (List.mem_filter.mp hk).2
  have : 0 < k := of_decide_eq_true h2
  show D.int k = D.int ((k.toNat : Nat) : Int)
  rw [Int.toNat_of_nonneg (by omega)]
theorem rng_dropN {lo : Int} {n i : Nat} {d : D} {rest : List D} (h : d :: rest = (rngD lo n).drop i) : i < n ∧ d = .int (lo + (i : Nat)) ∧ rest = (rngD lo n).drop (i + 1) := by
  have hi : i < n := by
    have := congrArg List.length h
    rw [List.length_cons, List.length_drop, rng_len] at this
    omega
  refine ⟨hi, ?_, by rw [← List.drop_drop, ← h]; rfl⟩
  have := congrArg (fun l => l[0]?) h
  rw [List.getElem?_drop, Nat.add_zero] at this
  unfold rngD at this
  rw [List.getElem?_map, List.getElem?_range hi] at this
  injection this with this
theorem rng_doneN {lo : Int} {n i : Nat} (h : [] = (rngD lo n).drop i) : n ≤ i := by
  have := congrArg List.length h
  rw [List.length_drop, rng_len, List.length_nil] at this
  omega
theorem down_len {lo : Int} {n : Nat} : (downD lo n).length = n := by
  unfold downD
  rw [List.length_map, List.length_range]
theorem down_drop {lo : Int} {n i : Nat} {d : D} {rest : List D} (h : d :: rest = (downD lo n).drop i) : i < n ∧ d = .int (lo - (i : Nat)) ∧ rest = (downD lo n).drop (i + 1) := by
  have hi : i < n := by
    have := congrArg List.length h
    rw [List.length_cons, List.length_drop, down_len] at this
    omega
  refine ⟨hi, ?_, by rw [← List.drop_drop, ← h]; rfl⟩
  have := congrArg (fun l => l[0]?) h
  rw [List.getElem?_drop, Nat.add_zero] at this
  unfold downD at this
  rw [List.getElem?_map, List.getElem?_range hi] at this
  injection this with this
theorem down_done {lo : Int} {n i : Nat} (h : [] = (downD lo n).drop i) : n ≤ i := by
  have := congrArg List.length h
  rw [List.length_drop, down_len, List.length_nil] at this
  omega
end Q
namespace Q
open PySem PySem.Spec PyProof.Rows L2 L3
theorem natsT_ints (l : List Nat) : natsT l = intsT (l.map fun j : Nat => (j : Int)) := by
  show D.tup _ = D.tup _
  rw [List.map_map]; rfl
theorem nat_in {c : Int} (h : 0 ≤ c) (l : List Nat) : decide (c ∈ l.map fun j : Nat => (j : Int)) = decide (c.toNat ∈ l) := by
  apply decide_eq_decide.mpr
  constructor
  · intro hm
    obtain ⟨j, hj, rfl⟩ := List.mem_map.mp hm
    rw [Int.toNat_natCast]; exact hj
  · intro hm
    exact List.mem_map.mpr ⟨c.toNat, hm, by omega⟩
theorem ints_none (c : List Int) : eqD (intsL c) (.lst []) = c.isEmpty := Bool.not_inj ne_empty
theorem ways_small {cs : List (List Int)} {ts : List (Int × Int)} (h : cs.length ≤ 6) {d : D} (hn : isNum d = true) : (waysOf cs ts (digs d)).length ≤ 46656 := by
  obtain ⟨z, rfl, z1, z6, _⟩ := numOf hn
  have hl : ((digs (.str z)).map (withL cs ts)).length = z.length := by
    rw [List.length_map]
    show (z.cps.toList.map _).length = _
    rw [List.length_map]; simp [Str.length]
  have := waysBy_len _ ((digs (.str z)).map (withL cs ts)) hl fun l hl2 => by
    obtain ⟨n, _, rfl⟩ := List.mem_map.mp hl2
    exact Nat.le_trans (withL_len _ _ _) h
  have h2 : 6 ^ z.length ≤ 6 ^ 6 := Nat.pow_le_pow_right (by decide) z6
  exact Nat.le_trans this h2
def freeK (lost : List Nat) (d : D) : Bool := ((itsOf d).map toI).all fun c => !decide (c.toNat ∈ lost)
end Q
namespace Q
open PySem PySem.Spec PyProof.Rows L2 L3 PySem.W
def natP (l : List Nat) : PyData := .tuple (l.map fun j : Nat => .int (j : Nat))
theorem natP_ints (l : List Nat) : natP l = .tuple ((l.map fun j : Nat => (j : Int)).map .int) := by
  unfold natP
  rw [List.map_map]; rfl
theorem py_nats (l : List Nat) : (natsT l).py = some (natP l) := by
  show (D.pys (l.map fun j => D.int (j : Nat))).map PyData.tuple = _
  rw [pys_map (fd := fun j : Nat => D.int (j : Nat)) (fp := fun j : Nat => PyData.int (j : Nat)) fun _ _ => rfl]
  rfl
theorem alike_nats (a b : List Nat) : alike (natP a) (natP b) = true := by
  rw [natP_ints, natP_ints]
  show alike (.tuple _) (.tuple _) = true
  rw [alike]
  exact alike_ints _ _
theorem nat_lex : ∀ a b : List Nat, ((a.map fun j : Nat => (j : Int)) < (b.map fun j : Nat => (j : Int))) ↔ a < b
  | [], [] => ⟨fun h => absurd h (List.not_lt_nil _), fun h => absurd h (List.not_lt_nil _)⟩
  | [], y :: b => ⟨fun _ => List.nil_lt_cons _ _, fun _ => List.nil_lt_cons _ _⟩
  | x :: a, [] => ⟨fun h => absurd h (List.not_lt_nil _), fun h => absurd h (List.not_lt_nil _)⟩
  | x :: a, y :: b => by
    rw [List.map_cons, List.map_cons, List.cons_lt_cons_iff, List.cons_lt_cons_iff, nat_lex a b]
    constructor
    · rintro (h | ⟨h1, h2⟩)
      · exact .inl (by omega)
      · exact .inr ⟨by omega, h2⟩
    · rintro (h | ⟨h1, h2⟩)
      · exact .inl (by omega)
      · exact .inr ⟨by omega, h2⟩
theorem lt_nats (a b : List Nat) : dataLt (natP a) (natP b) = decide (a < b) := by
  rw [natP_ints, natP_ints, dataLt_tuple]
  have := dataLt_ints (a.map fun j : Nat => (j : Int)) (b.map fun j : Nat => (j : Int))
  unfold rowLt at this
  rw [this]
  exact decide_eq_decide.mpr (nat_lex a b)
theorem depth_nats (l : List Nat) : (natP l).depth ≤ 60 := by
  rw [natP_ints]
  show (PyData.tuple _).depth ≤ 60
  rw [PyData.depth, depth_ints]
  decide
theorem comb_up : ∀ n ≤ 6, ∀ k ≤ n, (combN n k).Pairwise (· < ·) := by decide +kernel
theorem sorted_same {bs cs t : List (List Nat)} (h1 : cs.Perm bs) (h2 : t.Perm bs) (p1 : cs.Pairwise fun a b => dataLt (natP b) (natP a) = false) (p2 : t.Pairwise (· < ·)) : cs = t := by
  refine List.Perm.eq_of_pairwise (le := fun a b : List Nat => ¬ b < a) (fun a b _ _ h1 h2 => ?_) (p1.imp fun {a b} h => ?_) (p2.imp fun {a b} h => ?_) (h1.trans h2.symm)
  · exact List.le_antisymm h1 h2
  · rw [lt_nats] at h
    exact of_decide_eq_false h
  · exact fun h2 => absurd (List.lt_trans h h2) (List.lt_irrefl _)
/-- sorted of some choices, all of one length -/
theorem sort_combs {n k : Nat} (hn : n ≤ 6) (hk : k ≤ n) {p : List Nat → Bool} {bs : List (List Nat)} (hb : bs.Perm ((combN n k).filter p)) {P : DP} (h : P (.lst (((combN n k).filter p).map natsT))) : sortDD [.lst (bs.map natsT)] P := by
  have hin : ∀ b ∈ bs, b.length = k := fun b hm => (comb_in hn hk (List.mem_filter.mp (hb.mem_iff.mp hm)).1).1
  refine ⟨List Nat, bs, natsT, natP, rfl, fun b _ => py_nats b, AllAlike.of fun a b => alike_nats a b, ?_, fun b _ => depth_nats b, fun cs hc pw => ?_⟩
  · cases k with
    | succ k =>
      left
      left
      intro d hd
      obtain ⟨b, hm, rfl⟩ := List.mem_map.mp hd
      have := hin b hm
      cases b with
      | nil => cases this
      | cons x r => exact ⟨_, _, rfl⟩
    | zero =>
      right
      constructor
      · rw [List.length_map, hb.length_eq]
        exact Nat.le_trans (List.length_filter_le _ _) (by unfold combN comb; cases (List.range n) <;> exact Nat.le_refl _)
      · intro y hy
        obtain ⟨b, hm, rfl⟩ := List.mem_map.mp hy
        exact fun h => by cases h
  · rw [sorted_same hc hb.symm pw ((comb_up n hn k hk).filter p)]
    exact h
def pairE (p : Int × List Nat) : D := .tup [.int p.1, natsT p.2]
def pairPy (p : Int × List Nat) : PyData := .tuple [.int p.1, natP p.2]
theorem py_pairE (p : Int × List Nat) : (pairE p).py = some (pairPy p) := by
  show (D.pys [D.int p.1, natsT p.2]).map PyData.tuple = _
  unfold D.pys
  rw [show D.pys [natsT p.2] = some [natP p.2] from by unfold D.pys; rw [py_nats]; rfl]
  rfl
theorem alike_pairs (p q : Int × List Nat) : alike (pairPy p) (pairPy q) = true := by
  unfold pairPy
  rw [alike, alikeAll, alikeAll, alikeAll, alike_nats]
  rfl
theorem lt_pairs {p q : Int × List Nat} (h : p.1 < q.1) : dataLt (pairPy p) (pairPy q) = true := by
  unfold pairPy
  rw [dataLt_pair rfl (alike_nats _ _), if_neg, dataLt_int]
  · exact decide_eq_true h
  · simp [PyData.eqv]
    omega
theorem depth_pairs : ∀ L : List (Int × List Nat), PyData.depthAll (L.map pairPy) ≤ 60
  | [] => Nat.zero_le _
  | p :: L => by
    rw [List.map_cons, PyData.depthAll]
    refine Nat.max_le.mpr ⟨?_, depth_pairs L⟩
    unfold pairPy
    rw [PyData.depth, PyData.depthAll, PyData.depthAll, natP_ints, PyData.depth, depth_ints]
    have e1 : (PyData.int p.1).depth = 0 := by simp [PyData.depth]
    have e2 : PyData.depthAll [] = 0 := by simp [PyData.depthAll]
    rw [e1, e2]
    decide
theorem min_pairs {L : List (Int × List Nat)} (hne : L ≠ []) {P : DP} (h : ∀ p ∈ L, (∀ q ∈ L, p.1 ≤ q.1) → P (pairE p)) : minDD [.lst (L.map pairE)] P := by
  refine ⟨L.map pairPy, pys_map fun p _ => py_pairE p, fun e => hne (List.map_eq_nil_iff.mp e), ⟨fun x hx y hy => ?_, fun x hx => ?_⟩, depth_pairs L, fun i d y hd hy hl => ?_⟩
  · obtain ⟨p, _, rfl⟩ := List.mem_map.mp hx
    obtain ⟨q, _, rfl⟩ := List.mem_map.mp hy
    exact alike_pairs p q
  · obtain ⟨p, _, rfl⟩ := List.mem_map.mp hx
    exact fun h => by cases h
  · rw [List.getElem?_map] at hd hy
    cases hp : L[i]? with
    | none => rw [hp] at hd; cases hd
    | some p =>
      rw [hp] at hd hy
      cases hd
      cases hy
      refine h p (List.mem_of_getElem? hp) fun q hq => ?_
      have := hl _ (List.mem_map_of_mem hq)
      apply Decidable.byContradiction
      intro hz
      rw [lt_pairs (by omega)] at this
      cases this
/-- the subsets by their codes -/
def pw2 : List Int := [1, 2, 4, 8, 16]
def lostOf (n c : Nat) : List Nat := (List.range n).filter fun a => decide ((c : Int) / (pw2.getD a 1) % 2 = 1)
def subsN (n : Nat) : List (List Nat) := (List.range (2 ^ n)).map (lostOf n)
theorem subs_comb : ∀ n ≤ 5, ∀ k ≤ n, ((subsN n).filter fun l => l.length == k).isPerm (combN n k) = true := by decide +kernel
theorem subs_in : ∀ n ≤ 5, ∀ l ∈ subsN n, l.length ≤ n ∧ ∀ j ∈ l, j < n := by decide +kernel
theorem subs_nil : ∀ n ≤ 5, [] ∈ subsN n := by decide +kernel
theorem pow_at {n : Nat} (h : n ≤ 5) : ([D.int 1, D.int 2, D.int 4, D.int 8, D.int 16, D.int 32])[n]? = some (.int ((2 ^ n : Nat) : Int)) := by
  match n, h with
  | 0, _ => rfl
  | 1, _ => rfl
  | 2, _ => rfl
  | 3, _ => rfl
  | 4, _ => rfl
  | 5, _ => rfl
theorem pw2_at {a : Nat} (h : a < 5) : ([D.int 1, D.int 2, D.int 4, D.int 8, D.int 16])[a]? = some (.int (pw2.getD a 1)) ∧ 0 < pw2.getD a 1 := by
  match a, h with
  | 0, _ => exact ⟨rfl, by decide⟩
  | 1, _ => exact ⟨rfl, by decide⟩
  | 2, _ => exact ⟨rfl, by decide⟩
  | 3, _ => exact ⟨rfl, by decide⟩
  | 4, _ => exact ⟨rfl, by decide⟩
def codeK (c : Nat) (d : D) : Bool := decide ((c : Int) / (pw2.getD (toI d).toNat 1) % 2 = 1)
theorem pick_lost (n c : Nat) : [] ++ ((rngD 0 n).filter (codeK c)).map (fun d => d) = (lostOf n c).map fun j => D.int (j : Nat) := by
  rw [List.nil_append, List.map_id']
  unfold rngD lostOf
  rw [List.filter_map]
  have e : ∀ a : Nat, ((0 : Int) + (a : Nat)) = (a : Int) := fun a => by omega
  have e2 : (fun i : Nat => D.int ((0 : Int) + (i : Nat))) = fun i : Nat => D.int (i : Nat) := funext fun a => by rw [e]
  rw [e2]
  rfl
theorem pair_Eq (p : Int × List Nat) : D.Eqs 2 (pairE p) := by
  have := Eqs.tup (f := fun d : D => d) (k := 1) (xs := [D.int p.1, natsT p.2]) fun d hd => by
    rcases List.mem_cons.mp hd with rfl | hd
    · exact Eqs.int
    · rw [List.mem_singleton.mp hd]
      exact Eqs.tup fun _ _ => Eqs.int
  exact this
theorem pairs_Eq (L : List (Int × List Nat)) : D.Eqs 3 (.lst (L.map pairE)) := Eqs.lst fun p _ => pair_Eq p
theorem pairs_none (L : List (Int × List Nat)) : eqD (.lst (L.map pairE)) (.lst []) = L.isEmpty := by
  show eqD _ (intsL []) = _
  rw [eqE (b := L.isEmpty) (pairs_Eq L) (Eqs.intsL []) (by cases L with
    | nil => exact ⟨fun _ => rfl, fun _ => rfl⟩
    | cons x c => exact ⟨fun h => (by cases h), fun h => (by cases h)⟩)]
def badP (l : List Nat) : Int × List Nat := ((l.length : Nat), l)
def goodP (l : List Nat) : Int × List Nat := (0 - (l.length : Nat), l)
theorem keep_nil (cs : List (List Int)) (ts : List (Int × Int)) (es : List D) : keepL cs ts es [] = true := by
  unfold keepL shownL
  rw [List.all_eq_true]
  intro e he
  have h2 := (List.mem_filter.mp he).2
  unfold shownB at h2
  rw [Bool.not_eq_true', List.isEmpty_eq_false_iff] at h2
  obtain ⟨w, r, hw⟩ := List.exists_cons_of_ne_nil h2
  rw [List.any_eq_true]
  exact ⟨w, by rw [hw]; exact List.mem_cons_self, by rw [List.all_eq_true]; exact fun c _ => rfl⟩
theorem subs_perm {n k : Nat} (hn : n ≤ 5) (hk : k ≤ n) (p : List Nat → Bool) : (((subsN n).filter p).filter fun l => l.length == k).Perm ((combN n k).filter p) := by
  have := (List.isPerm_iff.mp (subs_comb n hn k hk)).filter p
  rw [List.filter_filter] at this ⊢
  have e : (fun l : List Nat => (l.length == k && p l)) = fun l => (p l && l.length == k) := funext fun l => Bool.and_comm _ _
  rw [e]
  exact this
theorem lost_is {cs : List (List Int)} {ts : List (Int × Int)} {es : List D} (hn : cs.length ≤ 5) {k : Nat} {l : List Nat} (hl : l ∈ (subsN cs.length).filter fun l => !keepL cs ts es l) (hk : l.length = k) (hmin : ∀ m ∈ (subsN cs.length).filter fun l => !keepL cs ts es l, k ≤ m.length) :
    lostD cs ts es = .tup [.int (k : Nat), .lst ((badsOf cs ts es k).map natsT)] ∧ k ≤ cs.length := by
  obtain ⟨h1, h2⟩ := List.mem_filter.mp hl
  have hle := (subs_in _ hn l h1).1
  have hk0 : 0 < k := by
    apply Decidable.byContradiction
    intro z
    have : l = [] := List.length_eq_zero_iff.mp (by omega)
    rw [this, keep_nil] at h2
    cases h2
  have nonempty : ∀ j, j ≤ cs.length → ((badsOf cs ts es j).isEmpty = false ↔ ∃ m ∈ (subsN cs.length).filter (fun l => !keepL cs ts es l), m.length = j) := fun j hj => by
    have hp := subs_perm hn hj fun l => !keepL cs ts es l
    rw [List.isEmpty_eq_false_iff]
    constructor
    · intro h
      obtain ⟨m, r, hm⟩ := List.exists_cons_of_ne_nil h
      have : m ∈ ((subsN cs.length).filter fun l => !keepL cs ts es l).filter fun l => l.length == j := hp.mem_iff.mpr (by show m ∈ badsOf cs ts es j; rw [hm]; exact List.mem_cons_self)
      obtain ⟨a, b⟩ := List.mem_filter.mp this
      exact ⟨m, a, by simpa using b⟩
    · rintro ⟨m, hm, hmj⟩ h
      have : m ∈ badsOf cs ts es j := hp.mem_iff.mp (List.mem_filter.mpr ⟨hm, by simpa using hmj⟩)
      rw [h] at this
      cases this
  have hf : (List.range cs.length).find? (fun i => !(badsOf cs ts es (i + 1)).isEmpty) = some (k - 1) := List.find?_range_eq_some.mpr ⟨by
    rw [show k - 1 + 1 = k by omega, (nonempty k (by omega)).mpr ⟨l, hl, hk⟩]; rfl, List.mem_range.mpr (by omega), fun j hj => by
    cases hb : (badsOf cs ts es (j + 1)).isEmpty with
    | true => rfl
    | false =>
      obtain ⟨m, hm, hmj⟩ := (nonempty (j + 1) (by omega)).mp hb
      have := hmin m hm
      omega⟩
  refine ⟨?_, by omega⟩
  unfold lostD
  rw [hf]
  show D.tup [.int ((1 : Int) + ((k - 1 : Nat) : Int)), .lst ((badsOf cs ts es (k - 1 + 1)).map natsT)] = _
  rw [show k - 1 + 1 = k by omega, show (1 : Int) + ((k - 1 : Nat) : Int) = (k : Int) by omega]
theorem lost_not {cs : List (List Int)} {ts : List (Int × Int)} {es : List D} (hn : cs.length ≤ 5) (h : (subsN cs.length).filter (fun l => !keepL cs ts es l) = []) : lostD cs ts es = .non := by
  unfold lostD
  rw [List.find?_eq_none.mpr fun j hj => ?_]
  have hp := subs_perm hn (show j + 1 ≤ cs.length from List.mem_range.mp hj) fun l => !keepL cs ts es l
  rw [h] at hp
  have : badsOf cs ts es (j + 1) = [] := List.Perm.nil_eq hp |>.symm
  rw [this]
  exact Bool.false_ne_true
theorem spare_is {cs : List (List Int)} {ts : List (Int × Int)} {es : List D} (hn : cs.length ≤ 5) {k : Nat} {l : List Nat} (hl : l ∈ (subsN cs.length).filter fun l => keepL cs ts es l) (hk : l.length = k) (hmax : ∀ m ∈ (subsN cs.length).filter fun l => keepL cs ts es l, m.length ≤ k) :
    spareD cs ts es = .tup [.int (k : Nat), .lst ((goodsOf cs ts es k).map natsT)] ∧ k ≤ cs.length := by
  obtain ⟨h1, h2⟩ := List.mem_filter.mp hl
  have hle := (subs_in _ hn l h1).1
  have nonempty : ∀ j, j ≤ cs.length → ((goodsOf cs ts es j).isEmpty = false ↔ ∃ m ∈ (subsN cs.length).filter (fun l => keepL cs ts es l), m.length = j) := fun j hj => by
    have hp := subs_perm hn hj fun l => keepL cs ts es l
    rw [List.isEmpty_eq_false_iff]
    constructor
    · intro h
      obtain ⟨m, r, hm⟩ := List.exists_cons_of_ne_nil h
      have : m ∈ ((subsN cs.length).filter fun l => keepL cs ts es l).filter fun l => l.length == j := hp.mem_iff.mpr (by show m ∈ goodsOf cs ts es j; rw [hm]; exact List.mem_cons_self)
      obtain ⟨a, b⟩ := List.mem_filter.mp this
      exact ⟨m, a, by simpa using b⟩
    · rintro ⟨m, hm, hmj⟩ h
      have : m ∈ goodsOf cs ts es j := hp.mem_iff.mp (List.mem_filter.mpr ⟨hm, by simpa using hmj⟩)
      rw [h] at this
      cases this
  refine ⟨?_, by omega⟩
  unfold spareD
  by_cases hk0 : k = 0
  · subst hk0
    rw [List.find?_eq_none.mpr fun j hj => ?_]
    · have : goodsOf cs ts es 0 = [[]] := by
        unfold goodsOf
        have : combN cs.length 0 = [[]] := by unfold combN comb; cases List.range cs.length <;> rfl
        rw [this, List.filter_cons, keep_nil]
        rfl
      rw [this]
      rfl
    · have hj := List.mem_range.mp hj
      cases hb : (goodsOf cs ts es (cs.length - j)).isEmpty with
      | true => exact Bool.false_ne_true
      | false =>
        obtain ⟨m, hm, hmj⟩ := (nonempty (cs.length - j) (by omega)).mp hb
        have := hmax m hm
        omega
  · have hf : (List.range cs.length).find? (fun i => !(goodsOf cs ts es (cs.length - i)).isEmpty) = some (cs.length - k) := List.find?_range_eq_some.mpr ⟨by
      rw [show cs.length - (cs.length - k) = k by omega, (nonempty k (by omega)).mpr ⟨l, hl, hk⟩]; rfl, List.mem_range.mpr (by omega), fun j hj => by
      cases hb : (goodsOf cs ts es (cs.length - j)).isEmpty with
      | true => rfl
      | false =>
        obtain ⟨m, hm, hmj⟩ := (nonempty (cs.length - j) (by omega)).mp hb
        have := hmax m hm
        omega⟩
    rw [hf]
    show D.tup [.int ((cs.length : Int) - ((cs.length - k : Nat) : Int)), .lst ((goodsOf cs ts es (cs.length - (cs.length - k))).map natsT)] = _
    rw [show cs.length - (cs.length - k) = k by omega, show (cs.length : Int) - ((cs.length - k : Nat) : Int) = (k : Int) by omega]
theorem eqok_rows (i : Int) (l : List (List Nat)) (h : l.length ≤ 1000) (h2 : ∀ c ∈ l, c.length ≤ 6) : EqOk 3 (.tup [.int i, .lst (l.map natsT)]) := .inr ⟨_, .inl rfl, by show 2 ≤ 1000000; decide, fun e he => by
  rcases List.mem_cons.mp he with rfl | he
  · exact .inl ⟨rfl, rfl⟩
  · rw [List.mem_singleton.mp he]
    refine .inr ⟨_, .inr rfl, by rw [List.length_map]; omega, fun x hx => ?_⟩
    obtain ⟨c, hc, rfl⟩ := List.mem_map.mp hx
    refine .inr ⟨_, .inl rfl, by rw [List.length_map]; have := h2 c hc; omega, fun y hy => ?_⟩
    obtain ⟨j, _, rfl⟩ := List.mem_map.mp hy
    exact ⟨rfl, rfl⟩⟩
theorem pw2_log {a : Nat} (h : a < 5) : (pw2.getD a 1).natAbs.log2 < 9000 := by
  match a, h with
  | 0, _ => decide +kernel
  | 1, _ => decide +kernel
  | 2, _ => decide +kernel
  | 3, _ => decide +kernel
  | 4, _ => decide +kernel
def rowK (k : Int) : D → Bool
  | .tup (.int i :: _) => decide (i = k)
  | _ => false
def rowF : D → D
  | .tup [_, d] => d
  | _ => .non
theorem pick_rows (k : Nat) (bd : List (List Nat)) : [] ++ (((bd.map badP).map pairE).filter (rowK (k : Nat))).map rowF = (bd.filter fun l => l.length == k).map natsT := by
  rw [List.nil_append, List.map_map, List.filter_map, List.map_map]
  congr 1
  exact List.filter_congr fun l _ => by
    show decide ((l.length : Int) = (k : Int)) = (l.length == k)
    rw [Bool.eq_iff_iff, decide_eq_true_iff, beq_iff_eq]
    omega
theorem pick_goods (k : Nat) (gd : List (List Nat)) : [] ++ (((gd.map goodP).map pairE).filter (rowK (0 - (k : Nat)))).map rowF = (gd.filter fun l => l.length == k).map natsT := by
  rw [List.nil_append, List.map_map, List.filter_map, List.map_map]
  congr 1
  exact List.filter_congr fun l _ => by
    show decide (0 - (l.length : Int) = 0 - (k : Int)) = (l.length == k)
    rw [Bool.eq_iff_iff, decide_eq_true_iff, beq_iff_eq]
    omega
end Q

/-! Hall's theorem. -/
namespace Q
open PySem PySem.Spec PyProof.Rows L2 L3
theorem perm_map_inv {α β : Type} {f : α → β} : ∀ {l t : List β}, l.Perm t → ∀ m : List α, t = m.map f → ∃ m' : List α, m'.Perm m ∧ l = m'.map f := by
  intro l t h
  induction h with
  | nil =>
    intro m hm
    exact ⟨[], by rw [List.map_eq_nil_iff.mp hm.symm], rfl⟩
  | cons x _ ih =>
    intro m hm
    cases m with
    | nil => cases hm
    | cons a m =>
      rw [List.map_cons] at hm
      injection hm with e1 e2
      obtain ⟨m', h1, h2⟩ := ih m e2
      exact ⟨a :: m', h1.cons a, by rw [List.map_cons, e1, h2]⟩
  | swap x y l =>
    intro m hm
    cases m with
    | nil => cases hm
    | cons a m =>
      cases m with
      | nil => cases hm
      | cons b m =>
        rw [List.map_cons, List.map_cons] at hm
        injection hm with e1 e2
        injection e2 with e2 e3
        exact ⟨b :: a :: m, List.Perm.swap _ _ _, by rw [List.map_cons, List.map_cons, e1, e2, e3]⟩
  | trans _ _ ih1 ih2 =>
    intro m hm
    obtain ⟨m1, h1, h2⟩ := ih2 m hm
    obtain ⟨m2, h3, h4⟩ := ih1 m1 h2
    exact ⟨m2, h3.trans h1, h4⟩
def univ : List Int := [0, 1, 2, 3, 4, 5]
def card (p : Int → Bool) : Nat := (univ.filter p).length
def unionB (L : List (Int → Bool)) (x : Int) : Bool := L.any fun a => a x
theorem card_split (p q : Int → Bool) : card (fun x => p x || q x) ≤ card (fun x => p x && !q x) + card q := by
  unfold card
  induction univ with
  | nil => exact Nat.le_refl _
  | cons x u ih =>
    rw [List.filter_cons, List.filter_cons, List.filter_cons]
    cases p x <;> cases q x <;> simp <;> omega
theorem card_mono {p q : Int → Bool} (h : ∀ x, p x = true → q x = true) : card p ≤ card q := by
  unfold card
  induction univ with
  | nil => exact Nat.le_refl _
  | cons x u ih =>
    rw [List.filter_cons, List.filter_cons]
    cases hp : p x with
    | false => cases hq : q x <;> simp <;> omega
    | true => rw [h x hp]; simp; omega
theorem card_one (x : Int) : card (fun y => decide (y = x)) ≤ 1 := by
  have : ∀ x ∈ univ, card (fun y => decide (y = x)) ≤ 1 := by decide
  by_cases h : x ∈ univ
  · exact this x h
  · unfold card
    rw [List.filter_eq_nil_iff.mpr fun y hy => by
      rw [decide_eq_true_iff]
      exact fun e => h (e ▸ hy)]
    exact Nat.zero_le _
theorem card_nil : card (unionB []) = 0 := by decide
/-- each part of the family has elements enough -/
def HallC (L : List (Int → Bool)) : Prop := ∀ J K, (J ++ K).Perm L → J.length ≤ card (unionB J)
/-- an element apart for each -/
def Sdr (L : List (Int → Bool)) : Prop := ∃ ps : List (Int × (Int → Bool)), (ps.map (·.2)).Perm L ∧ (ps.map (·.1)).Nodup ∧ ∀ p ∈ ps, p.2 p.1 = true
theorem union_app (J K : List (Int → Bool)) (x : Int) : unionB (J ++ K) x = (unionB J x || unionB K x) := List.any_append
theorem hall : ∀ (n : Nat) (L : List (Int → Bool)), L.length = n → HallC L → Sdr L := by
  intro n
  induction n using Nat.strongRecOn with
  | _ n ih =>
    intro L hn hH
    cases L with
    | nil => exact ⟨[], .refl _, List.nodup_nil, fun p hp => by cases hp⟩
    | cons a L =>
      have split : ∀ (f : (Int → Bool) → Int → Bool) (K M1 M2 : List (Int → Bool)), (M1 ++ M2).Perm (K.map f) → ∃ K1 K2 : List (Int → Bool), (K1 ++ K2).Perm K ∧ M1 = K1.map f ∧ M2 = K2.map f := fun f K M1 M2 h => by
        obtain ⟨K', h1, h2⟩ := perm_map_inv h K rfl
        obtain ⟨K1, K2, rfl, h3, h4⟩ := List.map_eq_append_iff.mp h2.symm
        exact ⟨K1, K2, h1, h3.symm, h4.symm⟩
      have back : ∀ (f : (Int → Bool) → Int → Bool) (K : List (Int → Bool)), (∀ b x, f b x = true → b x = true) → Sdr (K.map f) → ∃ ps : List (Int × (Int → Bool)), (ps.map (·.2)).Perm K ∧ (ps.map (·.1)).Nodup ∧ ∀ p ∈ ps, f p.2 p.1 = true := fun f K _ ⟨ps, h1, h2, h3⟩ => by
        obtain ⟨K', h4, h5⟩ := perm_map_inv h1 K rfl
        have hl : ps.length = K'.length := by have := congrArg List.length h5; rw [List.length_map, List.length_map] at this; exact this
        refine ⟨(ps.map (·.1)).zip K', by rw [List.map_snd_zip (by rw [List.length_map]; omega)]; exact h4, by rw [List.map_fst_zip (by rw [List.length_map]; omega)]; exact h2, fun p hp => ?_⟩
        obtain ⟨i, hi, rfl⟩ := List.mem_iff_getElem.mp hp
        have hi2 : i < ps.length := by rw [List.length_zip, List.length_map] at hi; omega
        have e := congrArg (fun l => l[i]?) h5
        rw [List.getElem?_map, List.getElem?_map, List.getElem?_eq_getElem hi2, List.getElem?_eq_getElem (by omega)] at e
        injection e with e
        rw [List.getElem_zip, List.getElem_map]
        show f (K'[i]) (ps[i]).1 = true
        rw [← e]
        exact h3 _ (List.getElem_mem hi2)
      by_cases h : ∃ J K, (J ++ K).Perm (a :: L) ∧ J ≠ [] ∧ K ≠ [] ∧ card (unionB J) ≤ J.length
      · obtain ⟨J, K, hp, hJ, hK, hc⟩ := h
        have hlen := hp.length_eq
        rw [List.length_append] at hlen
        have hJl := List.length_pos_iff.mpr hJ
        have hKl := List.length_pos_iff.mpr hK
        obtain ⟨ps1, a1, a2, a3⟩ := ih J.length (by omega) J rfl fun J1 J2 h1 => hH J1 (J2 ++ K) (by rw [← List.append_assoc]; exact (h1.append_right K).trans hp)
        obtain ⟨ps2, b1, b2, b3⟩ := back (fun b x => b x && !unionB J x) K (fun b x h => (Bool.and_eq_true _ _ ▸ h).1) (ih (K.map fun b x => b x && !unionB J x).length (by rw [List.length_map]; omega) _ rfl fun M1 M2 h1 => by
          obtain ⟨K1, K2, k1, rfl, rfl⟩ := split _ K M1 M2 h1
          have h2 := hH (K1 ++ J) K2 (by
            refine List.Perm.trans ?_ hp
            have e : (K1 ++ J ++ K2).Perm (J ++ (K1 ++ K2)) := by
              rw [← List.append_assoc]
              exact (List.perm_append_comm (l₁ := K1) (l₂ := J)).append_right K2
            exact e.trans (k1.append_left J))
          have h3 := card_split (unionB K1) (unionB J)
          have h4 : card (unionB (K1 ++ J)) ≤ card (fun x => unionB K1 x || unionB J x) := card_mono fun x hx => by rw [union_app] at hx; exact hx
          have h5 : card (fun x => unionB K1 x && !unionB J x) ≤ card (unionB (K1.map fun b x => b x && !unionB J x)) := card_mono fun x hx => by
            rw [Bool.and_eq_true] at hx
            obtain ⟨b, hb1, hb2⟩ := List.any_eq_true.mp hx.1
            exact List.any_eq_true.mpr ⟨_, List.mem_map_of_mem hb1, by show (b x && !unionB J x) = true; rw [hb2, hx.2]; rfl⟩
          rw [List.length_append] at h2
          rw [List.length_map]
          omega)
        refine ⟨ps1 ++ ps2, by rw [List.map_append]; exact (a1.append b1).trans hp, ?_, fun p hp2 => ?_⟩
        · rw [List.map_append, List.nodup_append]
          refine ⟨a2, b2, fun x hx y hy e => ?_⟩
          subst e
          obtain ⟨p, hp1, rfl⟩ := List.mem_map.mp hx
          obtain ⟨q, hq1, e⟩ := List.mem_map.mp hy
          have h1 : unionB J p.1 = true := List.any_eq_true.mpr ⟨p.2, a1.mem_iff.mp (List.mem_map_of_mem hp1), a3 p hp1⟩
          have h2 := b3 q hq1
          rw [e, h1] at h2
          simp at h2
        · rcases List.mem_append.mp hp2 with h1 | h1
          · exact a3 p h1
          · have := b3 p h1
            rw [Bool.and_eq_true] at this
            exact this.1
      · have h1 := hH [a] L (.refl _)
        have hx : ∃ x ∈ univ, a x = true := by
          unfold card at h1
          obtain ⟨x, hx⟩ := List.length_pos_iff_exists_mem.mp (show 0 < (univ.filter (unionB [a])).length from h1)
          obtain ⟨h2, h3⟩ := List.mem_filter.mp hx
          exact ⟨x, h2, by unfold unionB at h3; simpa using h3⟩
        obtain ⟨x, _, hax⟩ := hx
        obtain ⟨ps, b1, b2, b3⟩ := back (fun b y => b y && !decide (y = x)) L (fun b x h => (Bool.and_eq_true _ _ ▸ h).1) (ih (L.map fun b y => b y && !decide (y = x)).length (by rw [List.length_map]; rw [List.length_cons] at hn; omega) _ rfl fun M1 M2 h2 => by
          obtain ⟨K1, K2, k1, rfl, rfl⟩ := split _ L M1 M2 h2
          rw [List.length_map]
          by_cases hk : K1 = []
          · subst hk; exact Nat.zero_le _
          · have h3 : ¬ card (unionB K1) ≤ K1.length := fun hz => h ⟨K1, a :: K2, List.perm_middle.trans (k1.cons a), hk, by simp, hz⟩
            have h4 := card_split (unionB K1) fun y => decide (y = x)
            have h5 : card (unionB K1) ≤ card (fun y => unionB K1 y || decide (y = x)) := card_mono fun y hy => by rw [hy]; rfl
            have h6 := card_one x
            have h7 : card (fun y => unionB K1 y && !decide (y = x)) ≤ card (unionB (K1.map fun b y => b y && !decide (y = x))) := card_mono fun y hy => by
              rw [Bool.and_eq_true] at hy
              obtain ⟨b, hb1, hb2⟩ := List.any_eq_true.mp hy.1
              exact List.any_eq_true.mpr ⟨_, List.mem_map_of_mem hb1, by show (b y && !decide (y = x)) = true; rw [hb2, hy.2]; rfl⟩
            omega)
        refine ⟨(x, a) :: ps, by rw [List.map_cons]; exact b1.cons a, ?_, fun p hp => ?_⟩
        · rw [List.map_cons, List.nodup_cons]
          refine ⟨fun hm => ?_, b2⟩
          obtain ⟨q, hq, e⟩ := List.mem_map.mp hm
          have := b3 q hq
          rw [e] at this
          simp at this
        · rcases List.mem_cons.mp hp with rfl | hp
          · exact hax
          · have := b3 p hp
            rw [Bool.and_eq_true] at this
            exact this.1
end Q
namespace Q
open PySem PySem.Spec PyProof.Rows L2 L3
/-- a way, place by place -/
def All2 : List Int → List (List Int) → Prop
  | [], [] => True
  | x :: w, l :: ls => x ∈ l ∧ All2 w ls
  | _, _ => False
theorem All2.len : ∀ {w : List Int} {ls : List (List Int)}, All2 w ls → w.length = ls.length
  | [], [], _ => rfl
  | _ :: _, _ :: _, h => by rw [List.length_cons, List.length_cons, All2.len h.2]
  | [], _ :: _, h => h.elim
  | _ :: _, [], h => h.elim
theorem All2.at : ∀ {w : List Int} {ls : List (List Int)}, All2 w ls → ∀ (i : Nat) (hi : i < w.length), w[i] ∈ ls.getD i []
  | x :: w, l :: ls, h, 0, _ => h.1
  | x :: w, l :: ls, h, i + 1, hi => h.2.at i (Nat.lt_of_succ_lt_succ hi)
theorem ways_put : ∀ (ls : List (List Int)) (w pre : List Int) (acc : List (List Int)), pre ∈ acc → (pre ++ w).Nodup → All2 w ls → pre ++ w ∈ ls.foldl stepW acc
  | [], [], pre, acc, h, _, _ => by rw [List.append_nil]; exact h
  | l :: ls, x :: w, pre, acc, h, hn, ha => by
    have e : pre ++ x :: w = (pre ++ [x]) ++ w := by rw [List.append_assoc]; rfl
    rw [e] at hn ⊢
    refine ways_put ls w (pre ++ [x]) _ ?_ hn ha.2
    refine List.mem_flatMap.mpr ⟨pre, h, List.mem_map.mpr ⟨x, List.mem_filter.mpr ⟨ha.1, ?_⟩, rfl⟩⟩
    have h2 := (List.nodup_append.mp hn).1
    rw [Bool.not_eq_true', decide_eq_false_iff_not]
    intro hx
    exact (List.nodup_append.mp h2).2.2 x hx x List.mem_cons_self rfl
  | [], _ :: _, _, _, _, _, h => h.elim
  | _ :: _, [], _, _, _, _, h => h.elim
theorem ways_got : ∀ (ls : List (List Int)) (acc : List (List Int)), ∀ w ∈ ls.foldl stepW acc, ∃ pre ∈ acc, ∃ w2, w = pre ++ w2 ∧ All2 w2 ls ∧ (pre.Nodup → w.Nodup)
  | [], acc, w, h => ⟨w, h, [], (List.append_nil _).symm, trivial, fun h => h⟩
  | l :: ls, acc, w, h => by
    obtain ⟨pre, h1, w2, rfl, h2, h3⟩ := ways_got ls (stepW acc l) w h
    obtain ⟨p0, h4, h5⟩ := List.mem_flatMap.mp h1
    obtain ⟨x, h6, rfl⟩ := List.mem_map.mp h5
    obtain ⟨h7, h8⟩ := List.mem_filter.mp h6
    refine ⟨p0, h4, x :: w2, by rw [List.append_assoc]; rfl, ⟨h7, h2⟩, fun hp => h3 ?_⟩
    rw [Bool.not_eq_true', decide_eq_false_iff_not] at h8
    exact List.nodup_append.mpr ⟨hp, List.nodup_cons.mpr ⟨fun h => (by cases h), List.nodup_nil⟩, fun a ha b hb e => by
      rw [List.mem_singleton.mp hb] at e
      exact h8 (e ▸ ha)⟩
/-- the cubes that stand at some of these places -/
def togL (ls : List (List Int)) (J : List Nat) : List Int := univ.filter fun x => J.any fun j => decide (x ∈ ls.getD j [])
def lackB (ls : List (List Int)) (J : List Nat) : Bool := decide ((togL ls J).length < J.length)
theorem comb_mem : ∀ {l m : List Nat}, l.Sublist m → l ∈ comb m l.length
  | [], m, _ => by cases m <;> exact List.mem_cons_self
  | x :: l, [], h => by cases h
  | x :: l, y :: m, h => by
    show x :: l ∈ (comb m l.length).map (y :: ·) ++ comb m (l.length + 1)
    cases h with
    | cons _ h => exact List.mem_append.mpr (.inr (comb_mem h))
    | cons_cons _ h => exact List.mem_append.mpr (.inl (List.mem_map_of_mem (comb_mem h)))
theorem comb_sub : ∀ {m : List Nat} {k : Nat} {l : List Nat}, l ∈ comb m k → l.Sublist m ∧ l.length = k
  | [], 0, l, h => by rw [show l = [] from List.mem_singleton.mp h]; exact ⟨.refl _, rfl⟩
  | y :: m, 0, l, h => by rw [show l = [] from List.mem_singleton.mp h]; exact ⟨List.nil_sublist _, rfl⟩
  | [], k + 1, l, h => by cases h
  | y :: m, k + 1, l, h => by
    rcases List.mem_append.mp (show l ∈ (comb m k).map (y :: ·) ++ comb m (k + 1) from h) with h | h
    · obtain ⟨l2, h1, rfl⟩ := List.mem_map.mp h
      obtain ⟨a, b⟩ := comb_sub h1
      exact ⟨a.cons_cons y, by rw [List.length_cons, b]⟩
    · obtain ⟨a, b⟩ := comb_sub h
      exact ⟨a.cons y, b⟩
theorem nodup_le2 {α : Type} [DecidableEq α] : ∀ (l m : List α), l.Nodup → (∀ x ∈ l, x ∈ m) → l.length ≤ m.length
  | [], _, _, _ => Nat.zero_le _
  | x :: l, m, hn, h => by
    obtain ⟨h1, h2⟩ := List.nodup_cons.mp hn
    have hx := h x List.mem_cons_self
    have := nodup_le2 l (m.erase x) h2 fun y hy => (List.mem_erase_of_ne (fun e => by subst e; exact h1 hy)).mpr (h y (List.mem_cons_of_mem _ hy))
    rw [List.length_erase_of_mem hx] at this
    have hp : 0 < m.length := List.length_pos_of_mem hx
    rw [List.length_cons]
    omega
theorem ent_univ {c : Int} (h : 0 ≤ c ∧ c < 6) : c ∈ univ := by
  obtain ⟨k, rfl⟩ : ∃ k : Nat, c = k := ⟨c.toNat, by omega⟩
  have : ∀ k < 6, ((k : Nat) : Int) ∈ univ := by decide
  exact this k (by omega)
/-- a number is not shown just if some places lack cubes -/
theorem lack_iff {ls : List (List Int)} (he : ∀ l ∈ ls, ∀ c ∈ l, 0 ≤ c ∧ c < 6) : waysBy ls = [] ↔ ∃ k, 1 ≤ k ∧ k ≤ ls.length ∧ ∃ J ∈ combN ls.length k, lackB ls J = true := by
  constructor
  · intro hw
    apply Classical.byContradiction
    intro hno
    have hall2 : HallC (ls.map fun l x => decide (x ∈ l)) := fun J K hp => by
      have em : (ls.map fun l x => decide (x ∈ l)) = (List.range ls.length).map fun i x => decide (x ∈ ls.getD i []) := by
        apply List.ext_getElem
        · rw [List.length_map, List.length_map, List.length_range]
        · intro i h1 h2
          rw [List.getElem_map, List.getElem_map, List.getElem_range, List.getD_eq_getElem?_getD, List.getElem?_eq_getElem (by rw [List.length_map] at h1; exact h1)]
          rfl
      rw [em] at hp
      obtain ⟨I, h1, h2⟩ := perm_map_inv hp _ rfl
      obtain ⟨I1, I2, rfl, h3, h4⟩ := List.map_eq_append_iff.mp h2.symm
      have hnd : (I1 ++ I2).Nodup := h1.nodup_iff.mpr List.nodup_range
      have hn1 := (List.nodup_append.mp hnd).1
      have hlt : ∀ i ∈ I1, i < ls.length := fun i hi => List.mem_range.mp (h1.mem_iff.mp (List.mem_append.mpr (.inl hi)))
      have hsub : ((List.range ls.length).filter fun i => decide (i ∈ I1)).Sublist (List.range ls.length) := List.filter_sublist
      have hperm : ((List.range ls.length).filter fun i => decide (i ∈ I1)).Perm I1 := (List.perm_ext_iff_of_nodup (List.nodup_range.filter _) hn1).mpr fun i => by
        rw [List.mem_filter, List.mem_range, decide_eq_true_iff]
        exact ⟨fun h => h.2, fun h => ⟨hlt i h, h⟩⟩
      rw [← h3, List.length_map]
      apply Decidable.byContradiction
      intro hc
      have hpos : 0 < I1.length := by omega
      refine hno ⟨I1.length, hpos, ?_, _, by rw [← hperm.length_eq]; exact comb_mem hsub, ?_⟩
      · have := hsub.length_le
        rw [hperm.length_eq, List.length_range] at this
        exact this
      · unfold lackB
        refine decide_eq_true ?_
        rw [hperm.length_eq]
        have : (togL ls ((List.range ls.length).filter fun i => decide (i ∈ I1))).length = card (unionB (I1.map fun i x => decide (x ∈ ls.getD i []))) := by
          unfold togL card
          congr 1
          exact List.filter_congr fun x _ => by
            unfold unionB
            rw [List.any_map, Bool.eq_iff_iff, List.any_eq_true, List.any_eq_true]
            exact ⟨fun ⟨i, h5, h6⟩ => ⟨i, hperm.mem_iff.mp h5, h6⟩, fun ⟨i, h5, h6⟩ => ⟨i, hperm.mem_iff.mpr h5, h6⟩⟩
        omega
    obtain ⟨ps, p1, p2, p3⟩ := hall _ _ rfl hall2
    obtain ⟨qs, q1, q2⟩ := perm_map_inv p1.symm ps rfl
    have ha : ∀ (ls : List (List Int)) (qs : List (Int × (Int → Bool))), (ls.map fun l x => decide (x ∈ l)) = qs.map (·.2) → (∀ q ∈ qs, q.2 q.1 = true) → All2 (qs.map (·.1)) ls := fun ls => by
      induction ls with
      | nil => intro qs h _; cases qs with
        | nil => trivial
        | cons _ _ => cases h
      | cons l ls ih => intro qs h hq; cases qs with
        | nil => cases h
        | cons q qs =>
          rw [List.map_cons, List.map_cons] at h
          injection h with e1 e2
          refine ⟨?_, ih qs e2 fun x hx => hq x (List.mem_cons_of_mem _ hx)⟩
          have := hq q List.mem_cons_self
          rw [← e1] at this
          exact of_decide_eq_true this
    have hm := ways_put ls (qs.map (·.1)) [] [[]] (List.mem_singleton.mpr rfl) (by rw [List.nil_append]; exact (q1.map _).nodup_iff.mpr p2) (ha ls qs q2 fun q hq => p3 q (q1.mem_iff.mp hq))
    have hm : qs.map (·.1) ∈ waysBy ls := hm
    rw [hw] at hm
    cases hm
  · rintro ⟨k, k1, k2, J, hJ, hl⟩
    cases hw : waysBy ls with
    | nil => rfl
    | cons w r =>
      exfalso
      obtain ⟨pre, hp, w2, e, ha, hn⟩ := ways_got ls [[]] w (by show w ∈ waysBy ls; rw [hw]; exact List.mem_cons_self)
      have hp : pre = [] := List.mem_singleton.mp hp
      subst hp
      have hn := hn List.nodup_nil
      have e : w = w2 := by rw [e, List.nil_append]
      subst e
      obtain ⟨hs, hk⟩ := comb_sub hJ
      have hnJ : J.Nodup := hs.nodup List.nodup_range
      have hlt : ∀ j ∈ J, j < w.length := fun j hj => by rw [ha.len]; exact List.mem_range.mp (hs.subset hj)
      have h1 := nodup_le2 (J.map fun j => w.getD j 0) (togL ls J) (by
        rw [List.Nodup, List.pairwise_map]
        refine List.Pairwise.imp_of_mem (fun {i j} hi hj hne e => ?_) hnJ
        rw [List.getD_eq_getElem?_getD, List.getD_eq_getElem?_getD, List.getElem?_eq_getElem (hlt i hi), List.getElem?_eq_getElem (hlt j hj)] at e
        exact hne ((List.getElem_inj hn).mp e)) fun x hx => by
          obtain ⟨j, hj, rfl⟩ := List.mem_map.mp hx
          have hat := ha.at j (hlt j hj)
          have eg : w.getD j 0 = w[j]'(hlt j hj) := by rw [List.getD_eq_getElem?_getD, List.getElem?_eq_getElem (hlt j hj)]; rfl
          rw [eg]
          refine List.mem_filter.mpr ⟨?_, List.any_eq_true.mpr ⟨j, hj, decide_eq_true hat⟩⟩
          have hlj : j < ls.length := by rw [← ha.len]; exact hlt j hj
          rw [List.getD_eq_getElem?_getD, List.getElem?_eq_getElem hlj] at hat
          exact ent_univ (he _ (List.getElem_mem hlj) _ hat)
      rw [List.length_map] at h1
      have := of_decide_eq_true hl
      omega
end Q

/-! Where cubes are lacking. -/
namespace Q
open PySem PySem.Spec PyProof.Rows L2 L3 PySem.W
def lackFind (ls : List (List Int)) : Option (List Nat) := (List.range ls.length).findSome? fun i => (combN ls.length (i + 1)).find? (lackB ls)
def lackV (ls : List (List Int)) : D := match lackFind ls with
  | some J => .tup [natsT J, intsT (togL ls J)]
  | none => .non
abbrev placesOf (cs : List (List Int)) (ts : List (Int × Int)) (d : D) : List (List Int) := (digs d).map (withL cs ts)
def gTogether : DF := fun ds P _ => ∃ (ls : List (List Int)) (J : List Nat), ds = [.lst (ls.map intsT), natsT J] ∧ ls.length ≤ 6 ∧ (∀ l ∈ ls, l.length ≤ 6 ∧ ∀ c ∈ l, 0 ≤ c ∧ c < 6) ∧ J.length ≤ 6 ∧ (∀ j ∈ J, j < ls.length) ∧ P (intsT (togL ls J))
abbrev gLacking (C CF : Addr) : DF := fun ds P Z => ∃ cs ts d, ds = [setD C cs ts, d] ∧ Good cs ts ∧ NumAsk d ∧ if isNum d = true then P (lackV (placesOf cs ts d)) else Z ⟨CF, none⟩
def gLackL (C : Addr) : DF := fun ds P _ => ∃ cs ts d, ds = [setD C cs ts, d] ∧ Good cs ts ∧ isNum d = true ∧ P (lackV (placesOf cs ts d))
end Q
namespace Q
open PySem PySem.Spec PyProof.Rows L2 L3 PySem.W
def itsP (ls : List (List Int)) (d : D) : List D := (ls.getD (toI d).toNat []).map D.int
theorem tog_ks (ls : List (List Int)) (J : List Nat) : [] ++ (J.map fun j => D.int (j : Nat)).flatMap (fun d => ((itsP ls d).filter fun _ => true).map fun e => e) = (J.flatMap fun j => ls.getD j []).map D.int := by
  rw [List.nil_append, List.flatMap_map, List.map_flatMap]
  congr 1
  exact funext fun j => by
    rw [kept_all, List.map_id']
    rfl
theorem tog_mem {ls : List (List Int)} (he : ∀ l ∈ ls, l.length ≤ 6 ∧ ∀ c ∈ l, 0 ≤ c ∧ c < 6) {J : List Nat} (k : Int) : k ∈ (J.flatMap fun j => ls.getD j []) ↔ k ∈ togL ls J := by
  unfold togL
  rw [List.mem_flatMap, List.mem_filter, List.any_eq_true]
  constructor
  · rintro ⟨j, hj, hk⟩
    refine ⟨?_, j, hj, decide_eq_true hk⟩
    rw [List.getD_eq_getElem?_getD] at hk
    cases hl : ls[j]? with
    | none => rw [hl] at hk; cases hk
    | some l =>
      rw [hl] at hk
      exact ent_univ ((he l (List.mem_of_getElem? hl)).2 k hk)
  · rintro ⟨_, j, hj, hk⟩
    exact ⟨j, hj, of_decide_eq_true hk⟩
theorem tog_up (ls : List (List Int)) (J : List Nat) : (togL ls J).Pairwise (· < ·) := List.Pairwise.filter _ (by decide)
theorem tog_len (ls : List (List Int)) (J : List Nat) : (togL ls J).length ≤ 6 := List.length_filter_le _ _
theorem asc_same {a b : List Int} (h1 : a.Pairwise (· < ·)) (h2 : b.Pairwise (· < ·)) (hm : ∀ k, k ∈ a ↔ k ∈ b) : a = b :=
  List.Perm.eq_of_pairwise (le := (· < ·)) (fun a b _ _ h1 h2 => absurd h1 (Int.lt_asymm h2)) h1 h2 ((List.perm_ext_iff_of_nodup (h1.imp fun h => Int.ne_of_lt h) (h2.imp fun h => Int.ne_of_lt h)).mpr hm)
theorem tog_sum {ls : List (List Int)} (he : ∀ l ∈ ls, l.length ≤ 6 ∧ ∀ c ∈ l, 0 ≤ c ∧ c < 6) : ∀ {J : List Nat}, ((J.map fun j => D.int (j : Nat)).map fun d => (itsP ls d).length).sum ≤ J.length * 6
  | [] => Nat.zero_le _
  | j :: J => by
    have ih := tog_sum he (J := J)
    have h1 : (itsP ls (.int (j : Nat))).length ≤ 6 := by
      unfold itsP
      rw [List.length_map, show (toI (.int (j : Nat))).toNat = j from Int.toNat_natCast j, List.getD_eq_getElem?_getD]
      cases hl : ls[j]? with
      | none => exact Nat.zero_le _
      | some l => exact (he l (List.mem_of_getElem? hl)).1
    rw [List.map_cons, List.map_cons, List.sum_cons, List.length_cons]
    omega
theorem places_ok {cs : List (List Int)} {ts : List (Int × Int)} (h : cs.length ≤ 6) {d : D} (hn : isNum d = true) : 1 ≤ (placesOf cs ts d).length ∧ (placesOf cs ts d).length ≤ 6 ∧ ∀ l ∈ placesOf cs ts d, l.length ≤ 6 ∧ ∀ c ∈ l, 0 ≤ c ∧ c < 6 := by
  obtain ⟨z, rfl, z1, z6, _⟩ := numOf hn
  have hl : (placesOf cs ts (.str z)).length = z.length := by
    rw [List.length_map]
    show (z.cps.toList.map _).length = _
    rw [List.length_map]; simp [Str.length]
  refine ⟨by omega, by omega, fun l hl2 => ?_⟩
  obtain ⟨n, _, rfl⟩ := List.mem_map.mp hl2
  exact ⟨Nat.le_trans (withL_len _ _ _) h, ent_with h n⟩
end Q
namespace Q
open PySem PySem.Spec PyProof.Rows L2 L3 PySem.W
theorem find_none {α : Type} {n : Nat} {f : Nat → Option α} (h : ∀ j, j < n → f j = none) : (List.range n).findSome? f = none := List.findSome?_eq_none_iff.mpr fun j hj => h j (List.mem_range.mp hj)
theorem find_some {α : Type} {n i : Nat} {f : Nat → Option α} {x : α} (hi : i < n) (h : ∀ j, j < i → f j = none) (hx : f i = some x) : (List.range n).findSome? f = some x := by
  have e : List.range n = List.range i ++ i :: (List.range n).drop (i + 1) := by
    have h1 : (List.range n).take i = List.range i := by rw [List.take_range, Nat.min_eq_left (by omega)]
    rw [← h1]
    have h2 : (List.range n).drop i = i :: (List.range n).drop (i + 1) := by
      rw [List.drop_eq_getElem_cons (by rw [List.length_range]; exact hi), List.getElem_range]
    rw [← h2, List.take_append_drop]
  rw [e, List.findSome?_append, find_none h, List.findSome?_cons, hx]
  rfl
end Q
namespace Q
open PySem PySem.Spec PyProof.Rows L2 L3 PySem.W
def bitsOf (n c : Nat) : List Nat := (List.range n).filter fun a => decide (c / 2 ^ a % 2 = 1)
theorem bits_allB : ((List.range 7).all fun n => (List.range (n + 1)).all fun k => (k == 0) || (combN n k).all fun J => (List.range 63).any fun c => decide (c + 1 < 2 ^ n) && bitsOf n (c + 1) == J) = true := by decide +kernel
theorem bits_all (n : Nat) (hn : n ≤ 6) (k : Nat) (hk : k ≤ n) (h1 : 1 ≤ k) (J : List Nat) (hJ : J ∈ combN n k) : ∃ c, c < 63 ∧ c + 1 < 2 ^ n ∧ bitsOf n (c + 1) = J := by
  have h := List.all_eq_true.mp (List.all_eq_true.mp bits_allB n (List.mem_range.mpr (by omega))) k (List.mem_range.mpr (by omega))
  rw [Bool.or_eq_true] at h
  rcases h with h | h
  · have := eq_of_beq h
    omega
  · obtain ⟨c, hc, h⟩ := List.any_eq_true.mp (List.all_eq_true.mp h J hJ)
    rw [Bool.and_eq_true] at h
    exact ⟨c, List.mem_range.mp hc, of_decide_eq_true h.1, eq_of_beq h.2⟩
theorem bits_inB : ((List.range 7).all fun n => (List.range 63).all fun c => !decide (c + 1 < 2 ^ n) || (decide (1 ≤ (bitsOf n (c + 1)).length) && decide ((bitsOf n (c + 1)).length ≤ n) && decide (bitsOf n (c + 1) ∈ combN n (bitsOf n (c + 1)).length))) = true := by decide +kernel
theorem bits_in (n : Nat) (hn : n ≤ 6) (c : Nat) (hc : c < 63) (h1 : c + 1 < 2 ^ n) : 1 ≤ (bitsOf n (c + 1)).length ∧ (bitsOf n (c + 1)).length ≤ n ∧ bitsOf n (c + 1) ∈ combN n (bitsOf n (c + 1)).length := by
  have h := List.all_eq_true.mp (List.all_eq_true.mp bits_inB n (List.mem_range.mpr (by omega))) c (List.mem_range.mpr hc)
  rw [decide_eq_true h1, Bool.not_true, Bool.false_or, Bool.and_eq_true, Bool.and_eq_true] at h
  exact ⟨of_decide_eq_true h.1.1, of_decide_eq_true h.1.2, of_decide_eq_true h.2⟩
theorem bits_few (n c : Nat) : (bitsOf n c).length ≤ n ∧ ∀ j ∈ bitsOf n c, j < n :=
  ⟨Nat.le_trans (List.length_filter_le _ _) (Nat.le_of_eq List.length_range), fun j hj => List.mem_range.mp (List.mem_filter.mp hj).1⟩
theorem bits_succ (n c : Nat) : bitsOf (n + 1) c = bitsOf n c ++ if decide (c / 2 ^ n % 2 = 1) = true then [n] else [] := by
  unfold bitsOf
  rw [List.range_succ, List.filter_append, List.filter_cons, List.filter_nil]
/-- the codes of places that lack cubes -/
def lackC (ls : List (List Int)) (c : Nat) : Bool := decide (c < 2 ^ ls.length) && lackB ls (bitsOf ls.length c)
def lacksUp (ls : List (List Int)) (i : Nat) : List (List Nat) := (((List.range i).map (· + 1)).filter (lackC ls)).map (bitsOf ls.length)
theorem lacks_succ (ls : List (List Int)) (i : Nat) : lacksUp ls (i + 1) = lacksUp ls i ++ if lackC ls (i + 1) = true then [bitsOf ls.length (i + 1)] else [] := by
  unfold lacksUp
  rw [List.range_succ, List.map_append, List.filter_append, List.map_append, List.map_cons, List.map_nil, List.filter_cons, List.filter_nil]
  split <;> rfl
def tripD (ls : List (List Int)) (J : List Nat) : D := .tup [.int (J.length : Nat), natsT J, intsT (togL ls J)]
def intP (l : List Int) : PyData := .tuple (l.map .int)
def tripP (ls : List (List Int)) (J : List Nat) : PyData := .tuple [.int (J.length : Nat), natP J, intP (togL ls J)]
theorem py_ints (l : List Int) : (intsT l).py = some (intP l) := by
  show (D.pys (l.map D.int)).map PyData.tuple = _
  rw [pys_map (fd := D.int) (fp := PyData.int) fun _ _ => rfl]
  rfl
theorem py_trip (ls : List (List Int)) (J : List Nat) : (tripD ls J).py = some (tripP ls J) := by
  show (D.pys [D.int (J.length : Nat), natsT J, intsT (togL ls J)]).map PyData.tuple = _
  have h1 : D.pys [intsT (togL ls J)] = some [intP (togL ls J)] := by unfold D.pys; rw [py_ints]; rfl
  have h2 : D.pys [natsT J, intsT (togL ls J)] = some [natP J, intP (togL ls J)] := by unfold D.pys; rw [py_nats, h1]; rfl
  unfold D.pys
  rw [h2]
  rfl
theorem alike_intP (a b : List Int) : alike (intP a) (intP b) = true := by
  unfold intP
  rw [alike]
  exact alike_ints _ _
theorem alike_trips (ls : List (List Int)) (J K : List Nat) : alike (tripP ls J) (tripP ls K) = true := by
  unfold tripP
  rw [alike, alikeAll, alikeAll, alikeAll, alikeAll, alike_nats, alike_intP]
  rfl
theorem eqv_nats {a b : List Nat} (h : PyData.eqv (natP a) (natP b) = true) : a = b := by
  have e := eqD_py (py_nats a) (py_nats b)
  rw [h] at e
  rw [natsT_ints, natsT_ints, eqE (b := decide ((a.map fun j : Nat => (j : Int)) = b.map fun j : Nat => (j : Int))) (Eqs.ints _) (Eqs.ints _) (by rw [decide_eq_true_iff, intsT_inj])] at e
  have e := of_decide_eq_true e
  have inj : ∀ a b : List Nat, (a.map fun j : Nat => (j : Int)) = (b.map fun j : Nat => (j : Int)) → a = b := fun a => by
    induction a with
    | nil => intro b h; cases b with
      | nil => rfl
      | cons _ _ => cases h
    | cons x a ih => intro b h; cases b with
      | nil => cases h
      | cons y b =>
        rw [List.map_cons, List.map_cons] at h
        injection h with h1 h2
        rw [ih b h2, show x = y by omega]
  exact inj a b e
theorem lt_trips {ls : List (List Int)} {J K : List Nat} (h : J.length < K.length ∨ J.length = K.length ∧ J < K) : dataLt (tripP ls J) (tripP ls K) = true := by
  unfold tripP
  rw [dataLt_tuple, dataLt_cons rfl]
  rcases h with h | ⟨h1, h2⟩
  · rw [if_neg, dataLt_int]
    · exact decide_eq_true (by omega)
    · simp [PyData.eqv]
      omega
  · rw [if_pos (by simp [PyData.eqv, h1]), dataLt_cons (alike_nats J K), if_neg, lt_nats]
    · exact decide_eq_true h2
    · intro e
      rw [eqv_nats e] at h2
      exact List.lt_irrefl _ h2
theorem depth_trips (ls : List (List Int)) : ∀ L : List (List Nat), PyData.depthAll (L.map (tripP ls)) ≤ 60
  | [] => Nat.zero_le _
  | J :: L => by
    rw [List.map_cons, PyData.depthAll]
    refine Nat.max_le.mpr ⟨?_, depth_trips ls L⟩
    unfold tripP intP
    have e1 : (PyData.int (J.length : Nat)).depth = 0 := by simp [PyData.depth]
    have e2 : PyData.depthAll [] = 0 := by simp [PyData.depthAll]
    rw [PyData.depth, PyData.depthAll, PyData.depthAll, PyData.depthAll, natP_ints, PyData.depth, depth_ints, PyData.depth, depth_ints, e1, e2]
    decide
theorem min_trips {ls : List (List Int)} {L : List (List Nat)} (hne : L ≠ []) {P : DP} (h : ∀ J ∈ L, (∀ K ∈ L, J.length < K.length ∨ J.length = K.length ∧ ¬ K < J) → P (tripD ls J)) : minDD [.lst (L.map (tripD ls))] P := by
  refine ⟨L.map (tripP ls), pys_map fun J _ => py_trip ls J, fun e => hne (List.map_eq_nil_iff.mp e), ⟨fun x hx y hy => ?_, fun x hx => ?_⟩, depth_trips ls L, fun i d y hd hy hl => ?_⟩
  · obtain ⟨p, _, rfl⟩ := List.mem_map.mp hx
    obtain ⟨q, _, rfl⟩ := List.mem_map.mp hy
    exact alike_trips ls p q
  · obtain ⟨p, _, rfl⟩ := List.mem_map.mp hx
    exact fun h => by cases h
  · rw [List.getElem?_map] at hd hy
    cases hp : L[i]? with
    | none => rw [hp] at hd; cases hd
    | some J =>
      rw [hp] at hd hy
      cases hd
      cases hy
      refine h J (List.mem_of_getElem? hp) fun K hK => ?_
      have := hl _ (List.mem_map_of_mem hK)
      by_cases h1 : J.length < K.length
      · exact .inl h1
      · right
        by_cases h2 : K.length < J.length
        · rw [lt_trips (.inl h2)] at this
          cases this
        · refine ⟨by omega, fun h3 => ?_⟩
          rw [lt_trips (.inr ⟨by omega, h3⟩)] at this
          cases this
theorem lack_found {ls : List (List Int)} (h6 : ls.length ≤ 6) {J : List Nat} (hJ : J ∈ lacksUp ls 63) (hmin : ∀ K ∈ lacksUp ls 63, J.length < K.length ∨ J.length = K.length ∧ ¬ K < J) : lackFind ls = some J := by
  have out : ∀ K ∈ lacksUp ls 63, lackB ls K = true ∧ 1 ≤ K.length ∧ K.length ≤ ls.length ∧ K ∈ combN ls.length K.length := fun K hK => by
    obtain ⟨c, hc, rfl⟩ := List.mem_map.mp hK
    obtain ⟨h1, h2⟩ := List.mem_filter.mp hc
    obtain ⟨i, hi, rfl⟩ := List.mem_map.mp h1
    unfold lackC at h2
    rw [Bool.and_eq_true, decide_eq_true_iff] at h2
    obtain ⟨a, b, c⟩ := bits_in ls.length h6 i (List.mem_range.mp hi) h2.1
    exact ⟨h2.2, a, b, c⟩
  have into : ∀ k K, 1 ≤ k → k ≤ ls.length → K ∈ combN ls.length k → lackB ls K = true → K ∈ lacksUp ls 63 := fun k K k1 k2 hK hl => by
    obtain ⟨c, hc, h1, rfl⟩ := bits_all ls.length h6 k k2 k1 K hK
    refine List.mem_map.mpr ⟨c + 1, List.mem_filter.mpr ⟨List.mem_map.mpr ⟨c, List.mem_range.mpr hc, rfl⟩, ?_⟩, rfl⟩
    unfold lackC
    rw [decide_eq_true h1, hl]
    rfl
  obtain ⟨hl, h1, h2, h3⟩ := out J hJ
  unfold lackFind
  refine find_some (i := J.length - 1) (by omega) (fun j hj => ?_) ?_
  · refine List.find?_eq_none.mpr fun K hK hk => ?_
    have hKl := (comb_in h6 (by omega) hK).1
    have := hmin K (into (j + 1) K (by omega) (by omega) hK hk)
    omega
  · rw [show J.length - 1 + 1 = J.length by omega]
    cases hf : (combN ls.length J.length).find? (lackB ls) with
    | none => exact absurd hl (List.find?_eq_none.mp hf J h3)
    | some K =>
      obtain ⟨k1, as, bs, e, k2⟩ := List.find?_eq_some_iff_append.mp hf
      have hup := comb_up ls.length h6 J.length h2
      rw [e] at h3 hup
      rcases List.mem_append.mp h3 with h | h
      · have := k2 J h
        rw [hl] at this
        cases this
      · rcases List.mem_cons.mp h with h | h
        · rw [h]
        · have hlt : K < J := (List.pairwise_cons.mp (List.pairwise_append.mp hup).2.1).1 J h
          have hKm : K ∈ combN ls.length J.length := by rw [e]; simp
          have := hmin K (into J.length K h1 h2 hKm k1)
          have hKl := (comb_in h6 h2 hKm).1
          rcases this with z | ⟨_, z⟩
          · omega
          · exact absurd hlt z
theorem lack_empty {ls : List (List Int)} (h6 : ls.length ≤ 6) (h : lacksUp ls 63 = []) : lackFind ls = none := by
  unfold lackFind
  refine find_none fun j hj => List.find?_eq_none.mpr fun K hK hk => ?_
  obtain ⟨c, hc, h1, rfl⟩ := bits_all ls.length h6 (j + 1) (by omega) (by omega) K hK
  have : bitsOf ls.length (c + 1) ∈ lacksUp ls 63 := List.mem_map.mpr ⟨c + 1, List.mem_filter.mpr ⟨List.mem_map.mpr ⟨c, List.mem_range.mpr hc, rfl⟩, by
    unfold lackC
    rw [decide_eq_true h1, hk]
    rfl⟩, rfl⟩
  rw [h] at this
  cases this
theorem lackV_none {ls : List (List Int)} (h6 : ls.length ≤ 6) (he : ∀ l ∈ ls, ∀ c ∈ l, 0 ≤ c ∧ c < 6) : (lackV ls).isNon = !(waysBy ls).isEmpty := by
  have hi := lack_iff he
  unfold lackV
  cases hf : lackFind ls with
  | none =>
    cases hw : waysBy ls with
    | cons _ _ => rfl
    | nil =>
      exfalso
      obtain ⟨k, k1, k2, J, hJ, hl⟩ := hi.mp hw
      unfold lackFind at hf
      have := List.findSome?_eq_none_iff.mp hf (k - 1) (List.mem_range.mpr (by omega))
      rw [show k - 1 + 1 = k by omega] at this
      exact absurd hl (List.find?_eq_none.mp this J hJ)
  | some J =>
    have hw : waysBy ls = [] := by
      unfold lackFind at hf
      obtain ⟨i, hi2, h⟩ := List.exists_of_findSome?_eq_some hf
      exact hi.mpr ⟨i + 1, by omega, by have := List.mem_range.mp hi2; omega, J, List.mem_of_find?_eq_some h, List.find?_some h⟩
    rw [hw]
    rfl
end Q
namespace Q
open PySem PySem.Spec PyProof.Rows L2 L3 PySem.W
theorem with_mem {cs : List (List Int)} {ts : List (Int × Int)} {f : Int} {c : Nat} (hc : c < cs.length) : ((c : Int) ∈ withL cs ts f) ↔ hasF (cs.getD c []) f ts = true := by
  rw [← withT_all]
  unfold withT
  rw [List.mem_map]
  constructor
  · rintro ⟨a, ha, e⟩
    have : a = c := by omega
    subst this
    exact (List.mem_filter.mp ha).2
  · intro h
    exact ⟨c, List.mem_filter.mpr ⟨List.mem_range.mpr hc, h⟩, rfl⟩
def someUp (ls : List (List Int)) (J : List Nat) (c : Nat) : List Int := ((List.range c).filter fun a : Nat => J.any fun j => decide ((a : Int) ∈ ls.getD j [])).map fun a : Nat => (a : Int)
theorem some_succ (ls : List (List Int)) (J : List Nat) (c : Nat) : someUp ls J (c + 1) = someUp ls J c ++ if (J.any fun j => decide ((c : Int) ∈ ls.getD j [])) = true then [(c : Int)] else [] := by
  unfold someUp
  rw [List.range_succ, List.filter_append, List.map_append, List.filter_cons, List.filter_nil]
  congr 1
  split <;> rfl
theorem some_tog {ls : List (List Int)} {m : Nat} (he : ∀ l ∈ ls, ∀ c ∈ l, 0 ≤ c ∧ c < m) (hm : m ≤ 6) (J : List Nat) : someUp ls J m = togL ls J := by
  refine asc_same ?_ (tog_up ls J) fun k => ?_
  · unfold someUp
    rw [List.pairwise_map]
    exact (List.Pairwise.filter _ List.pairwise_lt_range).imp fun {a b} h => by omega
  · unfold someUp togL
    rw [List.mem_map, List.mem_filter]
    constructor
    · rintro ⟨a, ha, rfl⟩
      obtain ⟨h1, h2⟩ := List.mem_filter.mp ha
      have := List.mem_range.mp h1
      exact ⟨ent_univ ⟨by omega, by omega⟩, h2⟩
    · rintro ⟨h1, h2⟩
      obtain ⟨j, hj, h3⟩ := List.any_eq_true.mp h2
      have h3' := of_decide_eq_true h3
      rw [List.getD_eq_getElem?_getD] at h3'
      cases hl : ls[j]? with
      | none => rw [hl] at h3'; cases h3'
      | some l =>
        rw [hl] at h3'
        have := he l (List.mem_of_getElem? hl) k h3'
        have ek : ((k.toNat : Nat) : Int) = k := by omega
        refine ⟨k.toNat, List.mem_filter.mpr ⟨List.mem_range.mpr (by omega), ?_⟩, ek⟩
        rw [ek]
        exact h2
theorem code_bit (i j : Nat) : decide (((1 : Int) + (i : Nat)) / ((2 ^ j : Nat) : Int) % 2 = 1) = decide ((i + 1) / 2 ^ j % 2 = 1) := by
  apply decide_eq_decide.mpr
  have e : ((1 : Int) + (i : Nat)) / ((2 ^ j : Nat) : Int) % 2 = (((i + 1) / 2 ^ j % 2 : Nat) : Int) := by
    rw [show (1 : Int) + (i : Nat) = ((i + 1 : Nat) : Int) by omega, ← Int.natCast_ediv]
    omega
  rw [e]
  omega
theorem pow_log {j : Nat} (h : j ≤ 6) : (((2 ^ j : Nat) : Int)).natAbs.log2 < 9000 := by
  rw [Int.natAbs_natCast]
  have h1 : 2 ^ j ≤ 2 ^ 6 := Nat.pow_le_pow_right (by decide) h
  exact Nat.lt_of_le_of_lt (Nat.log2_le_self _) (by omega)
theorem cut_tail3 (a b c : D) : L3.cutD [a, b, c] (some (1 : Int)) none = [b, c] := rfl
theorem gsl_tP {P : DP} {ds : List D} {lo hi : Option Int} (h : P (.tup (L3.cutD ds lo hi))) : slD lo hi (.tup ds) P := h
theorem trip_Eq (ls : List (List Int)) (J : List Nat) : D.Eqs 2 (tripD ls J) := by
  have := Eqs.tup (f := fun d : D => d) (k := 1) (xs := [D.int (J.length : Nat), natsT J, intsT (togL ls J)]) fun d hd => by
    rcases List.mem_cons.mp hd with rfl | hd
    · exact Eqs.int
    · rcases List.mem_cons.mp hd with rfl | hd
      · exact Eqs.tup fun _ _ => Eqs.int
      · rw [List.mem_singleton.mp hd]
        exact Eqs.ints _
  exact this
theorem lst_none {ds : List D} {k : Nat} (h : D.Eqs k (.lst ds)) : eqD (.lst ds) (.lst []) = ds.isEmpty := by
  show eqD _ (intsL []) = _
  rw [eqE (b := ds.isEmpty) h (Eqs.intsL []) (by cases ds with
    | nil => exact ⟨fun _ => rfl, fun _ => rfl⟩
    | cons x c => exact ⟨fun h => (by cases h), fun h => (by cases h)⟩)]
theorem eqok_lack (ls : List (List Int)) (h6 : ls.length ≤ 6) : EqOk 3 (lackV ls) := by
  unfold lackV
  cases hf : lackFind ls with
  | none => exact .inl ⟨rfl, rfl⟩
  | some J =>
    have hJ : J.length ≤ 6 := by
      unfold lackFind at hf
      obtain ⟨i, hi2, h⟩ := List.exists_of_findSome?_eq_some hf
      have := List.mem_range.mp hi2
      have := (comb_in h6 (show i + 1 ≤ ls.length by omega) (List.mem_of_find?_eq_some h)).1
      omega
    refine .inr ⟨_, .inl rfl, by show 2 ≤ 1000000; decide, fun e he => ?_⟩
    rcases List.mem_cons.mp he with rfl | he
    · refine .inr ⟨_, .inl rfl, by rw [List.length_map]; omega, fun x hx => ?_⟩
      obtain ⟨j, _, rfl⟩ := List.mem_map.mp hx
      exact .inl ⟨rfl, rfl⟩
    · rw [List.mem_singleton.mp he]
      refine .inr ⟨_, .inl rfl, by rw [List.length_map]; have := tog_len ls J; omega, fun x hx => ?_⟩
      obtain ⟨j, _, rfl⟩ := List.mem_map.mp hx
      exact .inl ⟨rfl, rfl⟩
end Q

/-! Papers. -/
namespace Q
open PySem PySem.Spec PyProof.Rows L2 L3 PySem.W
def Told2 (v : D) : Option (List Int) → Prop
  | some ns => v = intsT ns ∧ ns.length < 64
  | none => v = .non ∨ ∃ ns : List Int, v = .lst (ns.map .int)
def wayO (ls : List (List Int)) : Option (List Int) → Bool
  | some ns => decide (ns ∈ waysBy ls)
  | none => false
def lackI (ls : List (List Int)) (ns : List Int) : Bool := ns.all (fun i => decide (0 ≤ i ∧ i < ls.length)) && decide (ns.Pairwise (· < ·)) && lackB ls (ns.map Int.toNat)
def lackO (ls : List (List Int)) : Option (List Int) → Bool
  | some ns => lackI ls ns
  | none => false
def gIsWay (C : Addr) : DF := fun ds P _ => ∃ cs ts d v o, ds = [setD C cs ts, d, v] ∧ Good cs ts ∧ isNum d = true ∧ Told2 v o ∧ P (.bl (wayO (placesOf cs ts d) o))
def gAreLack (C : Addr) : DF := fun ds P _ => ∃ cs ts d v o, ds = [setD C cs ts, d, v] ∧ Good cs ts ∧ isNum d = true ∧ Told2 v o ∧ P (.bl (lackO (placesOf cs ts d) o))
abbrev zWay : Str := Str.ofString "way"
abbrev zLacks : Str := Str.ofString "lacks"
inductive RightV (ls : List (List Int)) : D → Bool → Prop
  | not {v : D} (h : D.any1 v) (n : ∀ ds, v ≠ .tup ds) : RightV ls v false
  | other {ds : List D} (h : ds.length ≠ 2) (h2 : ds.length ≤ 1) : RightV ls (.tup ds) false
  | num {k : Int} {x : D} : RightV ls (.tup [.int k, x]) false
  | way {x : D} {o : Option (List Int)} (h : Told2 x o) : RightV ls (.tup [.str zWay, x]) (wayO ls o)
  | lacks {x : D} {o : Option (List Int)} (h : Told2 x o) : RightV ls (.tup [.str zLacks, x]) (lackO ls o)
  | word {z : Str} {x : D} (h0 : PyData.strOk z = true) (h1 : z ≠ zWay) (h2 : z ≠ zLacks) : RightV ls (.tup [.str z, x]) false
def gRight (C CF : Addr) : DF := fun ds P Z => ∃ cs ts d v, ds = [setD C cs ts, d, v] ∧ Good cs ts ∧ NumAsk d ∧ if isNum d = true then (∃ b, RightV (placesOf cs ts d) v b ∧ P (.bl b)) else Z ⟨CF, none⟩
def paperD (ls : List (List Int)) : D := match waysBy ls with
  | w :: _ => .tup [.str zWay, intsT w]
  | [] => .tup [.str zLacks, natsT ((lackFind ls).getD [])]
abbrev gPaper (C CF : Addr) : DF := fun ds P Z => ∃ cs ts d, ds = [setD C cs ts, d] ∧ Good cs ts ∧ NumAsk d ∧ if isNum d = true then P (paperD (placesOf cs ts d)) else Z ⟨CF, none⟩
def BadN (d : D) : Prop := NumAsk d ∧ isNum d = false
def gNoNum : DF := fun ds P _ => ds = [.rnd] ∧ ∀ d, BadN d → P d
def gLacksL (C : Addr) : DF := fun ds P _ => ∃ cs ts d ns, ds = [setD C cs ts, d, intsT ns] ∧ Good cs ts ∧ isNum d = true ∧ (ns.length ≤ 6 ∧ ∀ i ∈ ns, 0 ≤ i ∧ i < (placesOf cs ts d).length) ∧ P (.bl (lackB (placesOf cs ts d) (ns.map Int.toNat)))
def gToldP (C : Addr) : DF := fun ds P _ => ∃ z cs ts d, ds = [.str z, setD C cs ts, d] ∧ PyData.strOk z = true ∧ Good cs ts ∧ BadN d ∧ P (.bl true)
theorem ways_in {ls : List (List Int)} {w : List Int} : w ∈ waysBy ls ↔ w.Nodup ∧ All2 w ls := by
  constructor
  · intro h
    obtain ⟨pre, hp, w2, rfl, h2, h3⟩ := ways_got ls [[]] w h
    have := List.mem_singleton.mp hp
    subst this
    exact ⟨h3 List.nodup_nil, h2⟩
  · intro ⟨h1, h2⟩
    exact ways_put ls w [] [[]] (List.mem_singleton.mpr rfl) h1 h2
theorem dup_less : ∀ {ns : List Int}, ¬ ns.Nodup → ∃ ms : List Int, ms.length + 1 = ns.length ∧ ∀ x ∈ ns, x ∈ ms
  | [], h => absurd List.nodup_nil h
  | x :: t, h => by
    by_cases hx : x ∈ t
    · exact ⟨t, rfl, fun y hy => by
        rcases List.mem_cons.mp hy with rfl | hy
        · exact hx
        · exact hy⟩
    · obtain ⟨ms, h1, h2⟩ := dup_less (ns := t) fun z => h (List.nodup_cons.mpr ⟨hx, z⟩)
      exact ⟨x :: ms, by rw [List.length_cons, List.length_cons, h1], fun y hy => by
        rcases List.mem_cons.mp hy with rfl | hy
        · exact List.mem_cons_self
        · exact List.mem_cons_of_mem _ (h2 y hy)⟩
theorem dist_lt {ns ks : List Int} (hn : ks.Nodup) (hm : ∀ k, k ∈ ks ↔ k ∈ ns) : ks.length < ns.length ↔ ¬ ns.Nodup := by
  constructor
  · intro h z
    have := nodup_le2 ns ks z fun x hx => (hm x).mpr hx
    omega
  · intro h
    obtain ⟨ms, h1, h2⟩ := dup_less h
    have := nodup_le2 ks ms hn fun x hx => h2 x ((hm x).mp hx)
    omega
theorem all2_iff : ∀ {w : List Int} {ls : List (List Int)}, w.length = ls.length → ((w.zip ls).all (fun p => decide (p.1 ∈ p.2)) = true ↔ All2 w ls)
  | [], [], _ => by simp [All2]
  | x :: w, l :: ls, h => by
    have ih := all2_iff (w := w) (ls := ls) (by simpa using h)
    rw [List.zip_cons_cons, List.all_cons, Bool.and_eq_true, decide_eq_true_eq, ih]
    exact Iff.rfl
end Q
namespace Q
open PySem PySem.Spec PyProof.Rows L2 L3 PySem.W
theorem wayOk : PyData.strOk zWay = true := by decide +kernel
theorem lacksOk : PyData.strOk zLacks = true := by decide +kernel
theorem eqIS {k : Int} {z : Str} (h : PyData.strOk z = true) : eqD (.int k) (.str z) = false := eqE (Eqs.int (k := 0)) (Eqs.str h) (by simp)
theorem places_len {cs : List (List Int)} {ts : List (Int × Int)} (z : Str) : (placesOf cs ts (.str z)).length = z.length := by
  rw [List.length_map]
  show (z.cps.toList.map _).length = _
  rw [List.length_map]; simp [Str.length]
theorem told_any {v : D} {o : Option (List Int)} (h : Told2 v o) : D.any1 v := by
  cases o with
  | some ns => obtain ⟨rfl, _⟩ := h; exact ⟨_, rfl⟩
  | none =>
    rcases h with rfl | ⟨ns, rfl⟩
    · exact ⟨_, rfl⟩
    · exact ⟨_, rfl⟩
theorem told_none {v : D} (h : Told2 v none) : isTup v = false := by
  rcases h with rfl | ⟨ns, rfl⟩ <;> rfl
theorem not_tup {v : D} (h : ∀ ds, v ≠ .tup ds) : isTup v = false := by
  cases v <;> first | rfl | exact absurd rfl (h _)
theorem ints_nats {ns : List Int} (h : ∀ i ∈ ns, 0 ≤ i) : intsT ns = natsT (ns.map Int.toNat) := by
  unfold intsT natsT
  rw [List.map_map]
  congr 1
  exact List.map_congr_left fun i hi => by
    show D.int i = D.int ((i.toNat : Nat) : Int)
    rw [Int.toNat_of_nonneg (h i hi)]
theorem asc_six {ns : List Int} (h1 : ns.Pairwise (· < ·)) (h2 : ∀ i ∈ ns, 0 ≤ i ∧ i < 6) : ns.length ≤ 6 :=
  nodup_le2 ns univ (h1.imp fun h => by omega) fun x hx => ent_univ (h2 x hx)
end Q
namespace Q
open PySem PySem.Spec PyProof.Rows L2 L3 PySem.W
theorem places_ent {cs : List (List Int)} {ts : List (Int × Int)} {d : D} : ∀ l ∈ placesOf cs ts d, ∀ c ∈ l, 0 ≤ c ∧ c < (cs.length : Nat) := fun l hl c hc => by
  obtain ⟨n, _, rfl⟩ := List.mem_map.mp hl
  exact withL_ent hc
theorem all2_mem : ∀ {w : List Int} {ls : List (List Int)}, All2 w ls → ∀ x ∈ w, ∃ l ∈ ls, x ∈ l
  | x :: w, l :: ls, h, y, hy => by
    rcases List.mem_cons.mp hy with rfl | hy
    · exact ⟨l, List.mem_cons_self, h.1⟩
    · obtain ⟨m, h1, h2⟩ := all2_mem h.2 y hy
      exact ⟨m, List.mem_cons_of_mem _ h1, h2⟩
def zipB : D → Bool
  | .tup [x, .tup es] => inL x es
  | _ => false
theorem zipR_rows (ns : List Int) (ls : List (List Int)) : zipD (ns.map D.int) (ls.map intsT) = (ns.zip ls).map fun p => D.tup [.int p.1, intsT p.2] := by
  unfold zipD
  rw [List.zip_map, List.map_map]
  rfl
theorem within_all (ns : List Int) (m : Int) : ((ns.map fun i => decide (0 ≤ i ∧ i ≤ m - 1)).all id) = true ↔ ∀ i ∈ ns, 0 ≤ i ∧ i < m := by
  rw [List.all_map, List.all_eq_true]
  constructor
  · intro h i hi
    have := of_decide_eq_true (h i hi)
    omega
  · intro h i hi
    have := h i hi
    exact decide_eq_true (by omega)
theorem togL_map {ls : List (List Int)} {ns : List Int} : ∀ l : List Nat, l = ns.map Int.toNat → l.length = ns.length := fun l h => by rw [h, List.length_map]
end Q
namespace Q
open PySem PySem.Spec PyProof.Rows L2 L3 PySem.W
theorem hasL_at {z : Str} {a : Nat} (ha : a < z.length) : (z.cps.toList.map fun c => D.str ⟨#[c]⟩)[a]? = some (.str ⟨#[z.cps.toList.getD a 0]⟩) := by
  have hl : z.cps.toList.length = z.length := by simp [Str.length]
  rw [List.getElem?_map, List.getElem?_eq_getElem (by omega), List.getD_eq_getElem?_getD, List.getElem?_eq_getElem (by omega)]
  rfl
theorem places_at {cs : List (List Int)} {ts : List (Int × Int)} {z : Str} {a : Nat} (ha : a < z.length) : (placesOf cs ts (.str z)).getD a [] = withL cs ts (((z.cps.toList.getD a 0 : Nat) : Int) - 48) := by
  have hl3 : z.cps.toList.length = z.length := by simp [Str.length]
  show (((z.cps.toList.map fun c : Nat => (c : Int) - 48).map (withL cs ts)).getD a []) = _
  rw [List.getD_eq_getElem?_getD, List.getElem?_map, List.getElem?_map, List.getD_eq_getElem?_getD, List.getElem?_eq_getElem (by omega)]
  rfl
theorem zip_rangeR (cs : List (List Int)) : cs.zipIdx = (List.range cs.length).map fun j => (cs.getD j [], j) := by
  refine List.ext_getElem (by simp) fun i h1 h2 => ?_
  have hi : i < cs.length := by simpa using h1
  simp [List.getD_eq_getElem?_getD, List.getElem?_eq_getElem hi]
theorem with_rangeR (cs : List (List Int)) (ts : List (Int × Int)) (f : Int) : withL cs ts f = ((List.range cs.length).filter fun j => hasF (cs.getD j []) f ts).map fun j : Nat => (j : Int) := by
  unfold withL
  rw [zip_rangeR, List.filter_map, List.map_map]
  rfl
theorem with_filter (cs : List (List Int)) (ts : List (Int × Int)) (f : Int) : (rngD 0 cs.length).filter (fun d => hasF (cs.getD (toI d).toNat []) f ts) = (withL cs ts f).map D.int := by
  rw [with_rangeR]
  unfold rngD
  rw [List.filter_map, List.map_map]
  congr 1
  · exact funext fun j => by
      show D.int ((0 : Int) + (j : Nat)) = D.int (j : Nat)
      rw [Int.zero_add]
  · refine List.filter_congr fun j _ => ?_
    show hasF (cs.getD ((0 : Int) + (j : Nat)).toNat []) f ts = _
    rw [show ((0 : Int) + (j : Nat)).toNat = j from by omega]
/-- the number of distinct values of what is told -/
theorem tog_count {ls : List (List Int)} (he : ∀ l ∈ ls, l.length ≤ 6 ∧ ∀ c ∈ l, 0 ≤ c ∧ c < 6) {J : List Nat} {ks : List Int} (h1 : ks.Nodup) (h2 : ∀ k, k ∈ ks ↔ k ∈ (J.flatMap fun j => ls.getD j [])) : ks.length = (togL ls J).length := by
  have h3 : (togL ls J).Nodup := (tog_up ls J).imp fun h => by omega
  have a := nodup_le2 ks (togL ls J) h1 fun x hx => (tog_mem he x).mp ((h2 x).mp hx)
  have b := nodup_le2 (togL ls J) ks h3 fun x hx => (h2 x).mpr ((tog_mem he x).mpr hx)
  omega
end Q
namespace Q
open PySem PySem.Spec PyProof.Rows L2 L3 PySem.W
theorem flat_len {ls : List (List Int)} (h : ∀ l ∈ ls, l.length ≤ 6) : ∀ J : List Int, (J.flatMap fun i => ls.getD i.toNat []).length ≤ 6 * J.length
  | [] => Nat.zero_le _
  | i :: J => by
    have ih := flat_len h J
    have h1 : (ls.getD i.toNat []).length ≤ 6 := by
      rw [List.getD_eq_getElem?_getD]
      cases hg : ls[i.toNat]? with
      | none => exact Nat.zero_le _
      | some l => exact h l (List.mem_of_getElem? hg)
    rw [List.flatMap_cons, List.length_append, List.length_cons]
    omega
end Q
namespace Q
open PySem PySem.Spec PyProof.Rows L2 L3 PySem.W
theorem gx_sR {z : Str} {i : Int} {c : Nat} {P : DP} (h1 : z.length ≤ sizeLine) (h : atI z.cps.toList i = some c) (hp : P (.str ⟨#[c]⟩)) : ixD (.str z) (.int i) P := ⟨h1, c, h, hp⟩
end Q
namespace Q
open PySem PySem.Spec PyProof.Rows L2 L3 PySem.W
theorem lackFind_found {ls : List (List Int)} (h6 : ls.length ≤ 6) {J : List Nat} (hf : lackFind ls = some J) : J.length ≤ 6 ∧ (∀ j ∈ J, j < ls.length) ∧ J.Pairwise (· < ·) ∧ lackB ls J = true := by
  unfold lackFind at hf
  obtain ⟨i, hi2, h⟩ := List.exists_of_findSome?_eq_some hf
  have := List.mem_range.mp hi2
  have hm := List.mem_of_find?_eq_some h
  have hc := comb_in h6 (show i + 1 ≤ ls.length by omega) hm
  exact ⟨by omega, hc.2, (List.pairwise_lt_range (n := ls.length)).sublist (comb_sub hm).1, List.find?_some h⟩
theorem nats_ints (J : List Nat) : natsT J = intsT (J.map fun j : Nat => (j : Int)) := by
  unfold natsT intsT
  rw [List.map_map]
  rfl
theorem paper_right {ls : List (List Int)} (h6 : ls.length ≤ 6) (he : ∀ l ∈ ls, ∀ c ∈ l, 0 ≤ c ∧ c < 6) : RightV ls (paperD ls) true := by
  have hl := lackV_none h6 he
  unfold paperD
  cases hwb : waysBy ls with
  | cons w rest =>
    have hw : w ∈ waysBy ls := by rw [hwb]; exact List.mem_cons_self
    have hlen := waysBy_mem _ ls rfl w hw
    have e : wayO ls (some w) = true := decide_eq_true hw
    have r := RightV.way (ls := ls) (x := intsT w) (o := some w) ⟨rfl, by omega⟩
    rw [e] at r
    exact r
  | nil =>
    rw [hwb] at hl
    unfold lackV at hl
    cases hf : lackFind ls with
    | none => rw [hf] at hl; cases hl
    | some J =>
      obtain ⟨j1, j2, j3, j4⟩ := lackFind_found h6 hf
      have e : lackO ls (some (J.map fun j : Nat => (j : Int))) = true := by
        show (_ && _ && _) = true
        rw [List.map_map, show (Int.toNat ∘ fun j : Nat => (j : Int)) = id from rfl, List.map_id, j4, Bool.and_true, Bool.and_eq_true, List.all_eq_true]
        refine ⟨fun i hi => ?_, decide_eq_true ?_⟩
        · obtain ⟨j, hj, rfl⟩ := List.mem_map.mp hi
          have := j2 j hj
          exact decide_eq_true (by omega)
        · exact List.pairwise_map.mpr (j3.imp fun h => by omega)
      have r := RightV.lacks (ls := ls) (x := natsT J) (o := some (J.map fun j : Nat => (j : Int))) ⟨nats_ints J, by rw [List.length_map]; omega⟩
      rw [e] at r
      exact r
theorem eqok_ints {ns : List Int} (h : ns.length ≤ 1000000) : EqOk 1 (intsT ns) := .inr ⟨_, .inl rfl, by rw [List.length_map]; exact h, fun x hx => by
  obtain ⟨j, _, rfl⟩ := List.mem_map.mp hx
  exact ⟨rfl, rfl⟩⟩
theorem eqok_up : ∀ {n : Nat} {d : D}, EqOk n d → EqOk (n + 1) d
  | 0, _, h => .inl h
  | n + 1, _, h => by
    rcases h with h | ⟨es, h1, h2, h3⟩
    · exact .inl h
    · exact .inr ⟨es, h1, h2, fun e he => eqok_up (h3 e he)⟩
theorem eqok_paper {ls : List (List Int)} (h6 : ls.length ≤ 6) : EqOk 3 (paperD ls) := by
  have two : ∀ (z : Str) (ns : List Int), PyData.strOk z = true → ns.length ≤ 6 → EqOk 3 (.tup [.str z, intsT ns]) := fun z ns hz hn => by
    refine .inr ⟨_, .inl rfl, by show 2 ≤ 1000000; decide, fun e he => ?_⟩
    rcases List.mem_cons.mp he with rfl | he
    · exact .inl ⟨rfl, hz⟩
    · rw [List.mem_singleton.mp he]
      exact eqok_up (eqok_ints (by omega))
  unfold paperD
  cases hwb : waysBy ls with
  | cons w rest =>
    have hlen := waysBy_mem _ ls rfl w (by rw [hwb]; exact List.mem_cons_self)
    exact two _ _ wayOk (by omega)
  | nil =>
    rw [nats_ints]
    refine two _ _ lacksOk ?_
    rw [List.length_map]
    cases hf : lackFind ls with
    | none => exact Nat.zero_le _
    | some J => exact (lackFind_found h6 hf).1
theorem Eqs.pair {a b : D} {k : Nat} (ha : D.Eqs k a) (hb : D.Eqs k b) : D.Eqs (k + 1) (.tup [a, b]) := by
  have := Eqs.tup (f := fun d : D => d) (k := k) (xs := [a, b]) fun d hd => by
    rcases List.mem_cons.mp hd with rfl | hd
    · exact ha
    · rw [List.mem_singleton.mp hd]; exact hb
  exact this
theorem rev_lack {ls : List (List Int)} : ∀ p : List Int, lackI ls (p.reverse ++ p) = false
  | [] => by
    unfold lackI lackB
    simp
  | a :: t => by
    unfold lackI
    rw [decide_eq_false (fun h : ((a :: t).reverse ++ a :: t).Pairwise (· < ·) => ?_)]
    · simp
    · have := (List.pairwise_append.mp h).2.2 a (by simp) a (by simp)
      omega
theorem nil_lack {ls : List (List Int)} : lackI ls [] = false := rev_lack []
theorem out_lack {ls : List (List Int)} {i : Int} (h : ¬ (0 ≤ i ∧ i < ls.length)) : lackI ls [i] = false := by
  unfold lackI
  rw [List.all_cons, decide_eq_false h]
  rfl
end Q
namespace Q
open PySem PySem.Spec PyProof.Rows L2 L3 PySem.W
theorem ways_any (ws : List (List Int)) (r : List Int) : ((ws.map intsT).any fun z => eqD z (intsT r)) = decide (r ∈ ws) := by
  rw [List.any_map, Bool.eq_iff_iff, List.any_eq_true, decide_eq_true_eq]
  have e : ∀ w : List Int, eqD (intsT w) (intsT r) = decide (w = r) := fun w => eqE (Eqs.ints w) (Eqs.ints r) (by
    rw [decide_eq_true_eq]
    constructor
    · intro h; rw [h]
    · intro h
      unfold intsT at h
      injection h with h
      exact (List.map_inj_right (f := D.int) (fun a b h => by injection h)).mp h)
  constructor
  · rintro ⟨w, hw, h⟩
    have : w = r := of_decide_eq_true ((e w).symm.trans h)
    subst this
    exact hw
  · intro h
    exact ⟨r, h, (e r).trans (decide_eq_true rfl)⟩
end Q
namespace Q
open PySem PySem.Spec PyProof.Rows L2 L3 PySem.W
theorem lackI_of {ls : List (List Int)} {ns : List Int} (h1 : ∀ i ∈ ns, 0 ≤ i ∧ i < ls.length) (h2 : ns.Pairwise (· < ·)) : lackI ls ns = lackB ls (ns.map Int.toNat) := by
  unfold lackI
  rw [List.all_eq_true.mpr fun i hi => decide_eq_true (h1 i hi), decide_eq_true h2, Bool.true_and, Bool.true_and]
theorem rng_asc (n : Nat) : (rngD 0 n).Pairwise fun a b => toI a < toI b := by
  unfold rngD
  exact List.pairwise_map.mpr ((List.pairwise_lt_range (n := n)).imp fun {a b} h => by
    show (0 : Int) + (a : Nat) < (0 : Int) + (b : Nat)
    omega)
end Q
namespace Q
open PySem PySem.Spec PyProof.Rows L2 L3 PySem.W
theorem gls_t {P : DP} {ds : List D} (h : P (.lst ds)) : listD [.tup ds] P := h
theorem grv_t {P : DP} {ds : List D} (h : P (.tup ds.reverse)) : revTD (.tup ds) P := h
end Q
namespace Q
open PySem PySem.Spec PyProof.Rows L2 L3 PySem.W
theorem Eqs.tup1 {a : D} {k : Nat} (ha : D.Eqs k a) : D.Eqs (k + 1) (.tup [a]) := by
  have := Eqs.tup (f := fun d : D => d) (k := k) (xs := [a]) fun d hd => by
    rw [List.mem_singleton.mp hd]; exact ha
  exact this
theorem Eqs.pairL {a b : D} {k : Nat} (ha : D.Eqs k a) (hb : D.Eqs k b) : D.Eqs (k + 1) (.lst [a, b]) := by
  have := Eqs.lst (f := fun d : D => d) (k := k) (xs := [a, b]) fun d hd => by
    rcases List.mem_cons.mp hd with rfl | hd
    · exact ha
    · rw [List.mem_singleton.mp hd]; exact hb
  exact this
theorem odd_ok {ls : List (List Int)} {row pls : List Int} {n : Nat} (hn : ls.length = n) (h1 : row.length ≤ 6) (h2 : pls.length ≤ 6) :
    ∀ d ∈ [D.non, D.tup [], D.str (Str.ofString "way"), D.tup [D.str (Str.ofString "way")], D.tup [D.str (Str.ofString "way"), D.lst (List.map D.int row)], D.tup [D.str (Str.ofString "lacks"), D.tup [D.int (n : Nat)]], D.tup [D.str (Str.ofString "lacks"), D.non], D.tup [D.str (Str.ofString "lacks"), D.tup []]]
      ++ [D.tup [D.str (Str.ofString "Way"), D.tup (List.map D.int row)], D.tup [D.int 0, D.tup (List.map D.int row)], D.lst [D.str (Str.ofString "way"), D.tup (List.map D.int row)], D.tup [D.str (Str.ofString "lacks"), D.tup ((List.map D.int pls).reverse ++ List.map D.int pls)], D.tup [D.str (Str.ofString "lacks"), D.tup [D.int (-1)]]],
      d.eqOk = true ∧ RightV ls d false := by
  have sw : D.Eqs 1 (.str zWay) := Eqs.mono (Eqs.str wayOk) (Nat.zero_le _)
  have sl : D.Eqs 1 (.str zLacks) := Eqs.mono (Eqs.str lacksOk) (Nat.zero_le _)
  have Wok : PyData.strOk (Str.ofString "Way") = true := by decide +kernel
  have W1 : D.Eqs 1 (.str (Str.ofString "Way")) := Eqs.mono (Eqs.str Wok) (Nat.zero_le _)
  have lk : ∀ ns : List Int, ns.length < 64 → lackI ls ns = false → RightV ls (.tup [.str zLacks, intsT ns]) false := fun ns hl h => by
    have e : lackO ls (some ns) = false := h
    have r := RightV.lacks (ls := ls) (x := intsT ns) (o := some ns) ⟨rfl, hl⟩
    rw [e] at r
    exact r
  have hrev : (List.map D.int pls).reverse ++ List.map D.int pls = (pls.reverse ++ pls).map D.int := by rw [List.map_append, List.map_reverse]
  intro d hd
  simp only [List.mem_append, List.mem_cons, List.not_mem_nil, or_false] at hd
  rcases hd with (rfl | rfl | rfl | rfl | rfl | rfl | rfl | rfl) | (rfl | rfl | rfl | rfl | rfl)
  · exact ⟨okE (Eqs.non (k := 0)), .not ⟨_, rfl⟩ fun ds h => by cases h⟩
  · exact ⟨okE (Eqs.ints []), .other (by decide) (by decide)⟩
  · exact ⟨okE sw, .not ⟨_, rfl⟩ fun ds h => by cases h⟩
  · exact ⟨okE (Eqs.tup1 sw), .other (by decide) (by decide)⟩
  · exact ⟨okE (Eqs.pair sw (Eqs.intsL row)), RightV.way (o := none) (.inr ⟨row, rfl⟩)⟩
  · exact ⟨okE (Eqs.pair sl (Eqs.ints [(n : Int)])), lk [(n : Int)] (Nat.lt_of_sub_pos (by show 0 < 64 - 1; decide)) (out_lack (by omega))⟩
  · exact ⟨okE (Eqs.pair sl Eqs.non), RightV.lacks (o := none) (.inl rfl)⟩
  · exact ⟨okE (Eqs.pair sl (Eqs.ints [])), lk [] (by decide) nil_lack⟩
  · exact ⟨okE (Eqs.pair W1 (Eqs.ints row)), .word Wok (by decide +kernel) (by decide +kernel)⟩
  · exact ⟨okE (Eqs.pair Eqs.int (Eqs.ints row)), .num⟩
  · exact ⟨okE (Eqs.pairL sw (Eqs.ints row)), .not ⟨_, rfl⟩ fun ds h => by cases h⟩
  · rw [hrev]
    exact ⟨okE (Eqs.pair sl (Eqs.ints _)), lk _ (by rw [List.length_append, List.length_reverse]; omega) (rev_lack pls)⟩
  · exact ⟨okE (Eqs.pair sl (Eqs.ints [-1])), lk [-1] (by decide) (out_lack (by omega))⟩
end Q

namespace K21
open PySem PySem.Spec PyProof.Rows L2 L3 Q
def top (i : Nat) : Stmt := PySem.Challenge.pw_daycubes_k21_whole_papers.main.body.getD i (.Pass ⟨0, 0, 0, 0⟩)
structure Txt (K : PySem.W.Frag) (mg : Str → Option Value) (P : Program) (w : World) (base : Heap) : Prop where
  b_abs : mg "abs" = none
  b_all : mg "all" = none
  b_bool : mg "bool" = none
  b_dict : mg "dict" = none
  b_enumerate : mg "enumerate" = none
  b_int : mg "int" = none
  b_isinstance : mg "isinstance" = none
  b_len : mg "len" = none
  b_list : mg "list" = none
  b_range : mg "range" = none
  b_set : mg "set" = none
  b_sorted : mg "sorted" = none
  b_str : mg "str" = none
  b_sum : mg "sum" = none
  b_tuple : mg "tuple" = none
  b_zip : mg "zip" = none
  m_combinations : mg "combinations" = some (.type "itertools.combinations")
  c_MOST_CUBES : ∃ t, mg "MOST_CUBES" = some (.int 6 t)
  c_MOST_SIGNS : ∃ t, mg "MOST_SIGNS" = some (.int 6 t)
  c_SIGNS : ∃ t, mg "SIGNS" = some (.str "0123456789" t)
  c_WAY : ∃ t, mg "WAY" = some (.str "way" t)
  c_LACKS : ∃ t, mg "LACKS" = some (.str "lacks" t)
structure TxtS (K : PySem.W.Frag) (mg : Str → Option Value) (P : Program) (w : World) (base : Heap) (C C_BadCubes C_BadTurns C_BadFigures : Addr) : Prop extends Txt K mg P w base where
  p_cubes : Prp P w K mg base C "cubes" "_cubes"
  p_turns : Prp P w K mg base C "turns" "_turns"
  x_BadCubes_BadFigures : PySem.W.exmOne K (.ref C_BadCubes) (.ref C_BadFigures) = some false
  x_BadTurns_BadFigures : PySem.W.exmOne K (.ref C_BadTurns) (.ref C_BadFigures) = some false
  x_BadFigures_BadFigures : PySem.W.exmOne K (.ref C_BadFigures) (.ref C_BadFigures) = some true
  o_Set : OwnC K C
  m_Set : mg "Set" = some (.ref C)
  n__cubes : NoAttr K C "_cubes"
  n__turns : NoAttr K C "_turns"
abbrev s_lbelow : Stmt := top 38
abbrev n_lbelow : List Str := ["_law_d", "_law_size", "_law_result"]
theorem sc_lbelow : FnScope n_lbelow ["_law_d", "_law_size"] (defScope s_lbelow) := ⟨rfl, rfl, rfl, by decide +kernel, rfl, by decide +kernel, by decide +kernel⟩
abbrev s_lrandom : Stmt := top 37
abbrev n_lrandom : List Str := ["_law_script", "_law_salt", "_law_seed", "_law_cell"]
theorem sc_lrandom : FnScope n_lrandom ["_law_script", "_law_salt"] (defScope s_lrandom) := ⟨rfl, rfl, rfl, by decide +kernel, rfl, by decide +kernel, by decide +kernel⟩
variable {P : Program} {w : World} {K : PySem.W.Frag} {mg : Str → Option Value} {base : Heap}
theorem sqL_keep {K : PySem.W.Frag} {H H' : Hp} {a : Addr} {xs : List V} (h : SqL K H a xs) (k : ∀ b o, H b = some o → H' b = some o) : SqL K H' a xs := by
  rcases h with h | h
  · rcases h with h | ⟨o, h⟩
    · exact .inl (.inl (k _ _ h))
    · exact .inl (.inr ⟨o, k _ _ h⟩)
  · exact .inr h
theorem sqL_upd {K : PySem.W.Frag} {H : Hp} {a p : Addr} {xs : List V} {o : HO} (h : SqL K H a xs) (n : H p = none) : SqL K (upd H p o) a xs := sqL_keep h fun b u e => by rw [upd_ne (ne_of_none e n)]; exact e
theorem ints_set (ns : List Int) (j : Nat) (z : Int) : (ns.map V.int).set j (.int z) = (ns.set j z).map V.int := by
  rw [List.map_set]
theorem ok_lbelow {f : Addr} {fd : FuncData} (F : Fun K "_law_below" "_law_below" s_lbelow f fd) (b_len : mg "len" = none) (b_int : mg "int" = none) :
    FnOk P w K mg base (L2.CX P w) 1 f fd ["_law_d", "_law_size"] (spD K 2 gBelow) := by
  refine F.okX sc_lbelow (fun vs H Q E h => ?_) (fun cdv A outer s H vs Q E hr h => ?_)
  · obtain ⟨r, A, ds, P', Z, _, t, hl, _⟩ := h
    rw [t.length, hl]; rfl
  · obtain ⟨r, A0, ds, P', Z, wd, t, hl, ⟨n, rfl, hn0, hn1, hk⟩, hq, _⟩ := h
    obtain ⟨v1, v2, rfl, r1, r2⟩ := t.two
    cases r1 with
    | rnd =>
    cases r2
    obtain ⟨⟨ns, e1, ⟨a, b, l, rfl, ha0, ha1, hb0, hl0⟩, hlen⟩, ar, all⟩ := wd
    have fin : ∀ (k : Int) (ms : List Int) (H' : Hp), 0 ≤ k → k < n → (∀ c o, c ≠ r → H c = some o → H' c = some o) → H' r = some (.lst (ms.map V.int)) → Rnd ms → ms.length ≤ 65 → Q (.int k) H' := fun k ms H' h0 h1 keep e rn hm =>
      hq _ _ _ (hk k h0 h1) keep ⟨ms, e, rn, hm⟩ (.int k)
    have um : ∀ {H' : Hp} {o : HO}, (∀ c o, c ≠ r → H c = some o → H' c = some o) → ∀ c u, c ≠ r → H c = some u → upd H' r o c = some u := fun k c u hc q => by rw [upd_ne hc]; exact k c u hc q
    refine ⟨_, pss_cons (ps_if (PW.pt (pw_and (pt_cmpR op_eq (pe_ix ix_list (pv 0) pe_int (fun _ _ => rfl)) pe_int (nomark _)) (pw_and1 (pt_cmpR op_gt (pe_callB call_len_seq rfl b_len (by decide +kernel) (pa_cons (pv 0) pa_nil)) pe_int (nomark _)))))
        (pss_one (ps_asg (pe_bm PySem.F.plainAttrs_list PySem.F.slot_list_pop PySem.F.type_list_pop mt_popAt (pv 0) (pa_cons pe_int pa_nil)) (pg_sub (pv 0) pe_int set_list))) pss_nil)
      (pss_cons (ps_if (pt_cmpR op_gt (pe_ix ix_list (pv 0) pe_int (fun _ _ => rfl)) pe_int (nomark _))
        (pss_cons (ps_set (i := 2) sc_lbelow.nd rfl (Or.inl rfl) (pe_op op_mod (pe_callTy call_int1 rfl b_int (by decide +kernel) (pa_cons (pe_ix ix_list (pv 0) pe_int (fun _ _ => rfl)) pa_nil)) (pv 1)))
        (pss_cons (ps_asg (pe_op op_fdivW (pe_ix ix_list (pv 0) pe_int (fun _ _ => rfl)) (pv 1)) (pg_sub (pv 0) pe_int set_list))
        (pss_one (ps_ret (pv 2))))) pss_nil)
      (pss_cons (ps_asg (pe_op op_mod (pe_callTy call_int1 rfl b_int (by decide +kernel) (pa_cons (pe_op op_add (pe_op op_mul (pe_ix ix_list (pv 0) pe_int (fun _ _ => rfl)) pe_int) pe_int) pa_nil)) pe_int) (pg_sub (pv 0) pe_int set_list))
      (pss_one (ps_ret (pe_op op_mod (pe_callTy call_int1 rfl b_int (by decide +kernel) (pa_cons (pe_op op_fdivW (pe_ix ix_list (pv 0) pe_int (fun _ _ => rfl)) pe_int) pa_nil)) (pv 1)))))), ?_⟩
    -- behind the first if: the list is a, b', l'
    have rest : ∀ (b' : Int) (l' : List Int) (H' : Hp), 0 ≤ b' → (∀ x ∈ l', 0 ≤ x) → l'.length ≤ 63 → (∀ c o, c ≠ r → H c = some o → H' c = some o) → H' r = some (.lst ((a :: b' :: l').map V.int)) →
        (tSeq (tIfS (tTest (tOp (rI0 fun i j => .bl (decide (j < i))) (tOp (rIxL K) (tVar 0) (tC (.int 1))) (tC (.int 0)))) (tSeq (tAsg (tOp (rI (fun _ j => 0 < j) fun i j => .int (i % j)) (tCB (fun xs H Q => (∃ i, xs = [.int i] ∧ Q (.int i) H) ∨ ∃ k, xs = [.bl k] ∧ Q (.int (if k then 1 else 0)) H) (tCons (tOp (rIxL K) (tVar 0) (tC (.int 1))) tNil)) (tVar 1)) (gName 2)) (tSeq (tAsg (tOp (rI CDivW fun i j => .int (i / j)) (tOp (rIxL K) (tVar 0) (tC (.int 1))) (tVar 1)) (gSub (tVar 0) (tC (.int 1)) rSetL)) (tRet (tVar 2)))) tNext)
          (tSeq (tAsg (tOp (rI (fun _ j => 0 < j) fun i j => .int (i % j)) (tCB (fun xs H Q => (∃ i, xs = [.int i] ∧ Q (.int i) H) ∨ ∃ k, xs = [.bl k] ∧ Q (.int (if k then 1 else 0)) H) (tCons (tOp (rI0 fun i j => .int (i + j)) (tOp (rI CMul fun i j => .int (i * j)) (tOp (rIxL K) (tVar 0) (tC (.int 0))) (tC (.int 48271))) (tC (.int 11))) tNil)) (tC (.int 2147483647))) (gSub (tVar 0) (tC (.int 0)) rSetL))
          (tRet (tOp (rI (fun _ j => 0 < j) fun i j => .int (i % j)) (tCB (fun xs H Q => (∃ i, xs = [.int i] ∧ Q (.int i) H) ∨ ∃ k, xs = [.bl k] ∧ Q (.int (if k then 1 else 0)) H) (tCons (tOp (rI CDivW fun i j => .int (i / j)) (tOp (rIxL K) (tVar 0) (tC (.int 0))) (tC (.int 64))) tNil)) (tVar 1)))))
          { nx := fun _ H' => Q .non H', rt := Q } [some (.ref r), some (.int n), none] H' := by
      intro b' l' H' hb' hl' hlen' keep e
      have i1 : atI ((a :: b' :: l').map V.int) 1 = some (.int b') := atI_nat (j := 1) rfl
      have i0 : atI ((a :: b' :: l').map V.int) 0 = some (.int a) := atI_nat (j := 0) rfl
      have x0 : ixN ((a :: b' :: l').map V.int).length 0 = some 0 := by unfold ixN; rw [if_pos (by decide), if_pos (by simp; omega)]; rfl
      have x1 : ixN ((a :: b' :: l').map V.int).length 1 = some 1 := by unfold ixN; rw [if_pos (by decide), if_pos (by simp; omega)]; rfl
      have n64 : n.natAbs.log2 < 9000 := by
        by_cases h0 : n.natAbs = 0
        · rw [h0]; decide
        · exact Nat.lt_trans ((Nat.log2_lt h0).mpr (show n.natAbs < 2 ^ 20 by omega)) (by decide)
      refine ⟨.ref r, rfl, r, _, 1, .int b', rfl, rfl, SqL.of e, i1, b', 0, rfl, rfl, decide (0 < b'), rfl, ?_⟩
      by_cases hb : 0 < b'
      · refine if_so (decide_eq_true hb) ?_
        refine ⟨.ref r, rfl, r, _, 1, .int b', rfl, rfl, SqL.of e, i1, .inl ⟨b', rfl, .int n, rfl, b', n, rfl, rfl, hn0, ?_⟩⟩
        refine ⟨.ref r, rfl, r, _, 1, .int b', rfl, rfl, SqL.of e, i1, .int n, rfl, b', n, rfl, rfl, ⟨hn0, n64⟩, .ref r, rfl, r, _, 1, 1, rfl, rfl, e, x1, .int (b' % n), rfl, ?_⟩
        refine fin (b' % n) (a :: (b' / n) :: l') _ (Int.emod_nonneg _ (by omega)) (Int.emod_lt_of_pos _ hn0) (um keep) upd_same ⟨a, b' / n, l', rfl, ha0, ha1, Int.ediv_nonneg hb' (by omega), hl'⟩ (by simp; omega)
      · refine if_no (decide_eq_false hb) ?_
        have hs0 : (0 : Int) ≤ (a * 48271 + 11) % 2147483647 := Int.emod_nonneg _ (by decide)
        have hs1 : (a * 48271 + 11) % 2147483647 < 2147483647 := Int.emod_lt_of_pos _ (by decide)
        refine ⟨.ref r, rfl, r, _, 0, .int a, rfl, rfl, SqL.of e, i0, a, 48271, rfl, rfl, .inl ⟨by omega, by omega⟩, _, _, rfl, rfl, .inl ⟨_, rfl, _, _, rfl, rfl, (by show (0 : Int) < 2147483647; decide), .ref r, rfl, r, _, 0, 0, rfl, rfl, e, x0, ?_⟩⟩
        have i2 : atI ((((a * 48271 + 11) % 2147483647) :: b' :: l').map V.int) 0 = some (.int ((a * 48271 + 11) % 2147483647)) := atI_nat (j := 0) rfl
        refine ⟨.ref r, rfl, r, _, 0, _, rfl, rfl, SqL.of upd_same, i2, _, 64, rfl, rfl, ⟨by decide, by decide +kernel⟩, .inl ⟨_, rfl, .int n, rfl, _, n, rfl, rfl, hn0, ?_⟩⟩
        exact fin _ (((a * 48271 + 11) % 2147483647) :: b' :: l') _ (Int.emod_nonneg _ (by omega)) (Int.emod_lt_of_pos _ hn0) (um keep) upd_same ⟨_, b', l', rfl, hs0, hs1, hb', hl'⟩ (by simp; omega)
    have i1 : atI ((a :: b :: l).map V.int) 1 = some (.int b) := atI_nat (j := 1) rfl
    have ll : l.length ≤ 63 := by simp at hlen; omega
    refine ⟨.ref r, rfl, r, _, 1, .int b, rfl, rfl, SqL.of e1, i1, rfl, _, rfl, ?_⟩
    by_cases hb : b = 0
    · refine if_so (by rw [hb]; exact decide_eq_true rfl) ?_
      refine ⟨.ref r, rfl, r, _, rfl, .inl (SqL.of e1), _, _, rfl, rfl, _, rfl, ?_⟩
      by_cases hll : 0 < l.length
      · refine if_so (decide_eq_true (by simp; omega)) ?_
        match l, hll with
        | c :: l, _ =>
          have sx : seqIndex? 2 ((a :: b :: c :: l).map V.int).length = some 2 := by
            unfold seqIndex?; simp; omega
          refine ⟨.ref r, rfl, .inl ⟨rfl, _, SqL.of e1⟩, r, _, 2, 2, .int c, rfl, rfl, e1, by decide, by decide, sx, rfl, .ref r, rfl, r, _, 1, 1, rfl, rfl, upd_same, by unfold ixN; rw [if_pos (by decide), if_pos (by simp; omega)]; rfl, ?_⟩
          exact rest c l _ (hl0 c List.mem_cons_self) (fun x hx => hl0 x (List.mem_cons_of_mem _ hx)) (by simp at ll; omega) (um (um fun _ _ _ q => q)) upd_same
      · refine if_no (decide_eq_false (by simp; omega)) ?_
        exact rest b l H hb0 hl0 ll (fun _ _ _ q => q) e1
    · refine if_no (decide_eq_false (fun z => hb (by cases z; rfl))) ?_
      exact rest b l H hb0 hl0 ll (fun _ _ _ q => q) e1

/-- _law_random(script, salt): a source of draws -/
def spRandom (K : PySem.W.Frag) : Sp := fun vs H Q _ => ∃ (a : Addr) (ns : List Int) (z : Int), vs = [.ref a, .int z] ∧ SqL K H a (ns.map V.int) ∧ ns.length ≤ 63 ∧ 0 ≤ z ∧ z < 2147483647 ∧
  ∀ (p : Addr) (ms : List Int) (H' : Hp), H p = none → H' p = some (.lst (ms.map V.int)) → Rnd ms → ms.length ≤ 65 → (∀ b o, H b = some o → H' b = some o) → Q (.ref p) H'
theorem at_int {ns : List Int} {i : Nat} {y : V} (h : (ns.map V.int)[i]? = some y) : ∃ z, ns[i]? = some z ∧ y = .int z := by
  rw [List.getElem?_map] at h
  cases e : ns[i]? with
  | none => rw [e] at h; cases h
  | some z => rw [e] at h; exact ⟨z, rfl, (Option.some.inj h).symm⟩
theorem ok_lrandom {f : Addr} {fd : FuncData} (F : Fun K "_law_random" "_law_random" s_lrandom f fd) (b_int : mg "int" = none) (b_abs : mg "abs" = none) :
    FnOk P w K mg base (L2.CX P w) 1 f fd ["_law_script", "_law_salt"] (spRandom K) := by
  refine F.okX sc_lrandom (fun vs H Q E h => ?_) (fun cdv A outer s H vs Q E hr h => ?_)
  · obtain ⟨a, ns, z, rfl, _⟩ := h; rfl
  · obtain ⟨a, ns, z, rfl, hS, hlen, hz0, hz1, hq⟩ := h
    refine ⟨_, pss_cons (ps_set (i := 2) sc_lrandom.nd rfl (Or.inl rfl) (pv 1))
      (pss_cons (ps_for (passes_of rfl) rfl (pi_list (pv 0)) (pg_name (i := 3) sc_lrandom.nd rfl (Or.inl rfl))
        (pss_one (ps_set (i := 2) sc_lrandom.nd rfl (Or.inl rfl) (pe_op op_mod (pe_callTy call_int1 rfl b_int (by decide +kernel) (pa_cons (pe_op op_add (pe_op op_mul (pv 2) pe_int) (pe_callB call_abs rfl b_abs (by decide +kernel) (pa_cons (pv 3) pa_nil))) pa_nil)) pe_int))))
      (pss_one (ps_ret (pe_op op_cat (pe_lst (pa_cons (pv 2) (pa_cons pe_int pa_nil)))
        (pe_lc (own := [("_law_cell", 3)]) rfl sc_lrandom.nd (pi_list (pv 0)) (blkOk_by (own := [("_law_cell", 3)]) (N := n_lrandom) (sc := defScope s_lrandom) (by decide +kernel)) (fun _ _ _ _ _ => pg_name (i := 3) sc_lrandom.nd rfl (Or.inl rfl))
          (fun _ _ _ _ _ => pts_one (pt_cmpR op_ge (pv 3) (pe_op op_pow pe_int pe_int) (nomark _))) (fun _ _ _ _ _ => pv 3)))))), ?_⟩
    refine ⟨.int z, rfl, .ref a, rfl, a, rfl, ⟨_, hS⟩, for_list (K := K) (a := a) (xs := ns.map V.int) (fun i σ H' => H = H' ∧ ∃ (t : Int) (v : Option V), σ = [some (.ref a), some (.int z), some (.int t), v] ∧ 0 ≤ t ∧ t < 2147483647)
      ⟨rfl, z, none, rfl, hz0, hz1⟩ (fun i σ H' _ ⟨e, _⟩ => by rw [← e]; exact hS) ?_ ?_⟩
    · rintro i y σ H' hi ⟨rfl, t, v, rfl, ht0, ht1⟩
      obtain ⟨c, hc, rfl⟩ := at_int hi
      refine ⟨_, rfl, _, _, rfl, rfl, .inl ⟨by omega, by omega⟩, _, rfl, _, rfl, _, _, rfl, rfl, .inl ⟨_, rfl, _, _, rfl, rfl, (by show (0 : Int) < 2147483647; decide), rfl, _, _, rfl, Int.emod_nonneg _ (by decide), Int.emod_lt_of_pos _ (by decide)⟩⟩
    · rintro σ H' ⟨rfl, t, v, rfl, ht0, ht1⟩
      refine ⟨_, rfl, (by show 2 ≤ sizeLine; decide), fun p hp => ?_⟩
      refine ⟨_, rfl, a, rfl, ⟨_, (show SqL K (upd H p _) a (ns.map V.int) from sqL_upd hS hp)⟩, fun c hc => lc_list (K := K) (a := a) (xs := ns.map V.int)
        (fun i H2 => ∃ ms : List Int, H2 c = some (.lst (ms.map V.int)) ∧ ms.length ≤ i ∧ (∀ x ∈ ms, 0 ≤ x) ∧ ∀ b o, b ≠ c → upd H p (.lst [.int t, .int 0]) b = some o → H2 b = some o)
        ⟨[], upd_same, Nat.le_refl _, fun _ h => (by cases h), fun b o hb e => by rw [upd_ne hb]; exact e⟩ (fun i H2 hi ⟨ms, _, _, _, k⟩ => ?_) ?_ ?_⟩
      · exact sqL_keep hS (fun b o e => k b o (ne_of_none (show upd H p (.lst [.int t, .int 0]) b = some o from by rw [upd_ne (ne_of_none e hp)]; exact e) hc) (by rw [upd_ne (ne_of_none e hp)]; exact e))
      · rintro i y H2 hi ⟨ms, e, hl, h0, k⟩
        obtain ⟨d, hd, rfl⟩ := at_int hi
        refine ⟨rfl, _, rfl, _, _, rfl, rfl, ⟨by decide, by decide, by decide⟩, _, _, rfl, rfl, _, rfl, ?_⟩
        by_cases hd0 : (10 : Int) ^ (18 : Int).toNat ≤ d
        · refine if_so (decide_eq_true hd0) ?_
          have hi' := (List.getElem?_eq_some_iff.mp hd).1
          refine ⟨_, rfl, _, e, by rw [List.length_map, sizeLine_eq]; omega, ms ++ [d], by rw [upd_same, List.map_append]; rfl, by rw [List.length_append, List.length_singleton]; omega, fun x hx => ?_, fun b o hb q => by rw [upd_ne hb]; exact k b o hb q⟩
          rcases List.mem_append.mp hx with hx | hx
          · exact h0 x hx
          · rw [List.mem_singleton.mp hx]
            exact Int.le_trans (by decide) hd0
        · refine if_no (decide_eq_false hd0) ?_
          exact ⟨ms, e, by omega, h0, k⟩
      · rintro H2 ⟨ms, e, hl, h0, k⟩
        have hpc : p ≠ c := ne_of_none (show upd H p (.lst [.int t, .int 0]) p = some _ from upd_same) hc
        have ep : H2 p = some (.lst [.int t, .int 0]) := k p _ hpc upd_same
        rw [List.length_map] at hl
        refine ⟨p, c, _, _, rfl, rfl, ep, e, by rw [List.length_map, sizeLine_eq]; show 2 + _ ≤ _; omega, fun q hq2 => ?_⟩
        have hall : ∀ b o, H b = some o → H2 b = some o := fun b o e => k b o (ne_of_none (show upd H p (.lst [.int t, .int 0]) b = some o from by rw [upd_ne (ne_of_none e hp)]; exact e) hc) (by rw [upd_ne (ne_of_none e hp)]; exact e)
        refine hq q (t :: 0 :: ms) _ ?_ upd_same ⟨t, 0, ms, rfl, ht0, ht1, Int.le_refl _, h0⟩ (by simp; omega) fun b o e => by rw [upd_ne (ne_of_none (hall b o e) hq2)]; exact hall b o e
        cases z : H q with
        | none => rfl
        | some o => rw [hall q o z] at hq2; cases hq2

variable {P : Program} {w : World} {K : PySem.W.Frag} {mg : Str → Option Value} {base : Heap} {C_Set C_BadCubes C_BadTurns C_BadFigures : Addr}
abbrev s_iBadCubes : Stmt := inClass (top 3) 0
theorem sc_iBadCubes : FnScope ["self", "index"] ["self", "index"] (defScope s_iBadCubes) := ⟨rfl, rfl, rfl, by decide +kernel, rfl, by decide +kernel, by decide +kernel⟩
theorem ok_iBadCubes {f C : Addr} {fd : FuncData} (F : Fun K "__init__" "BadCubes.__init__" s_iBadCubes f fd) (B : BaseE K mg "CubeError") (T : OexC K C) (hno : PySem.W.findIn K (.ref C) "index" = some none) : FnOk P w K mg base (L2.CX P w) 1 f fd ["self", "index"] (spI1 K C "index") := by
  refine F.okX sc_iBadCubes (fun vs H Q E h => ?_) (fun cdv A outer s H vs Q E hr h => ?_)
  · obtain ⟨a, v, rfl, _⟩ := h; rfl
  · obtain ⟨a, v, rfl, e, hf, q⟩ := h
    refine ⟨_, pss_cons (ps_expr (pe_cinit B rfl (pa_cons (pv 0) (pa_cons (pe_joined (.cons pe_str (.cons (pe_fmtA hr (pv 1)) .nil))) pa_nil)))) (pss_one (ps_ost (pv 0) (pv 1))), ?_⟩
    refine ⟨.ref a, rfl, _, rfl, by decide +kernel, v, rfl, hf, fun m hm => ⟨m, rfl, ?_, a, C, _, rfl, by show 1 ≤ 1000; decide, T, e, v, rfl, .ref a, rfl, a, C, rfl, T, hno, .inl ⟨e, fun dx n ne => q dx n ne⟩⟩⟩
    rw [sizeLine_eq]
    have e2 : ((Str.empty ++ "wrong cubes, index " : Str) ++ m).length = (Str.empty ++ "wrong cubes, index " : Str).length + m.length := Str.length_append _ _
    have e3 : (Str.empty ++ "wrong cubes, index " : Str).length = 19 := by decide +kernel
    omega
abbrev s_iBadTurns : Stmt := inClass (top 4) 0
theorem sc_iBadTurns : FnScope ["self"] ["self"] (defScope s_iBadTurns) := ⟨rfl, rfl, rfl, by decide +kernel, rfl, by decide +kernel, by decide +kernel⟩
theorem ok_iBadTurns {f C : Addr} {fd : FuncData} (F : Fun K "__init__" "BadTurns.__init__" s_iBadTurns f fd) (B : BaseE K mg "CubeError") (T : OexC K C) : FnOk P w K mg base (L2.CX P w) 1 f fd ["self"] (spI0 C) := by
  refine F.okX sc_iBadTurns (fun vs H Q E h => ?_) (fun cdv A outer s H vs Q E hr h => ?_)
  · obtain ⟨a, rfl, _⟩ := h; rfl
  · obtain ⟨a, rfl, e, q⟩ := h
    exact ⟨_, pss_one (ps_expr (pe_cinit B rfl (pa_cons (pv 0) (pa_cons pe_str pa_nil)))), .ref a, rfl, a, C, _, rfl, by decide, T, e, q⟩
abbrev s_iBadFigures : Stmt := inClass (top 5) 0
theorem sc_iBadFigures : FnScope ["self"] ["self"] (defScope s_iBadFigures) := ⟨rfl, rfl, rfl, by decide +kernel, rfl, by decide +kernel, by decide +kernel⟩
theorem ok_iBadFigures {f C : Addr} {fd : FuncData} (F : Fun K "__init__" "BadFigures.__init__" s_iBadFigures f fd) (B : BaseE K mg "CubeError") (T : OexC K C) : FnOk P w K mg base (L2.CX P w) 1 f fd ["self"] (spI0 C) := by
  refine F.okX sc_iBadFigures (fun vs H Q E h => ?_) (fun cdv A outer s H vs Q E hr h => ?_)
  · obtain ⟨a, rfl, _⟩ := h; rfl
  · obtain ⟨a, rfl, e, q⟩ := h
    exact ⟨_, pss_one (ps_expr (pe_cinit B rfl (pa_cons (pv 0) (pa_cons pe_str pa_nil)))), .ref a, rfl, a, C, _, rfl, by decide, T, e, q⟩
end K21

namespace K21
open PySem PySem.Spec PyProof.Rows L2 L3 Q
variable {P : Program} {w : World} {K : PySem.W.Frag} {mg : Str → Option Value} {base : Heap} {C_Set C_BadCubes C_BadTurns C_BadFigures : Addr}
abbrev s_is_integer : Stmt := top 10
abbrev n_is_integer : List Str := ["value"]
theorem sc_is_integer : FnScope n_is_integer ["value"] (defScope s_is_integer) := ⟨rfl, rfl, rfl, by decide +kernel, rfl, by decide +kernel, by decide +kernel⟩
theorem ok_is_integer {f : Addr} {fd : FuncData} (F : Fun K "is_integer" "is_integer" s_is_integer f fd) (T : TxtS K mg P w base C_Set C_BadCubes C_BadTurns C_BadFigures)  : FnOk P w K mg base (L2.CX P w) 1 f fd ["value"] (spD K 1 gInt) := by
  refine def_ok (k := 0) (N := n_is_integer) F sc_is_integer rfl (by decide) (fun cdv A outer s H E hr => by exact (s_one (s_ret (e_and (e_isT (T := "int") rfl T.b_isinstance rfl T.b_int (by decide +kernel) (ev 0)) (e_one (e_not (e_isT (T := "bool") rfl T.b_isinstance rfl T.b_bool (by decide +kernel) (ev 0)))))))) (fun ds P Z hl h => ?_)
  obtain ⟨d, rfl, hd, hp⟩ := h
  refine ⟨d, rfl, isT_int hd ⟨_, rfl, ?_⟩⟩
  cases hi : isInt d with
  | true =>
    rw [hi, Bool.true_and] at hp
    exact if_so rfl ⟨d, rfl, isT_bool hd ⟨_, rfl, hp⟩⟩
  | false =>
    rw [hi] at hp
    exact if_no rfl hp
abbrev s_is_within : Stmt := top 11
abbrev n_is_within : List Str := ["value", "low", "high"]
theorem sc_is_within : FnScope n_is_within ["value", "low", "high"] (defScope s_is_within) := ⟨rfl, rfl, rfl, by decide +kernel, rfl, by decide +kernel, by decide +kernel⟩
theorem ok_is_within {f : Addr} {fd : FuncData} (F : Fun K "is_within" "is_within" s_is_within f fd) (T : TxtS K mg P w base C_Set C_BadCubes C_BadTurns C_BadFigures) (c_is_integer : Cal P w K mg base "is_integer" 1 1 gInt) : FnOk P w K mg base (L2.CX P w) 2 f fd ["value", "low", "high"] (spD K 3 gWithin) := by
  refine def_ok (k := 1) (N := n_is_within) F sc_is_within rfl (by decide) (fun cdv A outer s H E hr => by exact (s_one (s_ret (e_and (e_cal c_is_integer (hr.mono (by decide)) rfl passX (a_cons (ev 0) a_nil)) (e_one (e_chain op_le op_le od_le od_le (ev 1) (ev 0) (ev 2))))))) (fun ds P Z hl h => ?_)
  obtain ⟨d, lo, hi, rfl, hd, hp⟩ := h
  refine ⟨d, rfl, rfl, d, rfl, hd, _, rfl, ?_⟩
  cases d with
  | int i =>
    refine if_so rfl ⟨_, rfl, _, rfl, _, rfl, ?_⟩
    by_cases h0 : lo ≤ i
    · refine if_so (decide_eq_true h0) ⟨_, rfl, ?_⟩
      have e : isWithin (.int i) lo hi = decide (i ≤ hi) := by show decide (_ ∧ _) = _; simp [h0]
      rw [e] at hp
      exact hp
    · refine if_no (decide_eq_false h0) ?_
      have e : isWithin (.int i) lo hi = false := decide_eq_false fun z => h0 z.1
      rw [e] at hp
      exact hp
  | _ => exact if_no rfl hp
abbrev s_is_figure : Stmt := top 12
abbrev n_is_figure : List Str := ["value"]
theorem sc_is_figure : FnScope n_is_figure ["value"] (defScope s_is_figure) := ⟨rfl, rfl, rfl, by decide +kernel, rfl, by decide +kernel, by decide +kernel⟩
theorem ok_is_figure {f : Addr} {fd : FuncData} (F : Fun K "is_figure" "is_figure" s_is_figure f fd) (T : TxtS K mg P w base C_Set C_BadCubes C_BadTurns C_BadFigures) (c_is_within : Cal P w K mg base "is_within" 2 3 gWithin) : FnOk P w K mg base (L2.CX P w) 3 f fd ["value"] (spD K 1 gFig) := by
  refine def_ok (k := 2) (N := n_is_figure) F sc_is_figure rfl (by decide) (fun cdv A outer s H E hr => by exact (s_one (s_ret (e_cal c_is_within (hr.mono (by decide)) rfl passX (a_cons (ev 0) (a_cons e_int (a_cons e_int a_nil))))))) (fun ds P Z hl h => ?_)
  obtain ⟨d, rfl, hd, hp⟩ := h
  refine ⟨_, rfl, rfl, d, 0, 9, rfl, hd, ?_⟩
  rw [within_fig]
  exact hp
abbrev s_ascends : Stmt := top 13
abbrev n_ascends : List Str := ["values"]
theorem sc_ascends : FnScope n_ascends ["values"] (defScope s_ascends) := ⟨rfl, rfl, rfl, by decide +kernel, rfl, by decide +kernel, by decide +kernel⟩
theorem ok_ascends {f : Addr} {fd : FuncData} (F : Fun K "ascends" "ascends" s_ascends f fd) (T : TxtS K mg P w base C_Set C_BadCubes C_BadTurns C_BadFigures)  : FnOk P w K mg base (L2.CX P w) 1 f fd ["values"] (spD K 1 gAsc) := by
  refine def_ok (k := 0) (N := n_ascends) F sc_ascends rfl (by decide) (fun cdv A outer s H E hr => by exact (s_one (s_ret (e_cmp (op_eqD hr.units) od_eq (ev 0) (e_callTy call_tuple_of cd_tuple rfl T.b_tuple (by decide +kernel) (a_cons (e_sortedSet rfl hr.units rfl T.b_sorted rfl T.b_set (ev 0)) a_nil)) (nomark _))))) (fun ds P Z hl h => ?_)
  rcases h with ⟨ns, rfl, hn, hp⟩ | ⟨ps, rfl, hn, hb, hp⟩
  · exact ⟨_, rfl, _, rfl, .inl ⟨ns, rfl, hn, fun ms pw hm => eq_E (Eqs.ints ns) (Eqs.ints ms) (asc_of pw hm) hp⟩⟩
  · refine ⟨_, rfl, _, rfl, .inr ⟨ps.map fun p => [p.1, p.2], 2, by rw [List.map_map]; rfl, by rw [List.length_map]; exact hn, by decide, fun k hk => ?_, fun ms nd hm pw => eq_E (turns_E ps) (Eqs.tup (f := fun k : List Int => D.tup (k.map D.int)) fun k _ => Eqs.ints k) (ascP_of hb nd hm pw) hp⟩⟩
    obtain ⟨p, h, rfl⟩ := List.mem_map.mp hk
    have := hb p h
    exact ⟨rfl, bd_pair (by omega) (by omega) (by omega) (by omega)⟩
end K21

namespace K21
open PySem PySem.Spec PyProof.Rows L2 L3 Q
variable {P : Program} {w : World} {K : PySem.W.Frag} {mg : Str → Option Value} {base : Heap} {C_Set C_BadCubes C_BadTurns C_BadFigures : Addr}
abbrev s_is_cube : Stmt := top 14
abbrev n_is_cube : List Str := ["value", "face"]
theorem sc_is_cube : FnScope n_is_cube ["value"] (defScope s_is_cube) := ⟨rfl, rfl, rfl, by decide +kernel, rfl, by decide +kernel, by decide +kernel⟩
theorem ok_is_cube {f : Addr} {fd : FuncData} (F : Fun K "is_cube" "is_cube" s_is_cube f fd) (T : TxtS K mg P w base C_Set C_BadCubes C_BadTurns C_BadFigures) (c_ascends : Cal P w K mg base "ascends" 1 1 gAsc) (c_is_figure : Cal P w K mg base "is_figure" 3 1 gFig) : FnOk P w K mg base (L2.CX P w) 4 f fd ["value"] (spD K 1 gCube) := by
  refine def_ok (k := 3) (N := n_is_cube) F sc_is_cube rfl (by decide) (fun cdv A outer s H E hr => by exact (s_cons (s_if (PW.pt (w_or (t_not (t_truth (e_isT (T := "tuple") rfl T.b_isinstance rfl T.b_tuple (by decide +kernel) (ev 0)))) (w_one_or (t_cmp (op_eqD hr.units) od_eq (e_callB cr_len cd_len rfl T.b_len (by decide +kernel) (a_cons (ev 0) a_nil)) e_int (nomark _)))))
      (s_one (s_ret e_bl))
      s_nil)
      (s_one (s_ret (e_and (e_callB (cr_all rfl) cd_all rfl T.b_all (by decide +kernel) (a_cons (e_lc (own := [("face", 1)]) rfl sc_is_cube.nd (i_tup (ev 0)) (blkOk_by (own := [("face", 1)]) (N := n_is_cube) (sc := defScope s_is_cube) (by decide +kernel)) (gc_name 1 (by simp)) (fun _ _ _ _ _ => (pg_name (i := 1) sc_is_cube.nd rfl (Or.inl rfl))) (fun _ _ _ _ _ => ts_nil) (fun _ _ _ _ _ => (e_cal c_is_figure (hr.mono (by decide)) rfl pass0 (a_cons (ev 1) a_nil)))) a_nil)) (e_one (e_cal c_ascends (hr.mono (by decide)) rfl passX (a_cons (ev 0) a_nil)))))))) (fun ds P Z hl h => ?_)
  obtain ⟨d, rfl, ⟨hd, ho⟩, hp⟩ := h
  refine ⟨d, rfl, isT_tuple hd ?_⟩
  cases d with
  | tup es =>
    obtain ⟨hl2, he⟩ := ho es rfl
    refine gb_b (if_no rfl ⟨_, rfl, gl_t ⟨okI, okI, ?_⟩⟩)
    rw [eqI, show decide ((es.length : Int) = 0) = es.isEmpty from by cases es <;> simp <;> omega]
    refine ⟨_, rfl, ?_⟩
    cases hes : es.isEmpty with
    | true =>
      refine if_so rfl ?_
      have e : isCube (.tup es) = false := by rw [isCube_tup, hes]; rfl
      rw [e] at hp
      exact hp
    | false =>
      refine if_no rfl ⟨_, rfl, by rw [sizeLine_eq]; omega, lcD_of (k := fun _ => true) (f := fun d => .bl (isFig d)) es [] (fun d h R Q q => ⟨d, rfl, rfl, d, rfl, he d h, q⟩) ?_⟩
      refine ⟨es.map isFig, by rw [kept_all, List.nil_append, List.map_map]; rfl, _, rfl, ?_⟩
      cases ha : es.all isFig with
      | true =>
        refine if_so (by rw [List.all_map]; exact ha) ⟨_, rfl, rfl, .inl ⟨es.map toI, ?_, by rw [List.length_map]; exact hl2, ?_⟩⟩
        · show [D.tup es] = [D.tup ((es.map toI).map D.int)]
          rw [← figs_ints ha]
        · have e : isCube (.tup es) = decide ((es.map toI).Pairwise (· < ·)) := by rw [isCube_tup, hes, ha]; rfl
          rw [e] at hp
          exact hp
      | false =>
        refine if_no (by rw [List.all_map]; exact ha) ?_
        have e : isCube (.tup es) = false := by rw [isCube_tup, ha, Bool.and_false]; rfl
        rw [e] at hp
        exact hp
  | _ => exact gb_b (if_so rfl hp)
abbrev s_is_turns : Stmt := top 15
abbrev n_is_turns : List Str := ["value", "pair", "figures", "figure"]
theorem sc_is_turns : FnScope n_is_turns ["value"] (defScope s_is_turns) := ⟨rfl, rfl, rfl, by decide +kernel, rfl, by decide +kernel, by decide +kernel⟩
theorem ok_is_turns {f : Addr} {fd : FuncData} (F : Fun K "is_turns" "is_turns" s_is_turns f fd) (T : TxtS K mg P w base C_Set C_BadCubes C_BadTurns C_BadFigures) (c_ascends : Cal P w K mg base "ascends" 1 1 gAsc) (c_is_cube : Cal P w K mg base "is_cube" 4 1 gCube) : FnOk P w K mg base (L2.CX P w) 5 f fd ["value"] (spD K 1 gTurns) := by
  refine def_ok (k := 4) (N := n_is_turns) F sc_is_turns rfl (by decide) (fun cdv A outer s H E hr => by exact (s_cons (s_if (t_not (t_truth (e_isT (T := "tuple") rfl T.b_isinstance rfl T.b_tuple (by decide +kernel) (ev 0))))
      (s_one (s_ret e_bl))
      s_nil)
      (s_cons (s_if (t_not (t_truth (e_callB (cr_all rfl) cd_all rfl T.b_all (by decide +kernel) (a_cons (e_lc (own := [("pair", 1)]) rfl sc_is_turns.nd (i_tup (ev 0)) (blkOk_by (own := [("pair", 1)]) (N := n_is_turns) (sc := defScope s_is_turns) (by decide +kernel)) (gc_name 1 (by simp)) (fun _ _ _ _ _ => (pg_name (i := 1) sc_is_turns.nd rfl (Or.inl rfl))) (fun _ _ _ _ _ => ts_nil) (fun _ _ _ _ _ => (e_and (e_cal c_is_cube (hr.mono (by decide)) rfl pass0 (a_cons (ev 1) a_nil)) (e_one (e_cmp (op_eqD hr.units) od_eq (e_callB cr_len cd_len rfl T.b_len (by decide +kernel) (a_cons (ev 1) a_nil)) e_int (nomark _)))))) a_nil))))
      (s_one (s_ret e_bl))
      s_nil)
      (s_cons (s_setLc2 (i := 2) (own := [("pair", 1), ("figure", 3)]) (vs1 := [3]) rfl sc_is_turns.nd rfl rfl (sw_true rfl rfl rfl (by decide +kernel)) (i_tup (ev 0)) (blkOk_by (own := [("pair", 1), ("figure", 3)]) (N := n_is_turns) (sc := defScope s_is_turns) (by decide +kernel)) (by simp) (gc_name 1 (by simp)) (gc_name 3 (by simp)) (fun _ _ _ _ _ => (pg_name (i := 1) sc_is_turns.nd rfl (Or.inl rfl))) (fun _ _ _ _ _ => ts_nil) (fun _ _ _ _ _ => (i_tup (ev 1))) (fun _ _ _ _ _ => (pg_name (i := 3) sc_is_turns.nd rfl (Or.inl rfl))) (fun _ _ _ _ _ => ts_nil) (fun _ _ _ _ _ => (ev 3)))
      (s_one (s_ret (e_and (e_cal c_ascends (hr.mono (by decide)) rfl passX (a_cons (ev 0) a_nil)) (e_one (e_cmp (op_eqD hr.units) od_eq (e_lenSet rfl rfl T.b_len rfl T.b_set (ev 2)) (e_callB cr_len cd_len rfl T.b_len (by decide +kernel) (a_cons (ev 2) a_nil)) (nomark _)))))))))) (fun ds P Z hl h => ?_)
  obtain ⟨d, rfl, ⟨hd, ho⟩, hp⟩ := h
  refine ⟨d, rfl, isT_tuple hd ?_⟩
  cases d with
  | tup es =>
    obtain ⟨hl2, he⟩ := ho es rfl
    refine gb_b (if_no rfl ⟨_, rfl, gi_t ⟨by rw [sizeLine_eq]; omega, lcD_of (k := fun _ => true) (f := fun d => .bl (isCube d && len2 d)) es [] (fun d h R Q q => ?_) ?_⟩⟩)
    · refine ⟨d, rfl, rfl, d, rfl, he d h, _, rfl, ?_⟩
      have q' : R (.bl (isCube d && len2 d)) := q
      cases hc : isCube d with
      | true =>
        rw [hc] at q'
        obtain ⟨fs, rfl⟩ := cube_tup hc
        refine if_so rfl ⟨_, rfl, gl_t (eq_I ?_)⟩
        rw [show decide ((fs.length : Int) = 2) = (true && len2 (.tup fs)) from by rw [Bool.true_and]; show _ = (fs.length == 2); rw [Bool.eq_iff_iff]; simp; omega]
        exact q'
      | false =>
        rw [hc] at q'
        exact if_no rfl q'
    · refine ⟨es.map fun d => isCube d && len2 d, by rw [kept_all, List.nil_append, List.map_map]; rfl, gb_b ?_⟩
      rw [List.all_map]
      cases ha : es.all (id ∘ fun d => isCube d && len2 d) with
      | false =>
        have e : isTurns (.tup es) = false := by show (es.all (fun d => isCube d && len2 d) && _ && _) = _; rw [show es.all (fun d => isCube d && len2 d) = false from ha]; rfl
        rw [e] at hp
        exact if_so rfl hp
      | true =>
        have hb : ∀ d ∈ es, isCube d = true ∧ len2 d = true := fun d h => by
          have := List.all_eq_true.mp ha d h
          exact Bool.and_eq_true_iff.mp this
        have e1 : es = (es.map toP).map Q.pairD := by
          rw [List.map_map]
          conv => lhs; rw [← List.map_id es]
          exact List.map_congr_left fun d h => (pair_of (hb d h).1 (hb d h).2).1
        have e2 : isTurns (.tup es) = (decide ((es.map toP).Pairwise ltP) && decide (figsOf (es.map toP)).Nodup) := by show (es.all (fun d => isCube d && len2 d) && _ && _) = _; rw [show es.all (fun d => isCube d && len2 d) = true from ha, Bool.true_and]
        rw [e2] at hp
        have hb2 : ∀ p ∈ es.map toP, 0 ≤ p.1 ∧ p.1 ≤ 9 ∧ 0 ≤ p.2 ∧ p.2 ≤ 9 := fun p h => by
          obtain ⟨d, h', rfl⟩ := List.mem_map.mp h
          exact (pair_of (hb d h').1 (hb d h').2).2
        have hl3 : (es.map toP).length < 32 := by rw [List.length_map]; exact hl2
        rw [e1]
        generalize es.map toP = ps at hp hb2 hl3
        refine if_no rfl ⟨_, rfl, gi_t ?_⟩
        refine lc2D_of itsOf (fun d => [.val (.tup (ps.map Q.pairD)), .val d, .emp, .emp]) (fun _ _ => true) (fun _ e => e) _ [] (fun d h R S q => ?_) (fun d h e he R S q => ⟨_, rfl, q⟩) ?_ ?_
        · obtain ⟨p, _, rfl⟩ := List.mem_map.mp h
          exact ⟨_, rfl, gi_t q⟩
        · rw [its_sum, sizeLine_eq]; show 0 + _ ≤ _; omega
        · rw [its_pairs]
          refine ⟨_, rfl, rfl, .inr ⟨ps, rfl, by omega, hb2, _, rfl, ?_⟩⟩
          cases hpw : decide (ps.Pairwise ltP) with
          | false => rw [hpw] at hp; exact if_no rfl hp
          | true =>
            rw [hpw, Bool.true_and] at hp
            refine if_so rfl ⟨_, rfl, figsOf ps, rfl, ?_, fun c hc => ⟨_, rfl, gl_l (eq_I ?_)⟩⟩
            · have : (figsOf ps).length = 2 * ps.length := by
                unfold figsOf
                rw [List.length_flatMap, show (ps.map fun p => [p.1, p.2].length) = ps.map fun _ => 2 from rfl, List.map_const', List.sum_replicate_nat]; omega
              omega
            · rw [List.length_map]
              rw [show decide ((c : Int) = ((figsOf ps).length : Int)) = decide (figsOf ps).Nodup from decide_eq_decide.mpr (by rw [← hc]; omega)]
              exact hp
  | _ => exact gb_b (if_so rfl hp)
abbrev s_is_number : Stmt := top 16
abbrev n_is_number : List Str := ["value", "sign"]
theorem sc_is_number : FnScope n_is_number ["value"] (defScope s_is_number) := ⟨rfl, rfl, rfl, by decide +kernel, rfl, by decide +kernel, by decide +kernel⟩
theorem ok_is_number {f : Addr} {fd : FuncData} (F : Fun K "is_number" "is_number" s_is_number f fd) (T : TxtS K mg P w base C_Set C_BadCubes C_BadTurns C_BadFigures)  : FnOk P w K mg base (L2.CX P w) 1 f fd ["value"] (spD K 1 gNum) := by
  refine def_ok (k := 0) (N := n_is_number) F sc_is_number rfl (by decide) (fun cdv A outer s H E hr => by exact (s_cons (s_if (PW.pt (w_or (t_not (t_truth (e_isT (T := "str") rfl T.b_isinstance rfl T.b_str (by decide +kernel) (ev 0)))) (w_one_or (t_not (t_chain op_le op_le od_le od_le e_int (e_callB cr_len cd_len rfl T.b_len (by decide +kernel) (a_cons (ev 0) a_nil)) (e_gi T.c_MOST_SIGNS))))))
      (s_one (s_ret e_bl))
      s_nil)
      (s_one (s_ret (e_callB (cr_all rfl) cd_all rfl T.b_all (by decide +kernel) (a_cons (e_lc (own := [("sign", 1)]) rfl sc_is_number.nd (i_str (ev 0)) (blkOk_by (own := [("sign", 1)]) (N := n_is_number) (sc := defScope s_is_number) (by decide +kernel)) (gc_name 1 (by simp)) (fun _ _ _ _ _ => (pg_name (i := 1) sc_is_number.nd rfl (Or.inl rfl))) (fun _ _ _ _ _ => ts_nil) (fun _ _ _ _ _ => (e_cmp or_in od_in (ev 1) (e_gs T.c_SIGNS) rfl))) a_nil)))))) (fun ds P Z hl h => ?_)
  obtain ⟨d, rfl, hd, hn, hp⟩ := h
  refine ⟨d, rfl, isT_str hd ?_⟩
  cases d with
  | str z =>
    have hz := hn z rfl
    refine gb_b (if_no rfl ⟨_, rfl, gl_s (by rw [sizeLine_eq]; omega) (g_le ⟨_, rfl, ?_⟩)⟩)
    have e : isNum (.str z) = (decide (1 ≤ z.length ∧ z.length ≤ 6) && z.cps.toList.all fun c => decide (48 ≤ c ∧ c ≤ 57)) := rfl
    rw [e] at hp
    by_cases h1 : (1 : Int) ≤ z.length
    · refine if_so (decide_eq_true h1) (g_le ⟨_, rfl, ?_⟩)
      by_cases h2 : (z.length : Int) ≤ 6
      · rw [decide_eq_true h2]
        rw [show decide (1 ≤ z.length ∧ z.length ≤ 6) = true from decide_eq_true (by omega), Bool.true_and] at hp
        refine if_no rfl ⟨_, rfl, gi_s ⟨by rw [List.length_map, sizeLine_eq]; have : z.cps.toList.length = z.length := by simp [Str.length]
                                           omega, lcD_of (k := fun _ => true) (f := fun d => match d with | .str y => .bl (decide (48 ≤ (y.cps.toList.getD 0 0) ∧ (y.cps.toList.getD 0 0) ≤ 57)) | _ => .non) _ [] (fun d h R Q q => ?_) ?_⟩⟩
        · obtain ⟨c, _, rfl⟩ := List.mem_map.mp h
          refine ⟨_, rfl, c, rfl, ?_⟩
          rw [sign_in]
          exact q
        · refine ⟨z.cps.toList.map fun c => decide (48 ≤ c ∧ c ≤ 57), ?_, ?_⟩
          · rw [kept_all, List.nil_append, List.map_map, List.map_map]
            rfl
          · rw [List.all_map]
            exact hp
      · rw [decide_eq_false h2]
        rw [show decide (1 ≤ z.length ∧ z.length ≤ 6) = false from decide_eq_false (by omega), Bool.false_and] at hp
        exact if_so rfl hp
    · refine if_no (decide_eq_false h1) ⟨_, rfl, if_so rfl ?_⟩
      rw [show decide (1 ≤ z.length ∧ z.length ≤ 6) = false from decide_eq_false (by omega), Bool.false_and] at hp
      exact hp
  | _ => exact gb_b (if_so rfl hp)
abbrev s_check_cubes : Stmt := top 17
abbrev n_check_cubes : List Str := ["value", "index", "cube"]
theorem sc_check_cubes : FnScope n_check_cubes ["value"] (defScope s_check_cubes) := ⟨rfl, rfl, rfl, by decide +kernel, rfl, by decide +kernel, by decide +kernel⟩
theorem ok_check_cubes {f : Addr} {fd : FuncData} (F : Fun K "check_cubes" "check_cubes" s_check_cubes f fd) (T : TxtS K mg P w base C_Set C_BadCubes C_BadTurns C_BadFigures) (x_BadCubes : Err P w K mg base "BadCubes" C_BadCubes (some "index")) (c_is_cube : Cal P w K mg base "is_cube" 4 1 gCube) : FnOk P w K mg base (L2.CX P w) 5 f fd ["value"] (spD K 1 (gChkC C_BadCubes)) := by
  refine def_ok (k := 4) (N := n_check_cubes) F sc_check_cubes rfl (by decide) (fun cdv A outer s H E hr => by exact (s_cons (s_if (PW.pt (w_or (t_not (t_truth (e_isT (T := "tuple") rfl T.b_isinstance rfl T.b_tuple (by decide +kernel) (ev 0)))) (w_one_or (t_not (t_chain op_le op_le od_le od_le e_int (e_callB cr_len cd_len rfl T.b_len (by decide +kernel) (a_cons (ev 0) a_nil)) (e_gi T.c_MOST_CUBES))))))
      (s_one (s_raise1 rfl x_BadCubes (hr.mono (by decide)) rfl (takes_of rfl rfl rfl rfl) e_non))
      s_nil)
      (s_one (s_for (passes_of rfl) rfl (i_enumT rfl T.b_enumerate (a_cons (ev 0) a_nil)) (gs_two 1 2) (pg_tup rfl (pgs_cons (pg_name (i := 1) sc_check_cubes.nd rfl (Or.inl rfl)) (pgs_cons (pg_name (i := 2) sc_check_cubes.nd rfl (Or.inl rfl)) pgs_nil)))
      (s_one (s_if (t_not (t_truth (e_cal c_is_cube (hr.mono (by decide)) rfl passX (a_cons (ev 2) a_nil))))
      (s_one (s_raise1 rfl x_BadCubes (hr.mono (by decide)) rfl (takes_of rfl rfl rfl rfl) (ev 1)))
      s_nil)))))) (fun ds P Z hl h => ?_)
  obtain ⟨d, rfl, ⟨hd, ho⟩, hp⟩ := h
  refine ⟨d, rfl, isT_tuple hd ?_⟩
  cases d with
  | tup es =>
    obtain ⟨hl2, he⟩ := ho es rfl
    refine gb_b (if_no rfl ⟨_, rfl, gl_t (g_le ⟨_, rfl, ?_⟩)⟩)
    have e : cubesErr (.tup es) = if es.isEmpty || decide (6 < es.length) then some .non else (es.findIdx? fun d => !isCube d).map fun i => .int (i : Nat) := rfl
    rw [e] at hp
    by_cases h1 : (1 : Int) ≤ es.length
    · refine if_so (decide_eq_true h1) (g_le ⟨_, rfl, ?_⟩)
      by_cases h2 : (es.length : Int) ≤ 6
      · rw [decide_eq_true h2]
        rw [show (es.isEmpty || decide (6 < es.length)) = false from by
          rw [decide_eq_false (show ¬ 6 < es.length by omega), Bool.or_false]
          cases es with
          | nil => exact absurd h1 (by decide)
          | cons _ _ => rfl, if_neg Bool.false_ne_true] at hp
        refine if_no rfl ⟨_, rfl, gi_e ?_⟩
        refine forD_inv (fun rest δ => ∃ i, rest = (enumD es).drop i ∧ (∀ j d, j < i → es[j]? = some d → isCube d = true) ∧ ∃ x y, δ = [.val (.tup es), x, y]) _ _ ⟨0, rfl, fun _ _ h => absurd h (Nat.not_lt_zero _), _, _, rfl⟩ ?_ ?_
        · rintro d rest δ ⟨i, hr2, hb, x, y, rfl⟩ N hN
          have hi : i < es.length := by
            have := congrArg List.length hr2
            rw [List.length_cons, List.length_drop, enum_len] at this
            omega
          have hg : (enumD es)[i]? = some d := by
            have := congrArg (fun l => l[0]?) hr2
            rw [List.getElem?_drop, Nat.add_zero] at this
            exact this.symm
          rw [enum_get (List.getElem?_eq_getElem hi)] at hg
          cases hg
          refine ⟨_, rfl, rfl, _, rfl, he _ (List.getElem_mem hi), gb_b ?_⟩
          cases hc : isCube es[i] with
          | true =>
            refine if_no rfl (hN _ ⟨i + 1, by rw [← List.drop_drop, ← hr2]; rfl, fun j d hj hd => ?_, _, _, rfl⟩)
            rcases Nat.lt_succ_iff_lt_or_eq.mp hj with hj | rfl
            · exact hb j d hj hd
            · rw [List.getElem?_eq_getElem hi] at hd
              cases hd
              exact hc
          | false =>
            refine if_so rfl ⟨_, rfl, rfl_fmt hi (by omega), ?_⟩
            rw [show es.findIdx? (fun d => !isCube d) = some i from List.findIdx?_eq_some_iff_getElem.mpr ⟨hi, by rw [hc]; rfl, fun j hj => by rw [hb j es[j] hj (List.getElem?_eq_getElem (Nat.lt_trans hj hi))]; decide⟩] at hp
            exact hp
        · rintro δ ⟨i, hr2, hb, x, y, rfl⟩
          have hi : es.length ≤ i := by
            have := congrArg List.length hr2
            rw [List.length_drop, enum_len] at this
            simp at this
            omega
          rw [show es.findIdx? (fun d => !isCube d) = none from List.findIdx?_eq_none_iff.mpr fun d hd => by
            obtain ⟨j, hj, rfl⟩ := List.mem_iff_getElem.mp hd
            rw [hb j _ (Nat.lt_of_lt_of_le hj hi) (List.getElem?_eq_getElem hj)]; rfl] at hp
          exact hp
      · rw [decide_eq_false h2]
        rw [decide_eq_true (show 6 < es.length by omega), Bool.or_true, if_pos rfl] at hp
        exact if_so rfl ⟨rfl, hp⟩
    · refine if_no (decide_eq_false h1) ⟨_, rfl, if_so rfl ⟨rfl, ?_⟩⟩
      rw [show es = [] from by cases es with
        | nil => rfl
        | cons _ _ => exact absurd (show (1 : Int) ≤ _ from by rw [List.length_cons]; omega) h1] at hp
      exact hp
  | _ => exact gb_b (if_so rfl ⟨rfl, hp⟩)
end K21

namespace K21
open PySem PySem.Spec PyProof.Rows L2 L3 Q
variable {P : Program} {w : World} {K : PySem.W.Frag} {mg : Str → Option Value} {base : Heap} {C_Set C_BadCubes C_BadTurns C_BadFigures : Addr}
abbrev s_check_turns : Stmt := top 18
abbrev n_check_turns : List Str := ["value"]
theorem sc_check_turns : FnScope n_check_turns ["value"] (defScope s_check_turns) := ⟨rfl, rfl, rfl, by decide +kernel, rfl, by decide +kernel, by decide +kernel⟩
theorem ok_check_turns {f : Addr} {fd : FuncData} (F : Fun K "check_turns" "check_turns" s_check_turns f fd) (T : TxtS K mg P w base C_Set C_BadCubes C_BadTurns C_BadFigures) (x_BadTurns : Err P w K mg base "BadTurns" C_BadTurns none) (c_is_turns : Cal P w K mg base "is_turns" 5 1 gTurns) : FnOk P w K mg base (L2.CX P w) 6 f fd ["value"] (spD K 1 (gChkT C_BadTurns)) := by
  refine def_ok (k := 5) (N := n_check_turns) F sc_check_turns rfl (by decide) (fun cdv A outer s H E hr => by exact (s_one (s_if (t_not (t_truth (e_cal c_is_turns (hr.mono (by decide)) rfl passX (a_cons (ev 0) a_nil))))
      (s_one (s_raise0 rfl x_BadTurns (hr.mono (by decide)) rfl (takes_of rfl rfl rfl rfl)))
      s_nil))) (fun ds P Z hl h => ?_)
  obtain ⟨d, rfl, ho, hp⟩ := h
  refine ⟨_, rfl, rfl, d, rfl, ho, gb_b ?_⟩
  cases hc : isTurns d with
  | true => rw [hc, if_pos rfl] at hp; exact if_no rfl hp
  | false => rw [hc, if_neg Bool.false_ne_true] at hp; exact if_so rfl hp
abbrev s_check_number : Stmt := top 19
abbrev n_check_number : List Str := ["value"]
theorem sc_check_number : FnScope n_check_number ["value"] (defScope s_check_number) := ⟨rfl, rfl, rfl, by decide +kernel, rfl, by decide +kernel, by decide +kernel⟩
theorem ok_check_number {f : Addr} {fd : FuncData} (F : Fun K "check_number" "check_number" s_check_number f fd) (T : TxtS K mg P w base C_Set C_BadCubes C_BadTurns C_BadFigures) (x_BadFigures : Err P w K mg base "BadFigures" C_BadFigures none) (c_is_number : Cal P w K mg base "is_number" 1 1 gNum) : FnOk P w K mg base (L2.CX P w) 3 f fd ["value"] (spD K 1 (gChkN C_BadFigures)) := by
  refine def_ok (k := 2) (N := n_check_number) F sc_check_number rfl (by decide) (fun cdv A outer s H E hr => by exact (s_one (s_if (t_not (t_truth (e_cal c_is_number (hr.mono (by decide)) rfl passX (a_cons (ev 0) a_nil))))
      (s_one (s_raise0 rfl x_BadFigures (hr.mono (by decide)) rfl (takes_of rfl rfl rfl rfl)))
      s_nil))) (fun ds P Z hl h => ?_)
  obtain ⟨d, rfl, ho, hn, hp⟩ := h
  refine ⟨_, rfl, rfl, d, rfl, ho, hn, gb_b ?_⟩
  cases hc : isNum d with
  | true => rw [hc, if_pos rfl] at hp; exact if_no rfl hp
  | false => rw [hc, if_neg Bool.false_ne_true] at hp; exact if_so rfl hp
abbrev s_faces_for : Stmt := top 20
abbrev n_faces_for : List Str := ["figure", "turns", "pair"]
theorem sc_faces_for : FnScope n_faces_for ["figure", "turns"] (defScope s_faces_for) := ⟨rfl, rfl, rfl, by decide +kernel, rfl, by decide +kernel, by decide +kernel⟩
theorem ok_faces_for {f : Addr} {fd : FuncData} (F : Fun K "faces_for" "faces_for" s_faces_for f fd) (T : TxtS K mg P w base C_Set C_BadCubes C_BadTurns C_BadFigures)  : FnOk P w K mg base (L2.CX P w) 1 f fd ["figure", "turns"] (spD K 2 gFor) := by
  refine def_ok (k := 0) (N := n_faces_for) F sc_faces_for rfl (by decide) (fun cdv A outer s H E hr => by exact (s_cons (s_for (passes_of rfl) rfl (i_tup (ev 1)) (gs_name 2) (pg_name (i := 2) sc_faces_for.nd rfl (Or.inl rfl))
      (s_one (s_if (t_cmp or_in od_in (ev 0) (ev 2) rfl)
      (s_one (s_ret (ev 2)))
      s_nil)))
      (s_one (s_ret (e_tup (a_cons (ev 0) a_nil)))))) (fun ds P Z hl h => ?_)
  obtain ⟨f, ts, rfl, hp⟩ := h
  refine ⟨_, rfl, gi_t (forD_inv (fun rest δ => ∃ rs, rest = rs.map Q.pairD ∧ P (intsT (facesFor f rs)) ∧ ∃ x, δ = [.val (.int f), .val (turnsD ts), x]) _ _ ⟨ts, rfl, hp, _, rfl⟩ ?_ ?_)⟩
  · rintro d rest δ ⟨rs, hr2, hq, x, rfl⟩ N hN
    match rs, hr2 with
    | p :: rs, hr2 =>
      rw [List.map_cons] at hr2
      injection hr2 with e1 e2
      subst e1
      refine ⟨_, rfl, _, rfl, gin_t rfl rfl ⟨_, rfl, ?_⟩⟩
      rw [show inL (.int f) [D.int p.1, D.int p.2] = inP f p from (inL_ints (ns := [p.1, p.2])).trans (decide_eq_decide.mpr (by simp))]
      rw [facesFor_cons] at hq
      cases hi : inP f p with
      | true => rw [hi, if_pos rfl] at hq; exact if_so rfl ⟨_, rfl, hq⟩
      | false => rw [hi, if_neg Bool.false_ne_true] at hq; exact if_no rfl (hN _ ⟨rs, e2, hq, _, rfl⟩)
  · rintro δ ⟨rs, hr2, hq, x, rfl⟩
    match rs, hr2 with
    | [], _ => exact ⟨_, rfl, by show 1 ≤ sizeLine; rw [sizeLine_eq]; decide, hq⟩
abbrev s_cubes_with : Stmt := top 21
abbrev n_cubes_with : List Str := ["cubes", "figure", "turns", "faces", "index", "cube"]
theorem sc_cubes_with : FnScope n_cubes_with ["cubes", "figure", "turns"] (defScope s_cubes_with) := ⟨rfl, rfl, rfl, by decide +kernel, rfl, by decide +kernel, by decide +kernel⟩
theorem ok_cubes_with {f : Addr} {fd : FuncData} (F : Fun K "cubes_with" "cubes_with" s_cubes_with f fd) (T : TxtS K mg P w base C_Set C_BadCubes C_BadTurns C_BadFigures) (c_faces_for : Cal P w K mg base "faces_for" 1 2 gFor) : FnOk P w K mg base (L2.CX P w) 2 f fd ["cubes", "figure", "turns"] (spD K 3 gWith) := by
  refine def_ok (k := 1) (N := n_cubes_with) F sc_cubes_with rfl (by decide) (fun cdv A outer s H E hr => by exact (s_cons (s_set (i := 3) sc_cubes_with.nd rfl (Or.inr rfl) (e_cal c_faces_for (hr.mono (by decide)) rfl passX (a_cons (ev 1) (a_cons (ev 2) a_nil))))
      (s_one (s_ret (e_callTy call_tuple_of cd_tuple rfl T.b_tuple (by decide +kernel) (a_cons (e_lc (own := [("index", 4), ("cube", 5)]) rfl sc_cubes_with.nd (i_enumT rfl T.b_enumerate (a_cons (ev 0) a_nil)) (blkOk_by (own := [("index", 4), ("cube", 5)]) (N := n_cubes_with) (sc := defScope s_cubes_with) (by decide +kernel)) (gc_two 4 5 (by simp) (by simp)) (fun _ _ _ _ _ => (pg_tup rfl (pgs_cons (pg_name (i := 4) sc_cubes_with.nd rfl (Or.inl rfl)) (pgs_cons (pg_name (i := 5) sc_cubes_with.nd rfl (Or.inl rfl)) pgs_nil)))) (fun _ _ _ _ _ => (ts_one (PW.pt (w_or (t_cmp or_in od_in (e_ix (ev 3) e_int (fun _ _ => rfl)) (ev 5) rfl) (w_one_or (t_cmp or_in od_in (e_ix (ev 3) (e_neg e_int) (fun _ _ => rfl)) (ev 5) rfl)))))) (fun _ _ _ _ _ => (ev 4))) a_nil)))))) (fun ds P Z hl h => ?_)
  obtain ⟨cs, ts, f, rfl, hg, hp⟩ := h
  have hf := hg.few
  refine ⟨_, rfl, _, rfl, rfl, f, ts, rfl, _, rfl, gi_e ⟨by rw [enum_len, List.length_map, sizeLine_eq]; omega, lcD_of (k := kW f ts) (f := fW) _ [] (fun d h R Q q => ?_) (gt_l ?_)⟩⟩
  · rw [_root_.Q.enum_zip] at h
    obtain ⟨p, _, rfl⟩ := List.mem_map.mp h
    refine ⟨_, rfl, gx_t (least_at f ts) ⟨_, rfl, gin_t rfl flat_ints ⟨_, rfl, ?_⟩⟩⟩
    rw [kW_pair, hasF_two] at q
    rw [inL_ints]
    cases h1 : decide (leastF f ts ∈ p.1) with
    | true => rw [h1, Bool.true_or, if_pos rfl] at q; exact if_so rfl (if_so rfl ⟨_, rfl, q⟩)
    | false =>
      rw [h1, Bool.false_or] at q
      refine if_no rfl ⟨_, rfl, gx_t (last_at f ts) ⟨_, rfl, gin_t rfl flat_ints ⟨_, rfl, ?_⟩⟩⟩
      rw [inL_ints]
      cases h2 : decide (lastF f ts ∈ p.1) with
      | true => rw [h2, if_pos rfl] at q; exact if_so rfl ⟨_, rfl, q⟩
      | false => rw [h2, if_neg Bool.false_ne_true] at q; exact if_no rfl q
  · rw [List.nil_append, withL_eq]
    exact hp
end K21

namespace K21
open PySem PySem.Spec PyProof.Rows L2 L3 Q
variable {P : Program} {w : World} {K : PySem.W.Frag} {mg : Str → Option Value} {base : Heap} {C_Set C_BadCubes C_BadTurns C_BadFigures : Addr}
abbrev s_iS : Stmt := inClass (top 22) 0
theorem sc_iS : FnScope ["self", "cubes", "turns"] ["self", "cubes", "turns"] (defScope s_iS) := ⟨rfl, rfl, rfl, by decide +kernel, rfl, by decide +kernel, by decide +kernel⟩
theorem er_vals {r : Addr} {A : Addr → Prop} {H : Hp} {v0 v1 v2 : V} {d e : D} (W : Wd r A H) (h1 : DR K r A H v1 d) (h2 : DR K r A H v2 e) : ER K r A [some v0, some v1, some v2] H [.emp, .val d, .val e] where
  rnd := W.rnd
  ar := W.ar
  all := W.all
  len := rfl
  val := fun i x h => by
    match i, h with
    | 0, h => cases h
    | 1, h => cases h; exact ⟨_, rfl, h1⟩
    | 2, h => cases h; exact ⟨_, rfl, h2⟩
    | i + 3, h => simp at h
  own := fun i x h => by
    match i, h with
    | 0, h => cases h
    | 1, h => cases h
    | 2, h => cases h
    | i + 3, h => simp at h
  sep := fun i j x y l _ h => by
    match i, h with
    | 0, h => cases h
    | 1, h => cases h
    | 2, h => cases h
    | i + 3, h => simp at h
theorem put2 (a b : V) : putF "_turns" b (putF "_cubes" a []) = (["_cubes", "_turns"] : List Str).zip [a, b] := by
  show (if ("_cubes" : Str) = "_turns" then _ else (("_cubes" : Str), a) :: putF "_turns" b []) = _
  rw [if_neg (by decide +kernel)]
  rfl
theorem ok_iS {f C : Addr} {fd : FuncData} {dvs : List V} {kws : List (Str × V)} (F : FunD K "__init__" "Set.__init__" (defArgs s_iS) (defBody s_iS) (defScope s_iS) dvs kws f fd) (c_check_cubes : Cal P w K mg base "check_cubes" 5 1 (gChkC C_BadCubes)) (c_check_turns : Cal P w K mg base "check_turns" 6 1 (gChkT C_BadTurns))
    (cl : Cls K C) (n1 : NoAttr K C "_cubes") (n2 : NoAttr K C "_turns") : FnOk P w K mg base (L2.CX P w) 7 f fd ["self", "cubes", "turns"] (spMk K C ["_cubes", "_turns"] (gMk C_BadCubes C_BadTurns)) := by
  refine FunD.ok (CX := L2.CX P w) F sc_iS (fun vs H Q E h => ?_) (fun cdv A outer s H vs Q E hr h => ?_)
  · obtain ⟨r, A, p, dx, xs, ds, P', Z, rfl, e, nA, W, t, hl, _⟩ := h
    have := t.length
    rw [hl] at this
    simp [this]
  · obtain ⟨r, A0, p, dx, xs, ds, P', Z, rfl, e, nA, W, t, hl, ⟨d, e1, rfl, hC, hT, hm⟩, hq, hz⟩ := h
    obtain ⟨v1, v2, rfl, r1, r2⟩ := t.two
    have hrp : r ≠ p := fun z => nA (z ▸ W.ar)
    refine ⟨_, pss_cons (ps_expr (e_cal c_check_cubes (hr.mono (by decide)) rfl passX (a_cons (ev 1) a_nil))) (pss_cons (ps_expr (e_cal c_check_turns (hr.mono (by decide)) rfl passX (a_cons (ev 2) a_nil)))
      (pss_cons (ps_fld (pv 0) (pv 1) rfl) (pss_one (ps_fld (pv 0) (pv 2) rfl)))), ?_⟩
    refine ⟨r, A0, _, fun _ => cubesErr d = none, Z, er_vals W r1 r2, ⟨_, rfl, rfl, d, rfl, hC, ?_⟩, fun y v H1 hce x1 n1' _ => ?_, fun x c dd H' z x1 rn xr => hz x c dd H' z (fun b o hb _ q => x1 b o hb q) rn xr⟩
    · revert hm
      cases cubesErr d with
      | none => exact fun _ => rfl
      | some i => exact fun hm => hm
    · rw [hce] at hm
      have W1 := W.ext x1 n1'
      refine ⟨r, A0, _, fun _ => isTurns e1 = true, Z, er_vals W1 (r1.ext (x1.toA W.ar)) (r2.ext (x1.toA W.ar)), ⟨_, rfl, rfl, e1, rfl, hT, ?_⟩, fun y v H2 hte x2 n2' _ => ?_, fun x c dd H' z x2 rn xr => hz x c dd H' z (fun b o hb _ q => x2 b o hb (x1 b o hb q)) rn xr⟩
      · cases ht : isTurns e1 with
        | true => exact if_pos rfl ▸ rfl
        | false => rw [ht] at hm; exact hm
      · rw [if_pos hte] at hm
        have e2 : H2 p = some (.ins C dx []) := x2 p _ (Ne.symm hrp) (x1 p _ (Ne.symm hrp) e)
        refine ⟨v1, rfl, .ref p, rfl, p, C, dx, [], rfl, e2, cl, n1, by decide, v2, rfl, .ref p, rfl, p, C, dx, _, rfl, upd_same, cl, n2, by show 1 < 1000; decide, ?_⟩
        refine hq _ hm (fun b o hb hp q => ?_) ?_ (by rw [put2]; exact upd_same)
        · rw [upd_ne hp, upd_ne hp]
          exact x2 b o hb (x1 b o hb q)
        · obtain ⟨ns, q1, q2, q3⟩ := n2'
          exact ⟨ns, by rw [upd_ne hrp, upd_ne hrp]; exact q1, q2, q3⟩

abbrev s_lenS : Stmt := inClass (top 22) 3
abbrev n_lenS : List Str := ["self"]
theorem sc_lenS : FnScope n_lenS ["self"] (defScope s_lenS) := ⟨rfl, rfl, rfl, by decide +kernel, rfl, by decide +kernel, by decide +kernel⟩
theorem ok_lenS {f : Addr} {fd : FuncData} (F : Fun K "__len__" "Set.__len__" s_lenS f fd) (T : TxtS K mg P w base C_Set C_BadCubes C_BadTurns C_BadFigures)  : FnOk P w K mg base (L2.CX P w) 1 f fd ["self"] (spD K 1 (gLenS C_Set)) := by
  refine def_ok (k := 0) (N := n_lenS) F sc_lenS rfl (by decide) (fun cdv A outer s H E hr => by exact (s_one (s_ret (e_callB cr_len cd_len rfl T.b_len (by decide +kernel) (a_cons (e_fld T.o_Set.cls T.n__cubes (ev 0)) a_nil))))) (fun ds P Z hl h => ?_)
  obtain ⟨cs, ts, rfl, hp⟩ := h
  refine ⟨_, rfl, _, _, _, rfl, rfl, gl_t ?_⟩
  rw [List.length_map]
  exact hp
abbrev s_cubes_by_place : Stmt := top 24
abbrev n_cubes_by_place : List Str := ["cubes", "turns", "number", "sign"]
theorem sc_cubes_by_place : FnScope n_cubes_by_place ["cubes", "turns", "number"] (defScope s_cubes_by_place) := ⟨rfl, rfl, rfl, by decide +kernel, rfl, by decide +kernel, by decide +kernel⟩
theorem ok_cubes_by_place {f : Addr} {fd : FuncData} (F : Fun K "cubes_by_place" "cubes_by_place" s_cubes_by_place f fd) (T : TxtS K mg P w base C_Set C_BadCubes C_BadTurns C_BadFigures) (c_cubes_with : Cal P w K mg base "cubes_with" 2 3 gWith) : FnOk P w K mg base (L2.CX P w) 3 f fd ["cubes", "turns", "number"] (spD K 3 gPlace) := by
  refine def_ok (k := 2) (N := n_cubes_by_place) F sc_cubes_by_place rfl (by decide) (fun cdv A outer s H E hr => by exact (s_one (s_ret (e_lc (own := [("sign", 3)]) rfl sc_cubes_by_place.nd (i_str (ev 2)) (blkOk_by (own := [("sign", 3)]) (N := n_cubes_by_place) (sc := defScope s_cubes_by_place) (by decide +kernel)) (gc_name 3 (by simp)) (fun _ _ _ _ _ => (pg_name (i := 3) sc_cubes_by_place.nd rfl (Or.inl rfl))) (fun _ _ _ _ _ => ts_nil) (fun _ _ _ _ _ => (e_cal c_cubes_with (hr.mono (by decide)) rfl pass0 (a_cons (ev 0) (a_cons (e_callTy cr_intA cd_intA rfl T.b_int (by decide +kernel) (a_cons (ev 3) a_nil)) (a_cons (ev 1) a_nil))))))))) (fun ds P Z hl h => ?_)
  obtain ⟨cs, ts, d, rfl, hg, hn, hp⟩ := h
  obtain ⟨z, rfl, h1, h6, hz⟩ := numOf hn
  have hl3 : z.cps.toList.length = z.length := by simp [Str.length]
  refine ⟨_, rfl, gi_s ⟨by rw [List.length_map, hl3, sizeLine_eq]; omega, lcD_of (k := fun _ => true) (f := fun d => intsT (withL cs ts ((digs d).headD 0))) _ [] (fun d h R Q q => ?_) ?_⟩⟩
  · obtain ⟨c, hc, rfl⟩ := List.mem_map.mp h
    exact ⟨_, rfl, _, rfl, (c : Int) - 48, int_sign (hz c hc), by show 1 ≤ 640; decide, _, rfl, rfl, cs, ts, _, rfl, hg, q⟩
  · rw [kept_all, List.nil_append, List.map_map]
    show P (.lst _)
    have e : digs (.str z) = z.cps.toList.map fun c : Nat => (c : Int) - 48 := rfl
    rw [e, List.map_map] at hp
    exact hp
abbrev s_all_ways : Stmt := top 25
abbrev n_all_ways : List Str := ["group", "number", "found", "cubes", "way", "cube"]
theorem sc_all_ways : FnScope n_all_ways ["group", "number"] (defScope s_all_ways) := ⟨rfl, rfl, rfl, by decide +kernel, rfl, by decide +kernel, by decide +kernel⟩
theorem ok_all_ways {f : Addr} {fd : FuncData} (F : Fun K "all_ways" "all_ways" s_all_ways f fd) (T : TxtS K mg P w base C_Set C_BadCubes C_BadTurns C_BadFigures) (c_cubes_by_place : Cal P w K mg base "cubes_by_place" 3 3 gPlace) : FnOk P w K mg base (L2.CX P w) 4 f fd ["group", "number"] (spD K 2 (gAll C_Set)) := by
  refine def_ok (k := 3) (N := n_all_ways) F sc_all_ways rfl (by decide) (fun cdv A outer s H E hr => by exact (s_cons (s_set (i := 2) sc_all_ways.nd rfl (Or.inl rfl) (e_lst (a_cons (e_tup a_nil) a_nil)))
      (s_cons (s_for (passes_of rfl) rfl (i_list (e_cal c_cubes_by_place (hr.mono (by decide)) rfl passX (a_cons (e_prop T.p_cubes (hr.mono (by decide)) (ev 0)) (a_cons (e_prop T.p_turns (hr.mono (by decide)) (ev 0)) (a_cons (ev 1) a_nil))))) (gs_name 3) (pg_name (i := 3) sc_all_ways.nd rfl (Or.inr rfl))
      (s_one (s_setLc2 (i := 2) (own := [("way", 4), ("cube", 5)]) (vs1 := [5]) rfl sc_all_ways.nd rfl rfl (sw_true rfl rfl rfl (by decide +kernel)) (i_list (ev 2)) (blkOk_by (own := [("way", 4), ("cube", 5)]) (N := n_all_ways) (sc := defScope s_all_ways) (by decide +kernel)) (by simp) (gc_name 4 (by simp)) (gc_name 5 (by simp)) (fun _ _ _ _ _ => (pg_name (i := 4) sc_all_ways.nd rfl (Or.inl rfl))) (fun _ _ _ _ _ => ts_nil) (fun _ _ _ _ _ => (i_tup (ev 3))) (fun _ _ _ _ _ => (pg_name (i := 5) sc_all_ways.nd rfl (Or.inl rfl))) (fun _ _ _ _ _ => (ts_one (t_cmp or_notIn od_notIn (ev 5) (ev 4) rfl))) (fun _ _ _ _ _ => (e_op or_add od_add (ev 4) (e_tup (a_cons (ev 5) a_nil)))))))
      (s_one (s_ret (ev 2)))))) (fun ds P Z hl h => ?_)
  obtain ⟨cs, ts, d, rfl, hg, hn, hp⟩ := h
  obtain ⟨z, rfl, h1, h6, hz⟩ := numOf hn
  have hl3 : z.cps.toList.length = z.length := by simp [Str.length]
  have hl4 : (digs (.str z)).length ≤ 6 := by show (z.cps.toList.map _).length ≤ 6; rw [List.length_map]; omega
  have hlw : ∀ n, (withL cs ts n).length ≤ 6 := fun n => Nat.le_trans (withL_len cs ts n) hg.few
  refine ⟨Nat.zero_le _, by show 1 ≤ sizeLine; rw [sizeLine_eq]; decide, _, rfl, _, _, _, rfl, rfl, _, rfl, _, _, _, rfl, rfl, _, rfl, rfl, cs, ts, _, rfl, hg, hn, gi_l (forD_inv (fun rest δ => ∃ (did : List (List Int)) (ns : List Int), rest = ns.map (fun n => intsT (withL cs ts n)) ∧ did ++ ns.map (withL cs ts) = (digs (.str z)).map (withL cs ts) ∧ ∃ x, δ = [.val (setD C_Set cs ts), .val (.str z), .val (.lst ((waysBy did).map intsT)), x, .emp, .emp]) _ _ ⟨[], digs (.str z), rfl, rfl, _, rfl⟩ ?_ ?_)⟩
  · rintro d rest δ ⟨did, ns, hr2, he, x, rfl⟩ N hN
    match ns, hr2 with
    | n :: ns, hr2 =>
      rw [List.map_cons] at hr2
      injection hr2 with e1 e2
      subst e1
      have hd : did.length ≤ 5 := by
        have := congrArg List.length he
        rw [List.length_append, List.length_map, List.length_map, List.length_cons] at this
        omega
      have hdl : ∀ l ∈ did, l.length ≤ 6 := fun l hl => by
        have : l ∈ (digs (.str z)).map (withL cs ts) := by rw [← he]; exact List.mem_append_left _ hl
        obtain ⟨m, _, rfl⟩ := List.mem_map.mp this
        exact hlw m
      have hwl : (waysBy did).length ≤ 7776 := Nat.le_trans (waysBy_len _ did rfl hdl) (Nat.le_trans (Nat.pow_le_pow_right (by decide) hd) (by decide))
      refine ⟨_, rfl, gi_l ?_⟩
      refine lc2D_of (fun _ => (withL cs ts n).map D.int) (fun d => [.val (setD C_Set cs ts), .val (.str z), .val (.lst ((waysBy did).map intsT)), .val (intsT (withL cs ts n)), .val d, .emp]) kA fA _ [] (fun d h R S q => ⟨_, rfl, gi_t q⟩) (fun d h e he R S q => ?_) ?_ ?_
      · obtain ⟨w, hw, rfl⟩ := List.mem_map.mp h
        obtain ⟨c, _, rfl⟩ := List.mem_map.mp he
        have hw6 := waysBy_mem _ did rfl w hw
        refine ⟨_, rfl, _, rfl, gnin_t rfl flat_ints ⟨_, rfl, ?_⟩⟩
        have ek : kA (intsT w) (.int c) = !inL (.int c) (w.map D.int) := rfl
        rw [ek] at q
        cases hk : !inL (.int c) (w.map D.int) with
        | true =>
          rw [hk, if_pos rfl] at q
          exact if_so rfl ⟨_, rfl, _, rfl, by show 1 ≤ sizeLine; rw [sizeLine_eq]; decide, ga_t (by show (w.map D.int).length + 1 ≤ _; rw [List.length_map, hw6, sizeLine_eq]; omega) q⟩
        | false =>
          rw [hk, if_neg Bool.false_ne_true] at q
          exact if_no rfl q
      · rw [List.map_const', List.sum_replicate_nat, List.length_map, List.length_map]
        have := hlw n
        rw [sizeLine_eq]
        show 0 + _ ≤ _
        have : (waysBy did).length * (withL cs ts n).length ≤ 7776 * 6 := Nat.mul_le_mul hwl this
        omega
      · rw [stepW_eq, ← waysBy_snoc]
        exact hN _ ⟨did ++ [withL cs ts n], ns, e2, by rw [List.append_assoc]; exact he, _, rfl⟩
  · rintro δ ⟨did, ns, hr2, he, x, rfl⟩
    match ns, hr2 with
    | [], _ =>
      rw [List.map_nil, List.append_nil] at he
      subst he
      exact ⟨_, rfl, hp⟩
end K21

namespace K21
open PySem PySem.Spec PyProof.Rows L2 L3 Q
variable {P : Program} {w : World} {K : PySem.W.Frag} {mg : Str → Option Value} {base : Heap} {C_Set C_BadCubes C_BadTurns C_BadFigures : Addr}
abbrev s_is_way : Stmt := top 26
abbrev n_is_way : List Str := ["group", "number", "value", "cube", "able"]
theorem sc_is_way : FnScope n_is_way ["group", "number", "value"] (defScope s_is_way) := ⟨rfl, rfl, rfl, by decide +kernel, rfl, by decide +kernel, by decide +kernel⟩
theorem ok_is_way {f : Addr} {fd : FuncData} (F : Fun K "is_way" "is_way" s_is_way f fd) (T : TxtS K mg P w base C_Set C_BadCubes C_BadTurns C_BadFigures) (c_lenS : OwnM P w K mg base C_Set "__len__" 1 1 (gLenS C_Set)) (c_cubes_by_place : Cal P w K mg base "cubes_by_place" 3 3 gPlace) (c_is_within : Cal P w K mg base "is_within" 2 3 gWithin) : FnOk P w K mg base (L2.CX P w) 4 f fd ["group", "number", "value"] (spD K 3 (gIsWay C_Set)) := by
  refine def_ok (k := 3) (N := n_is_way) F sc_is_way rfl (by decide) (fun cdv A outer s H E hr => by exact (s_cons (s_if (PW.pt (w_or (t_not (t_truth (e_isT (T := "tuple") rfl T.b_isinstance rfl T.b_tuple (by decide +kernel) (ev 2)))) (w_one_or (t_cmp (op_neD hr.units) od_ne (e_callB cr_len cd_len rfl T.b_len (by decide +kernel) (a_cons (ev 2) a_nil)) (e_callB cr_len cd_len rfl T.b_len (by decide +kernel) (a_cons (ev 1) a_nil)) (nomark _)))))
      (s_one (s_ret e_bl))
      s_nil)
      (s_cons (s_if (PW.pt (w_or (t_not (t_truth (e_callB (cr_all rfl) cd_all rfl T.b_all (by decide +kernel) (a_cons (e_lc (own := [("cube", 3)]) rfl sc_is_way.nd (i_tup (ev 2)) (blkOk_by (own := [("cube", 3)]) (N := n_is_way) (sc := defScope s_is_way) (by decide +kernel)) (gc_name 3 (by simp)) (fun _ _ _ _ _ => (pg_name (i := 3) sc_is_way.nd rfl (Or.inl rfl))) (fun _ _ _ _ _ => ts_nil) (fun _ _ _ _ _ => (e_cal c_is_within (hr.mono (by decide)) rfl pass0 (a_cons (ev 3) (a_cons e_int (a_cons (e_op op_sub od_sub (e_lenO c_lenS (hr.mono (by decide)) rfl T.b_len (a_cons (ev 0) a_nil)) e_int) a_nil)))))) a_nil)))) (w_one_or (t_cmp op_lt od_lt (e_lenSet2 rfl rfl T.b_len rfl T.b_set (ev 2)) (e_callB cr_len cd_len rfl T.b_len (by decide +kernel) (a_cons (ev 2) a_nil)) (nomark _)))))
      (s_one (s_ret e_bl))
      s_nil)
      (s_one (s_ret (e_callB (cr_all rfl) cd_all rfl T.b_all (by decide +kernel) (a_cons (e_lc (own := [("cube", 3), ("able", 4)]) rfl sc_is_way.nd (i_zipN rfl T.b_zip (a_cons (ev 2) (a_cons (e_cal c_cubes_by_place (hr.mono (by decide)) rfl passX (a_cons (e_prop T.p_cubes (hr.mono (by decide)) (ev 0)) (a_cons (e_prop T.p_turns (hr.mono (by decide)) (ev 0)) (a_cons (ev 1) a_nil)))) a_nil))) (blkOk_by (own := [("cube", 3), ("able", 4)]) (N := n_is_way) (sc := defScope s_is_way) (by decide +kernel)) (gc_two 3 4 (by simp) (by simp)) (fun _ _ _ _ _ => (pg_tup rfl (pgs_cons (pg_name (i := 3) sc_is_way.nd rfl (Or.inl rfl)) (pgs_cons (pg_name (i := 4) sc_is_way.nd rfl (Or.inl rfl)) pgs_nil)))) (fun _ _ _ _ _ => ts_nil) (fun _ _ _ _ _ => (e_cmp or_in od_in (ev 3) (ev 4) rfl))) a_nil))))))) (fun ds P Z hl h => ?_)
  obtain ⟨cs, ts, d, v, o, rfl, hg, hn, hv, hp⟩ := h
  refine ⟨_, rfl, isT_tuple (told_any hv) ?_⟩
  cases o with
  | none => exact gb_b (if_so (by rw [told_none hv]; rfl) (if_so rfl hp))
  | some ns =>
    obtain ⟨rfl, h64⟩ := hv
    obtain ⟨p1, p2, p3⟩ := places_ok (ts := ts) hg.few hn
    obtain ⟨z, rfl, z1, z6, _⟩ := numOf hn
    have hz := places_len (cs := cs) (ts := ts) z
    generalize hls : placesOf cs ts (.str z) = ls at hp p1 p2 p3 hz
    have pe : ∀ l ∈ ls, ∀ c ∈ l, 0 ≤ c ∧ c < (cs.length : Nat) := by rw [← hls]; exact places_ent
    have hp : P (.bl (decide (ns ∈ waysBy ls))) := hp
    refine gb_b (if_no rfl ⟨_, rfl, gl_t ⟨_, rfl, gl_s (by rw [sizeLine_eq]; omega) ⟨okI, okI, _, rfl, ?_⟩⟩⟩)
    rw [eqI, List.length_map]
    by_cases h1 : ns.length = z.length
    case neg =>
      rw [decide_eq_false (fun z => h1 (by rw [(ways_in.mp z).2.len]; omega))] at hp
      exact if_so (by rw [decide_eq_false (by omega)]; rfl) hp
    refine if_no (by rw [decide_eq_true (by omega)]; rfl) ⟨_, rfl, gi_t ⟨by rw [List.length_map, sizeLine_eq]; omega, ?_⟩⟩
    refine lcD_of (k := fun _ => true) (f := fun d => .bl (isWithin d 0 ((cs.length : Nat) - 1))) _ [] (fun d h R Q q => ?_) ?_
    · obtain ⟨i, _, rfl⟩ := List.mem_map.mp h
      exact ⟨_, rfl, _, rfl, _, _, rfl, cs, ts, rfl, ⟨_, rfl, by omega, by have := hg.few; omega⟩, g_sub ⟨rfl, _, _, _, rfl, ⟨_, rfl⟩, q⟩⟩
    · rw [kept_all, List.nil_append, List.map_map]
      refine ⟨ns.map fun i => decide (0 ≤ i ∧ i ≤ (cs.length : Int) - 1), by rw [List.map_map]; rfl, gb_b ?_⟩
      by_cases h2 : ∀ i ∈ ns, 0 ≤ i ∧ i < (cs.length : Int)
      case neg =>
        rw [decide_eq_false (fun z => h2 fun i hi => by
          obtain ⟨l, hl, hil⟩ := all2_mem (ways_in.mp z).2 i hi
          exact pe l hl i hil)] at hp
        exact if_so (by rw [Bool.eq_false_iff.mpr fun z => h2 ((within_all ns _).mp z)]; rfl) (if_so rfl hp)
      refine if_no (by rw [(within_all ns _).mpr h2]; rfl) ⟨_, rfl, ns, .inr rfl, h64, fun ks hn1 hm => ⟨_, rfl, gl_t (g_lt ⟨_, rfl, ?_⟩)⟩⟩
      rw [List.length_map]
      by_cases h3 : ns.Nodup
      case neg =>
        rw [decide_eq_false (fun z => h3 (ways_in.mp z).1)] at hp
        exact if_so (decide_eq_true (by have := (dist_lt hn1 hm).mpr h3; omega)) hp
      refine if_no (decide_eq_false (fun z => (dist_lt hn1 hm).mp (by omega) h3)) ?_
      refine ⟨_, rfl, _, rfl, _, _, _, rfl, rfl, _, rfl, _, _, _, rfl, rfl, _, rfl, rfl, cs, ts, _, rfl, hg, hn, ?_⟩
      rw [show ((digs (.str z)).map fun n => intsT (withL cs ts n)) = ls.map intsT from by rw [← hls, List.map_map]; rfl]
      refine gz_2 rfl rfl ?_
      rw [zipR_rows]
      refine ⟨by rw [List.length_map, List.length_zip, sizeLine_eq]; omega, lcD_of (k := fun _ => true) (f := fun d => .bl (zipB d)) _ [] (fun d h R Q q => ?_) ?_⟩
      · obtain ⟨p, _, rfl⟩ := List.mem_map.mp h
        exact ⟨_, rfl, _, rfl, gin_t rfl flat_ints q⟩
      · rw [kept_all, List.nil_append, List.map_map]
        refine ⟨(ns.zip ls).map fun p => decide (p.1 ∈ p.2), ?_, ?_⟩
        · rw [List.map_map]
          congr 2
          exact List.map_congr_left fun p _ => by
            show D.bl (inL (.int p.1) (p.2.map D.int)) = _
            rw [inL_ints]
            rfl
        · rw [List.all_map]
          have he : ((ns.zip ls).all (id ∘ fun p => decide (p.1 ∈ p.2))) = decide (ns ∈ waysBy ls) := by
            rw [Bool.eq_iff_iff, decide_eq_true_eq, ways_in]
            have := all2_iff (w := ns) (ls := ls) (by omega)
            exact ⟨fun h => ⟨h3, this.mp h⟩, fun h => this.mpr h.2⟩
          rw [he]
          exact hp
abbrev s_together : Stmt := top 27
abbrev n_together : List Str := ["cubes", "places", "place", "cube"]
theorem sc_together : FnScope n_together ["cubes", "places"] (defScope s_together) := ⟨rfl, rfl, rfl, by decide +kernel, rfl, by decide +kernel, by decide +kernel⟩
theorem ok_together {f : Addr} {fd : FuncData} (F : Fun K "together" "together" s_together f fd) (T : TxtS K mg P w base C_Set C_BadCubes C_BadTurns C_BadFigures)  : FnOk P w K mg base (L2.CX P w) 1 f fd ["cubes", "places"] (spD K 2 gTogether) := by
  refine def_ok (k := 0) (N := n_together) F sc_together rfl (by decide) (fun cdv A outer s H E hr => by exact (s_one (s_ret (e_callTy call_tuple_of cd_tuple rfl T.b_tuple (by decide +kernel) (a_cons (e_sortedSc2 (own := [("place", 2), ("cube", 3)]) (vs1 := [3]) rfl sc_together.nd rfl T.b_sorted (i_tup (ev 1)) (blkOk_by (own := [("place", 2), ("cube", 3)]) (N := n_together) (sc := defScope s_together) (by decide +kernel)) (by simp) (gc_name 2 (by simp)) (gc_name 3 (by simp)) (fun _ _ _ _ _ => (pg_name (i := 2) sc_together.nd rfl (Or.inl rfl))) (fun _ _ _ _ _ => ts_nil) (fun _ _ _ _ _ => (i_tup (e_ix (ev 0) (ev 2) (fun _ _ => rfl)))) (fun _ _ _ _ _ => (pg_name (i := 3) sc_together.nd rfl (Or.inl rfl))) (fun _ _ _ _ _ => ts_nil) (fun _ _ _ _ _ => (ev 3))) a_nil))))) (fun ds P Z hl h => ?_)
  obtain ⟨ls, J, rfl, h6, he, hJ, hlt, hp⟩ := h
  refine ⟨_, rfl, gi_t ?_⟩
  refine sc2D_of (itsP ls) (fun d => [.val (.lst (ls.map intsT)), .val (natsT J), .val d, .emp]) (fun _ _ => true) (fun _ e => e) _ [] (fun d h R S q => ?_) (fun d h e he2 R S q => ?_) (fun d h e he2 hk => ?_) ?_ ?_
  · obtain ⟨j, hj, rfl⟩ := List.mem_map.mp h
    have hjl := hlt j hj
    refine ⟨_, rfl, _, rfl, gx_l (x := intsT (ls.getD j [])) (atI_nat ?_) (gi_t ?_)⟩
    · rw [List.getElem?_map, List.getElem?_eq_getElem hjl, List.getD_eq_getElem?_getD, List.getElem?_eq_getElem hjl]; rfl
    · unfold itsP at q
      rw [show (toI (.int (j : Nat))).toNat = j from Int.toNat_natCast j] at q
      exact q
  · exact ⟨_, rfl, q⟩
  · obtain ⟨c, _, rfl⟩ := List.mem_map.mp he2
    exact ⟨_, rfl⟩
  · have := tog_sum he (J := J)
    show 0 + _ < _
    omega
  · rw [tog_ks]
    have few : ∀ ms : List Int, ms.Nodup → (∀ k, k ∈ ms ↔ k ∈ (J.flatMap fun j => ls.getD j [])) → ms.length < 64 := fun ms nd hm => by
      have := nodup_le ms (togL ls J) nd fun x hx => (tog_mem he x).mp ((hm x).mp hx)
      have := tog_len ls J
      omega
    refine ⟨_, rfl, few, fun ms pw hm => gt_l ?_⟩
    rw [asc_same pw (tog_up ls J) fun k => (hm k).trans (tog_mem he k)]
    exact hp
abbrev s_how : Stmt := top 28
abbrev n_how : List Str := ["group", "number", "found"]
theorem sc_how : FnScope n_how ["group", "number"] (defScope s_how) := ⟨rfl, rfl, rfl, by decide +kernel, rfl, by decide +kernel, by decide +kernel⟩
theorem ok_how {f : Addr} {fd : FuncData} (F : Fun K "how" "how" s_how f fd) (T : TxtS K mg P w base C_Set C_BadCubes C_BadTurns C_BadFigures) (c_all_ways : Cal P w K mg base "all_ways" 4 2 (gAll C_Set)) (c_check_number : Cal P w K mg base "check_number" 3 1 (gChkN C_BadFigures)) : FnOk P w K mg base (L2.CX P w) 5 f fd ["group", "number"] (spD K 2 (gHow C_Set C_BadFigures)) := by
  refine def_ok (k := 4) (N := n_how) F sc_how rfl (by decide) (fun cdv A outer s H E hr => by exact (s_cons (s_expr (e_cal c_check_number (hr.mono (by decide)) rfl passX (a_cons (ev 1) a_nil)))
      (s_cons (s_set (i := 2) sc_how.nd rfl (Or.inl rfl) (e_cal c_all_ways (hr.mono (by decide)) rfl passX (a_cons (ev 0) (a_cons (ev 1) a_nil))))
      (s_one (s_ret (e_if (t_truth (ev 2)) (e_ix (ev 2) e_int (fun _ _ => rfl)) e_non)))))) (fun ds P Z hl h => ?_)
  obtain ⟨cs, ts, d, rfl, hg, ha, hp⟩ := h
  refine ⟨_, rfl, rfl, d, rfl, ha.1, ha.2, ?_⟩
  cases hn : isNum d with
  | false => rw [hn, if_neg Bool.false_ne_true] at hp; exact hp
  | true =>
    rw [hn, if_pos rfl] at hp
    refine ⟨_, rfl, _, rfl, rfl, cs, ts, d, rfl, hg, hn, _, rfl, gb_l ?_⟩
    have hp' : P (howD (waysOf cs ts (digs d))) := hp
    generalize waysOf cs ts (digs d) = ws at hp' ⊢
    match ws, hp' with
    | [], hp => exact if_no rfl hp
    | x :: xs, hp => exact if_so rfl ⟨_, rfl, gx_l (atI_nat (j := 0) rfl) hp⟩
abbrev s_lacking : Stmt := top 29
abbrev n_lacking : List Str := ["group", "number", "cubes", "many", "places", "few"]
theorem sc_lacking : FnScope n_lacking ["group", "number"] (defScope s_lacking) := ⟨rfl, rfl, rfl, by decide +kernel, rfl, by decide +kernel, by decide +kernel⟩
theorem ok_lacking {f : Addr} {fd : FuncData} (F : Fun K "lacking" "lacking" s_lacking f fd) (T : TxtS K mg P w base C_Set C_BadCubes C_BadTurns C_BadFigures) (c_check_number : Cal P w K mg base "check_number" 3 1 (gChkN C_BadFigures)) (c_cubes_by_place : Cal P w K mg base "cubes_by_place" 3 3 gPlace) (c_together : Cal P w K mg base "together" 1 2 gTogether) : FnOk P w K mg base (L2.CX P w) 4 f fd ["group", "number"] (spD K 2 (gLacking C_Set C_BadFigures)) := by
  refine def_ok (k := 3) (N := n_lacking) F sc_lacking rfl (by decide) (fun cdv A outer s H E hr => by exact (s_cons (s_expr (e_cal c_check_number (hr.mono (by decide)) rfl passX (a_cons (ev 1) a_nil)))
      (s_cons (s_set (i := 2) sc_lacking.nd rfl (Or.inl rfl) (e_cal c_cubes_by_place (hr.mono (by decide)) rfl passX (a_cons (e_prop T.p_cubes (hr.mono (by decide)) (ev 0)) (a_cons (e_prop T.p_turns (hr.mono (by decide)) (ev 0)) (a_cons (ev 1) a_nil)))))
      (s_cons (s_for (passes_of rfl) rfl (i_range2 rfl T.b_range (a_cons e_int (a_cons (e_op or_add od_add (e_callB cr_len cd_len rfl T.b_len (by decide +kernel) (a_cons (ev 1) a_nil)) e_int) a_nil))) (gs_name 3) (pg_name (i := 3) sc_lacking.nd rfl (Or.inl rfl))
      (s_one (s_for (passes_of rfl) rfl (i_cmb rfl rfl T.m_combinations rfl T.b_range (e_callB cr_len cd_len rfl T.b_len (by decide +kernel) (a_cons (ev 1) a_nil)) (ev 3)) (gs_name 4) (pg_name (i := 4) sc_lacking.nd rfl (Or.inl rfl))
      (s_cons (s_set (i := 5) sc_lacking.nd rfl (Or.inl rfl) (e_cal c_together (hr.mono (by decide)) rfl passX (a_cons (ev 2) (a_cons (ev 4) a_nil))))
      (s_one (s_if (t_cmp op_lt od_lt (e_callB cr_len cd_len rfl T.b_len (by decide +kernel) (a_cons (ev 5) a_nil)) (ev 3) (nomark _))
      (s_one (s_ret (e_tup (a_cons (ev 4) (a_cons (ev 5) a_nil)))))
      s_nil))))))
      (s_one (s_ret e_non)))))) (fun ds P Z hl h => ?_)
  obtain ⟨cs, ts, d, rfl, hg, ha, hp⟩ := h
  refine ⟨_, rfl, rfl, d, rfl, ha.1, ha.2, ?_⟩
  cases hn : isNum d with
  | false => rw [hn, if_neg Bool.false_ne_true] at hp; exact hp
  | true =>
    rw [hn, if_pos rfl] at hp
    have h6 := hg.few
    obtain ⟨p1, p2, p3⟩ := places_ok (ts := ts) h6 hn
    obtain ⟨z, rfl, z1, z6, _⟩ := numOf hn
    have hzl : (placesOf cs ts (.str z)).length = z.length := by
      rw [List.length_map]
      show (z.cps.toList.map _).length = _
      rw [List.length_map]; simp [Str.length]
    refine ⟨_, rfl, _, _, _, rfl, rfl, _, rfl, _, _, _, rfl, rfl, _, rfl, rfl, cs, ts, _, rfl, hg, hn, ?_⟩
    rw [show ((digs (.str z)).map fun n => intsT (withL cs ts n)) = (placesOf cs ts (.str z)).map intsT from by rw [List.map_map]; rfl]
    generalize hls : placesOf cs ts (.str z) = ls at hp p1 p2 p3 hzl
    refine ⟨_, rfl, gl_s (by rw [sizeLine_eq]; omega) (g_add ⟨by omega, by omega, by omega, by omega, ?_⟩)⟩
    rw [show ((z.length : Int) + 1 - 1).toNat = ls.length from by omega]
    have hpf : P (lackV ls) := hp
    unfold lackV lackFind at hpf
    refine forD_inv (fun rest δ => ∃ i, rest = (rngD 1 ls.length).drop i ∧ (∀ j, j < i → (combN ls.length (j + 1)).find? (lackB ls) = none) ∧ ∃ x3 x4 x5, δ = [.val (setD C_Set cs ts), .val (.str z), .val (.lst (ls.map intsT)), x3, x4, x5]) _ _ ⟨0, rfl, fun _ h => absurd h (Nat.not_lt_zero _), _, _, _, rfl⟩ ?_ ?_
    · rintro d rest δ ⟨i, hr2, hb, x3, x4, x5, rfl⟩ N hN
      obtain ⟨hi, rfl, hr3⟩ := rng_dropN hr2
      refine ⟨_, rfl, gl_s (by rw [sizeLine_eq]; omega) ⟨ls.length, by rw [hzl], p2, _, rfl, by omega, by omega, ?_⟩⟩
      rw [show ((1 : Int) + (i : Nat)).toNat = i + 1 from by omega]
      refine forD_inv (fun rest δ => ∃ did todo, rest = cmbD todo ∧ did ++ todo = combN ls.length (i + 1) ∧ (∀ J ∈ did, lackB ls J = false) ∧ ∃ x4 x5, δ = [.val (setD C_Set cs ts), .val (.str z), .val (.lst (ls.map intsT)), .val (.int ((1 : Int) + (i : Nat))), x4, x5]) _ _ ⟨[], _, rfl, rfl, fun _ h => (by cases h), _, _, rfl⟩ ?_ ?_
      · rintro d rest2 δ ⟨did, todo, hr4, hdt, hd, y4, y5, rfl⟩ N2 hN2
        match todo, hr4 with
        | J :: todo, hr4 =>
          unfold cmbD at hr4
          rw [List.map_cons] at hr4
          injection hr4 with e1 e2
          subst e1
          have hJm : J ∈ combN ls.length (i + 1) := by rw [← hdt]; simp
          obtain ⟨c1, c2⟩ := comb_in p2 (by omega) hJm
          refine ⟨_, rfl, _, rfl, rfl, ls, J, rfl, p2, p3, by omega, c2, ?_⟩
          refine ⟨_, rfl, gl_t ⟨_, rfl, g_lt ⟨_, rfl, ?_⟩⟩⟩
          have hlt2 : decide ((((togL ls J).map D.int).length : Int) < (1 : Int) + (i : Nat)) = lackB ls J := by
            unfold lackB
            rw [List.length_map]
            exact decide_eq_decide.mpr (by omega)
          rw [hlt2]
          cases hk : lackB ls J with
          | true =>
            refine if_so rfl ⟨_, rfl, _, rfl, szz rfl, ?_⟩
            have hfd : (combN ls.length (i + 1)).find? (lackB ls) = some J := by
              rw [← hdt, List.find?_append, List.find?_eq_none.mpr fun x hx => by rw [hd x hx]; exact Bool.false_ne_true, List.find?_cons_of_pos hk]
              rfl
            rw [find_some hi hb hfd] at hpf
            exact hpf
          | false =>
            refine if_no rfl (hN2 _ ⟨did ++ [J], todo, e2, by rw [List.append_assoc]; exact hdt, fun x hx => ?_, _, _, rfl⟩)
            rcases List.mem_append.mp hx with hx | hx
            · exact hd x hx
            · rw [List.mem_singleton.mp hx]; exact hk
      · rintro δ ⟨did, todo, hr4, hdt, hd, y4, y5, rfl⟩
        have ht : todo = [] := by
          unfold cmbD at hr4
          exact List.map_eq_nil_iff.mp hr4.symm
        subst ht
        rw [List.append_nil] at hdt
        refine hN _ ⟨i + 1, hr3, fun j hj => ?_, _, _, _, rfl⟩
        rcases Nat.lt_succ_iff_lt_or_eq.mp hj with hj | rfl
        · exact hb j hj
        · rw [← hdt]
          exact List.find?_eq_none.mpr fun x hx => by rw [hd x hx]; exact Bool.false_ne_true
    · rintro δ ⟨i, hr2, hb, x3, x4, x5, rfl⟩
      have hd := rng_doneN hr2
      rw [find_none fun j hj => hb j (by omega)] at hpf
      exact hpf
end K21

namespace K21
open PySem PySem.Spec PyProof.Rows L2 L3 Q
variable {P : Program} {w : World} {K : PySem.W.Frag} {mg : Str → Option Value} {base : Heap} {C_Set C_BadCubes C_BadTurns C_BadFigures : Addr}
abbrev s_paper : Stmt := top 33
abbrev n_paper : List Str := ["group", "number", "way"]
theorem sc_paper : FnScope n_paper ["group", "number"] (defScope s_paper) := ⟨rfl, rfl, rfl, by decide +kernel, rfl, by decide +kernel, by decide +kernel⟩
theorem ok_paper {f : Addr} {fd : FuncData} (F : Fun K "paper" "paper" s_paper f fd) (T : TxtS K mg P w base C_Set C_BadCubes C_BadTurns C_BadFigures) (c_how : Cal P w K mg base "how" 5 2 (gHow C_Set C_BadFigures)) (c_lacking : Cal P w K mg base "lacking" 4 2 (gLacking C_Set C_BadFigures)) : FnOk P w K mg base (L2.CX P w) 6 f fd ["group", "number"] (spD K 2 (gPaper C_Set C_BadFigures)) := by
  refine def_ok (k := 5) (N := n_paper) F sc_paper rfl (by decide) (fun cdv A outer s H E hr => by exact (s_cons (s_set (i := 2) sc_paper.nd rfl (Or.inl rfl) (e_cal c_how (hr.mono (by decide)) rfl passX (a_cons (ev 0) (a_cons (ev 1) a_nil))))
      (s_one (s_ret (e_if (t_cmp op_notN od_notN (ev 2) e_non (nomark _)) (e_tup (a_cons (e_gs T.c_WAY) (a_cons (ev 2) a_nil))) (e_tup (a_cons (e_gs T.c_LACKS) (a_cons (e_ix (e_cal c_lacking (hr.mono (by decide)) rfl passX (a_cons (ev 0) (a_cons (ev 1) a_nil))) e_int (fun _ _ => rfl)) a_nil)))))))) (fun ds P Z hl h => ?_)
  obtain ⟨cs, ts, d, rfl, hg, ha, hp⟩ := h
  refine ⟨_, rfl, _, rfl, rfl, cs, ts, d, rfl, hg, ha, ?_⟩
  cases hn : isNum d with
  | false =>
    rw [hn] at hp
    exact if_no rfl hp
  | true =>
    rw [hn, if_pos rfl] at hp
    refine if_so rfl ?_
    obtain ⟨p1, p2, p3⟩ := places_ok (ts := ts) hg.few hn
    have hl := lackV_none p2 fun l hl => (p3 l hl).2
    unfold paperD at hp
    have he : (waysOf cs ts (digs d)) = waysBy (placesOf cs ts d) := rfl
    dsimp only
    rw [he]
    cases hwb : waysBy (placesOf cs ts d) with
    | cons w rest =>
      rw [hwb] at hp
      exact ⟨_, rfl, gn_not ⟨_, rfl, if_so rfl ⟨_, rfl, szz rfl, hp⟩⟩⟩
    | nil =>
      rw [hwb] at hp hl
      refine ⟨_, rfl, gn_not ⟨_, rfl, if_no rfl ⟨_, rfl, _, rfl, rfl, cs, ts, d, rfl, hg, ha, if_so hn ?_⟩⟩⟩
      unfold lackV at hl ⊢
      cases hlf : lackFind (placesOf cs ts d) with
      | none => rw [hlf] at hl; cases hl
      | some J =>
        rw [hlf] at hp
        exact gx_t (atI_nat (j := 0) rfl) ⟨szz rfl, hp⟩
abbrev s_are_lacking : Stmt := top 34
abbrev n_are_lacking : List Str := ["group", "number", "value", "place", "cubes"]
theorem sc_are_lacking : FnScope n_are_lacking ["group", "number", "value"] (defScope s_are_lacking) := ⟨rfl, rfl, rfl, by decide +kernel, rfl, by decide +kernel, by decide +kernel⟩
theorem ok_are_lacking {f : Addr} {fd : FuncData} (F : Fun K "are_lacking" "are_lacking" s_are_lacking f fd) (T : TxtS K mg P w base C_Set C_BadCubes C_BadTurns C_BadFigures) (c_ascends : Cal P w K mg base "ascends" 1 1 gAsc) (c_cubes_by_place : Cal P w K mg base "cubes_by_place" 3 3 gPlace) (c_is_within : Cal P w K mg base "is_within" 2 3 gWithin) (c_together : Cal P w K mg base "together" 1 2 gTogether) : FnOk P w K mg base (L2.CX P w) 4 f fd ["group", "number", "value"] (spD K 3 (gAreLack C_Set)) := by
  refine def_ok (k := 3) (N := n_are_lacking) F sc_are_lacking rfl (by decide) (fun cdv A outer s H E hr => by exact (s_cons (s_if (PW.pt (w_or (t_not (t_truth (e_isT (T := "tuple") rfl T.b_isinstance rfl T.b_tuple (by decide +kernel) (ev 2)))) (w_one_or (t_not (t_truth (e_callB (cr_all rfl) cd_all rfl T.b_all (by decide +kernel) (a_cons (e_lc (own := [("place", 3)]) rfl sc_are_lacking.nd (i_tup (ev 2)) (blkOk_by (own := [("place", 3)]) (N := n_are_lacking) (sc := defScope s_are_lacking) (by decide +kernel)) (gc_name 3 (by simp)) (fun _ _ _ _ _ => (pg_name (i := 3) sc_are_lacking.nd rfl (Or.inl rfl))) (fun _ _ _ _ _ => ts_nil) (fun _ _ _ _ _ => (e_cal c_is_within (hr.mono (by decide)) rfl pass0 (a_cons (ev 3) (a_cons e_int (a_cons (e_op op_sub od_sub (e_callB cr_len cd_len rfl T.b_len (by decide +kernel) (a_cons (ev 1) a_nil)) e_int) a_nil)))))) a_nil)))))))
      (s_one (s_ret e_bl))
      s_nil)
      (s_cons (s_set (i := 4) sc_are_lacking.nd rfl (Or.inl rfl) (e_cal c_cubes_by_place (hr.mono (by decide)) rfl passX (a_cons (e_prop T.p_cubes (hr.mono (by decide)) (ev 0)) (a_cons (e_prop T.p_turns (hr.mono (by decide)) (ev 0)) (a_cons (ev 1) a_nil)))))
      (s_one (s_ret (e_and (e_cal c_ascends (hr.mono (by decide)) rfl passX (a_cons (ev 2) a_nil)) (e_one (e_cmp op_lt od_lt (e_callB cr_len cd_len rfl T.b_len (by decide +kernel) (a_cons (e_cal c_together (hr.mono (by decide)) rfl passX (a_cons (ev 4) (a_cons (ev 2) a_nil))) a_nil)) (e_callB cr_len cd_len rfl T.b_len (by decide +kernel) (a_cons (ev 2) a_nil)) (nomark _))))))))) (fun ds P Z hl h => ?_)
  obtain ⟨cs, ts, d, v, o, rfl, hg, hn, hv, hp⟩ := h
  refine ⟨_, rfl, isT_tuple (told_any hv) ?_⟩
  cases o with
  | none => exact gb_b (if_so (by rw [told_none hv]; rfl) (if_so rfl hp))
  | some ns =>
    obtain ⟨rfl, h64⟩ := hv
    obtain ⟨p1, p2, p3⟩ := places_ok (ts := ts) hg.few hn
    obtain ⟨z, rfl, z1, z6, _⟩ := numOf hn
    have hz := places_len (cs := cs) (ts := ts) z
    refine gb_b (if_no rfl ⟨_, rfl, gi_t ⟨by rw [List.length_map, sizeLine_eq]; omega, ?_⟩⟩)
    refine lcD_of (k := fun _ => true) (f := fun d => .bl (isWithin d 0 ((z.length : Nat) - 1))) _ [] (fun d h R Q q => ?_) ?_
    · obtain ⟨i, _, rfl⟩ := List.mem_map.mp h
      exact ⟨_, rfl, _, rfl, gl_s (by rw [sizeLine_eq]; omega) (g_sub ⟨rfl, _, _, _, rfl, ⟨_, rfl⟩, q⟩)⟩
    · rw [kept_all, List.nil_append, List.map_map]
      refine ⟨ns.map fun i => decide (0 ≤ i ∧ i ≤ (z.length : Int) - 1), by rw [List.map_map]; rfl, gb_b ?_⟩
      have hp : P (.bl (lackI (placesOf cs ts (.str z)) ns)) := hp
      generalize hls : placesOf cs ts (.str z) = ls at hp p1 p2 p3 hz
      unfold lackI at hp
      by_cases h2 : ∀ i ∈ ns, 0 ≤ i ∧ i < (z.length : Int)
      case neg =>
        rw [show (ns.all fun i => decide (0 ≤ i ∧ i < (ls.length : Nat))) = false from Bool.eq_false_iff.mpr fun y => h2 fun i hi => by
          have := of_decide_eq_true (List.all_eq_true.mp y i hi)
          omega] at hp
        exact if_so (by rw [Bool.eq_false_iff.mpr fun y => h2 ((within_all ns _).mp y)]; rfl) hp
      rw [show (ns.all fun i => decide (0 ≤ i ∧ i < (ls.length : Nat))) = true from List.all_eq_true.mpr fun i hi => decide_eq_true (by have := h2 i hi; omega), Bool.true_and] at hp
      refine if_no (by rw [(within_all ns _).mpr h2]; rfl) ?_
      refine ⟨_, rfl, _, _, _, rfl, rfl, _, rfl, _, _, _, rfl, rfl, _, rfl, rfl, cs, ts, _, rfl, hg, hn, ?_⟩
      rw [show ((digs (.str z)).map fun n => intsT (withL cs ts n)) = ls.map intsT from by rw [← hls, List.map_map]; rfl]
      refine ⟨_, rfl, rfl, .inl ⟨ns, rfl, h64, _, rfl, ?_⟩⟩
      by_cases h3 : ns.Pairwise (· < ·)
      case neg =>
        rw [decide_eq_false h3, Bool.false_and] at hp
        exact if_no (decide_eq_false h3) hp
      rw [decide_eq_true h3, Bool.true_and] at hp
      have h6 : ns.length ≤ 6 := asc_six h3 fun i hi => by have := h2 i hi; omega
      refine if_so (decide_eq_true h3) ⟨_, rfl, _, rfl, rfl, ls, ns.map Int.toNat, ?_, p2, p3, by rw [List.length_map]; exact h6, fun j hj => ?_, gl_t ⟨_, rfl, gl_t (g_lt ?_)⟩⟩
      · rw [ints_nats fun i hi => (h2 i hi).1]
      · obtain ⟨i, hi, rfl⟩ := List.mem_map.mp hj
        have := h2 i hi
        omega
      · have he : decide ((((togL ls (ns.map Int.toNat)).map D.int).length : Int) < ((ns.map D.int).length : Nat)) = lackB ls (ns.map Int.toNat) := by
          unfold lackB
          rw [List.length_map, List.length_map, List.length_map, Bool.eq_iff_iff, decide_eq_true_eq, decide_eq_true_eq]
          omega
        rw [he]
        exact hp
abbrev s_right_paper : Stmt := top 35
abbrev n_right_paper : List Str := ["group", "number", "value"]
theorem sc_right_paper : FnScope n_right_paper ["group", "number", "value"] (defScope s_right_paper) := ⟨rfl, rfl, rfl, by decide +kernel, rfl, by decide +kernel, by decide +kernel⟩
theorem ok_right_paper {f : Addr} {fd : FuncData} (F : Fun K "right_paper" "right_paper" s_right_paper f fd) (T : TxtS K mg P w base C_Set C_BadCubes C_BadTurns C_BadFigures) (c_are_lacking : Cal P w K mg base "are_lacking" 4 3 (gAreLack C_Set)) (c_check_number : Cal P w K mg base "check_number" 3 1 (gChkN C_BadFigures)) (c_is_way : Cal P w K mg base "is_way" 4 3 (gIsWay C_Set)) : FnOk P w K mg base (L2.CX P w) 5 f fd ["group", "number", "value"] (spD K 3 (gRight C_Set C_BadFigures)) := by
  refine def_ok (k := 4) (N := n_right_paper) F sc_right_paper rfl (by decide) (fun cdv A outer s H E hr => by exact (s_cons (s_expr (e_cal c_check_number (hr.mono (by decide)) rfl passX (a_cons (ev 1) a_nil)))
      (s_cons (s_if (PW.pt (w_or (t_not (t_truth (e_isT (T := "tuple") rfl T.b_isinstance rfl T.b_tuple (by decide +kernel) (ev 2)))) (w_one_or (t_cmp (op_neD hr.units) od_ne (e_callB cr_len cd_len rfl T.b_len (by decide +kernel) (a_cons (ev 2) a_nil)) e_int (nomark _)))))
      (s_one (s_ret e_bl))
      s_nil)
      (s_cons (s_if (t_cmp (op_eqD hr.units) od_eq (e_ix (ev 2) e_int (fun _ _ => rfl)) (e_gs T.c_WAY) (nomark _))
      (s_one (s_ret (e_cal c_is_way (hr.mono (by decide)) rfl passX (a_cons (ev 0) (a_cons (ev 1) (a_cons (e_ix (ev 2) e_int (fun _ _ => rfl)) a_nil))))))
      s_nil)
      (s_one (s_ret (e_and (e_cmp (op_eqD hr.units) od_eq (e_ix (ev 2) e_int (fun _ _ => rfl)) (e_gs T.c_LACKS) (nomark _)) (e_one (e_cal c_are_lacking (hr.mono (by decide)) rfl passX (a_cons (ev 0) (a_cons (ev 1) (a_cons (e_ix (ev 2) e_int (fun _ _ => rfl)) a_nil)))))))))))) (fun ds P Z hl h => ?_)
  obtain ⟨cs, ts, d, v, rfl, hg, ha, hp⟩ := h
  refine ⟨_, rfl, rfl, d, rfl, ha.1, ha.2, ?_⟩
  cases hn : isNum d with
  | false =>
    rw [hn] at hp
    exact if_no rfl hp
  | true =>
    rw [hn, if_pos rfl] at hp
    obtain ⟨b, hv, hp⟩ := hp
    refine if_so rfl ?_
    cases hv with
    | not h n => exact ⟨_, rfl, isT_tuple h (gb_b (if_so (by rw [not_tup n]; rfl) (if_so rfl hp)))⟩
    | other h h2 =>
      refine ⟨_, rfl, isT_tuple ⟨_, rfl⟩ (gb_b (if_no rfl ⟨_, rfl, gl_t ⟨okI, okI, _, rfl, ?_⟩⟩))⟩
      rw [eqI]
      exact if_so (by rw [decide_eq_false (by omega)]; rfl) hp
    | num =>
      refine ⟨_, rfl, isT_tuple ⟨_, rfl⟩ (gb_b (if_no rfl ⟨_, rfl, gl_t ⟨okI, okI, _, rfl, if_no (by rw [eqI]; rfl) ⟨_, rfl, gx_t (atI_nat (j := 0) rfl) ⟨okI, okSt wayOk, _, rfl, if_no (eqIS wayOk) ?_⟩⟩⟩⟩))⟩
      exact ⟨_, rfl, gx_t (atI_nat (j := 0) rfl) ⟨okI, okSt lacksOk, _, rfl, if_no (eqIS lacksOk) hp⟩⟩
    | way hx =>
      refine ⟨_, rfl, isT_tuple ⟨_, rfl⟩ (gb_b (if_no rfl ⟨_, rfl, gl_t ⟨okI, okI, _, rfl, if_no (by rw [eqI]; rfl) ⟨_, rfl, gx_t (atI_nat (j := 0) rfl) ⟨okSt wayOk, okSt wayOk, _, rfl, if_so (by rw [eqSt wayOk wayOk]; exact decide_eq_true rfl) ?_⟩⟩⟩⟩))⟩
      exact ⟨_, rfl, _, rfl, _, rfl, gx_t (atI_nat (j := 1) rfl) ⟨rfl, cs, ts, d, _, _, rfl, hg, hn, hx, hp⟩⟩
    | lacks hx =>
      refine ⟨_, rfl, isT_tuple ⟨_, rfl⟩ (gb_b (if_no rfl ⟨_, rfl, gl_t ⟨okI, okI, _, rfl, if_no (by rw [eqI]; rfl) ⟨_, rfl, gx_t (atI_nat (j := 0) rfl) ⟨okSt lacksOk, okSt wayOk, _, rfl, if_no (by rw [eqSt lacksOk wayOk]; decide +kernel) ?_⟩⟩⟩⟩))⟩
      refine ⟨_, rfl, gx_t (atI_nat (j := 0) rfl) ⟨okSt lacksOk, okSt lacksOk, _, rfl, if_so (by rw [eqSt lacksOk lacksOk]; exact decide_eq_true rfl) ?_⟩⟩
      exact ⟨_, rfl, _, rfl, _, rfl, gx_t (atI_nat (j := 1) rfl) ⟨rfl, cs, ts, d, _, _, rfl, hg, hn, hx, hp⟩⟩
    | word h0 h1 h2 =>
      refine ⟨_, rfl, isT_tuple ⟨_, rfl⟩ (gb_b (if_no rfl ⟨_, rfl, gl_t ⟨okI, okI, _, rfl, if_no (by rw [eqI]; rfl) ⟨_, rfl, gx_t (atI_nat (j := 0) rfl) ⟨okSt h0, okSt wayOk, _, rfl, if_no (by rw [eqSt h0 wayOk]; exact decide_eq_false h1) ?_⟩⟩⟩⟩))⟩
      exact ⟨_, rfl, gx_t (atI_nat (j := 0) rfl) ⟨okSt h0, okSt lacksOk, _, rfl, if_no (by rw [eqSt h0 lacksOk]; exact decide_eq_false h2) hp⟩⟩
abbrev s_lpick : Stmt := top 39
abbrev n_lpick : List Str := ["_law_d", "_law_items"]
theorem sc_lpick : FnScope n_lpick ["_law_d", "_law_items"] (defScope s_lpick) := ⟨rfl, rfl, rfl, by decide +kernel, rfl, by decide +kernel, by decide +kernel⟩
theorem ok_lpick {f : Addr} {fd : FuncData} (F : Fun K "_law_pick" "_law_pick" s_lpick f fd) (T : TxtS K mg P w base C_Set C_BadCubes C_BadTurns C_BadFigures) (c_lbelow : Cal P w K mg base "_law_below" 1 2 gBelow) : FnOk P w K mg base (L2.CX P w) 2 f fd ["_law_d", "_law_items"] (spD K 2 gPick) := by
  refine def_ok (k := 1) (N := n_lpick) F sc_lpick rfl (by decide) (fun cdv A outer s H E hr => by exact (s_one (s_ret (e_ix (ev 1) (e_cal c_lbelow (hr.mono (by decide)) rfl passX (a_cons (ev 0) (a_cons (e_callB cr_len cd_len rfl T.b_len (by decide +kernel) (a_cons (ev 1) a_nil)) a_nil))) (fun _ _ => rfl))))) (fun ds P Z hl h => ?_)
  obtain ⟨xs, rfl, hx, hl2, hp⟩ := h
  have hn : 0 < xs.length := by cases xs with
    | nil => exact absurd rfl hx
    | cons _ _ => exact Nat.succ_pos _
  refine ⟨_, rfl, _, rfl, _, rfl, gl_l ⟨rfl, _, rfl, by omega, by omega, fun k h0 h1 => ?_⟩⟩
  obtain ⟨i, rfl⟩ : ∃ i : Nat, k = i := ⟨k.toNat, by omega⟩
  have hi : i < xs.length := by omega
  exact gx_l (atI_nat (List.getElem?_eq_getElem hi)) (hp _ (List.getElem_mem hi))
end K21

namespace K21
open PySem PySem.Spec PyProof.Rows L2 L3 Q
variable {P : Program} {w : World} {K : PySem.W.Frag} {mg : Str → Option Value} {base : Heap} {C_Set C_BadCubes C_BadTurns C_BadFigures : Addr}
abbrev s_lequal : Stmt := top 40
abbrev n_lequal : List Str := ["_law_actual", "_law_expected", "_law_key", "_law_k"]
theorem sc_lequal : FnScope n_lequal ["_law_actual", "_law_expected"] (defScope s_lequal) := ⟨rfl, rfl, rfl, by decide +kernel, rfl, by decide +kernel, by decide +kernel⟩
theorem eq_no {f : Addr} {fd : FuncData} (F : Fun K "_law_equal" "_law_equal" s_lequal f fd) : FnOk P w K mg base (L2.CX P w) 1 f fd ["_law_actual", "_law_expected"] (spD K 2 (gIn 0)) := by
  refine F.okX sc_lequal (fun vs H Q E h => ?_) (fun cdv A outer s H vs Q E hr h => ?_)
  · obtain ⟨r, A, ds, P', Z, _, t, hl, h, _⟩ := h
    exact h.elim
  · obtain ⟨r, A, ds, P', Z, _, t, hl, h, _⟩ := h
    exact h.elim
theorem eq_step {f : Addr} {fd : FuncData} (F : Fun K "_law_equal" "_law_equal" s_lequal f fd) (T : TxtS K mg P w base C_Set C_BadCubes C_BadTurns C_BadFigures) {k n : Nat} (c_lequal : Cal P w K mg base "_law_equal" k 2 (gIn n)) : FnOk P w K mg base (L2.CX P w) (k + 1) f fd ["_law_actual", "_law_expected"] (spD K 2 (gEq n)) := by
  refine def_ok (k := k) (N := n_lequal) F sc_lequal rfl (by decide) (fun cdv A outer s H E hr => by exact (s_cons (s_if (t_cmp op_isN od_isN (ev 1) e_non (nomark _))
      (s_one (s_ret (e_cmp op_isN od_isN (ev 0) e_non (nomark _))))
      s_nil)
      (s_cons (s_if (t_truth (e_isT (T := "bool") rfl T.b_isinstance rfl T.b_bool (by decide +kernel) (ev 1)))
      (s_one (s_ret (e_and (e_isT (T := "bool") rfl T.b_isinstance rfl T.b_bool (by decide +kernel) (ev 0)) (e_one (e_cmp (op_eqD hr.units) od_eq (ev 0) (ev 1) (nomark _))))))
      s_nil)
      (s_cons (s_if (t_truth (e_isT (T := "int") rfl T.b_isinstance rfl T.b_int (by decide +kernel) (ev 1)))
      (s_one (s_ret (e_and (e_isT (T := "int") rfl T.b_isinstance rfl T.b_int (by decide +kernel) (ev 0)) (e_and (e_not (e_isT (T := "bool") rfl T.b_isinstance rfl T.b_bool (by decide +kernel) (ev 0))) (e_one (e_cmp (op_eqD hr.units) od_eq (ev 0) (ev 1) (nomark _)))))))
      s_nil)
      (s_cons (s_if (t_truth (e_isT (T := "str") rfl T.b_isinstance rfl T.b_str (by decide +kernel) (ev 1)))
      (s_one (s_ret (e_and (e_isT (T := "str") rfl T.b_isinstance rfl T.b_str (by decide +kernel) (ev 0)) (e_one (e_cmp (op_eqD hr.units) od_eq (ev 0) (ev 1) (nomark _))))))
      s_nil)
      (s_cons (s_if (t_truth (e_isT (T := "dict") rfl T.b_isinstance rfl T.b_dict (by decide +kernel) (ev 1)))
      ss_dead
      s_nil)
      (s_cons (s_if (t_cmp (op_neD hr.units) od_ne (e_isT (T := "tuple") rfl T.b_isinstance rfl T.b_tuple (by decide +kernel) (ev 1)) (e_isT (T := "tuple") rfl T.b_isinstance rfl T.b_tuple (by decide +kernel) (ev 0)) (nomark _))
      (s_one (s_ret e_bl))
      s_nil)
      (s_cons (s_if (t_cmp (op_neD hr.units) od_ne (e_isT (T := "list") rfl T.b_isinstance rfl T.b_list (by decide +kernel) (ev 1)) (e_isT (T := "list") rfl T.b_isinstance rfl T.b_list (by decide +kernel) (ev 0)) (nomark _))
      (s_one (s_ret e_bl))
      s_nil)
      (s_cons (s_if (t_cmp (op_neD hr.units) od_ne (e_callB cr_len cd_len rfl T.b_len (by decide +kernel) (a_cons (ev 0) a_nil)) (e_callB cr_len cd_len rfl T.b_len (by decide +kernel) (a_cons (ev 1) a_nil)) (nomark _))
      (s_one (s_ret e_bl))
      s_nil)
      (s_one (s_ret (e_callB (cr_all rfl) cd_all rfl T.b_all (by decide +kernel) (a_cons (e_lc (own := [("_law_k", 3)]) rfl sc_lequal.nd (i_range1 rfl T.b_range (a_cons (e_callB cr_len cd_len rfl T.b_len (by decide +kernel) (a_cons (ev 1) a_nil)) a_nil)) (blkOk_by (own := [("_law_k", 3)]) (N := n_lequal) (sc := defScope s_lequal) (by decide +kernel)) (gc_name 3 (by simp)) (fun _ _ _ _ _ => (pg_name (i := 3) sc_lequal.nd rfl (Or.inl rfl))) (fun _ _ _ _ _ => ts_nil) (fun _ _ _ _ _ => (e_cal c_lequal hr rfl pass0 (a_cons (e_ix (ev 0) (ev 3) (fun _ _ => rfl)) (a_cons (e_ix (ev 1) (ev 3) (fun _ _ => rfl)) a_nil))))) a_nil))))))))))))) (fun ds P Z hl h => ?_)
  obtain ⟨d, rfl, ho, hp⟩ := h
  refine ⟨_, rfl, gn_is ⟨_, rfl, ?_⟩⟩
  have hc : (d.flat = true ∧ d.lays = true) ∨ ∃ m es, n = m + 1 ∧ (d = .tup es ∨ d = .lst es) ∧ es.length ≤ 1000000 ∧ ∀ e ∈ es, EqOk m e := by
    cases n with
    | zero => exact .inl ho
    | succ m => exact ho.imp id fun ⟨es, h1, h2, h3⟩ => ⟨m, es, rfl, h1, h2, h3⟩
  rcases hc with ⟨hf, hl2⟩ | ⟨m, es, rfl, he, hl2, hm⟩
  · cases d with
    | non => exact if_so rfl ⟨_, rfl, gn_is hp⟩
    | bl b =>
      refine if_no rfl ⟨_, rfl, isT_bool ⟨_, rfl⟩ (gb_b (if_so rfl ⟨_, rfl, isT_bool ⟨_, rfl⟩ ⟨_, rfl, if_so rfl ⟨_, rfl, _, rfl, okBl, okBl, ?_⟩⟩⟩))⟩
      rw [eqBl, beq_self_eq_true]
      exact hp
    | int i =>
      refine if_no rfl ⟨_, rfl, isT_bool ⟨_, rfl⟩ (gb_b (if_no rfl ⟨_, rfl, isT_int ⟨_, rfl⟩ (gb_b (if_so rfl ⟨_, rfl, isT_int ⟨_, rfl⟩ ⟨_, rfl, if_so rfl ⟨_, rfl, isT_bool ⟨_, rfl⟩ ⟨_, rfl, _, rfl, if_so rfl ⟨_, rfl, _, rfl, okI, okI, ?_⟩⟩⟩⟩⟩))⟩))⟩
      rw [eqI, decide_eq_true rfl]
      exact hp
    | str z =>
      refine if_no rfl ⟨_, rfl, isT_bool ⟨_, rfl⟩ (gb_b (if_no rfl ⟨_, rfl, isT_int ⟨_, rfl⟩ (gb_b (if_no rfl ⟨_, rfl, isT_str ⟨_, rfl⟩ (gb_b (if_so rfl ⟨_, rfl, isT_str ⟨_, rfl⟩ ⟨_, rfl, if_so rfl ⟨_, rfl, _, rfl, D.eqOk_of hl2 (Nat.zero_le _), D.eqOk_of hl2 (Nat.zero_le _), ?_⟩⟩⟩))⟩))⟩))⟩
      rw [(eqD_iff _ _ hl2 hl2 rfl rfl).mpr rfl]
      exact hp
    | _ => cases hf
  · have hd : D.any1 d := by rcases he with rfl | rfl <;> exact ⟨_, rfl⟩
    have e1 : isBl d = false := by rcases he with rfl | rfl <;> rfl
    have e2 : isInt d = false := by rcases he with rfl | rfl <;> rfl
    have e3 : isStr d = false := by rcases he with rfl | rfl <;> rfl
    have e4 : isDic d = false := by rcases he with rfl | rfl <;> rfl
    have e0 : d.isNon = false := by rcases he with rfl | rfl <;> rfl
    refine if_no e0 ⟨_, rfl, isT_bool hd (gb_b (if_no e1 ⟨_, rfl, isT_int hd (gb_b (if_no e2 ⟨_, rfl, isT_str hd (gb_b (if_no e3 ⟨_, rfl, isT_dict hd (gb_b (if_no e4 ⟨_, rfl, isT_tuple hd ⟨_, rfl, isT_tuple hd ⟨okBl, okBl, _, rfl, ?_⟩⟩⟩))⟩))⟩))⟩))⟩
    rw [eqBl, beq_self_eq_true]
    refine if_no rfl ⟨_, rfl, isT_list hd ⟨_, rfl, isT_list hd ⟨okBl, okBl, _, rfl, ?_⟩⟩⟩
    rw [eqBl, beq_self_eq_true]
    have ln : ∀ R : DP, R (.int es.length) → lenD [d] R := fun R h => by rcases he with rfl | rfl <;> exact h
    have gx : ∀ (R : DP) (i : Nat) (x : D), es[i]? = some x → R x → ixD d (.int i) R := fun R i x h q => by
      rcases he with rfl | rfl <;> exact ⟨x, atI_nat h, q⟩
    refine if_no rfl ⟨_, rfl, ln _ ⟨_, rfl, ln _ ⟨okI, okI, _, rfl, ?_⟩⟩⟩
    rw [eqI, decide_eq_true rfl]
    refine if_no rfl ⟨_, rfl, ln _ (gr_1 (by omega) (by omega) ⟨by rw [rng_len, sizeLine_eq]; omega, lcD_of (k := fun _ => true) (f := fun _ => .bl true) _ [] (fun e h R Q q => ?_) ⟨(rngD 0 es.length).map fun _ => true, ?_, ?_⟩⟩)⟩
    · obtain ⟨i, hi, rfl⟩ := rng_mem h
      have hx := List.getElem?_eq_getElem (show i < es.length from by simpa using hi)
      exact ⟨_, rfl, _, rfl, gx _ i _ hx ⟨_, rfl, _, rfl, gx _ i _ hx ⟨rfl, _, rfl, hm _ (List.mem_of_getElem? hx), q⟩⟩⟩
    · rw [kept_all, List.nil_append, List.map_map]
      rfl
    · rw [all_true]
      exact hp
abbrev s_lturns : Stmt := top 41
abbrev n_lturns : List Str := ["_law_d", "_law_kind"]
theorem sc_lturns : FnScope n_lturns ["_law_d"] (defScope s_lturns) := ⟨rfl, rfl, rfl, by decide +kernel, rfl, by decide +kernel, by decide +kernel⟩
theorem ok_lturns {f : Addr} {fd : FuncData} (F : Fun K "_law_turns" "_law_turns" s_lturns f fd) (T : TxtS K mg P w base C_Set C_BadCubes C_BadTurns C_BadFigures) (c_lbelow : Cal P w K mg base "_law_below" 1 2 gBelow) (c_lpick : Cal P w K mg base "_law_pick" 2 2 gPick) : FnOk P w K mg base (L2.CX P w) 3 f fd ["_law_d"] (spD K 1 gTurnsL) := by
  refine def_ok (k := 2) (N := n_lturns) F sc_lturns rfl (by decide) (fun cdv A outer s H E hr => by exact (s_cons (s_set (i := 1) sc_lturns.nd rfl (Or.inl rfl) (e_cal c_lbelow (hr.mono (by decide)) rfl passX (a_cons (ev 0) (a_cons e_int a_nil))))
      (s_cons (s_if (t_cmp op_lt od_lt (ev 1) e_int (nomark _))
      (s_one (s_ret (e_tup (a_cons (e_tup (a_cons e_int (a_cons e_int a_nil))) a_nil))))
      s_nil)
      (s_one (s_ret (e_if (t_cmp (op_eqD hr.units) od_eq (ev 1) e_int (nomark _)) (e_tup a_nil) (e_cal c_lpick (hr.mono (by decide)) rfl passX (a_cons (ev 0) (a_cons (e_lst (a_cons (e_tup (a_cons (e_tup (a_cons e_int (a_cons e_int a_nil))) a_nil)) (a_cons (e_tup (a_cons (e_tup (a_cons e_int (a_cons e_int a_nil))) (a_cons (e_tup (a_cons e_int (a_cons e_int a_nil))) a_nil))) (a_cons (e_tup (a_cons (e_tup (a_cons e_int (a_cons e_int a_nil))) (a_cons (e_tup (a_cons e_int (a_cons e_int a_nil))) (a_cons (e_tup (a_cons e_int (a_cons e_int a_nil))) a_nil)))) a_nil)))) a_nil))))))))) (fun ds P Z hl h => ?_)
  obtain ⟨rfl, hp⟩ := h
  refine ⟨_, rfl, rfl, _, rfl, by decide, by decide, fun k h0 h1 => ⟨_, rfl, g_lt ⟨_, rfl, ?_⟩⟩⟩
  by_cases hk : k < 2
  · exact if_so (decide_eq_true hk) ⟨szz rfl, szz rfl, hp [(6, 9)] (by decide)⟩
  · refine if_no (decide_eq_false hk) ⟨_, rfl, okI, okI, ?_⟩
    rw [eqI]
    refine ⟨_, rfl, ?_⟩
    by_cases hk2 : k = 2
    · exact if_so (decide_eq_true hk2) ⟨szz rfl, hp [] (by decide)⟩
    · refine if_no (decide_eq_false hk2) ⟨_, rfl, szz rfl, szz rfl, szz rfl, szz rfl, szz rfl, szz rfl, szz rfl, szz rfl, szz rfl, szz rfl, rfl, _, rfl, by simp, by simp, fun x hx => ?_⟩
      simp only [List.mem_cons, List.not_mem_nil, or_false] at hx
      rcases hx with rfl | rfl | rfl
      · exact hp [(0, 8)] (by decide)
      · exact hp [(2, 5), (6, 9)] (by decide)
      · exact hp [(1, 7), (3, 8), (6, 9)] (by decide)
abbrev s_lcube : Stmt := top 42
abbrev n_lcube : List Str := ["_law_d", "_law_figures_so", "_law_found", "_law_figure"]
theorem sc_lcube : FnScope n_lcube ["_law_d", "_law_figures_so"] (defScope s_lcube) := ⟨rfl, rfl, rfl, by decide +kernel, rfl, by decide +kernel, by decide +kernel⟩
theorem ok_lcube {f : Addr} {fd : FuncData} (F : Fun K "_law_cube" "_law_cube" s_lcube f fd) (T : TxtS K mg P w base C_Set C_BadCubes C_BadTurns C_BadFigures) (c_lbelow : Cal P w K mg base "_law_below" 1 2 gBelow) (c_lpick : Cal P w K mg base "_law_pick" 2 2 gPick) : FnOk P w K mg base (L2.CX P w) 3 f fd ["_law_d", "_law_figures_so"] (spD K 2 gCubeL) := by
  refine def_ok (k := 2) (N := n_lcube) F sc_lcube rfl (by decide) (fun cdv A outer s H E hr => by exact (s_cons (s_setLc (i := 2) (own := [("_law_figure", 3)]) rfl sc_lcube.nd rfl rfl (sw_true rfl rfl rfl (by decide +kernel)) (i_list (ev 1)) (blkOk_by (own := [("_law_figure", 3)]) (N := n_lcube) (sc := defScope s_lcube) (by decide +kernel)) (gc_name 3 (by simp)) (fun _ _ _ _ _ => (pg_name (i := 3) sc_lcube.nd rfl (Or.inl rfl))) (fun _ _ _ _ _ => (ts_one (t_cmp (op_eqD hr.units) od_eq (e_cal c_lbelow (hr.mono (by decide)) rfl pass0 (a_cons (ev 0) (a_cons e_int a_nil))) e_int (nomark _)))) (fun _ _ _ _ _ => (ev 3)))
      (s_one (s_ret (e_callTy call_tuple_of cd_tuple rfl T.b_tuple (by decide +kernel) (a_cons (e_if (t_cmp (op_neD hr.units) od_ne (ev 2) (e_lst a_nil) (nomark _)) (ev 2) (e_lst (a_cons (e_cal c_lpick (hr.mono (by decide)) rfl passX (a_cons (ev 0) (a_cons (ev 1) a_nil))) a_nil))) a_nil)))))) (fun ds P Z hl h => ?_)
  obtain ⟨fs, rfl, hf, hl2, hp⟩ := h
  refine ⟨_, rfl, gi_l ⟨by rw [List.length_map, sizeLine_eq]; omega, lcD_rel (fun rest acc => ∃ pre c rs, rest = rs.map D.int ∧ acc = c.map D.int ∧ fs = pre ++ rs ∧ c.Sublist pre) _ _ ⟨[], [], fs, rfl, rfl, rfl, .slnil⟩ ?_ ?_⟩⟩
  · rintro d rest acc ⟨pre, c, rs, hr2, rfl, e, hs⟩ R S hR hS
    match rs, hr2 with
    | x :: rs, hr2 =>
      rw [List.map_cons] at hr2
      injection hr2 with e1 e2
      subst e1
      refine ⟨_, rfl, rfl, _, rfl, by decide, by decide, fun k h0 h1 => ⟨okI, okI, _, rfl, ?_⟩⟩
      rw [eqI]
      by_cases hk : k = 0
      · exact if_so (decide_eq_true hk) ⟨_, rfl, hR _ ⟨pre ++ [x], c ++ [x], rs, e2, by rw [List.map_append]; rfl, by rw [e, List.append_assoc]; rfl, (sub_step e hs).1⟩⟩
      · exact if_no (decide_eq_false hk) (hS ⟨pre ++ [x], c, rs, e2, rfl, by rw [e, List.append_assoc]; rfl, (sub_step e hs).2⟩)
  · rintro acc ⟨pre, c, rs, hr2, rfl, e, hs⟩
    match rs, hr2 with
    | [], _ =>
      rw [List.append_nil] at e
      subst e
      refine ⟨_, rfl, szz rfl, okE (Eqs.intsL c), okE (Eqs.intsL []), _, rfl, ?_⟩
      rw [ne_empty]
      match c, hs with
      | [], _ =>
        refine if_no rfl ⟨_, rfl, _, rfl, rfl, _, rfl, by simpa using hf, by rw [List.length_map]; omega, fun y hy => ⟨szz rfl, ?_⟩⟩
        obtain ⟨x, hx, rfl⟩ := List.mem_map.mp hy
        exact gt_l (hp [x] (by simp) (List.singleton_sublist.mpr hx))
      | x :: c, hs => exact if_so rfl ⟨_, rfl, gt_l (hp (x :: c) (by simp) hs)⟩
abbrev s_lset : Stmt := top 43
abbrev n_lset : List Str := ["_law_d", "_law_most", "_law_figures_so", "_law_some", "_law_k"]
theorem sc_lset : FnScope n_lset ["_law_d", "_law_most"] (defScope s_lset) := ⟨rfl, rfl, rfl, by decide +kernel, rfl, by decide +kernel, by decide +kernel⟩
theorem ok_lset {f : Addr} {fd : FuncData} (F : Fun K "_law_set" "_law_set" s_lset f fd) (T : TxtS K mg P w base C_Set C_BadCubes C_BadTurns C_BadFigures) (mkSet : Mkr P w K mg base "Set" C_Set 7 ["_cubes", "_turns"] [] [] (gMk C_BadCubes C_BadTurns)) (c_lbelow : Cal P w K mg base "_law_below" 1 2 gBelow) (c_lcube : Cal P w K mg base "_law_cube" 3 2 gCubeL) (c_lpick : Cal P w K mg base "_law_pick" 2 2 gPick) (c_lturns : Cal P w K mg base "_law_turns" 3 1 gTurnsL) : FnOk P w K mg base (L2.CX P w) 9 f fd ["_law_d", "_law_most"] (spD K 2 (gSetL C_Set)) := by
  refine def_ok (k := 8) (N := n_lset) F sc_lset rfl (by decide) (fun cdv A outer s H E hr => by exact (s_cons (s_set (i := 2) sc_lset.nd rfl (Or.inr rfl) (e_listRange rfl rfl T.b_list rfl T.b_range (e_cal c_lpick (hr.mono (by decide)) rfl passX (a_cons (ev 0) (a_cons (e_lst (a_cons e_int (a_cons e_int (a_cons e_int a_nil)))) a_nil)))))
      (s_cons (s_if (t_cmp (op_eqD hr.units) od_eq (e_cal c_lbelow (hr.mono (by decide)) rfl passX (a_cons (ev 0) (a_cons e_int a_nil))) e_int (nomark _))
      (s_one (s_set (i := 2) sc_lset.nd rfl (Or.inr rfl) (e_lst (a_cons e_int (a_cons e_int (a_cons e_int (a_cons e_int a_nil)))))))
      s_nil)
      (s_cons (s_setLc (i := 3) (own := [("_law_k", 4)]) rfl sc_lset.nd rfl rfl (sw_true rfl rfl rfl (by decide +kernel)) (i_range1 rfl T.b_range (a_cons (e_op or_add od_add e_int (e_cal c_lbelow (hr.mono (by decide)) rfl passX (a_cons (ev 0) (a_cons (ev 1) a_nil)))) a_nil)) (blkOk_by (own := [("_law_k", 4)]) (N := n_lset) (sc := defScope s_lset) (by decide +kernel)) (gc_name 4 (by simp)) (fun _ _ _ _ _ => (pg_name (i := 4) sc_lset.nd rfl (Or.inl rfl))) (fun _ _ _ _ _ => ts_nil) (fun _ _ _ _ _ => (e_cal c_lcube (hr.mono (by decide)) rfl pass0 (a_cons (ev 0) (a_cons (ev 2) a_nil)))))
      (s_one (s_ret (e_make mkSet (hr.mono (by decide)) rfl passX (a_cons (e_callTy call_tuple_of cd_tuple rfl T.b_tuple (by decide +kernel) (a_cons (ev 3) a_nil)) (a_cons (e_cal c_lturns (hr.mono (by decide)) rfl passX (a_cons (ev 0) a_nil)) a_nil))))))))) (fun ds P Z hl h => ?_)
  obtain ⟨mm, rfl, mm0, mm1, hp⟩ := h
  refine ⟨_, rfl, szz rfl, rfl, _, rfl, by simp, by simp, fun x hx => ?_⟩
  obtain ⟨n, rfl, hn⟩ : ∃ n : Int, x = .int n ∧ (n = 3 ∨ n = 5 ∨ n = 10) := by
    simp only [List.mem_cons, List.not_mem_nil, or_false] at hx
    rcases hx with rfl | rfl | rfl <;> exact ⟨_, rfl, by decide⟩
  refine ⟨by omega, by omega, _, rfl, rfl, 3, rfl, by decide, by decide, fun k h0 h1 => ⟨okI, okI, _, rfl, ?_⟩⟩
  rw [eqI]
  by_cases hk : k = 0
  · refine if_so (decide_eq_true hk) ⟨szz rfl, ?_⟩
    obtain ⟨fs, e, hF⟩ : ∃ fs : List Int, D.lst [.int 1, .int 6, .int 7, .int 9] = intsL fs ∧ Figs fs := ⟨[1, 6, 7, 9], rfl, by decide, by decide, by decide, by decide⟩
    rw [e]
    refine ⟨_, rfl, _, rfl, rfl, mm, rfl, by omega, by omega, fun m m0 m1 => g_add (gr_1 (by omega) (by omega) ⟨by rw [rng_len, sizeLine_eq]; omega, lcD_rel (fun rest acc => ∃ cs : List (List Int), acc = cs.map cubeD ∧ (∀ c ∈ cs, c ≠ [] ∧ c.Pairwise (· < ·) ∧ ∀ x ∈ c, 0 ≤ x ∧ x ≤ 9) ∧ rest.length + cs.length = (1 + m).toNat) _ _ ⟨[], rfl, fun _ h => (by cases h), by rw [rng_len]; rfl⟩ ?_ ?_⟩)⟩
    · rintro d rest acc ⟨cs, rfl, hc, hl4⟩ R S hR hS
      refine ⟨_, rfl, _, rfl, rfl, fs, rfl, hF.ne, hF.len, fun c c1 c2 => hR _ ⟨cs ++ [c], by rw [List.map_append]; rfl, fun x hx => ?_, by rw [List.length_append, List.length_singleton]; rw [List.length_cons] at hl4; omega⟩⟩
      rcases List.mem_append.mp hx with hx | hx
      · exact hc x hx
      · rw [List.mem_singleton.mp hx]
        exact hF.sub c2 c1
    · rintro acc ⟨cs, rfl, hc, hl4⟩
      rw [List.length_nil] at hl4
      refine ⟨_, rfl, gt_l ⟨_, rfl, rfl, rfl, fun ts hts => ?_⟩⟩
      have hG : GoodV cs ts := ⟨by rintro rfl; simp at hl4; omega, by omega, hc, hts⟩
      refine ⟨rfl, _, _, rfl, hG.cubes.2, hG.turns.2, ?_⟩
      rw [hG.cubes.1]
      show if isTurns (turnsD ts) = true then _ else _
      rw [if_pos hG.turns.1]
      exact hp cs ts hG (by omega)
  · refine if_no (decide_eq_false hk) ?_
    obtain ⟨fs, e, hF⟩ := figs_rng hn
    rw [e]
    refine ⟨_, rfl, _, rfl, rfl, mm, rfl, by omega, by omega, fun m m0 m1 => g_add (gr_1 (by omega) (by omega) ⟨by rw [rng_len, sizeLine_eq]; omega, lcD_rel (fun rest acc => ∃ cs : List (List Int), acc = cs.map cubeD ∧ (∀ c ∈ cs, c ≠ [] ∧ c.Pairwise (· < ·) ∧ ∀ x ∈ c, 0 ≤ x ∧ x ≤ 9) ∧ rest.length + cs.length = (1 + m).toNat) _ _ ⟨[], rfl, fun _ h => (by cases h), by rw [rng_len]; rfl⟩ ?_ ?_⟩)⟩
    · rintro d rest acc ⟨cs, rfl, hc, hl4⟩ R S hR hS
      refine ⟨_, rfl, _, rfl, rfl, fs, rfl, hF.ne, hF.len, fun c c1 c2 => hR _ ⟨cs ++ [c], by rw [List.map_append]; rfl, fun x hx => ?_, by rw [List.length_append, List.length_singleton]; rw [List.length_cons] at hl4; omega⟩⟩
      rcases List.mem_append.mp hx with hx | hx
      · exact hc x hx
      · rw [List.mem_singleton.mp hx]
        exact hF.sub c2 c1
    · rintro acc ⟨cs, rfl, hc, hl4⟩
      rw [List.length_nil] at hl4
      refine ⟨_, rfl, gt_l ⟨_, rfl, rfl, rfl, fun ts hts => ?_⟩⟩
      have hG : GoodV cs ts := ⟨by rintro rfl; simp at hl4; omega, by omega, hc, hts⟩
      refine ⟨rfl, _, _, rfl, hG.cubes.2, hG.turns.2, ?_⟩
      rw [hG.cubes.1]
      show if isTurns (turnsD ts) = true then _ else _
      rw [if_pos hG.turns.1]
      exact hp cs ts hG (by omega)
end K21

namespace K21
open PySem PySem.Spec PyProof.Rows L2 L3 Q
variable {P : Program} {w : World} {K : PySem.W.Frag} {mg : Str → Option Value} {base : Heap} {C_Set C_BadCubes C_BadTurns C_BadFigures : Addr}
abbrev s_lnumber : Stmt := top 44
abbrev n_lnumber : List Str := ["_law_d", "_law_most", "_law_signs", "_law_k"]
theorem sc_lnumber : FnScope n_lnumber ["_law_d", "_law_most"] (defScope s_lnumber) := ⟨rfl, rfl, rfl, by decide +kernel, rfl, by decide +kernel, by decide +kernel⟩
theorem ok_lnumber {f : Addr} {fd : FuncData} (F : Fun K "_law_number" "_law_number" s_lnumber f fd) (T : TxtS K mg P w base C_Set C_BadCubes C_BadTurns C_BadFigures) (c_lbelow : Cal P w K mg base "_law_below" 1 2 gBelow) (c_lpick : Cal P w K mg base "_law_pick" 2 2 gPick) : FnOk P w K mg base (L2.CX P w) 3 f fd ["_law_d", "_law_most"] (spD K 2 gNumL) := by
  refine def_ok (k := 2) (N := n_lnumber) F sc_lnumber rfl (by decide) (fun cdv A outer s H E hr => by exact (s_cons (s_set (i := 2) sc_lnumber.nd rfl (Or.inr rfl) (e_cal c_lpick (hr.mono (by decide)) rfl passX (a_cons (ev 0) (a_cons (e_lst (a_cons e_str (a_cons e_str (a_cons e_str (a_cons e_str a_nil))))) a_nil))))
      (s_one (s_ret (e_join (e_lc (own := [("_law_k", 3)]) rfl sc_lnumber.nd (i_range1 rfl T.b_range (a_cons (e_op or_add od_add e_int (e_cal c_lbelow (hr.mono (by decide)) rfl passX (a_cons (ev 0) (a_cons (ev 1) a_nil)))) a_nil)) (blkOk_by (own := [("_law_k", 3)]) (N := n_lnumber) (sc := defScope s_lnumber) (by decide +kernel)) (gc_name 3 (by simp)) (fun _ _ _ _ _ => (pg_name (i := 3) sc_lnumber.nd rfl (Or.inl rfl))) (fun _ _ _ _ _ => ts_nil) (fun _ _ _ _ _ => (e_ix (ev 2) (e_cal c_lbelow (hr.mono (by decide)) rfl pass0 (a_cons (ev 0) (a_cons (e_callB cr_len cd_len rfl T.b_len (by decide +kernel) (a_cons (ev 2) a_nil)) a_nil))) (fun _ _ => rfl))))))))) (fun ds P Z hl h => ?_)
  obtain ⟨m, rfl, h1, h6, hp⟩ := h
  refine ⟨_, rfl, szz rfl, rfl, _, rfl, by simp, by simp, fun x hx => ?_⟩
  obtain ⟨z, rfl, hz1, hz2, hz⟩ : ∃ z, x = .str z ∧ SgOk z := by
    simp only [List.mem_cons, List.not_mem_nil, or_false] at hx
    rcases hx with rfl | rfl | rfl | rfl <;> exact ⟨_, rfl, by decide +kernel, by decide +kernel, by decide +kernel⟩
  refine ⟨_, rfl, _, rfl, rfl, m, rfl, by omega, by omega, fun k h0 h1 => g_add (gr_1 (by omega) (by omega) ⟨by rw [rng_len, sizeLine_eq]; omega, ?_⟩)⟩
  have hl3 : z.cps.toList.length = z.length := by simp [Str.length]
  refine lcD_rel (fun rest acc => ∃ cs : List Nat, acc = (cs.map sig).map D.str ∧ (∀ c ∈ cs, 48 ≤ c ∧ c ≤ 57) ∧ rest.length + cs.length = (1 + k).toNat) _ _ ⟨[], rfl, fun _ h => (by cases h), by rw [rng_len]; rfl⟩ ?_ ?_
  · rintro d rest acc ⟨cs, rfl, hc, hl4⟩ R S hR hS
    refine ⟨_, rfl, _, rfl, _, rfl, gl_s (by rw [sizeLine_eq]; omega) ⟨rfl, _, rfl, by omega, by omega, fun j j0 j1 => ?_⟩⟩
    obtain ⟨i, rfl⟩ : ∃ i : Nat, j = i := ⟨j.toNat, by omega⟩
    have hi : i < z.cps.toList.length := by omega
    have hg := List.getElem?_eq_getElem hi
    refine ⟨by rw [sizeLine_eq]; omega, _, atI_nat hg, hR _ ⟨cs ++ [z.cps.toList[i]], by rw [List.map_append, List.map_append]; rfl, fun c hx => ?_, by rw [List.length_append, List.length_singleton]; rw [List.length_cons] at hl4; omega⟩⟩
    rcases List.mem_append.mp hx with hx | hx
    · exact hc c hx
    · rw [List.mem_singleton.mp hx]
      exact hz _ (List.getElem_mem hi)
  · rintro acc ⟨cs, rfl, hc, hl4⟩
    rw [List.length_nil] at hl4
    refine ⟨cs.map sig, rfl, by rw [sum_ones, List.length_map]; show _ + _ * 0 ≤ _; omega, ?_⟩
    rw [join_sig]
    exact hp _ (isNum_of (by omega) (by omega) hc)
abbrev s_lhas : Stmt := top 45
abbrev n_lhas : List Str := ["_law_cube_here", "_law_turns_so", "_law_sign", "_law_figure", "_law_like", "_law_pair", "_law_one"]
theorem sc_lhas : FnScope n_lhas ["_law_cube_here", "_law_turns_so", "_law_sign"] (defScope s_lhas) := ⟨rfl, rfl, rfl, by decide +kernel, rfl, by decide +kernel, by decide +kernel⟩
theorem ok_lhas {f : Addr} {fd : FuncData} (F : Fun K "_law_has" "_law_has" s_lhas f fd) (T : TxtS K mg P w base C_Set C_BadCubes C_BadTurns C_BadFigures)  : FnOk P w K mg base (L2.CX P w) 1 f fd ["_law_cube_here", "_law_turns_so", "_law_sign"] (spD K 3 gHasL) := by
  refine def_ok (k := 0) (N := n_lhas) F sc_lhas rfl (by decide) (fun cdv A outer s H E hr => by exact (s_cons (s_set (i := 3) sc_lhas.nd rfl (Or.inr rfl) (e_callTy cr_intA cd_intA rfl T.b_int (by decide +kernel) (a_cons (ev 2) a_nil)))
      (s_cons (s_set (i := 4) sc_lhas.nd rfl (Or.inl rfl) (e_op or_add od_add (e_lst (a_cons (ev 3) a_nil)) (e_lc (own := [("_law_pair", 5)]) rfl sc_lhas.nd (i_tup (ev 1)) (blkOk_by (own := [("_law_pair", 5)]) (N := n_lhas) (sc := defScope s_lhas) (by decide +kernel)) (gc_name 5 (by simp)) (fun _ _ _ _ _ => (pg_name (i := 5) sc_lhas.nd rfl (Or.inl rfl))) (fun _ _ _ _ _ => (ts_one (t_cmp or_in od_in (ev 3) (ev 5) rfl))) (fun _ _ _ _ _ => (e_op op_sub od_sub (e_callB (cr_sumA rfl) cd_sumA rfl T.b_sum (by decide +kernel) (a_cons (ev 5) a_nil)) (ev 3))))))
      (s_one (s_ret (e_cmp (op_neD hr.units) od_ne (e_lc (own := [("_law_one", 6)]) rfl sc_lhas.nd (i_list (ev 4)) (blkOk_by (own := [("_law_one", 6)]) (N := n_lhas) (sc := defScope s_lhas) (by decide +kernel)) (gc_name 6 (by simp)) (fun _ _ _ _ _ => (pg_name (i := 6) sc_lhas.nd rfl (Or.inl rfl))) (fun _ _ _ _ _ => (ts_one (t_cmp or_in od_in (ev 6) (ev 0) rfl))) (fun _ _ _ _ _ => (ev 6))) (e_lst a_nil) (nomark _))))))) (fun ds P Z hl h => ?_)
  obtain ⟨c, ts, k, rfl, h1, h2, hc, ht, hn, hp⟩ := h
  refine ⟨_, rfl, _, int_sign ⟨h1, h2⟩, by show 1 ≤ 640; decide, _, rfl, szz rfl, _, rfl, gi_t ⟨by rw [List.length_map, sizeLine_eq]; omega, lcD_of (k := kH ((k : Int) - 48)) (f := fH ((k : Int) - 48)) _ [] (fun d h R Q q => ?_) (ga_l ?_ ?_)⟩⟩
  · obtain ⟨p, _, rfl⟩ := List.mem_map.mp h
    refine ⟨_, rfl, _, rfl, gin_t rfl rfl ⟨_, rfl, ?_⟩⟩
    rw [show inL (.int ((k : Int) - 48)) [D.int p.1, D.int p.2] = inP ((k : Int) - 48) p from (inL_ints (ns := [p.1, p.2])).trans (decide_eq_decide.mpr (by simp))]
    have q' : if inP ((k : Int) - 48) p = true then R (.int (p.1 + p.2 - ((k : Int) - 48))) else Q := q
    cases hi : inP ((k : Int) - 48) p with
    | false => rw [hi, if_neg Bool.false_ne_true] at q'; exact if_no rfl q'
    | true =>
      rw [hi, if_pos rfl] at q'
      refine if_so rfl ⟨_, rfl, [p.1, p.2], .inr rfl, _, rfl, g_sub ?_⟩
      rw [show [p.1, p.2].sum = p.1 + p.2 from by simp]
      exact q'
  · have := List.length_filter_le (kH ((k : Int) - 48)) (ts.map Q.pairD)
    rw [List.nil_append, List.length_map, sizeLine_eq]
    rw [List.length_map] at this
    show 1 + _ ≤ _
    omega
  · rw [likes_eq]
    have hl5 : (likes ((k : Int) - 48) ts).length ≤ 6 := by
      have := List.length_filter_le (inP ((k : Int) - 48)) ts
      unfold likes
      rw [List.length_append, List.length_map, List.length_singleton]
      omega
    refine ⟨_, rfl, gi_l ⟨by rw [List.length_map, sizeLine_eq]; omega, lcD_of (k := kO c) (f := fun d => d) _ [] (fun d h R Q q => ?_) ⟨szz rfl, ?_⟩⟩⟩
    · obtain ⟨x, _, rfl⟩ := List.mem_map.mp h
      refine ⟨_, rfl, _, rfl, gin_t rfl flat_ints ⟨_, rfl, ?_⟩⟩
      have q' : if inL (.int x) (c.map D.int) = true then R (.int x) else Q := q
      cases hi : inL (.int x) (c.map D.int) with
      | true => rw [hi, if_pos rfl] at q'; exact if_so rfl ⟨_, rfl, q'⟩
      | false => rw [hi, if_neg Bool.false_ne_true] at q'; exact if_no rfl q'
    · rw [kept_ints]
      refine ⟨okE (Eqs.intsL _), okE (Eqs.intsL []), ?_⟩
      rw [ne_empty, likes_has hn]
      exact hp
abbrev s_lways : Stmt := top 46
abbrev n_lways : List Str := ["_law_group", "_law_number_here", "_law_found", "_law_sign", "_law_later", "_law_way", "_law_at"]
theorem sc_lways : FnScope n_lways ["_law_group", "_law_number_here"] (defScope s_lways) := ⟨rfl, rfl, rfl, by decide +kernel, rfl, by decide +kernel, by decide +kernel⟩
theorem ok_lways {f : Addr} {fd : FuncData} (F : Fun K "_law_ways" "_law_ways" s_lways f fd) (T : TxtS K mg P w base C_Set C_BadCubes C_BadTurns C_BadFigures) (c_lhas : Cal P w K mg base "_law_has" 1 3 gHasL) : FnOk P w K mg base (L2.CX P w) 3 f fd ["_law_group", "_law_number_here"] (spD K 2 (gWaysL C_Set)) := by
  refine def_ok (k := 2) (N := n_lways) F sc_lways rfl (by decide) (fun cdv A outer s H E hr => by exact (s_cons (s_set (i := 2) sc_lways.nd rfl (Or.inl rfl) (e_lst (a_cons (e_tup a_nil) a_nil)))
      (s_cons (s_for (passes_of rfl) rfl (i_str (ev 1)) (gs_name 3) (pg_name (i := 3) sc_lways.nd rfl (Or.inl rfl))
      (s_cons (s_own (i := 4) sc_lways.nd rfl (Or.inl rfl))
      (s_cons (s_for (passes_of rfl) rfl (i_list (ev 2)) (gs_name 5) (pg_name (i := 5) sc_lways.nd rfl (Or.inl rfl))
      (s_one (s_for (passes_of rfl) rfl (i_range1 rfl T.b_range (a_cons (e_callB cr_len cd_len rfl T.b_len (by decide +kernel) (a_cons (e_prop T.p_cubes (hr.mono (by decide)) (ev 0)) a_nil)) a_nil)) (gs_name 6) (pg_name (i := 6) sc_lways.nd rfl (Or.inl rfl))
      (s_one (s_if (PW.pt (w_and (t_cmp or_notIn od_notIn (ev 6) (ev 5) rfl) (w_one_and (t_truth (e_cal c_lhas (hr.mono (by decide)) rfl passX (a_cons (e_ix (e_prop T.p_cubes (hr.mono (by decide)) (ev 0)) (ev 6) (fun _ _ => rfl)) (a_cons (e_prop T.p_turns (hr.mono (by decide)) (ev 0)) (a_cons (ev 3) a_nil))))))))
      (s_one (s_append (i := 4) rfl (Or.inl rfl) (e_op or_add od_add (ev 5) (e_tup (a_cons (ev 6) a_nil)))))
      s_nil)))))
      (s_frz 4 (s_one (s_set (i := 2) sc_lways.nd rfl (Or.inl rfl) (ev 4)))))))
      (s_one (s_ret (ev 2)))))) (fun ds P Z hl h => ?_)
  obtain ⟨cs, ts, d, rfl, hg, hn, hp⟩ := h
  obtain ⟨z, rfl, h1, h6, hz⟩ := numOf hn
  have hl3 : z.cps.toList.length = z.length := by simp [Str.length]
  have hlw : ∀ n, (withL cs ts n).length ≤ 6 := fun n => Nat.le_trans (withL_len cs ts n) hg.few
  refine ⟨szz rfl, szz rfl, _, rfl, gi_s ?_⟩
  refine forD_inv (fun rest δ => ∃ (did todo : List Nat), rest = todo.map (fun c => D.str ⟨#[c]⟩) ∧ did ++ todo = z.cps.toList ∧ ∃ x3 x4 x5 x6, δ = [.val (setD C_Set cs ts), .val (.str z), .val (.lst ((waysOf cs ts (did.map fun c : Nat => (c : Int) - 48)).map intsT)), x3, x4, x5, x6]) _ _ ⟨[], z.cps.toList, rfl, rfl, _, _, _, _, rfl⟩ ?_ ?_
  · rintro d rest δ ⟨did, todo, hr2, he, x3, x4, x5, x6, rfl⟩ N hN
    match todo, hr2 with
    | c :: todo, hr2 =>
      rw [List.map_cons] at hr2
      injection hr2 with e1 e2
      subst e1
      have hcd : 48 ≤ c ∧ c ≤ 57 := hz c (by rw [← he]; simp)
      have hd5 : did.length ≤ 5 := by
        have := congrArg List.length he
        rw [List.length_append, List.length_cons, hl3] at this
        omega
      have hnx : waysOf cs ts ((did ++ [c]).map fun c : Nat => (c : Int) - 48) = stepW (waysOf cs ts (did.map fun c : Nat => (c : Int) - 48)) (withL cs ts ((c : Int) - 48)) := by
        unfold waysOf
        rw [List.map_append, List.map_append]
        exact waysBy_snoc _ _
      have hwl : (waysOf cs ts (did.map fun c : Nat => (c : Int) - 48)).length ≤ 7776 := by
        refine Nat.le_trans (waysBy_len _ _ rfl fun l hl => ?_) (Nat.le_trans (Nat.pow_le_pow_right (by decide) (by rw [List.length_map, List.length_map]; exact hd5)) (by decide))
        obtain ⟨m, _, rfl⟩ := List.mem_map.mp hl
        exact hlw m
      have hwm : ∀ w ∈ waysOf cs ts (did.map fun c : Nat => (c : Int) - 48), w.length ≤ 5 := fun w hw => by
        have := waysBy_mem _ _ rfl w hw
        rw [List.length_map, List.length_map] at this
        omega
      have hnext : ∀ ws, waysOf cs ts ((did ++ [c]).map fun c : Nat => (c : Int) - 48) = ws → ∀ x3 x4 x5 x6, N [.val (setD C_Set cs ts), .val (.str z), .val (.lst (ws.map intsT)), x3, x4, x5, x6] := fun ws hw x3 x4 x5 x6 =>
        hN _ ⟨did ++ [c], todo, e2, by rw [List.append_assoc]; exact he, x3, x4, x5, x6, by rw [hw]⟩
      rw [hnx] at hnext
      generalize waysOf cs ts (did.map fun c : Nat => (c : Int) - 48) = ws at hwl hwm hnext ⊢
      refine ⟨_, rfl, gi_l ?_⟩
      refine forD_inv (fun rest δ => ∃ (wd wt : List (List Int)), rest = wt.map intsT ∧ wd ++ wt = ws ∧ ∃ x5 x6, δ = [.val (setD C_Set cs ts), .val (.str z), .val (.lst (ws.map intsT)), .val (.str ⟨#[c]⟩), .own ((stepW wd (withL cs ts ((c : Int) - 48))).map intsT), x5, x6]) _ _ ⟨[], ws, rfl, rfl, _, _, rfl⟩ ?_ ?_
      · rintro d rest δ ⟨wd, wt, hr3, he3, x5, x6, rfl⟩ N2 hN2
        match wt, hr3 with
        | way :: wt, hr3 =>
          rw [List.map_cons] at hr3
          injection hr3 with e3 e4
          subst e3
          have hway : way.length ≤ 5 := hwm way (by rw [← he3]; simp)
          have hwd : (stepW wd (withL cs ts ((c : Int) - 48))).length ≤ 46656 := by
            refine Nat.le_trans (stepW_len (hlw _)) ?_
            have := congrArg List.length he3
            rw [List.length_append, List.length_cons] at this
            omega
          refine ⟨_, rfl, _, _, _, rfl, rfl, gl_t (gr_1 (by omega) (by rw [List.length_map]; have := hg.few; omega) ?_)⟩
          refine forD_inv (fun rest δ => ∃ i, rest = (rngD 0 cs.length).drop i ∧ i ≤ cs.length ∧ ∃ x6, δ = [.val (setD C_Set cs ts), .val (.str z), .val (.lst (ws.map intsT)), .val (.str ⟨#[c]⟩), .own (((stepW wd (withL cs ts ((c : Int) - 48))) ++ partW (withT cs ts ((c : Int) - 48) i) way).map intsT), .val (intsT way), x6]) _ _ ⟨0, by rw [List.length_map]; rfl, Nat.zero_le _, x6, by rw [show partW (withT cs ts ((c : Int) - 48) 0) way = [] from rfl, List.append_nil]; rfl⟩ ?_ ?_
          · rintro d rest δ ⟨i, hr4, hi, x6, rfl⟩ N3 hN3
            obtain ⟨hi2, rfl, hr5⟩ := rng_drop hr4
            have hpl : (partW (withT cs ts ((c : Int) - 48) i) way).length ≤ 6 := Nat.le_trans (part_len _ _) (Nat.le_trans (withT_len _ _ _ _) (by have := hg.few; omega))
            have hcx : cs[i]? = some (cs.getD i []) := by rw [List.getD_eq_getElem?_getD, List.getElem?_eq_getElem hi2]; rfl
            have hcl := hg.cub _ (List.mem_of_getElem? hcx)
            have ps := part_succ cs ts ((c : Int) - 48) i way
            refine ⟨_, rfl, _, rfl, gnin_t rfl flat_ints ⟨_, rfl, ?_⟩⟩
            rw [inL_ints]
            cases hin : decide (((i : Nat) : Int) ∈ way) with
            | true =>
              refine if_no rfl (hN3 _ ⟨i + 1, hr5, hi2, .val (.int (i : Nat)), ?_⟩)
              rw [ps, hin, Bool.not_true, Bool.false_and, if_neg Bool.false_ne_true, List.append_nil]
              rfl
            | false =>
              rw [hin] at ps
              refine if_so rfl ⟨_, rfl, _, _, _, rfl, rfl, _, rfl, gx_t (atI_nat (by rw [List.getElem?_map, hcx]; rfl)) ⟨_, rfl, _, _, _, rfl, rfl, _, rfl, rfl, _, ts, c, rfl, hcd.1, hcd.2, hcl, hg.trn, hg.nod, ?_⟩⟩
              refine gb_b ?_
              cases hh : hasF (cs.getD i []) ((c : Int) - 48) ts with
              | true =>
                rw [hh, if_pos (by decide)] at ps
                refine if_so rfl ⟨_, rfl, _, rfl, _, rfl, szz rfl, ga_t (by rw [List.length_map, sizeLine_eq]; show _ + 1 ≤ _; omega) ⟨by rw [List.length_map, List.length_append, sizeLine_eq]; omega, hN3 _ ⟨i + 1, hr5, hi2, .val (.int (i : Nat)), ?_⟩⟩⟩
                rw [ps, ← List.append_assoc, List.map_append (l₂ := [way ++ [(i : Int)]])]
                rw [List.map_cons, List.map_nil, show intsT (way ++ [(i : Int)]) = D.tup (way.map D.int ++ [D.int i]) from by rw [intsT, List.map_append]; rfl]
                rfl
              | false =>
                rw [hh, if_neg (by decide), List.append_nil] at ps
                refine if_no rfl (hN3 _ ⟨i + 1, hr5, hi2, .val (.int (i : Nat)), ?_⟩)
                rw [ps]
                rfl
          · rintro δ ⟨i, hr4, hi, x6, rfl⟩
            have hi2 : i = cs.length := by
              have := congrArg List.length hr4
              rw [List.length_drop, rng_len] at this
              simp at this
              omega
            subst hi2
            rw [withT_all, ← step_snoc]
            exact hN2 _ ⟨wd ++ [way], wt, e4, by rw [List.append_assoc]; exact he3, _, _, rfl⟩
      · rintro δ ⟨wd, wt, hr3, he3, x5, x6, rfl⟩
        match wt, hr3 with
        | [], _ =>
          rw [List.append_nil] at he3
          subst he3
          exact ⟨_, rfl, hnext _ rfl _ _ _ _⟩
  · rintro δ ⟨did, todo, hr2, he, x3, x4, x5, x6, rfl⟩
    match todo, hr2 with
    | [], _ =>
      rw [List.append_nil] at he
      subst he
      exact ⟨_, rfl, hp⟩
abbrev s_lno_number : Stmt := top 47
abbrev n_lno_number : List Str := ["_law_d"]
theorem sc_lno_number : FnScope n_lno_number ["_law_d"] (defScope s_lno_number) := ⟨rfl, rfl, rfl, by decide +kernel, rfl, by decide +kernel, by decide +kernel⟩
theorem ok_lno_number {f : Addr} {fd : FuncData} (F : Fun K "_law_no_number" "_law_no_number" s_lno_number f fd) (T : TxtS K mg P w base C_Set C_BadCubes C_BadTurns C_BadFigures) (c_lpick : Cal P w K mg base "_law_pick" 2 2 gPick) : FnOk P w K mg base (L2.CX P w) 3 f fd ["_law_d"] (spD K 1 gNoNum) := by
  refine def_ok (k := 2) (N := n_lno_number) F sc_lno_number rfl (by decide) (fun cdv A outer s H E hr => by exact (s_one (s_ret (e_cal c_lpick (hr.mono (by decide)) rfl passX (a_cons (ev 0) (a_cons (e_lst (a_cons e_non (a_cons e_int (a_cons e_str (a_cons e_str (a_cons e_str (a_cons e_str (a_cons e_str (a_cons (e_tup (a_cons e_str a_nil)) (a_cons (e_lst (a_cons e_str a_nil)) (a_cons e_bl (a_cons e_dic (a_cons e_str (a_cons e_str a_nil)))))))))))))) a_nil)))))) (fun ds P Z hl h => ?_)
  obtain ⟨rfl, hp⟩ := h
  have sm : ∀ z : Str, z.length ≤ 7 → ∀ z', D.str z = .str z' → z'.length ≤ 1000000 := fun z hz z' e => by
    injection e with e
    subst e
    omega
  have no : ∀ d : D, (∀ z, d ≠ .str z) → ∀ z', d = .str z' → z'.length ≤ 1000000 := fun d hd z' e => absurd e (hd z')
  refine ⟨_, rfl, szz rfl, szz rfl, szz rfl, rfl, _, rfl, by simp, by simp, fun x hx => hp x ?_⟩
  simp only [List.mem_cons, List.not_mem_nil, or_false] at hx
  rcases hx with rfl | rfl | rfl | rfl | rfl | rfl | rfl | rfl | rfl | rfl | rfl | rfl | rfl
  all_goals first
    | exact ⟨⟨⟨_, rfl⟩, sm _ (by decide +kernel)⟩, by decide +kernel⟩
    | exact ⟨⟨⟨_, rfl⟩, no _ fun z e => by cases e⟩, rfl⟩
end K21

namespace K21
open PySem PySem.Spec PyProof.Rows L2 L3 Q
variable {P : Program} {w : World} {K : PySem.W.Frag} {mg : Str → Option Value} {base : Heap} {C_Set C_BadCubes C_BadTurns C_BadFigures : Addr}
abbrev s_llacks : Stmt := top 48
abbrev n_llacks : List Str := ["_law_group", "_law_number_here", "_law_places", "_law_found", "_law_place", "_law_at"]
theorem sc_llacks : FnScope n_llacks ["_law_group", "_law_number_here", "_law_places"] (defScope s_llacks) := ⟨rfl, rfl, rfl, by decide +kernel, rfl, by decide +kernel, by decide +kernel⟩
theorem ok_llacks {f : Addr} {fd : FuncData} (F : Fun K "_law_lacks" "_law_lacks" s_llacks f fd) (T : TxtS K mg P w base C_Set C_BadCubes C_BadTurns C_BadFigures) (c_lenS : OwnM P w K mg base C_Set "__len__" 1 1 (gLenS C_Set)) (c_lhas : Cal P w K mg base "_law_has" 1 3 gHasL) : FnOk P w K mg base (L2.CX P w) 3 f fd ["_law_group", "_law_number_here", "_law_places"] (spD K 3 (gLacksL C_Set)) := by
  refine def_ok (k := 2) (N := n_llacks) F sc_llacks rfl (by decide) (fun cdv A outer s H E hr => by exact (s_cons (s_set (i := 3) sc_llacks.nd rfl (Or.inl rfl) (e_lst a_nil))
      (s_cons (s_for (passes_of rfl) rfl (i_tup (ev 2)) (gs_name 4) (pg_name (i := 4) sc_llacks.nd rfl (Or.inr rfl))
      (s_one (s_set (i := 3) sc_llacks.nd rfl (Or.inl rfl) (e_op or_add od_add (ev 3) (e_lc (own := [("_law_at", 5)]) rfl sc_llacks.nd (i_range1 rfl T.b_range (a_cons (e_lenO c_lenS (hr.mono (by decide)) rfl T.b_len (a_cons (ev 0) a_nil)) a_nil)) (blkOk_by (own := [("_law_at", 5)]) (N := n_llacks) (sc := defScope s_llacks) (by decide +kernel)) (gc_name 5 (by simp)) (fun _ _ _ _ _ => (pg_name (i := 5) sc_llacks.nd rfl (Or.inl rfl))) (fun _ _ _ _ _ => (ts_one (t_truth (e_cal c_lhas (hr.mono (by decide)) rfl pass0 (a_cons (e_ix (e_prop T.p_cubes (hr.mono (by decide)) (ev 0)) (ev 5) (fun _ _ => rfl)) (a_cons (e_prop T.p_turns (hr.mono (by decide)) (ev 0)) (a_cons (e_ix (ev 1) (ev 4) (fun _ _ => rfl)) a_nil))))))) (fun _ _ _ _ _ => (ev 5)))))))
      (s_one (s_ret (e_cmp op_lt od_lt (e_lenSet2 rfl rfl T.b_len rfl T.b_set (ev 3)) (e_callB cr_len cd_len rfl T.b_len (by decide +kernel) (a_cons (ev 2) a_nil)) (nomark _))))))) (fun ds P Z hl h => ?_)
  obtain ⟨cs, ts, d, ns, rfl, hg, hn, ⟨hn6, hi⟩, hp⟩ := h
  obtain ⟨p1, p2, p3⟩ := places_ok (ts := ts) hg.few hn
  obtain ⟨z, rfl, z1, z6, hz0⟩ := numOf hn
  have hz := places_len (cs := cs) (ts := ts) z
  have h6 := hg.few
  refine ⟨szz rfl, _, rfl, gi_t ?_⟩
  refine forD_inv (fun rest δ => ∃ did todo : List Int, did ++ todo = ns ∧ rest = todo.map D.int ∧ ∃ x4 x5, δ = [.val (setD C_Set cs ts), .val (.str z), .val (intsT ns), .val (.lst ((did.flatMap fun i => (placesOf cs ts (.str z)).getD i.toNat []).map D.int)), x4, x5]) _ _ ⟨[], ns, rfl, rfl, _, _, rfl⟩ ?_ ?_
  · rintro d rest δ ⟨did, todo, hdt, hr, x4, x5, rfl⟩ N hN
    match todo, hr with
    | i :: todo, hr =>
      rw [List.map_cons] at hr
      injection hr with e1 e2
      subst e1
      have him : i ∈ ns := by rw [← hdt]; simp
      have hi2 := hi i him
      have hia : i.toNat < z.length := by omega
      have hdl : did.length ≤ 5 := by
        have : (did ++ i :: todo).length = ns.length := by rw [hdt]
        rw [List.length_append, List.length_cons] at this
        omega
      refine ⟨_, rfl, _, rfl, _, _, rfl, cs, ts, rfl, ⟨_, rfl, by omega, by omega⟩, gr_1 (by omega) (by omega) ⟨by rw [rng_len, sizeLine_eq]; omega, ?_⟩⟩
      rw [show ((cs.length : Nat) : Int).toNat = cs.length from by omega]
      refine lcD_of (k := fun d => hasF (cs.getD (toI d).toNat []) (((z.cps.toList.getD i.toNat 0 : Nat) : Int) - 48) ts) (f := fun d => d) _ [] (fun d h R Q q => ?_) ?_
      · obtain ⟨j, hj, rfl⟩ := rng_mem h
        have hcs : (cs.map cubeD)[j]? = some (cubeD (cs.getD j [])) := by rw [List.getElem?_map, List.getD_eq_getElem?_getD, List.getElem?_eq_getElem hj]; rfl
        have hzi : z.cps.toList[i.toNat]? = some (z.cps.toList.getD i.toNat 0) := by
          have hl3 : z.cps.toList.length = z.length := by simp [Str.length]
          rw [List.getD_eq_getElem?_getD, List.getElem?_eq_getElem (by omega)]; rfl
        have hz48 := hz0 _ (List.mem_of_getElem? hzi)
        refine ⟨_, rfl, _, _, _, rfl, rfl, _, rfl, gx_t (atI_nat hcs) ⟨_, rfl, _, _, _, rfl, rfl, _, rfl, _, rfl, ?_⟩⟩
        refine gx_sR (c := z.cps.toList.getD i.toNat 0) (by rw [sizeLine_eq]; omega) ?_ ?_
        · rw [show i = ((i.toNat : Nat) : Int) from by omega]
          exact atI_nat (by rw [Int.toNat_natCast]; exact hzi)
        · refine ⟨rfl, cs.getD j [], ts, _, rfl, hz48.1, hz48.2, ?_, hg.trn, hg.nod, gb_b ?_⟩
          · exact hg.cub _ (by rw [List.getD_eq_getElem?_getD, List.getElem?_eq_getElem hj]; exact List.getElem_mem hj)
          · have q2 : if hasF (cs.getD j []) (((z.cps.toList.getD i.toNat 0 : Nat) : Int) - 48) ts = true then R (.int (j : Nat)) else Q := q
            cases hh : hasF (cs.getD j []) (((z.cps.toList.getD i.toNat 0 : Nat) : Int) - 48) ts with
            | true =>
              rw [hh, if_pos rfl] at q2
              exact if_so rfl ⟨_, rfl, q2⟩
            | false =>
              rw [hh, if_neg Bool.false_ne_true] at q2
              exact if_no rfl q2
      · rw [List.nil_append, with_filter, List.map_id', ← places_at hia]
        have hfl := flat_len (fun l hl => (p3 l hl).1) (did ++ [i])
        rw [List.flatMap_append, List.flatMap_singleton, List.length_append, List.length_append, List.length_singleton] at hfl
        refine ga_l (by rw [List.length_map, List.length_map, sizeLine_eq]; omega) (hN _ ⟨did ++ [i], todo, by rw [List.append_assoc]; exact hdt, e2, .val (.int i), x5, ?_⟩)
        rw [List.flatMap_append, List.flatMap_singleton, List.map_append]
        rfl
  · rintro δ ⟨did, todo, hdt, hr, x4, x5, rfl⟩
    have : todo = [] := by
      cases todo with
      | nil => rfl
      | cons a b => cases hr
    subst this
    rw [List.append_nil] at hdt
    subst hdt
    have hfl := flat_len (fun l hl => (p3 l hl).1) did
    refine ⟨_, rfl, _, .inl rfl, by omega, fun ks h1 h2 => ⟨_, rfl, gl_t (g_lt ?_)⟩⟩
    have hc := tog_count p3 (J := did.map Int.toNat) h1 fun k => by rw [h2 k, List.flatMap_map]
    have he : decide ((ks.length : Int) < ((did.map D.int).length : Nat)) = lackB (placesOf cs ts (.str z)) (did.map Int.toNat) := by
      unfold lackB
      rw [List.length_map, List.length_map, ← hc, Bool.eq_iff_iff, decide_eq_true_eq, decide_eq_true_eq]
      omega
    rw [he]
    exact hp
abbrev s_ltold : Stmt := top 49
abbrev n_ltold : List Str := ["_law_name", "_law_group", "_law_value", "_law_found"]
theorem sc_ltold : FnScope n_ltold ["_law_name", "_law_group", "_law_value"] (defScope s_ltold) := ⟨rfl, rfl, rfl, by decide +kernel, rfl, by decide +kernel, by decide +kernel⟩
theorem ok_ltold {f : Addr} {fd : FuncData} (F : Fun K "_law_told" "_law_told" s_ltold f fd) (T : TxtS K mg P w base C_Set C_BadCubes C_BadTurns C_BadFigures) (x_BadFigures : Err P w K mg base "BadFigures" C_BadFigures none) (c_paper : Cal P w K mg base "paper" 6 2 (gPaper C_Set C_BadFigures)) (c_right_paper : Cal P w K mg base "right_paper" 5 3 (gRight C_Set C_BadFigures)) : FnOk P w K mg base (L2.CX P w) 7 f fd ["_law_name", "_law_group", "_law_value"] (spD K 3 (gToldP C_Set)) := by
  refine def_ok (k := 6) (N := n_ltold) F sc_ltold rfl (by decide) (fun cdv A outer s H E hr => by exact (s_cons (s_set (i := 3) sc_ltold.nd rfl (Or.inl rfl) e_bl)
      (s_cons (s_tryM (Q := exQ K) (fun _ _ _ h => h) rfl rfl sc_ltold.nd (takes_of rfl rfl rfl rfl) (fun W pn xe tk => (b_one (b_if (fun E => (t_cmp (op_eqD hr.units) od_eq (ev 0) e_str (nomark _))) (b_one (b_expr (y_call c_paper (hr.mono (by decide)) rfl tk (fun E => (a_cons (ev 1) (a_cons (ev 2) a_nil)))))) (b_one (b_expr (y_call c_right_paper (hr.mono (by decide)) rfl tk (fun E => (a_cons (ev 1) (a_cons (ev 2) (a_cons e_non a_nil))))))))))
      (MixD.sts ⟨rfl, by decide, Or.inl x_BadFigures.m⟩ (fun a pn => (s_one (s_set (i := 3) sc_ltold.nd rfl (Or.inl rfl) e_bl))) MixD.nil))
      (s_one (s_ret (ev 3)))))) (fun ds P Z hl h => ?_)
  obtain ⟨z, cs, ts, d, rfl, hz, hg, hb, hp⟩ := h
  have ok2 : PyData.strOk ("paper" : Str) = true := by decide +kernel
  refine ⟨_, rfl, okSt hz, okSt ok2, _, rfl, ?_⟩
  have e1 : ∀ (b : Bool) {A B : Prop}, A → B → if b = true then A else B := fun b A B ha hb => by cases b with
    | true => exact if_so rfl ha
    | false => exact if_no rfl hb
  refine e1 _ ⟨_, rfl, _, rfl, rfl, cs, ts, d, rfl, hg, hb.1, if_no hb.2 ?_⟩ ⟨_, rfl, _, rfl, rfl, cs, ts, d, _, rfl, hg, hb.1, if_no hb.2 ?_⟩
  · exact ⟨true, T.x_BadFigures_BadFigures, if_so rfl ⟨_, rfl, hp⟩⟩
  · exact ⟨true, T.x_BadFigures_BadFigures, if_so rfl ⟨_, rfl, hp⟩⟩
end K21

namespace K21
open PySem PySem.Spec PyProof.Rows L2 L3 Q
variable {P : Program} {w : World} {K : PySem.W.Frag} {mg : Str → Option Value} {base : Heap} {C_Set C_BadCubes C_BadTurns C_BadFigures : Addr}
abbrev s_law : Stmt := top 50
abbrev n_law : List Str := ["_law_script", "_law_d", "_law_turn", "_law_group", "_law_number_here", "_law_some", "_law_due", "_law_row", "_law_k", "_law_places", "_law_place", "_law_odd", "_law_value", "_law_bad"]
theorem sc_law : FnScope n_law ["_law_script"] (defScope s_law) := ⟨rfl, rfl, rfl, by decide +kernel, rfl, by decide +kernel, by decide +kernel⟩
theorem ok_law {f fR : Addr} {fd fdR : FuncData} (F : Fun K "law" "law" s_law f fd) (T : TxtS K mg P w base C_Set C_BadCubes C_BadTurns C_BadFigures) (FR : FnOk P w K mg base (L2.CX P w) 1 fR fdR ["_law_script", "_law_salt"] (spRandom K)) (mR : mg "_law_random" = some (.ref fR)) (kR : PySem.W.keepIn K (.ref fR) = true) (bR : Binds K fdR ["_law_script", "_law_salt"] [])
    (c_lenS : OwnM P w K mg base C_Set "__len__" 1 1 (gLenS C_Set)) (c_lbelow : Cal P w K mg base "_law_below" 1 2 gBelow) (c_lequal : Cal P w K mg base "_law_equal" 5 2 (gEq 3)) (c_llacks : Cal P w K mg base "_law_lacks" 3 3 (gLacksL C_Set)) (c_lno_number : Cal P w K mg base "_law_no_number" 3 1 gNoNum) (c_lnumber : Cal P w K mg base "_law_number" 3 2 gNumL) (c_lset : Cal P w K mg base "_law_set" 9 2 (gSetL C_Set)) (c_ltold : Cal P w K mg base "_law_told" 7 3 (gToldP C_Set)) (c_lways : Cal P w K mg base "_law_ways" 3 2 (gWaysL C_Set)) (c_lacking : Cal P w K mg base "lacking" 4 2 (gLacking C_Set C_BadFigures)) (c_paper : Cal P w K mg base "paper" 6 2 (gPaper C_Set C_BadFigures)) (c_right_paper : Cal P w K mg base "right_paper" 5 3 (gRight C_Set C_BadFigures)) : FnOk P w K mg base (L2.CX P w) 10 f fd ["_law_script"] (spLaw K) := by
  refine F.okX sc_law (fun vs H Q E h => ?_) (fun cdv A outer s H vs Q E hr h => ?_)
  · obtain ⟨a, ns, rfl, _⟩ := h; rfl
  · obtain ⟨a, ns, rfl, hS, hl, hq⟩ := h
    refine ⟨_, pss_cons (ps_set (i := 1) sc_law.nd rfl (by first | exact Or.inl rfl | exact Or.inr rfl) (pe_call FR (hr.mono (by decide)) rfl mR kR bR .nil passX (pa_cons (pv 0) (pa_cons pe_int pa_nil)))) (by exact (s_cons (s_for (passes_of rfl) rfl (i_range1 rfl T.b_range (a_cons e_int a_nil)) (gs_name 2) (pg_name (i := 2) sc_law.nd rfl (Or.inl rfl))
      (s_cons (s_asg (e_tup (a_cons (e_cal c_lset (hr.mono (by decide)) rfl passX (a_cons (ev 1) (a_cons e_int a_nil))) (a_cons (e_cal c_lnumber (hr.mono (by decide)) rfl passX (a_cons (ev 1) (a_cons e_int a_nil))) a_nil))) (gs_two 3 4) (pg_tup rfl (pgs_cons (pg_name (i := 3) sc_law.nd rfl (Or.inr rfl)) (pgs_cons (pg_name (i := 4) sc_law.nd rfl (Or.inr rfl)) pgs_nil))))
      (s_cons (s_set (i := 5) sc_law.nd rfl (Or.inl rfl) (e_cal c_lways (hr.mono (by decide)) rfl passX (a_cons (ev 3) (a_cons (ev 4) a_nil))))
      (s_cons (s_set (i := 6) sc_law.nd rfl (Or.inl rfl) (e_if (t_cmp (op_neD hr.units) od_ne (ev 5) (e_lst a_nil) (nomark _)) (e_tup (a_cons e_str (a_cons (e_ix (ev 5) e_int (fun _ _ => rfl)) a_nil))) (e_tup (a_cons e_str (a_cons (e_ix (e_cal c_lacking (hr.mono (by decide)) rfl passX (a_cons (ev 3) (a_cons (ev 4) a_nil))) e_int (fun _ _ => rfl)) a_nil)))))
      (s_cons (s_if (PW.pt (w_or (t_not (t_truth (e_cal c_lequal (hr.mono (by decide)) rfl passX (a_cons (e_cal c_paper (hr.mono (by decide)) rfl passX (a_cons (ev 3) (a_cons (ev 4) a_nil))) (a_cons (ev 6) a_nil))))) (w_one_or (t_cmp op_isnot_bl od_notBD (e_cal c_right_paper (hr.mono (by decide)) rfl passX (a_cons (ev 3) (a_cons (ev 4) (a_cons (ev 6) a_nil)))) e_bl (nomark _)))))
      (s_one (s_ret e_bl))
      s_nil)
      (s_cons (s_set (i := 7) sc_law.nd rfl (Or.inr rfl) (e_callTy call_tuple_of cd_tuple rfl T.b_tuple (by decide +kernel) (a_cons (e_lc (own := [("_law_k", 8)]) rfl sc_law.nd (i_range1 rfl T.b_range (a_cons (e_callB cr_len cd_len rfl T.b_len (by decide +kernel) (a_cons (ev 4) a_nil)) a_nil)) (blkOk_by (own := [("_law_k", 8)]) (N := n_law) (sc := defScope s_law) (by decide +kernel)) (gc_name 8 (by simp)) (fun _ _ _ _ _ => (pg_name (i := 8) sc_law.nd rfl (Or.inl rfl))) (fun _ _ _ _ _ => ts_nil) (fun _ _ _ _ _ => (e_cal c_lbelow (hr.mono (by decide)) rfl pass0 (a_cons (ev 1) (a_cons (e_op or_add od_add (e_lenO c_lenS (hr.mono (by decide)) rfl T.b_len (a_cons (ev 3) a_nil)) e_int) a_nil))))) a_nil)))
      (s_cons (s_if (t_not (t_truth (e_cal c_lequal (hr.mono (by decide)) rfl passX (a_cons (e_cal c_right_paper (hr.mono (by decide)) rfl passX (a_cons (ev 3) (a_cons (ev 4) (a_cons (e_tup (a_cons e_str (a_cons (ev 7) a_nil))) a_nil)))) (a_cons (e_cmp (op_inD (u65 hr)) od_inDp (ev 7) (ev 5) rfl) a_nil)))))
      (s_one (s_ret e_bl))
      s_nil)
      (s_cons (s_set (i := 9) sc_law.nd rfl (Or.inl rfl) (e_callTy call_tuple_of cd_tuple rfl T.b_tuple (by decide +kernel) (a_cons (e_lc (own := [("_law_place", 10)]) rfl sc_law.nd (i_range1 rfl T.b_range (a_cons (e_callB cr_len cd_len rfl T.b_len (by decide +kernel) (a_cons (ev 4) a_nil)) a_nil)) (blkOk_by (own := [("_law_place", 10)]) (N := n_law) (sc := defScope s_law) (by decide +kernel)) (gc_name 10 (by simp)) (fun _ _ _ _ _ => (pg_name (i := 10) sc_law.nd rfl (Or.inl rfl))) (fun _ _ _ _ _ => (ts_one (t_cmp (op_eqD hr.units) od_eq (e_cal c_lbelow (hr.mono (by decide)) rfl pass0 (a_cons (ev 1) (a_cons e_int a_nil))) e_int (nomark _)))) (fun _ _ _ _ _ => (ev 10))) a_nil)))
      (s_cons (s_if (t_not (t_truth (e_cal c_lequal (hr.mono (by decide)) rfl passX (a_cons (e_cal c_right_paper (hr.mono (by decide)) rfl passX (a_cons (ev 3) (a_cons (ev 4) (a_cons (e_tup (a_cons e_str (a_cons (ev 9) a_nil))) a_nil)))) (a_cons (e_cal c_llacks (hr.mono (by decide)) rfl passX (a_cons (ev 3) (a_cons (ev 4) (a_cons (ev 9) a_nil)))) a_nil)))))
      (s_one (s_ret e_bl))
      s_nil)
      (s_cons (s_set (i := 11) sc_law.nd rfl (Or.inl rfl) (e_lst (a_cons e_non (a_cons (e_tup a_nil) (a_cons e_str (a_cons (e_tup (a_cons e_str a_nil)) (a_cons (e_tup (a_cons e_str (a_cons (e_callTy call_list_of cd_list rfl T.b_list (by decide +kernel) (a_cons (ev 7) a_nil)) a_nil))) (a_cons (e_tup (a_cons e_str (a_cons (e_tup (a_cons (e_callB cr_len cd_len rfl T.b_len (by decide +kernel) (a_cons (ev 4) a_nil)) a_nil)) a_nil))) (a_cons (e_tup (a_cons e_str (a_cons e_non a_nil))) (a_cons (e_tup (a_cons e_str (a_cons (e_tup a_nil) a_nil))) a_nil))))))))))
      (s_cons (s_set (i := 11) sc_law.nd rfl (Or.inl rfl) (e_op or_add od_add (ev 11) (e_lst (a_cons (e_tup (a_cons e_str (a_cons (ev 7) a_nil))) (a_cons (e_tup (a_cons e_int (a_cons (ev 7) a_nil))) (a_cons (e_lst (a_cons e_str (a_cons (ev 7) a_nil))) (a_cons (e_tup (a_cons e_str (a_cons (e_op or_add od_add (e_revT (ev 9)) (ev 9)) a_nil))) (a_cons (e_tup (a_cons e_str (a_cons (e_tup (a_cons (e_neg e_int) a_nil)) a_nil))) a_nil))))))))
      (s_cons (s_if (t_cmp (op_neD hr.units) od_ne (e_lc (own := [("_law_value", 12)]) rfl sc_law.nd (i_list (ev 11)) (blkOk_by (own := [("_law_value", 12)]) (N := n_law) (sc := defScope s_law) (by decide +kernel)) (gc_name 12 (by simp)) (fun _ _ _ _ _ => (pg_name (i := 12) sc_law.nd rfl (Or.inl rfl))) (fun _ _ _ _ _ => (ts_one (PW.pt (w_and (t_cmp (op_neD hr.units) od_ne (ev 12) (e_tup (a_cons e_str (a_cons (ev 7) a_nil))) (nomark _)) (w_one_and (t_cmp op_isnot_bl od_notBD (e_cal c_right_paper (hr.mono (by decide)) rfl pass0 (a_cons (ev 3) (a_cons (ev 4) (a_cons (ev 12) a_nil)))) e_bl (nomark _))))))) (fun _ _ _ _ _ => (ev 12))) (e_lst a_nil) (nomark _))
      (s_one (s_ret e_bl))
      s_nil)
      (s_cons (s_set (i := 13) sc_law.nd rfl (Or.inl rfl) (e_cal c_lno_number (hr.mono (by decide)) rfl passX (a_cons (ev 1) a_nil)))
      (s_one (s_if (PW.pt (w_or (t_not (t_truth (e_cal c_ltold (hr.mono (by decide)) rfl passX (a_cons e_str (a_cons (ev 3) (a_cons (ev 13) a_nil)))))) (w_one_or (t_not (t_truth (e_cal c_ltold (hr.mono (by decide)) rfl passX (a_cons e_str (a_cons (ev 3) (a_cons (ev 13) a_nil)))))))))
      (s_one (s_ret e_bl))
      s_nil)))))))))))))))
      (s_one (s_ret e_bl)))), ?_⟩
    refine ⟨_, rfl, a, ns, 2921, rfl, hS, hl, by decide, by decide, fun p ms H' np e rn hm keep => ?_⟩
    refine ⟨p, fun b => b = p, H', .emp :: .val .rnd :: List.replicate 12 .emp, ⟨fun _ => False, fun d => d = .bl true, fun _ => False, fun _ => False, fun _ => False⟩, SR.of (er_lawN 12 e rn hm) (fun b hb => hb) .refl (fun _ _ _ h => (no_own h).elim) (fun b hb => by rw [hb, e]; simp), ?_,
      ⟨fun _ _ _ q => q.elim, fun d v H2 hd _ _ r => by cases (show d = .bl true from hd); cases r; exact hq _, fun _ _ _ q => q.elim, fun _ _ _ q => q.elim, fun _ _ _ _ q => q.elim⟩⟩
    dsimp only
    refine gr_1 (by decide) (by decide) ?_
    refine forD_inv (fun rest δ => ∃ x2 x3 x4 x5 x6 x7 x8 x9 x10 x11 x12 x13, δ = [.emp, .val .rnd, x2, x3, x4, x5, x6, x7, x8, x9, x10, x11, x12, x13]) _ _ ⟨_, _, _, _, _, _, _, _, _, _, _, _, rfl⟩ ?_ ?_
    · rintro d0 rest δ ⟨x2, x3, x4, x5, x6, x7, x8, x9, x10, x11, x12, x13, rfl⟩ N hN
      refine ⟨_, rfl, rfl, 5, rfl, by decide, by decide, fun cs ts hG hcl => ?_⟩
      refine ⟨_, rfl, rfl, 4, rfl, by decide, by decide, fun z hn => ?_⟩
      obtain ⟨z', ez, hz1, hz6, hzc⟩ := numOf hn
      cases ez
      have hask : NumAsk (.str z) := ⟨⟨_, rfl⟩, fun z0 h0 => by
        injection h0 with h0
        subst h0
        omega⟩
      obtain ⟨p1, p2, p3⟩ := places_ok (ts := ts) hG.good.few hn
      have hzl := places_len (cs := cs) (ts := ts) z
      have hws : waysOf cs ts (digs (.str z)) = waysBy (placesOf cs ts (.str z)) := rfl
      refine ⟨szz rfl, _, rfl, _, rfl, rfl, cs, ts, .str z, rfl, hG.good, hn, ?_⟩
      rw [hws]
      generalize hls : placesOf cs ts (.str z) = ls at p1 p2 p3 hzl ⊢
      have hl := lackV_none p2 fun l hl => (p3 l hl).2
      have hpe := eqok_paper p2
      have hpr := paper_right p2 fun l hl => (p3 l hl).2
      obtain hwb | ⟨w, ws, hwb⟩ : waysBy ls = [] ∨ ∃ w ws, waysBy ls = w :: ws := by
        cases waysBy ls with
        | nil => exact .inl rfl
        | cons w ws => exact .inr ⟨w, ws, rfl⟩
      case' inl =>
        rw [hwb] at hl
        obtain ⟨J, hJ⟩ : ∃ J, lackFind ls = some J := by
          unfold lackV at hl
          cases hf : lackFind ls with
          | none => rw [hf] at hl; cases hl
          | some J => exact ⟨J, rfl⟩
        have hlv : lackV ls = .tup [natsT J, intsT (togL ls J)] := by unfold lackV; rw [hJ]
        refine ⟨_, rfl, szz rfl, okE (ways_E _), okE (ways_E []), _, rfl, if_no (by rw [ways_ne, hwb]; rfl) ⟨_, rfl, _, rfl, rfl, cs, ts, .str z, rfl, hG.good, hask, if_so hn ?_⟩⟩
        rw [hls, hlv]
        refine gx_t (atI_nat (j := 0) rfl) ⟨szz rfl, ?_⟩
        have hpd : paperD ls = .tup [.str zLacks, natsT J] := by unfold paperD; rw [hwb, hJ]; rfl
        dsimp only
        rw [← hpd]
      case' inr =>
        refine ⟨_, rfl, szz rfl, okE (ways_E _), okE (ways_E []), _, rfl, if_so (by rw [ways_ne, hwb]; rfl) ⟨_, rfl, gx_l (atI_nat (j := 0) (by rw [hwb]; rfl)) ⟨szz rfl, ?_⟩⟩⟩
        have hpd : paperD ls = .tup [.str zWay, intsT w] := by unfold paperD; rw [hwb]
        dsimp only
        rw [← hpd]
      all_goals
        refine ⟨_, rfl, _, rfl, rfl, cs, ts, .str z, rfl, hG.good, hask, if_so hn ?_⟩
        rw [hls]
        refine ⟨_, rfl, rfl, paperD ls, rfl, hpe, gb_b (if_no rfl ?_)⟩
        refine ⟨_, rfl, _, rfl, _, rfl, rfl, cs, ts, .str z, _, rfl, hG.good, hask, if_so hn ⟨true, hls.symm ▸ hpr, ?_⟩⟩
        refine ⟨true, true, rfl, rfl, _, rfl, if_no rfl ?_⟩
        refine ⟨_, rfl, gl_s (by rw [sizeLine_eq]; omega) (gr_1 (by omega) (by omega) ⟨by rw [rng_len, sizeLine_eq]; omega, ?_⟩)⟩
        refine lcD_rel (fun rest acc => ∃ ns : List Int, acc = ns.map D.int ∧ ns.length + rest.length = z.length) _ [] ⟨[], rfl, by rw [rng_len]; simp⟩ (fun d rest acc ⟨ns, ha, hl2⟩ R S q1 q2 => ?_) ?_
        · refine ⟨_, rfl, _, rfl, _, _, rfl, cs, ts, rfl, ⟨_, rfl, by omega, by have := hG.good.few; omega⟩, g_add ⟨rfl, _, rfl, by omega, by have := hG.good.few; omega, fun k h0 h1 => q1 _ ⟨ns ++ [k], by rw [ha, List.map_append]; rfl, ?_⟩⟩⟩
          rw [List.length_append, List.length_singleton]
          rw [List.length_cons] at hl2
          omega
        rintro _ ⟨row, rfl, hrl⟩
        rw [List.length_nil] at hrl
        have hr6 : row.length ≤ 6 := by omega
        have hrow : Told2 (intsT row) (some row) := ⟨rfl, by omega⟩
        refine gt_l ⟨_, rfl, _, rfl, _, rfl, szz rfl, rfl, cs, ts, .str z, _, rfl, hG.good, hask, if_so hn ⟨_, RightV.way hrow, ?_⟩⟩
        rw [hls]
        refine ⟨_, rfl, _, rfl, _, rfl, okE (Eqs.ints row), okE (ways_E _), ?_⟩
        rw [ways_any]
        refine ⟨rfl, _, rfl, .inl ⟨rfl, rfl⟩, gb_b (if_no rfl ?_)⟩
        refine ⟨_, rfl, gl_s (by rw [sizeLine_eq]; omega) (gr_1 (by omega) (by omega) ⟨by rw [rng_len, sizeLine_eq]; omega, ?_⟩)⟩
        refine lcD_rel (fun rest acc => ((∀ d ∈ rest, ∃ j : Nat, j < z.length ∧ d = .int j) ∧ rest.Pairwise fun a b => toI a < toI b) ∧ ∃ ns : List Int, acc = ns.map D.int ∧ ns.length + rest.length ≤ z.length ∧ (∀ i ∈ ns, 0 ≤ i ∧ i < z.length) ∧ ns.Pairwise (· < ·) ∧ ∀ i ∈ ns, ∀ d ∈ rest, i < toI d) _ [] ⟨⟨fun d hd => ?_, rng_asc _⟩, [], rfl, by rw [rng_len]; simp, fun i hi => (by cases hi), .nil, fun i hi => (by cases hi)⟩ (fun d rest acc ⟨⟨hrest, hasc⟩, ns, ha, hl2, hin, hpw, hlt⟩ R S q1 q2 => ?_) ?_
        · obtain ⟨j, hj, rfl⟩ := rng_mem hd
          exact ⟨j, by omega, rfl⟩
        · obtain ⟨j, hj, rfl⟩ := hrest d List.mem_cons_self
          rw [List.length_cons] at hl2
          have hrest2 : (∀ d ∈ rest, ∃ j : Nat, j < z.length ∧ d = .int j) ∧ rest.Pairwise fun a b => toI a < toI b := ⟨fun d hd => hrest d (List.mem_cons_of_mem _ hd), (List.pairwise_cons.mp hasc).2⟩
          have hj2 : ∀ i ∈ ns, i < (j : Int) := fun i hi => hlt i hi _ List.mem_cons_self
          refine ⟨_, rfl, rfl, _, rfl, by decide, by decide, fun k h0 h1 => ⟨okI, okI, _, rfl, ?_⟩⟩
          rw [eqI]
          by_cases hk : k = 0
          · refine if_so (decide_eq_true hk) ⟨_, rfl, q1 _ ⟨hrest2, ns ++ [(j : Int)], by rw [ha, List.map_append]; rfl, by rw [List.length_append, List.length_singleton]; omega, fun i hi => ?_, ?_, fun i hi d hd => ?_⟩⟩
            · rcases List.mem_append.mp hi with hi | hi
              · exact hin i hi
              · have := List.mem_singleton.mp hi
                omega
            · refine List.pairwise_append.mpr ⟨hpw, List.pairwise_singleton .., fun a ha b hb => ?_⟩
              rw [List.mem_singleton.mp hb]
              exact hj2 a ha
            · rcases List.mem_append.mp hi with hi | hi
              · exact hlt i hi d (List.mem_cons_of_mem _ hd)
              · rw [List.mem_singleton.mp hi]
                exact (List.pairwise_cons.mp hasc).1 d hd
          · exact if_no (decide_eq_false hk) (q2 ⟨hrest2, ns, ha, by omega, hin, hpw, fun i hi d hd => hlt i hi d (List.mem_cons_of_mem _ hd)⟩)
        rintro _ ⟨_, pls, rfl, hpl, hpin, hpw, _⟩
        rw [List.length_nil] at hpl
        have hp6 : pls.length ≤ 6 := by omega
        have hpt : Told2 (intsT pls) (some pls) := ⟨rfl, by omega⟩
        have hlk : lackO ls (some pls) = lackB ls (pls.map Int.toNat) := lackI_of (fun i hi => by have := hpin i hi; omega) hpw
        refine gt_l ⟨_, rfl, _, rfl, _, rfl, szz rfl, rfl, cs, ts, .str z, _, rfl, hG.good, hask, if_so hn ⟨_, RightV.lacks hpt, ?_⟩⟩
        rw [hls, hlk]
        refine ⟨_, rfl, _, rfl, _, rfl, rfl, cs, ts, .str z, pls, rfl, hG.good, hn, ⟨hp6, by rw [hls]; intro i hi; have := hpin i hi; omega⟩, ?_⟩
        rw [hls]
        refine ⟨rfl, _, rfl, .inl ⟨rfl, rfl⟩, gb_b (if_no rfl ?_)⟩
        refine ⟨szz rfl, szz rfl, _, rfl, gls_t ⟨szz rfl, _, rfl, gl_s (by rw [sizeLine_eq]; omega) ⟨szz rfl, szz rfl, szz rfl, szz rfl, szz rfl, szz rfl, _, rfl, _, rfl, szz rfl, _, rfl, szz rfl, _, rfl, szz rfl, _, rfl, grv_t ⟨_, rfl, ga_t (by rw [List.length_reverse, List.length_map, sizeLine_eq]; omega) ⟨szz rfl, szz rfl, szz rfl, szz rfl, ga_l (szz rfl) ?_⟩⟩⟩⟩⟩
        have hodd := odd_ok (row := row) (pls := pls) hzl hr6 hp6
        have hwr : (D.tup [D.str (Str.ofString "way"), D.tup (row.map D.int)]).eqOk = true := okE (Eqs.pair (Eqs.mono (Eqs.str wayOk) (Nat.zero_le 1)) (Eqs.ints row))
        refine ⟨_, rfl, gi_l ⟨szz rfl, lcD_of (k := fun _ => false) (f := fun d => d) _ [] (fun d h R Q q => ?_) ?_⟩⟩
        · obtain ⟨h1, h2⟩ := hodd d h
          have q : Q := q
          refine ⟨_, rfl, _, rfl, szz rfl, h1, hwr, _, rfl, ?_⟩
          cases hb : !eqD d (D.tup [D.str (Str.ofString "way"), D.tup (row.map D.int)]) with
          | true => exact if_so rfl ⟨_, rfl, _, rfl, _, rfl, rfl, cs, ts, .str z, _, rfl, hG.good, hask, if_so hn ⟨false, hls.symm ▸ h2, false, false, rfl, rfl, _, rfl, if_no rfl q⟩⟩
          | false => exact if_no rfl (if_no rfl q)
        refine ⟨szz rfl, okE (Eqs.intsL []), okE (Eqs.intsL []), _, rfl, if_no (by show (!eqD (.lst []) (.lst [])) = false; decide +kernel) ?_⟩
        refine ⟨_, rfl, rfl, rfl, fun bd hbd => ⟨_, rfl, _, rfl, rfl, Str.ofString "paper", cs, ts, bd, rfl, (by decide +kernel), hG.good, hbd, gb_b (if_no rfl ⟨_, rfl, _, rfl, rfl, Str.ofString "right", cs, ts, bd, rfl, (by decide +kernel), hG.good, hbd, gb_b (if_no rfl (hN _ ⟨_, _, _, _, _, _, _, _, _, _, _, _, rfl⟩))⟩)⟩⟩
    · rintro δ ⟨x2, x3, x4, x5, x6, x7, x8, x9, x10, x11, x12, x13, rfl⟩
      rfl

end K21

namespace K21
open PySem PySem.Spec PyProof.Rows L2 L3 Q
abbrev s_pc : Stmt := inClass (top 22) 1
abbrev s_pt : Stmt := inClass (top 22) 2
theorem sc_pc : FnScope ["self"] ["self"] (defScope s_pc) := ⟨rfl, rfl, rfl, by decide +kernel, rfl, by decide +kernel, by decide +kernel⟩
theorem sc_pt : FnScope ["self"] ["self"] (defScope s_pt) := ⟨rfl, rfl, rfl, by decide +kernel, rfl, by decide +kernel, by decide +kernel⟩
theorem all_mk {P : Program} {w : World} {K : PySem.W.Frag} {h : Heap} {mg : Str → Option Value} {fa : Addr} (X : K.In h) (G : h.Ns mainGlobals mg) (hfa : mg "law" = some (.ref fa))
    {CB : Addr}
    {CBadCubes : Addr} {nmBadCubes qBadCubes : Str} {NBadCubes : Addr} {bsBadCubes bmBadCubes : List Value} {snBadCubes : List Str} {subBadCubes : List Value} {abBadCubes : Bool} {colBadCubes : Option Bool} {ddBadCubes : Option Addr} {m0BadCubes m1BadCubes m2BadCubes m3BadCubes m5BadCubes : Option Value}
    {odIBadCubes anIBadCubes : Option Addr} {slIBadCubes : Array (Option Value)} {ocIBadCubes kVIBadCubes dcIBadCubes pmIBadCubes cdIBadCubes ctIBadCubes : Value} {fIBadCubes : Addr}
    {CBadTurns : Addr} {nmBadTurns qBadTurns : Str} {NBadTurns : Addr} {bsBadTurns bmBadTurns : List Value} {snBadTurns : List Str} {subBadTurns : List Value} {abBadTurns : Bool} {colBadTurns : Option Bool} {ddBadTurns : Option Addr} {m0BadTurns m1BadTurns m2BadTurns m3BadTurns m5BadTurns : Option Value}
    {odIBadTurns anIBadTurns : Option Addr} {slIBadTurns : Array (Option Value)} {ocIBadTurns kVIBadTurns dcIBadTurns pmIBadTurns cdIBadTurns ctIBadTurns : Value} {fIBadTurns : Addr}
    {CBadFigures : Addr} {nmBadFigures qBadFigures : Str} {NBadFigures : Addr} {bsBadFigures bmBadFigures : List Value} {snBadFigures : List Str} {subBadFigures : List Value} {abBadFigures : Bool} {colBadFigures : Option Bool} {ddBadFigures : Option Addr} {m0BadFigures m1BadFigures m2BadFigures m3BadFigures m5BadFigures : Option Value}
    {odIBadFigures anIBadFigures : Option Addr} {slIBadFigures : Array (Option Value)} {ocIBadFigures kVIBadFigures dcIBadFigures pmIBadFigures cdIBadFigures ctIBadFigures : Value} {fIBadFigures : Addr}
    {CS TD T0 p1 p2 : Addr} {oTD : Obj} {nTD : Nat} {r1 r2 : List Value}
    {odS anS : Option Addr} {slS : Array (Option Value)} {ocS kVS dcS pmS cdS ctS : Value} {fS : Addr}
    {odP1 anP1 : Option Addr} {slP1 : Array (Option Value)} {ocP1 kVP1 dcP1 pmP1 cdP1 ctP1 : Value} {fP1 : Addr}
    {odP2 anP2 : Option Addr} {slP2 : Array (Option Value)} {ocP2 kVP2 dcP2 pmP2 cdP2 ctP2 : Value} {fP2 : Addr}
    {od_lbelow an_lbelow : Option Addr} {sl_lbelow : Array (Option Value)} {oc_lbelow kV_lbelow dc_lbelow pm_lbelow cd_lbelow ct_lbelow : Value} {f_lbelow : Addr}
    {od_lrandom an_lrandom : Option Addr} {sl_lrandom : Array (Option Value)} {oc_lrandom kV_lrandom dc_lrandom pm_lrandom cd_lrandom ct_lrandom : Value} {f_lrandom : Addr}
    {od_is_integer an_is_integer : Option Addr} {sl_is_integer : Array (Option Value)} {oc_is_integer kV_is_integer dc_is_integer pm_is_integer cd_is_integer ct_is_integer : Value} {f_is_integer : Addr}
    {od_is_within an_is_within : Option Addr} {sl_is_within : Array (Option Value)} {oc_is_within kV_is_within dc_is_within pm_is_within cd_is_within ct_is_within : Value} {f_is_within : Addr}
    {od_is_figure an_is_figure : Option Addr} {sl_is_figure : Array (Option Value)} {oc_is_figure kV_is_figure dc_is_figure pm_is_figure cd_is_figure ct_is_figure : Value} {f_is_figure : Addr}
    {od_ascends an_ascends : Option Addr} {sl_ascends : Array (Option Value)} {oc_ascends kV_ascends dc_ascends pm_ascends cd_ascends ct_ascends : Value} {f_ascends : Addr}
    {od_is_cube an_is_cube : Option Addr} {sl_is_cube : Array (Option Value)} {oc_is_cube kV_is_cube dc_is_cube pm_is_cube cd_is_cube ct_is_cube : Value} {f_is_cube : Addr}
    {od_is_turns an_is_turns : Option Addr} {sl_is_turns : Array (Option Value)} {oc_is_turns kV_is_turns dc_is_turns pm_is_turns cd_is_turns ct_is_turns : Value} {f_is_turns : Addr}
    {od_is_number an_is_number : Option Addr} {sl_is_number : Array (Option Value)} {oc_is_number kV_is_number dc_is_number pm_is_number cd_is_number ct_is_number : Value} {f_is_number : Addr}
    {od_check_cubes an_check_cubes : Option Addr} {sl_check_cubes : Array (Option Value)} {oc_check_cubes kV_check_cubes dc_check_cubes pm_check_cubes cd_check_cubes ct_check_cubes : Value} {f_check_cubes : Addr}
    {od_check_turns an_check_turns : Option Addr} {sl_check_turns : Array (Option Value)} {oc_check_turns kV_check_turns dc_check_turns pm_check_turns cd_check_turns ct_check_turns : Value} {f_check_turns : Addr}
    {od_check_number an_check_number : Option Addr} {sl_check_number : Array (Option Value)} {oc_check_number kV_check_number dc_check_number pm_check_number cd_check_number ct_check_number : Value} {f_check_number : Addr}
    {od_faces_for an_faces_for : Option Addr} {sl_faces_for : Array (Option Value)} {oc_faces_for kV_faces_for dc_faces_for pm_faces_for cd_faces_for ct_faces_for : Value} {f_faces_for : Addr}
    {od_cubes_with an_cubes_with : Option Addr} {sl_cubes_with : Array (Option Value)} {oc_cubes_with kV_cubes_with dc_cubes_with pm_cubes_with cd_cubes_with ct_cubes_with : Value} {f_cubes_with : Addr}
    {od_cubes_by_place an_cubes_by_place : Option Addr} {sl_cubes_by_place : Array (Option Value)} {oc_cubes_by_place kV_cubes_by_place dc_cubes_by_place pm_cubes_by_place cd_cubes_by_place ct_cubes_by_place : Value} {f_cubes_by_place : Addr}
    {od_all_ways an_all_ways : Option Addr} {sl_all_ways : Array (Option Value)} {oc_all_ways kV_all_ways dc_all_ways pm_all_ways cd_all_ways ct_all_ways : Value} {f_all_ways : Addr}
    {od_is_way an_is_way : Option Addr} {sl_is_way : Array (Option Value)} {oc_is_way kV_is_way dc_is_way pm_is_way cd_is_way ct_is_way : Value} {f_is_way : Addr}
    {od_together an_together : Option Addr} {sl_together : Array (Option Value)} {oc_together kV_together dc_together pm_together cd_together ct_together : Value} {f_together : Addr}
    {od_how an_how : Option Addr} {sl_how : Array (Option Value)} {oc_how kV_how dc_how pm_how cd_how ct_how : Value} {f_how : Addr}
    {od_lacking an_lacking : Option Addr} {sl_lacking : Array (Option Value)} {oc_lacking kV_lacking dc_lacking pm_lacking cd_lacking ct_lacking : Value} {f_lacking : Addr}
    {od_paper an_paper : Option Addr} {sl_paper : Array (Option Value)} {oc_paper kV_paper dc_paper pm_paper cd_paper ct_paper : Value} {f_paper : Addr}
    {od_are_lacking an_are_lacking : Option Addr} {sl_are_lacking : Array (Option Value)} {oc_are_lacking kV_are_lacking dc_are_lacking pm_are_lacking cd_are_lacking ct_are_lacking : Value} {f_are_lacking : Addr}
    {od_right_paper an_right_paper : Option Addr} {sl_right_paper : Array (Option Value)} {oc_right_paper kV_right_paper dc_right_paper pm_right_paper cd_right_paper ct_right_paper : Value} {f_right_paper : Addr}
    {od_lpick an_lpick : Option Addr} {sl_lpick : Array (Option Value)} {oc_lpick kV_lpick dc_lpick pm_lpick cd_lpick ct_lpick : Value} {f_lpick : Addr}
    {od_lequal an_lequal : Option Addr} {sl_lequal : Array (Option Value)} {oc_lequal kV_lequal dc_lequal pm_lequal cd_lequal ct_lequal : Value} {f_lequal : Addr}
    {od_lturns an_lturns : Option Addr} {sl_lturns : Array (Option Value)} {oc_lturns kV_lturns dc_lturns pm_lturns cd_lturns ct_lturns : Value} {f_lturns : Addr}
    {od_lcube an_lcube : Option Addr} {sl_lcube : Array (Option Value)} {oc_lcube kV_lcube dc_lcube pm_lcube cd_lcube ct_lcube : Value} {f_lcube : Addr}
    {od_lset an_lset : Option Addr} {sl_lset : Array (Option Value)} {oc_lset kV_lset dc_lset pm_lset cd_lset ct_lset : Value} {f_lset : Addr}
    {od_lnumber an_lnumber : Option Addr} {sl_lnumber : Array (Option Value)} {oc_lnumber kV_lnumber dc_lnumber pm_lnumber cd_lnumber ct_lnumber : Value} {f_lnumber : Addr}
    {od_lhas an_lhas : Option Addr} {sl_lhas : Array (Option Value)} {oc_lhas kV_lhas dc_lhas pm_lhas cd_lhas ct_lhas : Value} {f_lhas : Addr}
    {od_lways an_lways : Option Addr} {sl_lways : Array (Option Value)} {oc_lways kV_lways dc_lways pm_lways cd_lways ct_lways : Value} {f_lways : Addr}
    {od_lno_number an_lno_number : Option Addr} {sl_lno_number : Array (Option Value)} {oc_lno_number kV_lno_number dc_lno_number pm_lno_number cd_lno_number ct_lno_number : Value} {f_lno_number : Addr}
    {od_llacks an_llacks : Option Addr} {sl_llacks : Array (Option Value)} {oc_llacks kV_llacks dc_llacks pm_llacks cd_llacks ct_llacks : Value} {f_llacks : Addr}
    {od_ltold an_ltold : Option Addr} {sl_ltold : Array (Option Value)} {oc_ltold kV_ltold dc_ltold pm_ltold cd_ltold ct_ltold : Value} {f_ltold : Addr}
    {od_law an_law : Option Addr} {sl_law : Array (Option Value)} {oc_law kV_law dc_law pm_law cd_law ct_law : Value} {f_law : Addr}
    {tkMOST_CUBES tkMOST_SIGNS tkSIGNS tkWAY tkLACKS : Nat}
    {odLn anLn : Option Addr} {slLn : Array (Option Value)} {ocLn kVLn dcLn pmLn cdLn ctLn : Value} {fLn : Addr}
    (aB : PySem.W.nsIn K mainGlobals "CubeError" = some (some (.ref CB)))
    (rB : PySem.W.readsIn K CB (.type "type") = true)
    (sB : PySem.W.specialIn K (.ref CB) "__getattribute__" = some (some (.builtin "type.__getattribute__")))
    (iB : PySem.W.findCls K (.ref CB) (.type "type") "__init__" = some (.val (.builtin "ValueError.__init__")))
    (aEBadCubes : PySem.W.nsIn K mainGlobals "BadCubes" = some (some (.ref CBadCubes)))
    (xEBadCubes : K.lookup CBadCubes = some (excClassObj nmBadCubes qBadCubes CBadCubes NBadCubes bsBadCubes bmBadCubes true snBadCubes subBadCubes abBadCubes colBadCubes ddBadCubes m0BadCubes m1BadCubes m2BadCubes m3BadCubes m5BadCubes "ValueError.__new__"))
    (vEBadCubes : PySem.HandSPX.refsVE bmBadCubes = true)
    (saEBadCubes : PySem.W.findIn K (.ref CBadCubes) "__setattr__" = some (some (.builtin "object.__setattr__")))
    (exEBadCubes : PySem.W.subIn K (.ref CBadCubes) (.type "BaseException") = some true)
    (tyEBadCubes : PySem.W.typeIn K (.ref CBadCubes) = some (.type "type"))
    (kcEBadCubes : PySem.W.keepIn K (.ref CBadCubes) = true)
    (iEBadCubes : PySem.W.findIn K (.ref CBadCubes) "__init__" = some (some (.ref fIBadCubes)))
    (tiEBadCubes : PySem.W.typeIn K (.ref fIBadCubes) = some (.type "function"))
    (lIBadCubes : K.lookup fIBadCubes = some ⟨ocIBadCubes, odIBadCubes, .func (PySem.W.fnOf "__init__" "BadCubes.__init__" (defArgs s_iBadCubes) (defBody s_iBadCubes) (defScope s_iBadCubes) .none kVIBadCubes dcIBadCubes pmIBadCubes anIBadCubes cdIBadCubes ctIBadCubes), slIBadCubes⟩)
    (cIBadCubes : PySem.W.codeIn K cdIBadCubes "BadCubes.__init__" = true)
    (kIBadCubes : PySem.W.keepIn K (.ref fIBadCubes) = true)
    (nEBadCubes : PySem.W.findIn K (.ref CBadCubes) "index" = some none)
    (aEBadTurns : PySem.W.nsIn K mainGlobals "BadTurns" = some (some (.ref CBadTurns)))
    (xEBadTurns : K.lookup CBadTurns = some (excClassObj nmBadTurns qBadTurns CBadTurns NBadTurns bsBadTurns bmBadTurns true snBadTurns subBadTurns abBadTurns colBadTurns ddBadTurns m0BadTurns m1BadTurns m2BadTurns m3BadTurns m5BadTurns "ValueError.__new__"))
    (vEBadTurns : PySem.HandSPX.refsVE bmBadTurns = true)
    (saEBadTurns : PySem.W.findIn K (.ref CBadTurns) "__setattr__" = some (some (.builtin "object.__setattr__")))
    (exEBadTurns : PySem.W.subIn K (.ref CBadTurns) (.type "BaseException") = some true)
    (tyEBadTurns : PySem.W.typeIn K (.ref CBadTurns) = some (.type "type"))
    (kcEBadTurns : PySem.W.keepIn K (.ref CBadTurns) = true)
    (iEBadTurns : PySem.W.findIn K (.ref CBadTurns) "__init__" = some (some (.ref fIBadTurns)))
    (tiEBadTurns : PySem.W.typeIn K (.ref fIBadTurns) = some (.type "function"))
    (lIBadTurns : K.lookup fIBadTurns = some ⟨ocIBadTurns, odIBadTurns, .func (PySem.W.fnOf "__init__" "BadTurns.__init__" (defArgs s_iBadTurns) (defBody s_iBadTurns) (defScope s_iBadTurns) .none kVIBadTurns dcIBadTurns pmIBadTurns anIBadTurns cdIBadTurns ctIBadTurns), slIBadTurns⟩)
    (cIBadTurns : PySem.W.codeIn K cdIBadTurns "BadTurns.__init__" = true)
    (kIBadTurns : PySem.W.keepIn K (.ref fIBadTurns) = true)
    (aEBadFigures : PySem.W.nsIn K mainGlobals "BadFigures" = some (some (.ref CBadFigures)))
    (xEBadFigures : K.lookup CBadFigures = some (excClassObj nmBadFigures qBadFigures CBadFigures NBadFigures bsBadFigures bmBadFigures true snBadFigures subBadFigures abBadFigures colBadFigures ddBadFigures m0BadFigures m1BadFigures m2BadFigures m3BadFigures m5BadFigures "ValueError.__new__"))
    (vEBadFigures : PySem.HandSPX.refsVE bmBadFigures = true)
    (saEBadFigures : PySem.W.findIn K (.ref CBadFigures) "__setattr__" = some (some (.builtin "object.__setattr__")))
    (exEBadFigures : PySem.W.subIn K (.ref CBadFigures) (.type "BaseException") = some true)
    (tyEBadFigures : PySem.W.typeIn K (.ref CBadFigures) = some (.type "type"))
    (kcEBadFigures : PySem.W.keepIn K (.ref CBadFigures) = true)
    (iEBadFigures : PySem.W.findIn K (.ref CBadFigures) "__init__" = some (some (.ref fIBadFigures)))
    (tiEBadFigures : PySem.W.typeIn K (.ref fIBadFigures) = some (.type "function"))
    (lIBadFigures : K.lookup fIBadFigures = some ⟨ocIBadFigures, odIBadFigures, .func (PySem.W.fnOf "__init__" "BadFigures.__init__" (defArgs s_iBadFigures) (defBody s_iBadFigures) (defScope s_iBadFigures) .none kVIBadFigures dcIBadFigures pmIBadFigures anIBadFigures cdIBadFigures ctIBadFigures), slIBadFigures⟩)
    (cIBadFigures : PySem.W.codeIn K cdIBadFigures "BadFigures.__init__" = true)
    (kIBadFigures : PySem.W.keepIn K (.ref fIBadFigures) = true)
    (aS : PySem.W.nsIn K mainGlobals "Set" = some (some (.ref CS)))
    (mkS : PySem.W.makesIn K CS = true)
    (kcS : PySem.W.keepIn K (.ref CS) = true)
    (pgS : PySem.W.plainGet K CS Str.empty = true)
    (hdS : PySem.W.hasDictIn K CS = true)
    (poS : PySem.W.plainOver K CS = true)
    (saS : PySem.W.findIn K (.ref CS) "__setattr__" = some (some (.builtin "object.__setattr__")))
    (n1S : PySem.W.findIn K (.ref CS) "_cubes" = some none)
    (n2S : PySem.W.findIn K (.ref CS) "_turns" = some none)
    (iS : PySem.W.findIn K (.ref CS) "__init__" = some (some (.ref fS)))
    (fnS : PySem.W.isFn K (.ref fS) = true)
    (lS : K.lookup fS = some ⟨ocS, odS, .func (PySem.W.fnOf "__init__" "Set.__init__" (defArgs s_iS) (defBody s_iS) (defScope s_iS) (.ref TD) kVS dcS pmS anS cdS ctS), slS⟩)
    (cS : PySem.W.codeIn K cdS "Set.__init__" = true)
    (kS : PySem.W.keepIn K (.ref fS) = true)
    (lTD : K.lookup TD = some oTD)
    (dTD : oTD.data = .seq [Value.ref T0].toArray nTD)
    (atP1 : PySem.W.findIn K (.ref CS) "cubes" = some (some (.ref p1)))
    (geP1 : PySem.W.specialIn K (.ref p1) "__get__" = some (some (.builtin "property.__get__")))
    (taP1 : PySem.W.takesIn K (.ref p1) = some true)
    (reP1 : PySem.W.recIn K p1 "property" = some (.ref fP1 :: r1))
    (lP1 : K.lookup fP1 = some ⟨ocP1, odP1, .func (PySem.W.fnOf "cubes" "Set.cubes" (defArgs s_pc) (defBody s_pc) (defScope s_pc) .none kVP1 dcP1 pmP1 anP1 cdP1 ctP1), slP1⟩)
    (cP1 : PySem.W.codeIn K cdP1 "Set.cubes" = true)
    (kP1 : PySem.W.keepIn K (.ref fP1) = true)
    (atP2 : PySem.W.findIn K (.ref CS) "turns" = some (some (.ref p2)))
    (geP2 : PySem.W.specialIn K (.ref p2) "__get__" = some (some (.builtin "property.__get__")))
    (taP2 : PySem.W.takesIn K (.ref p2) = some true)
    (reP2 : PySem.W.recIn K p2 "property" = some (.ref fP2 :: r2))
    (lP2 : K.lookup fP2 = some ⟨ocP2, odP2, .func (PySem.W.fnOf "turns" "Set.turns" (defArgs s_pt) (defBody s_pt) (defScope s_pt) .none kVP2 dcP2 pmP2 anP2 cdP2 ctP2), slP2⟩)
    (cP2 : PySem.W.codeIn K cdP2 "Set.turns" = true)
    (kP2 : PySem.W.keepIn K (.ref fP2) = true)
    (a_lbelow : PySem.W.nsIn K mainGlobals "_law_below" = some (some (.ref f_lbelow)))
    (l_lbelow : K.lookup f_lbelow = some ⟨oc_lbelow, od_lbelow, .func (PySem.W.fnOf "_law_below" "_law_below" (defArgs s_lbelow) (defBody s_lbelow) (defScope s_lbelow) .none kV_lbelow dc_lbelow pm_lbelow an_lbelow cd_lbelow ct_lbelow), sl_lbelow⟩)
    (c_lbelow : PySem.W.codeIn K cd_lbelow "_law_below" = true)
    (k_lbelow : PySem.W.keepIn K (.ref f_lbelow) = true)
    (a_lrandom : PySem.W.nsIn K mainGlobals "_law_random" = some (some (.ref f_lrandom)))
    (l_lrandom : K.lookup f_lrandom = some ⟨oc_lrandom, od_lrandom, .func (PySem.W.fnOf "_law_random" "_law_random" (defArgs s_lrandom) (defBody s_lrandom) (defScope s_lrandom) .none kV_lrandom dc_lrandom pm_lrandom an_lrandom cd_lrandom ct_lrandom), sl_lrandom⟩)
    (c_lrandom : PySem.W.codeIn K cd_lrandom "_law_random" = true)
    (k_lrandom : PySem.W.keepIn K (.ref f_lrandom) = true)
    (a_is_integer : PySem.W.nsIn K mainGlobals "is_integer" = some (some (.ref f_is_integer)))
    (l_is_integer : K.lookup f_is_integer = some ⟨oc_is_integer, od_is_integer, .func (PySem.W.fnOf "is_integer" "is_integer" (defArgs s_is_integer) (defBody s_is_integer) (defScope s_is_integer) .none kV_is_integer dc_is_integer pm_is_integer an_is_integer cd_is_integer ct_is_integer), sl_is_integer⟩)
    (c_is_integer : PySem.W.codeIn K cd_is_integer "is_integer" = true)
    (k_is_integer : PySem.W.keepIn K (.ref f_is_integer) = true)
    (a_is_within : PySem.W.nsIn K mainGlobals "is_within" = some (some (.ref f_is_within)))
    (l_is_within : K.lookup f_is_within = some ⟨oc_is_within, od_is_within, .func (PySem.W.fnOf "is_within" "is_within" (defArgs s_is_within) (defBody s_is_within) (defScope s_is_within) .none kV_is_within dc_is_within pm_is_within an_is_within cd_is_within ct_is_within), sl_is_within⟩)
    (c_is_within : PySem.W.codeIn K cd_is_within "is_within" = true)
    (k_is_within : PySem.W.keepIn K (.ref f_is_within) = true)
    (a_is_figure : PySem.W.nsIn K mainGlobals "is_figure" = some (some (.ref f_is_figure)))
    (l_is_figure : K.lookup f_is_figure = some ⟨oc_is_figure, od_is_figure, .func (PySem.W.fnOf "is_figure" "is_figure" (defArgs s_is_figure) (defBody s_is_figure) (defScope s_is_figure) .none kV_is_figure dc_is_figure pm_is_figure an_is_figure cd_is_figure ct_is_figure), sl_is_figure⟩)
    (c_is_figure : PySem.W.codeIn K cd_is_figure "is_figure" = true)
    (k_is_figure : PySem.W.keepIn K (.ref f_is_figure) = true)
    (a_ascends : PySem.W.nsIn K mainGlobals "ascends" = some (some (.ref f_ascends)))
    (l_ascends : K.lookup f_ascends = some ⟨oc_ascends, od_ascends, .func (PySem.W.fnOf "ascends" "ascends" (defArgs s_ascends) (defBody s_ascends) (defScope s_ascends) .none kV_ascends dc_ascends pm_ascends an_ascends cd_ascends ct_ascends), sl_ascends⟩)
    (c_ascends : PySem.W.codeIn K cd_ascends "ascends" = true)
    (k_ascends : PySem.W.keepIn K (.ref f_ascends) = true)
    (a_is_cube : PySem.W.nsIn K mainGlobals "is_cube" = some (some (.ref f_is_cube)))
    (l_is_cube : K.lookup f_is_cube = some ⟨oc_is_cube, od_is_cube, .func (PySem.W.fnOf "is_cube" "is_cube" (defArgs s_is_cube) (defBody s_is_cube) (defScope s_is_cube) .none kV_is_cube dc_is_cube pm_is_cube an_is_cube cd_is_cube ct_is_cube), sl_is_cube⟩)
    (c_is_cube : PySem.W.codeIn K cd_is_cube "is_cube" = true)
    (k_is_cube : PySem.W.keepIn K (.ref f_is_cube) = true)
    (a_is_turns : PySem.W.nsIn K mainGlobals "is_turns" = some (some (.ref f_is_turns)))
    (l_is_turns : K.lookup f_is_turns = some ⟨oc_is_turns, od_is_turns, .func (PySem.W.fnOf "is_turns" "is_turns" (defArgs s_is_turns) (defBody s_is_turns) (defScope s_is_turns) .none kV_is_turns dc_is_turns pm_is_turns an_is_turns cd_is_turns ct_is_turns), sl_is_turns⟩)
    (c_is_turns : PySem.W.codeIn K cd_is_turns "is_turns" = true)
    (k_is_turns : PySem.W.keepIn K (.ref f_is_turns) = true)
    (a_is_number : PySem.W.nsIn K mainGlobals "is_number" = some (some (.ref f_is_number)))
    (l_is_number : K.lookup f_is_number = some ⟨oc_is_number, od_is_number, .func (PySem.W.fnOf "is_number" "is_number" (defArgs s_is_number) (defBody s_is_number) (defScope s_is_number) .none kV_is_number dc_is_number pm_is_number an_is_number cd_is_number ct_is_number), sl_is_number⟩)
    (c_is_number : PySem.W.codeIn K cd_is_number "is_number" = true)
    (k_is_number : PySem.W.keepIn K (.ref f_is_number) = true)
    (a_check_cubes : PySem.W.nsIn K mainGlobals "check_cubes" = some (some (.ref f_check_cubes)))
    (l_check_cubes : K.lookup f_check_cubes = some ⟨oc_check_cubes, od_check_cubes, .func (PySem.W.fnOf "check_cubes" "check_cubes" (defArgs s_check_cubes) (defBody s_check_cubes) (defScope s_check_cubes) .none kV_check_cubes dc_check_cubes pm_check_cubes an_check_cubes cd_check_cubes ct_check_cubes), sl_check_cubes⟩)
    (c_check_cubes : PySem.W.codeIn K cd_check_cubes "check_cubes" = true)
    (k_check_cubes : PySem.W.keepIn K (.ref f_check_cubes) = true)
    (a_check_turns : PySem.W.nsIn K mainGlobals "check_turns" = some (some (.ref f_check_turns)))
    (l_check_turns : K.lookup f_check_turns = some ⟨oc_check_turns, od_check_turns, .func (PySem.W.fnOf "check_turns" "check_turns" (defArgs s_check_turns) (defBody s_check_turns) (defScope s_check_turns) .none kV_check_turns dc_check_turns pm_check_turns an_check_turns cd_check_turns ct_check_turns), sl_check_turns⟩)
    (c_check_turns : PySem.W.codeIn K cd_check_turns "check_turns" = true)
    (k_check_turns : PySem.W.keepIn K (.ref f_check_turns) = true)
    (a_check_number : PySem.W.nsIn K mainGlobals "check_number" = some (some (.ref f_check_number)))
    (l_check_number : K.lookup f_check_number = some ⟨oc_check_number, od_check_number, .func (PySem.W.fnOf "check_number" "check_number" (defArgs s_check_number) (defBody s_check_number) (defScope s_check_number) .none kV_check_number dc_check_number pm_check_number an_check_number cd_check_number ct_check_number), sl_check_number⟩)
    (c_check_number : PySem.W.codeIn K cd_check_number "check_number" = true)
    (k_check_number : PySem.W.keepIn K (.ref f_check_number) = true)
    (a_faces_for : PySem.W.nsIn K mainGlobals "faces_for" = some (some (.ref f_faces_for)))
    (l_faces_for : K.lookup f_faces_for = some ⟨oc_faces_for, od_faces_for, .func (PySem.W.fnOf "faces_for" "faces_for" (defArgs s_faces_for) (defBody s_faces_for) (defScope s_faces_for) .none kV_faces_for dc_faces_for pm_faces_for an_faces_for cd_faces_for ct_faces_for), sl_faces_for⟩)
    (c_faces_for : PySem.W.codeIn K cd_faces_for "faces_for" = true)
    (k_faces_for : PySem.W.keepIn K (.ref f_faces_for) = true)
    (a_cubes_with : PySem.W.nsIn K mainGlobals "cubes_with" = some (some (.ref f_cubes_with)))
    (l_cubes_with : K.lookup f_cubes_with = some ⟨oc_cubes_with, od_cubes_with, .func (PySem.W.fnOf "cubes_with" "cubes_with" (defArgs s_cubes_with) (defBody s_cubes_with) (defScope s_cubes_with) .none kV_cubes_with dc_cubes_with pm_cubes_with an_cubes_with cd_cubes_with ct_cubes_with), sl_cubes_with⟩)
    (c_cubes_with : PySem.W.codeIn K cd_cubes_with "cubes_with" = true)
    (k_cubes_with : PySem.W.keepIn K (.ref f_cubes_with) = true)
    (a_cubes_by_place : PySem.W.nsIn K mainGlobals "cubes_by_place" = some (some (.ref f_cubes_by_place)))
    (l_cubes_by_place : K.lookup f_cubes_by_place = some ⟨oc_cubes_by_place, od_cubes_by_place, .func (PySem.W.fnOf "cubes_by_place" "cubes_by_place" (defArgs s_cubes_by_place) (defBody s_cubes_by_place) (defScope s_cubes_by_place) .none kV_cubes_by_place dc_cubes_by_place pm_cubes_by_place an_cubes_by_place cd_cubes_by_place ct_cubes_by_place), sl_cubes_by_place⟩)
    (c_cubes_by_place : PySem.W.codeIn K cd_cubes_by_place "cubes_by_place" = true)
    (k_cubes_by_place : PySem.W.keepIn K (.ref f_cubes_by_place) = true)
    (a_all_ways : PySem.W.nsIn K mainGlobals "all_ways" = some (some (.ref f_all_ways)))
    (l_all_ways : K.lookup f_all_ways = some ⟨oc_all_ways, od_all_ways, .func (PySem.W.fnOf "all_ways" "all_ways" (defArgs s_all_ways) (defBody s_all_ways) (defScope s_all_ways) .none kV_all_ways dc_all_ways pm_all_ways an_all_ways cd_all_ways ct_all_ways), sl_all_ways⟩)
    (c_all_ways : PySem.W.codeIn K cd_all_ways "all_ways" = true)
    (k_all_ways : PySem.W.keepIn K (.ref f_all_ways) = true)
    (a_is_way : PySem.W.nsIn K mainGlobals "is_way" = some (some (.ref f_is_way)))
    (l_is_way : K.lookup f_is_way = some ⟨oc_is_way, od_is_way, .func (PySem.W.fnOf "is_way" "is_way" (defArgs s_is_way) (defBody s_is_way) (defScope s_is_way) .none kV_is_way dc_is_way pm_is_way an_is_way cd_is_way ct_is_way), sl_is_way⟩)
    (c_is_way : PySem.W.codeIn K cd_is_way "is_way" = true)
    (k_is_way : PySem.W.keepIn K (.ref f_is_way) = true)
    (a_together : PySem.W.nsIn K mainGlobals "together" = some (some (.ref f_together)))
    (l_together : K.lookup f_together = some ⟨oc_together, od_together, .func (PySem.W.fnOf "together" "together" (defArgs s_together) (defBody s_together) (defScope s_together) .none kV_together dc_together pm_together an_together cd_together ct_together), sl_together⟩)
    (c_together : PySem.W.codeIn K cd_together "together" = true)
    (k_together : PySem.W.keepIn K (.ref f_together) = true)
    (a_how : PySem.W.nsIn K mainGlobals "how" = some (some (.ref f_how)))
    (l_how : K.lookup f_how = some ⟨oc_how, od_how, .func (PySem.W.fnOf "how" "how" (defArgs s_how) (defBody s_how) (defScope s_how) .none kV_how dc_how pm_how an_how cd_how ct_how), sl_how⟩)
    (c_how : PySem.W.codeIn K cd_how "how" = true)
    (k_how : PySem.W.keepIn K (.ref f_how) = true)
    (a_lacking : PySem.W.nsIn K mainGlobals "lacking" = some (some (.ref f_lacking)))
    (l_lacking : K.lookup f_lacking = some ⟨oc_lacking, od_lacking, .func (PySem.W.fnOf "lacking" "lacking" (defArgs s_lacking) (defBody s_lacking) (defScope s_lacking) .none kV_lacking dc_lacking pm_lacking an_lacking cd_lacking ct_lacking), sl_lacking⟩)
    (c_lacking : PySem.W.codeIn K cd_lacking "lacking" = true)
    (k_lacking : PySem.W.keepIn K (.ref f_lacking) = true)
    (a_paper : PySem.W.nsIn K mainGlobals "paper" = some (some (.ref f_paper)))
    (l_paper : K.lookup f_paper = some ⟨oc_paper, od_paper, .func (PySem.W.fnOf "paper" "paper" (defArgs s_paper) (defBody s_paper) (defScope s_paper) .none kV_paper dc_paper pm_paper an_paper cd_paper ct_paper), sl_paper⟩)
    (c_paper : PySem.W.codeIn K cd_paper "paper" = true)
    (k_paper : PySem.W.keepIn K (.ref f_paper) = true)
    (a_are_lacking : PySem.W.nsIn K mainGlobals "are_lacking" = some (some (.ref f_are_lacking)))
    (l_are_lacking : K.lookup f_are_lacking = some ⟨oc_are_lacking, od_are_lacking, .func (PySem.W.fnOf "are_lacking" "are_lacking" (defArgs s_are_lacking) (defBody s_are_lacking) (defScope s_are_lacking) .none kV_are_lacking dc_are_lacking pm_are_lacking an_are_lacking cd_are_lacking ct_are_lacking), sl_are_lacking⟩)
    (c_are_lacking : PySem.W.codeIn K cd_are_lacking "are_lacking" = true)
    (k_are_lacking : PySem.W.keepIn K (.ref f_are_lacking) = true)
    (a_right_paper : PySem.W.nsIn K mainGlobals "right_paper" = some (some (.ref f_right_paper)))
    (l_right_paper : K.lookup f_right_paper = some ⟨oc_right_paper, od_right_paper, .func (PySem.W.fnOf "right_paper" "right_paper" (defArgs s_right_paper) (defBody s_right_paper) (defScope s_right_paper) .none kV_right_paper dc_right_paper pm_right_paper an_right_paper cd_right_paper ct_right_paper), sl_right_paper⟩)
    (c_right_paper : PySem.W.codeIn K cd_right_paper "right_paper" = true)
    (k_right_paper : PySem.W.keepIn K (.ref f_right_paper) = true)
    (a_lpick : PySem.W.nsIn K mainGlobals "_law_pick" = some (some (.ref f_lpick)))
    (l_lpick : K.lookup f_lpick = some ⟨oc_lpick, od_lpick, .func (PySem.W.fnOf "_law_pick" "_law_pick" (defArgs s_lpick) (defBody s_lpick) (defScope s_lpick) .none kV_lpick dc_lpick pm_lpick an_lpick cd_lpick ct_lpick), sl_lpick⟩)
    (c_lpick : PySem.W.codeIn K cd_lpick "_law_pick" = true)
    (k_lpick : PySem.W.keepIn K (.ref f_lpick) = true)
    (a_lequal : PySem.W.nsIn K mainGlobals "_law_equal" = some (some (.ref f_lequal)))
    (l_lequal : K.lookup f_lequal = some ⟨oc_lequal, od_lequal, .func (PySem.W.fnOf "_law_equal" "_law_equal" (defArgs s_lequal) (defBody s_lequal) (defScope s_lequal) .none kV_lequal dc_lequal pm_lequal an_lequal cd_lequal ct_lequal), sl_lequal⟩)
    (c_lequal : PySem.W.codeIn K cd_lequal "_law_equal" = true)
    (k_lequal : PySem.W.keepIn K (.ref f_lequal) = true)
    (a_lturns : PySem.W.nsIn K mainGlobals "_law_turns" = some (some (.ref f_lturns)))
    (l_lturns : K.lookup f_lturns = some ⟨oc_lturns, od_lturns, .func (PySem.W.fnOf "_law_turns" "_law_turns" (defArgs s_lturns) (defBody s_lturns) (defScope s_lturns) .none kV_lturns dc_lturns pm_lturns an_lturns cd_lturns ct_lturns), sl_lturns⟩)
    (c_lturns : PySem.W.codeIn K cd_lturns "_law_turns" = true)
    (k_lturns : PySem.W.keepIn K (.ref f_lturns) = true)
    (a_lcube : PySem.W.nsIn K mainGlobals "_law_cube" = some (some (.ref f_lcube)))
    (l_lcube : K.lookup f_lcube = some ⟨oc_lcube, od_lcube, .func (PySem.W.fnOf "_law_cube" "_law_cube" (defArgs s_lcube) (defBody s_lcube) (defScope s_lcube) .none kV_lcube dc_lcube pm_lcube an_lcube cd_lcube ct_lcube), sl_lcube⟩)
    (c_lcube : PySem.W.codeIn K cd_lcube "_law_cube" = true)
    (k_lcube : PySem.W.keepIn K (.ref f_lcube) = true)
    (a_lset : PySem.W.nsIn K mainGlobals "_law_set" = some (some (.ref f_lset)))
    (l_lset : K.lookup f_lset = some ⟨oc_lset, od_lset, .func (PySem.W.fnOf "_law_set" "_law_set" (defArgs s_lset) (defBody s_lset) (defScope s_lset) .none kV_lset dc_lset pm_lset an_lset cd_lset ct_lset), sl_lset⟩)
    (c_lset : PySem.W.codeIn K cd_lset "_law_set" = true)
    (k_lset : PySem.W.keepIn K (.ref f_lset) = true)
    (a_lnumber : PySem.W.nsIn K mainGlobals "_law_number" = some (some (.ref f_lnumber)))
    (l_lnumber : K.lookup f_lnumber = some ⟨oc_lnumber, od_lnumber, .func (PySem.W.fnOf "_law_number" "_law_number" (defArgs s_lnumber) (defBody s_lnumber) (defScope s_lnumber) .none kV_lnumber dc_lnumber pm_lnumber an_lnumber cd_lnumber ct_lnumber), sl_lnumber⟩)
    (c_lnumber : PySem.W.codeIn K cd_lnumber "_law_number" = true)
    (k_lnumber : PySem.W.keepIn K (.ref f_lnumber) = true)
    (a_lhas : PySem.W.nsIn K mainGlobals "_law_has" = some (some (.ref f_lhas)))
    (l_lhas : K.lookup f_lhas = some ⟨oc_lhas, od_lhas, .func (PySem.W.fnOf "_law_has" "_law_has" (defArgs s_lhas) (defBody s_lhas) (defScope s_lhas) .none kV_lhas dc_lhas pm_lhas an_lhas cd_lhas ct_lhas), sl_lhas⟩)
    (c_lhas : PySem.W.codeIn K cd_lhas "_law_has" = true)
    (k_lhas : PySem.W.keepIn K (.ref f_lhas) = true)
    (a_lways : PySem.W.nsIn K mainGlobals "_law_ways" = some (some (.ref f_lways)))
    (l_lways : K.lookup f_lways = some ⟨oc_lways, od_lways, .func (PySem.W.fnOf "_law_ways" "_law_ways" (defArgs s_lways) (defBody s_lways) (defScope s_lways) .none kV_lways dc_lways pm_lways an_lways cd_lways ct_lways), sl_lways⟩)
    (c_lways : PySem.W.codeIn K cd_lways "_law_ways" = true)
    (k_lways : PySem.W.keepIn K (.ref f_lways) = true)
    (a_lno_number : PySem.W.nsIn K mainGlobals "_law_no_number" = some (some (.ref f_lno_number)))
    (l_lno_number : K.lookup f_lno_number = some ⟨oc_lno_number, od_lno_number, .func (PySem.W.fnOf "_law_no_number" "_law_no_number" (defArgs s_lno_number) (defBody s_lno_number) (defScope s_lno_number) .none kV_lno_number dc_lno_number pm_lno_number an_lno_number cd_lno_number ct_lno_number), sl_lno_number⟩)
    (c_lno_number : PySem.W.codeIn K cd_lno_number "_law_no_number" = true)
    (k_lno_number : PySem.W.keepIn K (.ref f_lno_number) = true)
    (a_llacks : PySem.W.nsIn K mainGlobals "_law_lacks" = some (some (.ref f_llacks)))
    (l_llacks : K.lookup f_llacks = some ⟨oc_llacks, od_llacks, .func (PySem.W.fnOf "_law_lacks" "_law_lacks" (defArgs s_llacks) (defBody s_llacks) (defScope s_llacks) .none kV_llacks dc_llacks pm_llacks an_llacks cd_llacks ct_llacks), sl_llacks⟩)
    (c_llacks : PySem.W.codeIn K cd_llacks "_law_lacks" = true)
    (k_llacks : PySem.W.keepIn K (.ref f_llacks) = true)
    (a_ltold : PySem.W.nsIn K mainGlobals "_law_told" = some (some (.ref f_ltold)))
    (l_ltold : K.lookup f_ltold = some ⟨oc_ltold, od_ltold, .func (PySem.W.fnOf "_law_told" "_law_told" (defArgs s_ltold) (defBody s_ltold) (defScope s_ltold) .none kV_ltold dc_ltold pm_ltold an_ltold cd_ltold ct_ltold), sl_ltold⟩)
    (c_ltold : PySem.W.codeIn K cd_ltold "_law_told" = true)
    (k_ltold : PySem.W.keepIn K (.ref f_ltold) = true)
    (a_law : PySem.W.nsIn K mainGlobals "law" = some (some (.ref f_law)))
    (l_law : K.lookup f_law = some ⟨oc_law, od_law, .func (PySem.W.fnOf "law" "law" (defArgs s_law) (defBody s_law) (defScope s_law) .none kV_law dc_law pm_law an_law cd_law ct_law), sl_law⟩)
    (c_law : PySem.W.codeIn K cd_law "law" = true)
    (k_law : PySem.W.keepIn K (.ref f_law) = true)
    (z_abs : PySem.W.nsIn K mainGlobals "abs" = some none)
    (z_all : PySem.W.nsIn K mainGlobals "all" = some none)
    (z_bool : PySem.W.nsIn K mainGlobals "bool" = some none)
    (z_dict : PySem.W.nsIn K mainGlobals "dict" = some none)
    (z_enumerate : PySem.W.nsIn K mainGlobals "enumerate" = some none)
    (z_int : PySem.W.nsIn K mainGlobals "int" = some none)
    (z_isinstance : PySem.W.nsIn K mainGlobals "isinstance" = some none)
    (z_len : PySem.W.nsIn K mainGlobals "len" = some none)
    (z_list : PySem.W.nsIn K mainGlobals "list" = some none)
    (z_range : PySem.W.nsIn K mainGlobals "range" = some none)
    (z_set : PySem.W.nsIn K mainGlobals "set" = some none)
    (z_sorted : PySem.W.nsIn K mainGlobals "sorted" = some none)
    (z_str : PySem.W.nsIn K mainGlobals "str" = some none)
    (z_sum : PySem.W.nsIn K mainGlobals "sum" = some none)
    (z_tuple : PySem.W.nsIn K mainGlobals "tuple" = some none)
    (z_zip : PySem.W.nsIn K mainGlobals "zip" = some none)
    (qcmb : PySem.W.nsIn K mainGlobals "combinations" = some (some (.type "itertools.combinations")))
    (qMOST_CUBES : PySem.W.nsIn K mainGlobals "MOST_CUBES" = some (some (.int 6 tkMOST_CUBES)))
    (qMOST_SIGNS : PySem.W.nsIn K mainGlobals "MOST_SIGNS" = some (some (.int 6 tkMOST_SIGNS)))
    (qSIGNS : PySem.W.nsIn K mainGlobals "SIGNS" = some (some (.str "0123456789" tkSIGNS)))
    (qWAY : PySem.W.nsIn K mainGlobals "WAY" = some (some (.str "way" tkWAY)))
    (qLACKS : PySem.W.nsIn K mainGlobals "LACKS" = some (some (.str "lacks" tkLACKS)))
    (iLn : PySem.W.findIn K (.ref CS) "__len__" = some (some (.ref fLn)))
    (fnLn : PySem.W.isFn K (.ref fLn) = true)
    (lLn : K.lookup fLn = some ⟨ocLn, odLn, .func (PySem.W.fnOf "__len__" "Set.__len__" (defArgs s_lenS) (defBody s_lenS) (defScope s_lenS) .none kVLn dcLn pmLn anLn cdLn ctLn), slLn⟩)
    (cLn : PySem.W.codeIn K cdLn "Set.__len__" = true)
    (kLn : PySem.W.keepIn K (.ref fLn) = true)
    (icBadCubes : PySem.W.isClsIn K CBadCubes = true)
    (icBadFigures : PySem.W.isClsIn K CBadFigures = true)
    (icBadTurns : PySem.W.isClsIn K CBadTurns = true)
    (su_BadCubes_BadFigures : PySem.W.subIn K (.ref CBadCubes) (.ref CBadFigures) = some false)
    (su_BadTurns_BadFigures : PySem.W.subIn K (.ref CBadTurns) (.ref CBadFigures) = some false)
    (su_BadFigures_BadFigures : PySem.W.subIn K (.ref CBadFigures) (.ref CBadFigures) = some true)
    (haS : PySem.W.findIn K (.ref CS) "__class__" = some (some (.builtin "object.__class__")))
    (hnS : PySem.W.specialIn K (.builtin "object.__class__") "__get__" = some (some (.builtin "getset_descriptor.__get__")))
    (htkS : PySem.W.takesIn K (.builtin "object.__class__") = some true)
    (hmS : PySem.W.mroIn K CS (.type "object") = some true)
    (icS : PySem.W.isClsIn K CS = true)
    (tyS : PySem.W.typeIn K (.ref CS) = some (.type "type"))
    (suNoneType : PySem.W.subIn K (.type "NoneType") (.ref CS) = some false)
    (subool : PySem.W.subIn K (.type "bool") (.ref CS) = some false)
    (suint : PySem.W.subIn K (.type "int") (.ref CS) = some false)
    (sustr : PySem.W.subIn K (.type "str") (.ref CS) = some false)
    (sulist : PySem.W.subIn K (.type "list") (.ref CS) = some false)
    (sutuple : PySem.W.subIn K (.type "tuple") (.ref CS) = some false)
    (sudict : PySem.W.subIn K (.type "dict") (.ref CS) = some false)
    : ∃ fd : FuncData, (∀ (s : Shared) (v : Value), BindsTo s fd ⟨[v], []⟩ [("_law_script", v)]) ∧ ∀ base : Heap, K.In base → base.Ns mainGlobals mg → FnOk P w K mg base (L2.CX P w) 10 fa fd ["_law_script"] (spLaw K) := by
  have e := hfa.symm.trans (PySem.W.mg_of X G a_law)
  cases e
  have BE : BaseE K mg "CubeError" := ⟨⟨CB, _, PySem.W.mg_of X G aB, rB, sB, iB⟩⟩
  have FIBadCubes := fun_mk (st := s_iBadCubes) lIBadCubes cIBadCubes kIBadCubes
  have bIBadCubes := FIBadCubes.binds (ps := ["self", "index"]) fun _ _ _ _ _ _ us hl => match us, hl with | [_, _], _ => rfl
  have OEBadCubes : OexC K CBadCubes := ⟨⟨_, _, _, _, _, _, _, _, _, _, _, _, _, _, _, xEBadCubes, vEBadCubes⟩, saEBadCubes, exEBadCubes, tyEBadCubes, kcEBadCubes⟩
  have FIBadTurns := fun_mk (st := s_iBadTurns) lIBadTurns cIBadTurns kIBadTurns
  have bIBadTurns := FIBadTurns.binds (ps := ["self"]) fun _ _ _ _ _ _ us hl => match us, hl with | [_], _ => rfl
  have OEBadTurns : OexC K CBadTurns := ⟨⟨_, _, _, _, _, _, _, _, _, _, _, _, _, _, _, xEBadTurns, vEBadTurns⟩, saEBadTurns, exEBadTurns, tyEBadTurns, kcEBadTurns⟩
  have FIBadFigures := fun_mk (st := s_iBadFigures) lIBadFigures cIBadFigures kIBadFigures
  have bIBadFigures := FIBadFigures.binds (ps := ["self"]) fun _ _ _ _ _ _ us hl => match us, hl with | [_], _ => rfl
  have OEBadFigures : OexC K CBadFigures := ⟨⟨_, _, _, _, _, _, _, _, _, _, _, _, _, _, _, xEBadFigures, vEBadFigures⟩, saEBadFigures, exEBadFigures, tyEBadFigures, kcEBadFigures⟩
  have FS : FunD K "__init__" "Set.__init__" (defArgs s_iS) (defBody s_iS) (defScope s_iS) [.ref T0] [] fS (PySem.W.fnOf "__init__" "Set.__init__" (defArgs s_iS) (defBody s_iS) (defScope s_iS) (.ref TD) kVS dcS pmS anS cdS ctS) := ⟨⟨_, _, _, _, _, _, _, _, _, _, rfl, lS, cS, .inr ⟨by simp, TD, oTD, [.ref T0], nTD, rfl, lTD, dTD, .cons rfl .nil⟩, .inl rfl⟩, kS⟩
  have bS : ∃ ds, Vals ([V.ref T0].drop 1 ++ []) ds ∧ L2.Binds K (PySem.W.fnOf "__init__" "Set.__init__" (defArgs s_iS) (defBody s_iS) (defScope s_iS) (.ref TD) kVS dcS pmS anS cdS ctS) ["self", "cubes", "turns"] ds := by
    have := FunD.binds1 (ps := ["self", "cubes", "turns"]) FS 3 1 (by simp) (by rfl) (fun T kV doc pm an cdv ct us its hl hd => match us, its, hl, hd with | [_, _, _], [_], _, _ => ⟨_, rfl, rfl⟩)
    simpa using this
  have cls : Cls K CS := ⟨pgS, hdS, poS, saS⟩
  have FP1 := fun_mk (st := s_pc) lP1 cP1 kP1
  have bP1 := FP1.binds (ps := ["self"]) fun _ _ _ _ _ _ us hl => match us, hl with | [_], _ => rfl
  have FP2 := fun_mk (st := s_pt) lP2 cP2 kP2
  have bP2 := FP2.binds (ps := ["self"]) fun _ _ _ _ _ _ us hl => match us, hl with | [_], _ => rfl
  have F_lbelow := fun_mk (st := s_lbelow) l_lbelow c_lbelow k_lbelow
  have b_lbelow := F_lbelow.binds (ps := ["_law_d", "_law_size"]) fun _ _ _ _ _ _ us hl => match us, hl with | [_, _], _ => rfl
  have F_lrandom := fun_mk (st := s_lrandom) l_lrandom c_lrandom k_lrandom
  have b_lrandom := F_lrandom.binds (ps := ["_law_script", "_law_salt"]) fun _ _ _ _ _ _ us hl => match us, hl with | [_, _], _ => rfl
  have F_is_integer := fun_mk (st := s_is_integer) l_is_integer c_is_integer k_is_integer
  have b_is_integer := F_is_integer.binds (ps := ["value"]) fun _ _ _ _ _ _ us hl => match us, hl with | [_], _ => rfl
  have F_is_within := fun_mk (st := s_is_within) l_is_within c_is_within k_is_within
  have b_is_within := F_is_within.binds (ps := ["value", "low", "high"]) fun _ _ _ _ _ _ us hl => match us, hl with | [_, _, _], _ => rfl
  have F_is_figure := fun_mk (st := s_is_figure) l_is_figure c_is_figure k_is_figure
  have b_is_figure := F_is_figure.binds (ps := ["value"]) fun _ _ _ _ _ _ us hl => match us, hl with | [_], _ => rfl
  have F_ascends := fun_mk (st := s_ascends) l_ascends c_ascends k_ascends
  have b_ascends := F_ascends.binds (ps := ["values"]) fun _ _ _ _ _ _ us hl => match us, hl with | [_], _ => rfl
  have F_is_cube := fun_mk (st := s_is_cube) l_is_cube c_is_cube k_is_cube
  have b_is_cube := F_is_cube.binds (ps := ["value"]) fun _ _ _ _ _ _ us hl => match us, hl with | [_], _ => rfl
  have F_is_turns := fun_mk (st := s_is_turns) l_is_turns c_is_turns k_is_turns
  have b_is_turns := F_is_turns.binds (ps := ["value"]) fun _ _ _ _ _ _ us hl => match us, hl with | [_], _ => rfl
  have F_is_number := fun_mk (st := s_is_number) l_is_number c_is_number k_is_number
  have b_is_number := F_is_number.binds (ps := ["value"]) fun _ _ _ _ _ _ us hl => match us, hl with | [_], _ => rfl
  have F_check_cubes := fun_mk (st := s_check_cubes) l_check_cubes c_check_cubes k_check_cubes
  have b_check_cubes := F_check_cubes.binds (ps := ["value"]) fun _ _ _ _ _ _ us hl => match us, hl with | [_], _ => rfl
  have F_check_turns := fun_mk (st := s_check_turns) l_check_turns c_check_turns k_check_turns
  have b_check_turns := F_check_turns.binds (ps := ["value"]) fun _ _ _ _ _ _ us hl => match us, hl with | [_], _ => rfl
  have F_check_number := fun_mk (st := s_check_number) l_check_number c_check_number k_check_number
  have b_check_number := F_check_number.binds (ps := ["value"]) fun _ _ _ _ _ _ us hl => match us, hl with | [_], _ => rfl
  have F_faces_for := fun_mk (st := s_faces_for) l_faces_for c_faces_for k_faces_for
  have b_faces_for := F_faces_for.binds (ps := ["figure", "turns"]) fun _ _ _ _ _ _ us hl => match us, hl with | [_, _], _ => rfl
  have F_cubes_with := fun_mk (st := s_cubes_with) l_cubes_with c_cubes_with k_cubes_with
  have b_cubes_with := F_cubes_with.binds (ps := ["cubes", "figure", "turns"]) fun _ _ _ _ _ _ us hl => match us, hl with | [_, _, _], _ => rfl
  have F_cubes_by_place := fun_mk (st := s_cubes_by_place) l_cubes_by_place c_cubes_by_place k_cubes_by_place
  have b_cubes_by_place := F_cubes_by_place.binds (ps := ["cubes", "turns", "number"]) fun _ _ _ _ _ _ us hl => match us, hl with | [_, _, _], _ => rfl
  have F_all_ways := fun_mk (st := s_all_ways) l_all_ways c_all_ways k_all_ways
  have b_all_ways := F_all_ways.binds (ps := ["group", "number"]) fun _ _ _ _ _ _ us hl => match us, hl with | [_, _], _ => rfl
  have F_is_way := fun_mk (st := s_is_way) l_is_way c_is_way k_is_way
  have b_is_way := F_is_way.binds (ps := ["group", "number", "value"]) fun _ _ _ _ _ _ us hl => match us, hl with | [_, _, _], _ => rfl
  have F_together := fun_mk (st := s_together) l_together c_together k_together
  have b_together := F_together.binds (ps := ["cubes", "places"]) fun _ _ _ _ _ _ us hl => match us, hl with | [_, _], _ => rfl
  have F_how := fun_mk (st := s_how) l_how c_how k_how
  have b_how := F_how.binds (ps := ["group", "number"]) fun _ _ _ _ _ _ us hl => match us, hl with | [_, _], _ => rfl
  have F_lacking := fun_mk (st := s_lacking) l_lacking c_lacking k_lacking
  have b_lacking := F_lacking.binds (ps := ["group", "number"]) fun _ _ _ _ _ _ us hl => match us, hl with | [_, _], _ => rfl
  have F_paper := fun_mk (st := s_paper) l_paper c_paper k_paper
  have b_paper := F_paper.binds (ps := ["group", "number"]) fun _ _ _ _ _ _ us hl => match us, hl with | [_, _], _ => rfl
  have F_are_lacking := fun_mk (st := s_are_lacking) l_are_lacking c_are_lacking k_are_lacking
  have b_are_lacking := F_are_lacking.binds (ps := ["group", "number", "value"]) fun _ _ _ _ _ _ us hl => match us, hl with | [_, _, _], _ => rfl
  have F_right_paper := fun_mk (st := s_right_paper) l_right_paper c_right_paper k_right_paper
  have b_right_paper := F_right_paper.binds (ps := ["group", "number", "value"]) fun _ _ _ _ _ _ us hl => match us, hl with | [_, _, _], _ => rfl
  have F_lpick := fun_mk (st := s_lpick) l_lpick c_lpick k_lpick
  have b_lpick := F_lpick.binds (ps := ["_law_d", "_law_items"]) fun _ _ _ _ _ _ us hl => match us, hl with | [_, _], _ => rfl
  have F_lequal := fun_mk (st := s_lequal) l_lequal c_lequal k_lequal
  have b_lequal := F_lequal.binds (ps := ["_law_actual", "_law_expected"]) fun _ _ _ _ _ _ us hl => match us, hl with | [_, _], _ => rfl
  have F_lturns := fun_mk (st := s_lturns) l_lturns c_lturns k_lturns
  have b_lturns := F_lturns.binds (ps := ["_law_d"]) fun _ _ _ _ _ _ us hl => match us, hl with | [_], _ => rfl
  have F_lcube := fun_mk (st := s_lcube) l_lcube c_lcube k_lcube
  have b_lcube := F_lcube.binds (ps := ["_law_d", "_law_figures_so"]) fun _ _ _ _ _ _ us hl => match us, hl with | [_, _], _ => rfl
  have F_lset := fun_mk (st := s_lset) l_lset c_lset k_lset
  have b_lset := F_lset.binds (ps := ["_law_d", "_law_most"]) fun _ _ _ _ _ _ us hl => match us, hl with | [_, _], _ => rfl
  have F_lnumber := fun_mk (st := s_lnumber) l_lnumber c_lnumber k_lnumber
  have b_lnumber := F_lnumber.binds (ps := ["_law_d", "_law_most"]) fun _ _ _ _ _ _ us hl => match us, hl with | [_, _], _ => rfl
  have F_lhas := fun_mk (st := s_lhas) l_lhas c_lhas k_lhas
  have b_lhas := F_lhas.binds (ps := ["_law_cube_here", "_law_turns_so", "_law_sign"]) fun _ _ _ _ _ _ us hl => match us, hl with | [_, _, _], _ => rfl
  have F_lways := fun_mk (st := s_lways) l_lways c_lways k_lways
  have b_lways := F_lways.binds (ps := ["_law_group", "_law_number_here"]) fun _ _ _ _ _ _ us hl => match us, hl with | [_, _], _ => rfl
  have F_lno_number := fun_mk (st := s_lno_number) l_lno_number c_lno_number k_lno_number
  have b_lno_number := F_lno_number.binds (ps := ["_law_d"]) fun _ _ _ _ _ _ us hl => match us, hl with | [_], _ => rfl
  have F_llacks := fun_mk (st := s_llacks) l_llacks c_llacks k_llacks
  have b_llacks := F_llacks.binds (ps := ["_law_group", "_law_number_here", "_law_places"]) fun _ _ _ _ _ _ us hl => match us, hl with | [_, _, _], _ => rfl
  have F_ltold := fun_mk (st := s_ltold) l_ltold c_ltold k_ltold
  have b_ltold := F_ltold.binds (ps := ["_law_name", "_law_group", "_law_value"]) fun _ _ _ _ _ _ us hl => match us, hl with | [_, _, _], _ => rfl
  have F_law := fun_mk (st := s_law) l_law c_law k_law
  have b_law := F_law.binds (ps := ["_law_script"]) fun _ _ _ _ _ _ us hl => match us, hl with | [_], _ => rfl
  refine ⟨PySem.W.fnOf "law" "law" (defArgs s_law) (defBody s_law) (defScope s_law) .none kV_law dc_law pm_law an_law cd_law ct_law, fun s v => .of_eq rfl, fun base _ _ => ?_⟩
  have Tx0 : Txt K mg P w base := ⟨PySem.W.mg_none_of X G z_abs, PySem.W.mg_none_of X G z_all, PySem.W.mg_none_of X G z_bool, PySem.W.mg_none_of X G z_dict, PySem.W.mg_none_of X G z_enumerate, PySem.W.mg_none_of X G z_int, PySem.W.mg_none_of X G z_isinstance, PySem.W.mg_none_of X G z_len, PySem.W.mg_none_of X G z_list, PySem.W.mg_none_of X G z_range, PySem.W.mg_none_of X G z_set, PySem.W.mg_none_of X G z_sorted, PySem.W.mg_none_of X G z_str, PySem.W.mg_none_of X G z_sum, PySem.W.mg_none_of X G z_tuple, PySem.W.mg_none_of X G z_zip, PySem.W.mg_of X G qcmb, ⟨_, PySem.W.mg_of X G qMOST_CUBES⟩, ⟨_, PySem.W.mg_of X G qMOST_SIGNS⟩, ⟨_, PySem.W.mg_of X G qSIGNS⟩, ⟨_, PySem.W.mg_of X G qWAY⟩, ⟨_, PySem.W.mg_of X G qLACKS⟩⟩
  have OS : OwnC K CS := ⟨cls, haS, hnS, htkS, hmS, kit_self, (fun t ht => by simp only [kindsD, List.mem_cons, List.not_mem_nil, or_false] at ht; rcases ht with rfl | rfl | rfl | rfl | rfl | rfl | rfl <;> exact kit_not icS tyS (by assumption)), (fun t ht => by simp only [kindsD, List.mem_cons, List.not_mem_nil, or_false] at ht; rcases ht with rfl | rfl | rfl | rfl | rfl | rfl | rfl <;> assumption)⟩
  have T : TxtS K mg P w base CS CBadCubes CBadTurns CBadFigures := { Tx0 with p_cubes := ⟨cls, p1, fP1, _, ⟨atP1, geP1, taP1, _, reP1⟩, bP1, fn_getter lP1 cP1 sc_pc rfl rfl cls n1S⟩, p_turns := ⟨cls, p2, fP2, _, ⟨atP2, geP2, taP2, _, reP2⟩, bP2, fn_getter lP2 cP2 sc_pt rfl rfl cls n2S⟩, x_BadCubes_BadFigures := exm_of icBadFigures tyEBadFigures exEBadFigures su_BadCubes_BadFigures, x_BadTurns_BadFigures := exm_of icBadFigures tyEBadFigures exEBadFigures su_BadTurns_BadFigures, x_BadFigures_BadFigures := exm_of icBadFigures tyEBadFigures exEBadFigures su_BadFigures_BadFigures, o_Set := OS, m_Set := PySem.W.mg_of X G aS, n__cubes := n1S, n__turns := n2S }
  have FLn := fun_mk (st := s_lenS) lLn cLn kLn
  have bLn := FLn.binds (ps := ["self"]) fun _ _ _ _ _ _ us hl => match us, hl with | [_], _ => rfl
  have x_BadCubes : Err P w K mg base "BadCubes" CBadCubes (some "index") := ⟨OEBadCubes, PySem.W.mg_of X G aEBadCubes, ⟨fIBadCubes, _, _, iEBadCubes, tiEBadCubes, bIBadCubes, ok_iBadCubes FIBadCubes BE OEBadCubes nEBadCubes⟩⟩
  have x_BadTurns : Err P w K mg base "BadTurns" CBadTurns none := ⟨OEBadTurns, PySem.W.mg_of X G aEBadTurns, ⟨fIBadTurns, _, _, iEBadTurns, tiEBadTurns, bIBadTurns, ok_iBadTurns FIBadTurns BE OEBadTurns⟩⟩
  have x_BadFigures : Err P w K mg base "BadFigures" CBadFigures none := ⟨OEBadFigures, PySem.W.mg_of X G aEBadFigures, ⟨fIBadFigures, _, _, iEBadFigures, tiEBadFigures, bIBadFigures, ok_iBadFigures FIBadFigures BE OEBadFigures⟩⟩
  have c_lbelow : Cal P w K mg base "_law_below" 1 2 gBelow := ⟨f_lbelow, _, _, ok_lbelow F_lbelow Tx0.b_len Tx0.b_int, PySem.W.mg_of X G a_lbelow, k_lbelow, b_lbelow⟩
  have c_is_integer : Cal P w K mg base "is_integer" 1 1 gInt := ⟨f_is_integer, _, _, ok_is_integer F_is_integer T , PySem.W.mg_of X G a_is_integer, k_is_integer, b_is_integer⟩
  have c_is_within : Cal P w K mg base "is_within" 2 3 gWithin := ⟨f_is_within, _, _, ok_is_within F_is_within T (c_is_integer := c_is_integer), PySem.W.mg_of X G a_is_within, k_is_within, b_is_within⟩
  have c_is_figure : Cal P w K mg base "is_figure" 3 1 gFig := ⟨f_is_figure, _, _, ok_is_figure F_is_figure T (c_is_within := c_is_within), PySem.W.mg_of X G a_is_figure, k_is_figure, b_is_figure⟩
  have c_ascends : Cal P w K mg base "ascends" 1 1 gAsc := ⟨f_ascends, _, _, ok_ascends F_ascends T , PySem.W.mg_of X G a_ascends, k_ascends, b_ascends⟩
  have c_is_cube : Cal P w K mg base "is_cube" 4 1 gCube := ⟨f_is_cube, _, _, ok_is_cube F_is_cube T (c_ascends := c_ascends) (c_is_figure := c_is_figure), PySem.W.mg_of X G a_is_cube, k_is_cube, b_is_cube⟩
  have c_is_turns : Cal P w K mg base "is_turns" 5 1 gTurns := ⟨f_is_turns, _, _, ok_is_turns F_is_turns T (c_ascends := c_ascends) (c_is_cube := c_is_cube), PySem.W.mg_of X G a_is_turns, k_is_turns, b_is_turns⟩
  have c_is_number : Cal P w K mg base "is_number" 1 1 gNum := ⟨f_is_number, _, _, ok_is_number F_is_number T , PySem.W.mg_of X G a_is_number, k_is_number, b_is_number⟩
  have c_check_cubes : Cal P w K mg base "check_cubes" 5 1 (gChkC CBadCubes) := ⟨f_check_cubes, _, _, ok_check_cubes F_check_cubes T (x_BadCubes := x_BadCubes) (c_is_cube := c_is_cube), PySem.W.mg_of X G a_check_cubes, k_check_cubes, b_check_cubes⟩
  have c_check_turns : Cal P w K mg base "check_turns" 6 1 (gChkT CBadTurns) := ⟨f_check_turns, _, _, ok_check_turns F_check_turns T (x_BadTurns := x_BadTurns) (c_is_turns := c_is_turns), PySem.W.mg_of X G a_check_turns, k_check_turns, b_check_turns⟩
  have c_check_number : Cal P w K mg base "check_number" 3 1 (gChkN CBadFigures) := ⟨f_check_number, _, _, ok_check_number F_check_number T (x_BadFigures := x_BadFigures) (c_is_number := c_is_number), PySem.W.mg_of X G a_check_number, k_check_number, b_check_number⟩
  have c_faces_for : Cal P w K mg base "faces_for" 1 2 gFor := ⟨f_faces_for, _, _, ok_faces_for F_faces_for T , PySem.W.mg_of X G a_faces_for, k_faces_for, b_faces_for⟩
  have c_cubes_with : Cal P w K mg base "cubes_with" 2 3 gWith := ⟨f_cubes_with, _, _, ok_cubes_with F_cubes_with T (c_faces_for := c_faces_for), PySem.W.mg_of X G a_cubes_with, k_cubes_with, b_cubes_with⟩
  have mkSet : Mkr P w K mg base "Set" CS 7 ["_cubes", "_turns"] [] [] (gMk CBadCubes CBadTurns) := by
    obtain ⟨ds, h1, h2⟩ := bS
    cases h1
    exact ⟨PySem.W.mg_of X G aS, ⟨fS, _, _, _, ⟨mkS, iS, fnS, kcS⟩, ok_iS FS c_check_cubes c_check_turns cls n1S n2S, h2, .nil⟩, fun _ _ _ => .nil⟩
  have c_lenS : OwnM P w K mg base CS "__len__" 1 1 (gLenS CS) := ⟨fLn, _, _, ok_lenS FLn T, iLn, fnLn, bLn⟩
  have c_cubes_by_place : Cal P w K mg base "cubes_by_place" 3 3 gPlace := ⟨f_cubes_by_place, _, _, ok_cubes_by_place F_cubes_by_place T (c_cubes_with := c_cubes_with), PySem.W.mg_of X G a_cubes_by_place, k_cubes_by_place, b_cubes_by_place⟩
  have c_all_ways : Cal P w K mg base "all_ways" 4 2 (gAll CS) := ⟨f_all_ways, _, _, ok_all_ways F_all_ways T (c_cubes_by_place := c_cubes_by_place), PySem.W.mg_of X G a_all_ways, k_all_ways, b_all_ways⟩
  have c_is_way : Cal P w K mg base "is_way" 4 3 (gIsWay CS) := ⟨f_is_way, _, _, ok_is_way F_is_way T (c_lenS := c_lenS) (c_cubes_by_place := c_cubes_by_place) (c_is_within := c_is_within), PySem.W.mg_of X G a_is_way, k_is_way, b_is_way⟩
  have c_together : Cal P w K mg base "together" 1 2 gTogether := ⟨f_together, _, _, ok_together F_together T , PySem.W.mg_of X G a_together, k_together, b_together⟩
  have c_how : Cal P w K mg base "how" 5 2 (gHow CS CBadFigures) := ⟨f_how, _, _, ok_how F_how T (c_all_ways := c_all_ways) (c_check_number := c_check_number), PySem.W.mg_of X G a_how, k_how, b_how⟩
  have c_lacking : Cal P w K mg base "lacking" 4 2 (gLacking CS CBadFigures) := ⟨f_lacking, _, _, ok_lacking F_lacking T (c_check_number := c_check_number) (c_cubes_by_place := c_cubes_by_place) (c_together := c_together), PySem.W.mg_of X G a_lacking, k_lacking, b_lacking⟩
  have c_paper : Cal P w K mg base "paper" 6 2 (gPaper CS CBadFigures) := ⟨f_paper, _, _, ok_paper F_paper T (c_how := c_how) (c_lacking := c_lacking), PySem.W.mg_of X G a_paper, k_paper, b_paper⟩
  have c_are_lacking : Cal P w K mg base "are_lacking" 4 3 (gAreLack CS) := ⟨f_are_lacking, _, _, ok_are_lacking F_are_lacking T (c_ascends := c_ascends) (c_cubes_by_place := c_cubes_by_place) (c_is_within := c_is_within) (c_together := c_together), PySem.W.mg_of X G a_are_lacking, k_are_lacking, b_are_lacking⟩
  have c_right_paper : Cal P w K mg base "right_paper" 5 3 (gRight CS CBadFigures) := ⟨f_right_paper, _, _, ok_right_paper F_right_paper T (c_are_lacking := c_are_lacking) (c_check_number := c_check_number) (c_is_way := c_is_way), PySem.W.mg_of X G a_right_paper, k_right_paper, b_right_paper⟩
  have c_lpick : Cal P w K mg base "_law_pick" 2 2 gPick := ⟨f_lpick, _, _, ok_lpick F_lpick T (c_lbelow := c_lbelow), PySem.W.mg_of X G a_lpick, k_lpick, b_lpick⟩
  have eq0 : Cal P w K mg base "_law_equal" 1 2 (gIn 0) := ⟨f_lequal, _, _, eq_no F_lequal, PySem.W.mg_of X G a_lequal, k_lequal, b_lequal⟩
  have eq1 : Cal P w K mg base "_law_equal" 2 2 (gIn 1) := ⟨f_lequal, _, _, eq_step F_lequal T eq0, PySem.W.mg_of X G a_lequal, k_lequal, b_lequal⟩
  have eq2 : Cal P w K mg base "_law_equal" 3 2 (gIn 2) := ⟨f_lequal, _, _, eq_step F_lequal T eq1, PySem.W.mg_of X G a_lequal, k_lequal, b_lequal⟩
  have eq3 : Cal P w K mg base "_law_equal" 4 2 (gIn 3) := ⟨f_lequal, _, _, eq_step F_lequal T eq2, PySem.W.mg_of X G a_lequal, k_lequal, b_lequal⟩
  have c_lequal : Cal P w K mg base "_law_equal" 5 2 (gEq 3) := ⟨f_lequal, _, _, eq_step F_lequal T eq3, PySem.W.mg_of X G a_lequal, k_lequal, b_lequal⟩
  have c_lturns : Cal P w K mg base "_law_turns" 3 1 gTurnsL := ⟨f_lturns, _, _, ok_lturns F_lturns T (c_lbelow := c_lbelow) (c_lpick := c_lpick), PySem.W.mg_of X G a_lturns, k_lturns, b_lturns⟩
  have c_lcube : Cal P w K mg base "_law_cube" 3 2 gCubeL := ⟨f_lcube, _, _, ok_lcube F_lcube T (c_lbelow := c_lbelow) (c_lpick := c_lpick), PySem.W.mg_of X G a_lcube, k_lcube, b_lcube⟩
  have c_lset : Cal P w K mg base "_law_set" 9 2 (gSetL CS) := ⟨f_lset, _, _, ok_lset F_lset T (mkSet := mkSet) (c_lbelow := c_lbelow) (c_lcube := c_lcube) (c_lpick := c_lpick) (c_lturns := c_lturns), PySem.W.mg_of X G a_lset, k_lset, b_lset⟩
  have c_lnumber : Cal P w K mg base "_law_number" 3 2 gNumL := ⟨f_lnumber, _, _, ok_lnumber F_lnumber T (c_lbelow := c_lbelow) (c_lpick := c_lpick), PySem.W.mg_of X G a_lnumber, k_lnumber, b_lnumber⟩
  have c_lhas : Cal P w K mg base "_law_has" 1 3 gHasL := ⟨f_lhas, _, _, ok_lhas F_lhas T , PySem.W.mg_of X G a_lhas, k_lhas, b_lhas⟩
  have c_lways : Cal P w K mg base "_law_ways" 3 2 (gWaysL CS) := ⟨f_lways, _, _, ok_lways F_lways T (c_lhas := c_lhas), PySem.W.mg_of X G a_lways, k_lways, b_lways⟩
  have c_lno_number : Cal P w K mg base "_law_no_number" 3 1 gNoNum := ⟨f_lno_number, _, _, ok_lno_number F_lno_number T (c_lpick := c_lpick), PySem.W.mg_of X G a_lno_number, k_lno_number, b_lno_number⟩
  have c_llacks : Cal P w K mg base "_law_lacks" 3 3 (gLacksL CS) := ⟨f_llacks, _, _, ok_llacks F_llacks T (c_lenS := c_lenS) (c_lhas := c_lhas), PySem.W.mg_of X G a_llacks, k_llacks, b_llacks⟩
  have c_ltold : Cal P w K mg base "_law_told" 7 3 (gToldP CS) := ⟨f_ltold, _, _, ok_ltold F_ltold T (x_BadFigures := x_BadFigures) (c_paper := c_paper) (c_right_paper := c_right_paper), PySem.W.mg_of X G a_ltold, k_ltold, b_ltold⟩
  exact ok_law F_law T (ok_lrandom F_lrandom Tx0.b_int Tx0.b_abs) (PySem.W.mg_of X G a_lrandom) k_lrandom b_lrandom c_lenS c_lbelow c_lequal c_llacks c_lno_number c_lnumber c_lset c_ltold c_lways c_lacking c_paper c_right_paper
end K21

open PySem PySem.W PyProof.Rows
set_option maxRecDepth 100000 in
set_option maxHeartbeats 0 in
theorem PySem.Challenge.cw_daycubes_k21_whole_papers_holds : PySem.Challenge.rw_daycubes_k21_whole_papers.Holds := by
  w_on; o_law; k_head; (case hw => w_witness2)
  k_fill
  refine L2.walk_of (l := PySem.Challenge.rw_daycubes_k21_whole_papers) (n := 63) (k := 10) (x := "_law_script") (CX := fun w => L2.CX PySem.Challenge.pw_daycubes_k21_whole_papers w) (sp := fun w => Q.spLaw _) rfl (by decide) rfl ⟨rfl, by decide, by decide⟩ (fun w h Y => by first | exact PySem.W.kIn_of Y | exact PySem.W.km_in_of Y) ?F (fun _ _ a ns hl _ hS => ⟨a, ns, rfl, hS, hl, fun _ => rfl⟩) (fun _ _ _ _ _ z => by obtain ⟨_, _, _, _, _, _, _, _, _, _, _, _, z⟩ := z; exact z.elim)
  case F =>
    intro w mg fa h KX G hmg
    refine' K21.all_mk KX G hmg ?aB ?rB ?sB ?iB ?aEBadCubes ?xEBadCubes ?vEBadCubes ?saEBadCubes ?exEBadCubes ?tyEBadCubes ?kcEBadCubes ?iEBadCubes ?tiEBadCubes ?lIBadCubes ?cIBadCubes ?kIBadCubes ?nEBadCubes ?aEBadTurns ?xEBadTurns ?vEBadTurns ?saEBadTurns ?exEBadTurns ?tyEBadTurns ?kcEBadTurns ?iEBadTurns ?tiEBadTurns ?lIBadTurns ?cIBadTurns ?kIBadTurns ?aEBadFigures ?xEBadFigures ?vEBadFigures ?saEBadFigures ?exEBadFigures ?tyEBadFigures ?kcEBadFigures ?iEBadFigures ?tiEBadFigures ?lIBadFigures ?cIBadFigures ?kIBadFigures ?aS ?mkS ?kcS ?pgS ?hdS ?poS ?saS ?n1S ?n2S ?iS ?fnS ?lS ?cS ?kS ?lTD ?dTD ?atP1 ?geP1 ?taP1 ?reP1 ?lP1 ?cP1 ?kP1 ?atP2 ?geP2 ?taP2 ?reP2 ?lP2 ?cP2 ?kP2 ?a_lbelow ?l_lbelow ?c_lbelow ?k_lbelow ?a_lrandom ?l_lrandom ?c_lrandom ?k_lrandom ?a_is_integer ?l_is_integer ?c_is_integer ?k_is_integer ?a_is_within ?l_is_within ?c_is_within ?k_is_within ?a_is_figure ?l_is_figure ?c_is_figure ?k_is_figure ?a_ascends ?l_ascends ?c_ascends ?k_ascends ?a_is_cube ?l_is_cube ?c_is_cube ?k_is_cube ?a_is_turns ?l_is_turns ?c_is_turns ?k_is_turns ?a_is_number ?l_is_number ?c_is_number ?k_is_number ?a_check_cubes ?l_check_cubes ?c_check_cubes ?k_check_cubes ?a_check_turns ?l_check_turns ?c_check_turns ?k_check_turns ?a_check_number ?l_check_number ?c_check_number ?k_check_number ?a_faces_for ?l_faces_for ?c_faces_for ?k_faces_for ?a_cubes_with ?l_cubes_with ?c_cubes_with ?k_cubes_with ?a_cubes_by_place ?l_cubes_by_place ?c_cubes_by_place ?k_cubes_by_place ?a_all_ways ?l_all_ways ?c_all_ways ?k_all_ways ?a_is_way ?l_is_way ?c_is_way ?k_is_way ?a_together ?l_together ?c_together ?k_together ?a_how ?l_how ?c_how ?k_how ?a_lacking ?l_lacking ?c_lacking ?k_lacking ?a_paper ?l_paper ?c_paper ?k_paper ?a_are_lacking ?l_are_lacking ?c_are_lacking ?k_are_lacking ?a_right_paper ?l_right_paper ?c_right_paper ?k_right_paper ?a_lpick ?l_lpick ?c_lpick ?k_lpick ?a_lequal ?l_lequal ?c_lequal ?k_lequal ?a_lturns ?l_lturns ?c_lturns ?k_lturns ?a_lcube ?l_lcube ?c_lcube ?k_lcube ?a_lset ?l_lset ?c_lset ?k_lset ?a_lnumber ?l_lnumber ?c_lnumber ?k_lnumber ?a_lhas ?l_lhas ?c_lhas ?k_lhas ?a_lways ?l_lways ?c_lways ?k_lways ?a_lno_number ?l_lno_number ?c_lno_number ?k_lno_number ?a_llacks ?l_llacks ?c_llacks ?k_llacks ?a_ltold ?l_ltold ?c_ltold ?k_ltold ?a_law ?l_law ?c_law ?k_law ?z_abs ?z_all ?z_bool ?z_dict ?z_enumerate ?z_int ?z_isinstance ?z_len ?z_list ?z_range ?z_set ?z_sorted ?z_str ?z_sum ?z_tuple ?z_zip ?qcmb ?qMOST_CUBES ?qMOST_SIGNS ?qSIGNS ?qWAY ?qLACKS ?iLn ?fnLn ?lLn ?cLn ?kLn ?icBadCubes ?icBadFigures ?icBadTurns ?su_BadCubes_BadFigures ?su_BadTurns_BadFigures ?su_BadFigures_BadFigures ?haS ?hnS ?htkS ?hmS ?icS ?tyS ?suNoneType ?subool ?suint ?sustr ?sulist ?sutuple ?sudict
    (case aB => k_is)
    (case rB => k_is)
    (case sB => k_is)
    (case iB => k_is)
    (case aEBadCubes => k_is)
    (case xEBadCubes => k_is)
    (case vEBadCubes => first | rfl | decide +kernel)
    (case saEBadCubes => k_is)
    (case exEBadCubes => k_is)
    (case tyEBadCubes => k_is)
    (case kcEBadCubes => k_is)
    (case iEBadCubes => k_is)
    (case tiEBadCubes => k_is)
    (case lIBadCubes => k_is)
    (case cIBadCubes => k_is)
    (case kIBadCubes => k_is)
    (case nEBadCubes => k_is)
    (case aEBadTurns => k_is)
    (case xEBadTurns => k_is)
    (case vEBadTurns => first | rfl | decide +kernel)
    (case saEBadTurns => k_is)
    (case exEBadTurns => k_is)
    (case tyEBadTurns => k_is)
    (case kcEBadTurns => k_is)
    (case iEBadTurns => k_is)
    (case tiEBadTurns => k_is)
    (case lIBadTurns => k_is)
    (case cIBadTurns => k_is)
    (case kIBadTurns => k_is)
    (case aEBadFigures => k_is)
    (case xEBadFigures => k_is)
    (case vEBadFigures => first | rfl | decide +kernel)
    (case saEBadFigures => k_is)
    (case exEBadFigures => k_is)
    (case tyEBadFigures => k_is)
    (case kcEBadFigures => k_is)
    (case iEBadFigures => k_is)
    (case tiEBadFigures => k_is)
    (case lIBadFigures => k_is)
    (case cIBadFigures => k_is)
    (case kIBadFigures => k_is)
    (case aS => k_is)
    (case mkS => k_is)
    (case kcS => k_is)
    (case pgS => k_is)
    (case hdS => k_is)
    (case poS => k_is)
    (case saS => k_is)
    (case n1S => k_is)
    (case n2S => k_is)
    (case iS => k_is)
    (case fnS => k_is)
    (case lS => k_is)
    (case cS => k_is)
    (case kS => k_is)
    (case lTD => k_is)
    (case dTD => first | rfl | k_is)
    (case atP1 => k_is)
    (case geP1 => k_is)
    (case taP1 => k_is)
    (case reP1 => k_is)
    (case lP1 => k_is)
    (case cP1 => k_is)
    (case kP1 => k_is)
    (case atP2 => k_is)
    (case geP2 => k_is)
    (case taP2 => k_is)
    (case reP2 => k_is)
    (case lP2 => k_is)
    (case cP2 => k_is)
    (case kP2 => k_is)
    (case a_lbelow => k_is)
    (case l_lbelow => k_is)
    (case c_lbelow => k_is)
    (case k_lbelow => k_is)
    (case a_lrandom => k_is)
    (case l_lrandom => k_is)
    (case c_lrandom => k_is)
    (case k_lrandom => k_is)
    (case a_is_integer => k_is)
    (case l_is_integer => k_is)
    (case c_is_integer => k_is)
    (case k_is_integer => k_is)
    (case a_is_within => k_is)
    (case l_is_within => k_is)
    (case c_is_within => k_is)
    (case k_is_within => k_is)
    (case a_is_figure => k_is)
    (case l_is_figure => k_is)
    (case c_is_figure => k_is)
    (case k_is_figure => k_is)
    (case a_ascends => k_is)
    (case l_ascends => k_is)
    (case c_ascends => k_is)
    (case k_ascends => k_is)
    (case a_is_cube => k_is)
    (case l_is_cube => k_is)
    (case c_is_cube => k_is)
    (case k_is_cube => k_is)
    (case a_is_turns => k_is)
    (case l_is_turns => k_is)
    (case c_is_turns => k_is)
    (case k_is_turns => k_is)
    (case a_is_number => k_is)
    (case l_is_number => k_is)
    (case c_is_number => k_is)
    (case k_is_number => k_is)
    (case a_check_cubes => k_is)
    (case l_check_cubes => k_is)
    (case c_check_cubes => k_is)
    (case k_check_cubes => k_is)
    (case a_check_turns => k_is)
    (case l_check_turns => k_is)
    (case c_check_turns => k_is)
    (case k_check_turns => k_is)
    (case a_check_number => k_is)
    (case l_check_number => k_is)
    (case c_check_number => k_is)
    (case k_check_number => k_is)
    (case a_faces_for => k_is)
    (case l_faces_for => k_is)
    (case c_faces_for => k_is)
    (case k_faces_for => k_is)
    (case a_cubes_with => k_is)
    (case l_cubes_with => k_is)
    (case c_cubes_with => k_is)
    (case k_cubes_with => k_is)
    (case a_cubes_by_place => k_is)
    (case l_cubes_by_place => k_is)
    (case c_cubes_by_place => k_is)
    (case k_cubes_by_place => k_is)
    (case a_all_ways => k_is)
    (case l_all_ways => k_is)
    (case c_all_ways => k_is)
    (case k_all_ways => k_is)
    (case a_is_way => k_is)
    (case l_is_way => k_is)
    (case c_is_way => k_is)
    (case k_is_way => k_is)
    (case a_together => k_is)
    (case l_together => k_is)
    (case c_together => k_is)
    (case k_together => k_is)
    (case a_how => k_is)
    (case l_how => k_is)
    (case c_how => k_is)
    (case k_how => k_is)
    (case a_lacking => k_is)
    (case l_lacking => k_is)
    (case c_lacking => k_is)
    (case k_lacking => k_is)
    (case a_paper => k_is)
    (case l_paper => k_is)
    (case c_paper => k_is)
    (case k_paper => k_is)
    (case a_are_lacking => k_is)
    (case l_are_lacking => k_is)
    (case c_are_lacking => k_is)
    (case k_are_lacking => k_is)
    (case a_right_paper => k_is)
    (case l_right_paper => k_is)
    (case c_right_paper => k_is)
    (case k_right_paper => k_is)
    (case a_lpick => k_is)
    (case l_lpick => k_is)
    (case c_lpick => k_is)
    (case k_lpick => k_is)
    (case a_lequal => k_is)
    (case l_lequal => k_is)
    (case c_lequal => k_is)
    (case k_lequal => k_is)
    (case a_lturns => k_is)
    (case l_lturns => k_is)
    (case c_lturns => k_is)
    (case k_lturns => k_is)
    (case a_lcube => k_is)
    (case l_lcube => k_is)
    (case c_lcube => k_is)
    (case k_lcube => k_is)
    (case a_lset => k_is)
    (case l_lset => k_is)
    (case c_lset => k_is)
    (case k_lset => k_is)
    (case a_lnumber => k_is)
    (case l_lnumber => k_is)
    (case c_lnumber => k_is)
    (case k_lnumber => k_is)
    (case a_lhas => k_is)
    (case l_lhas => k_is)
    (case c_lhas => k_is)
    (case k_lhas => k_is)
    (case a_lways => k_is)
    (case l_lways => k_is)
    (case c_lways => k_is)
    (case k_lways => k_is)
    (case a_lno_number => k_is)
    (case l_lno_number => k_is)
    (case c_lno_number => k_is)
    (case k_lno_number => k_is)
    (case a_llacks => k_is)
    (case l_llacks => k_is)
    (case c_llacks => k_is)
    (case k_llacks => k_is)
    (case a_ltold => k_is)
    (case l_ltold => k_is)
    (case c_ltold => k_is)
    (case k_ltold => k_is)
    (case a_law => k_is)
    (case l_law => k_is)
    (case c_law => k_is)
    (case k_law => k_is)
    (case z_abs => k_is)
    (case z_all => k_is)
    (case z_bool => k_is)
    (case z_dict => k_is)
    (case z_enumerate => k_is)
    (case z_int => k_is)
    (case z_isinstance => k_is)
    (case z_len => k_is)
    (case z_list => k_is)
    (case z_range => k_is)
    (case z_set => k_is)
    (case z_sorted => k_is)
    (case z_str => k_is)
    (case z_sum => k_is)
    (case z_tuple => k_is)
    (case z_zip => k_is)
    (case qcmb => k_is)
    (case qMOST_CUBES => k_is)
    (case qMOST_SIGNS => k_is)
    (case qSIGNS => k_is)
    (case qWAY => k_is)
    (case qLACKS => k_is)
    (case iLn => k_is)
    (case fnLn => k_is)
    (case lLn => k_is)
    (case cLn => k_is)
    (case kLn => k_is)
    (case icBadCubes => k_is)
    (case icBadFigures => k_is)
    (case icBadTurns => k_is)
    (case su_BadCubes_BadFigures => k_is)
    (case su_BadTurns_BadFigures => k_is)
    (case su_BadFigures_BadFigures => k_is)
    (case haS => k_is)
    (case hnS => k_is)
    (case htkS => k_is)
    (case hmS => k_is)
    (case icS => k_is)
    (case tyS => k_is)
    (case suNoneType => k_is)
    (case subool => k_is)
    (case suint => k_is)
    (case sustr => k_is)
    (case sulist => k_is)
    (case sutuple => k_is)
    (case sudict => k_is)
#print axioms PySem.Challenge.cw_daycubes_k21_whole_papers_holds

