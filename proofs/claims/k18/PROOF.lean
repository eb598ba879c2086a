import PyProof.Rows.All
import Wide.All
import OpenK.AllK
import Wide.FinOn
import HandS.ForExc
import HandS.Comp
import HandS.IsInst
import HandS.Property
import HandS.Strs
import HandS.TupSets
import HandS.SetFor
import HandS.ExcInit
import HandS.ExcField
import HandS.Flow
import HandS.Text
import HandS.Iter
import HandS.Wide
import KE.GoesEnum
import KE.GoesMore
import HandS.TupAny
import HandS.FStr
import HandS.FStrTup
import HandS.Conv
import HandS.TryMany
import HandS.ExcOwn
import HandS.TupMul
import HandS.SetBool
import HandS.WideBits
import HandS.SortKw
import PyProof.TupleOfSeq
import PyProof.CollectStr
import HandS.StrMore
import PyProof.ListStr
import KE.GoesZip
import HandS.RepeatKit
import KE.DataMinMax
import KE.SortData
import HandS.Deep
import HandS.TupLe
import HandS.ExcIs
import KE.KExcIs
import HandS.Defaults
import PySem.Challenge.RW_daycubes_k18_errors_apart
set_option Elab.async false
set_option linter.all false
set_option maxRecDepth 100000
set_option maxHeartbeats 4000000
/-! A layer of data over the hand layer: an expression's reading without the heap. -/
namespace L3
open PySem PySem.Spec PyProof.Rows L2

/-- data: values with what stands behind their addresses; rnd: the law's own source of draws -/
inductive D where
  | non | bl (b : Bool) | int (i : Int) | str (x : Str) | lst (ds : List D) | tup (ds : List D) | dic | rnd
  | obj (C : Addr) (ns : List Str) (ds : List D)
  | adr (a : Addr)
  | exc (C : Addr) (ns : List Str) (ds : List D)

/-- a source of draws: a seed and what is left of the great numbers -/
def Rnd (ns : List Int) : Prop := ∃ a b l, ns = a :: b :: l ∧ 0 ≤ a ∧ a < 2147483647 ∧ 0 ≤ b ∧ ∀ x ∈ l, 0 ≤ x
def RndOk (r : Addr) (H : Hp) : Prop := ∃ ns : List Int, H r = some (.lst (ns.map V.int)) ∧ Rnd ns ∧ ns.length ≤ 65

section
variable (K : PySem.W.Frag) (r : Addr) (A : Addr → Prop) (H : Hp)
mutual
/-- v stands for d; nothing that A bars is met -/
inductive DR : V → D → Prop
  | non : DR .non .non
  | bl (b : Bool) : DR (.bl b) (.bl b)
  | int (i : Int) : DR (.int i) (.int i)
  | str (x : Str) : DR (.str x) (.str x)
  | rnd : DR (.ref r) .rnd
  | adr (a : Addr) : DR (.ref a) (.adr a)
  | exc0 {a C : Addr} : ¬ A a → H a = some (exo a C none) → DR (.ref a) (.exc C [] [])
  | exc1 {a C dx : Addr} {f : Str} {v : V} {d : D} : ¬ A a → H a = some (exo a C (some dx)) → ¬ A dx → H dx = some (exd dx [(f, v)]) → DR v d → DR (.ref a) (.exc C [f] [d])
  | lst {a : Addr} {xs : List V} {ds : List D} : ¬ A a → H a = some (.lst xs) → xs.length ≤ sizeLine → DRs xs ds → DR (.ref a) (.lst ds)
  | tup {a : Addr} {xs : List V} {ds : List D} : ¬ A a → H a = some (.tup xs) → xs.length ≤ sizeLine → DRs xs ds → DR (.ref a) (.tup ds)
  | ktup {a : Addr} {xs : List V} {ds : List D} (o : Obj) (its : Array Value) (n : Nat) : K.lookup a = some o → o.cls = .type "tuple" → o.data = .seq its n → its.size ≤ sizeLine → Vals xs its.toList → DRs xs ds → DR (.ref a) (.tup ds)
  | dic {a : Addr} {kvs : List (Key × V)} : ¬ A a → H a = some (.dK kvs) → DR (.ref a) .dic
  | obj {a C dx : Addr} {ns : List Str} {xs : List V} {ds : List D} : ¬ A a → H a = some (.ins C dx (ns.zip xs)) → ns.length = xs.length → DRs xs ds → DR (.ref a) (.obj C ns ds)
inductive DRs : List V → List D → Prop
  | nil : DRs [] []
  | cons {v : V} {vs : List V} {d : D} {ds : List D} : DR v d → DRs vs ds → DRs (v :: vs) (d :: ds)
end
end
/-- all but the source stands as before -/
def Ext (r : Addr) (H H' : Hp) : Prop := ∀ b o, b ≠ r → H b = some o → H' b = some o
theorem Ext.refl {r : Addr} {H : Hp} : Ext r H H := fun _ _ _ h => h
theorem Ext.trans {r : Addr} {H H1 H2 : Hp} (a : Ext r H H1) (b : Ext r H1 H2) : Ext r H H2 := fun c o n h => b c o n (a c o n h)
theorem Ext.upd {r : Addr} {H : Hp} {p : Addr} {o : HO} (n : H p = none) : Ext r H (upd H p o) := fun b u _ h => by
  rw [upd_ne (ne_of_none h n)]; exact h
/-- all that A does not bar stands as before -/
def ExtA (A : Addr → Prop) (H H' : Hp) : Prop := ∀ b o, ¬ A b → H b = some o → H' b = some o
theorem Ext.toA {r : Addr} {A : Addr → Prop} {H H' : Hp} (e : Ext r H H') (ar : A r) : ExtA A H H' := fun b o n h => e b o (fun z => n (z ▸ ar)) h
theorem ExtA.refl {A : Addr → Prop} {H : Hp} : ExtA A H H := fun _ _ _ h => h
theorem ExtA.trans {A : Addr → Prop} {H H1 H2 : Hp} (a : ExtA A H H1) (b : ExtA A H1 H2) : ExtA A H H2 := fun c o n h => b c o n (a c o n h)

section
variable {K : PySem.W.Frag} {r : Addr} {A A' : Addr → Prop} {H H' : Hp}
mutual
theorem DR.ext (e : ExtA A H H') : ∀ {v : V} {d : D}, DR K r A H v d → DR K r A H' v d
  | _, _, .non => .non
  | _, _, .bl b => .bl b
  | _, _, .int b => .int b
  | _, _, .str b => .str b
  | _, _, .rnd => .rnd
  | _, _, .adr a => .adr a
  | _, _, .exc0 n h => .exc0 n (e _ _ n h)
  | _, _, .exc1 n h m k t => .exc1 n (e _ _ n h) m (e _ _ m k) (DR.ext e t)
  | _, _, .lst n h z t => .lst n (e _ _ n h) z (DRs.ext e t)
  | _, _, .tup n h z t => .tup n (e _ _ n h) z (DRs.ext e t)
  | _, _, .ktup o its n h c d z w t => .ktup o its n h c d z w (DRs.ext e t)
  | _, _, .dic n h => .dic n (e _ _ n h)
  | _, _, .obj n h l t => .obj n (e _ _ n h) l (DRs.ext e t)
theorem DRs.ext (e : ExtA A H H') : ∀ {v : List V} {d : List D}, DRs K r A H v d → DRs K r A H' v d
  | _, _, .nil => .nil
  | _, _, .cons a b => .cons (DR.ext e a) (DRs.ext e b)
end
mutual
/-- what is new may be barred too; what was barred may be let -/
theorem DR.bar (e : ∀ b o, A' b → H b = some o → A b) : ∀ {v : V} {d : D}, DR K r A H v d → DR K r A' H v d
  | _, _, .non => .non
  | _, _, .bl b => .bl b
  | _, _, .int b => .int b
  | _, _, .str b => .str b
  | _, _, .rnd => .rnd
  | _, _, .adr a => .adr a
  | _, _, .exc0 n h => .exc0 (fun q => n (e _ _ q h)) h
  | _, _, .exc1 n h m k t => .exc1 (fun q => n (e _ _ q h)) h (fun q => m (e _ _ q k)) k (DR.bar e t)
  | _, _, .lst n h z t => .lst (fun q => n (e _ _ q h)) h z (DRs.bar e t)
  | _, _, .tup n h z t => .tup (fun q => n (e _ _ q h)) h z (DRs.bar e t)
  | _, _, .ktup o its n h c d z w t => .ktup o its n h c d z w (DRs.bar e t)
  | _, _, .dic n h => .dic (fun q => n (e _ _ q h)) h
  | _, _, .obj n h l t => .obj (fun q => n (e _ _ q h)) h l (DRs.bar e t)
theorem DRs.bar (e : ∀ b o, A' b → H b = some o → A b) : ∀ {v : List V} {d : List D}, DRs K r A H v d → DRs K r A' H v d
  | _, _, .nil => .nil
  | _, _, .cons a b => .cons (DR.bar e a) (DRs.bar e b)
end
mutual
/-- what stands through a loop's turns -/
theorem DR.move (e : ExtA A H H') (w : ∀ b o, A' b → H b = some o → A b) : ∀ {v : V} {d : D}, DR K r A H v d → DR K r A' H' v d
  | _, _, .non => .non
  | _, _, .bl b => .bl b
  | _, _, .int b => .int b
  | _, _, .str b => .str b
  | _, _, .rnd => .rnd
  | _, _, .adr a => .adr a
  | _, _, .exc0 n h => .exc0 (fun q => n (w _ _ q h)) (e _ _ n h)
  | _, _, .exc1 n h m k t => .exc1 (fun q => n (w _ _ q h)) (e _ _ n h) (fun q => m (w _ _ q k)) (e _ _ m k) (DR.move e w t)
  | _, _, .lst n h z t => .lst (fun q => n (w _ _ q h)) (e _ _ n h) z (DRs.move e w t)
  | _, _, .tup n h z t => .tup (fun q => n (w _ _ q h)) (e _ _ n h) z (DRs.move e w t)
  | _, _, .ktup o its n h c d z w' t => .ktup o its n h c d z w' (DRs.move e w t)
  | _, _, .dic n h => .dic (fun q => n (w _ _ q h)) (e _ _ n h)
  | _, _, .obj n h l t => .obj (fun q => n (w _ _ q h)) (e _ _ n h) l (DRs.move e w t)
theorem DRs.move (e : ExtA A H H') (w : ∀ b o, A' b → H b = some o → A b) : ∀ {v : List V} {d : List D}, DRs K r A H v d → DRs K r A' H' v d
  | _, _, .nil => .nil
  | _, _, .cons a b => .cons (DR.move e w a) (DRs.move e w b)
end
theorem DRs.length : ∀ {v : List V} {d : List D}, DRs K r A H v d → v.length = d.length
  | _, _, .nil => rfl
  | _, _, .cons _ b => by simp [DRs.length b]
theorem DRs.get : ∀ {v : List V} {d : List D} {i : Nat} {x : D}, DRs K r A H v d → d[i]? = some x → ∃ u, v[i]? = some u ∧ DR K r A H u x
  | _, _, _, _, .nil, e => by simp at e
  | _, _, 0, _, .cons a _, e => by simp at e; subst e; exact ⟨_, rfl, a⟩
  | _, _, i + 1, _, .cons _ t, e => by
    obtain ⟨u, h1, h2⟩ := DRs.get (i := i) t (by simpa using e)
    exact ⟨u, by simpa using h1, h2⟩
theorem DRs.getV : ∀ {v : List V} {d : List D} {i : Nat} {u : V}, DRs K r A H v d → v[i]? = some u → ∃ x, d[i]? = some x ∧ DR K r A H u x
  | _, _, _, _, .nil, e => by simp at e
  | _, _, 0, _, .cons a _, e => by simp at e; subst e; exact ⟨_, rfl, a⟩
  | _, _, i + 1, _, .cons _ t, e => by
    obtain ⟨u, h1, h2⟩ := DRs.getV (i := i) t (by simpa using e)
    exact ⟨u, by simpa using h1, h2⟩
theorem DRs.append : ∀ {v w : List V} {d e : List D}, DRs K r A H v d → DRs K r A H w e → DRs K r A H (v ++ w) (d ++ e)
  | _, _, _, _, .nil, s => s
  | _, _, _, _, .cons a t, s => .cons a (DRs.append t s)
theorem DRs.ints : ∀ {v : List V} {ns : List Int}, DRs K r A H v (ns.map D.int) → v = ns.map V.int
  | _, [], .nil => rfl
  | _, _ :: _, .cons (.int _) t => by rw [List.map_cons, DRs.ints t]
theorem DRs.bls : ∀ {v : List V} {ns : List Bool}, DRs K r A H v (ns.map D.bl) → v = ns.map V.bl
  | _, [], .nil => rfl
  | _, _ :: _, .cons (.bl _) t => by rw [List.map_cons, DRs.bls t]
theorem DRs.strs : ∀ {v : List V} {ns : List Str}, DRs K r A H v (ns.map D.str) → v = ns.map V.str
  | _, [], .nil => rfl
  | _, _ :: _, .cons (.str _) t => by rw [List.map_cons, DRs.strs t]
theorem DRs.of_ints : ∀ {ns : List Int}, DRs K r A H (ns.map V.int) (ns.map D.int)
  | [] => .nil
  | _ :: _ => .cons (.int _) DRs.of_ints
theorem DRs.of_bls : ∀ {ns : List Bool}, DRs K r A H (ns.map V.bl) (ns.map D.bl)
  | [] => .nil
  | _ :: _ => .cons (.bl _) DRs.of_bls
theorem DR.sqT {v : V} {ds : List D} (h : DR K r A H v (.tup ds)) : ∃ a xs, v = .ref a ∧ SqT K H a xs ∧ xs.length ≤ sizeLine ∧ DRs K r A H xs ds := by
  cases h with
  | tup n e z t => exact ⟨_, _, rfl, SqT.of e, z, t⟩
  | ktup o its n e c d z w t =>
    refine ⟨_, _, rfl, .inr ⟨o, its, n, e, c, d, z, w⟩, ?_, t⟩
    have q := w.length
    simp only [Array.length_toList] at q
    omega
theorem DR.sqL {v : V} {ds : List D} (h : DR K r A H v (.lst ds)) : ∃ a xs, v = .ref a ∧ ¬ A a ∧ H a = some (.lst xs) ∧ xs.length ≤ sizeLine ∧ DRs K r A H xs ds := by
  cases h with
  | lst n e z t => exact ⟨_, _, rfl, n, e, z, t⟩
end

/-! ### the slots -/
inductive Sl where
  | emp | val (d : D) | own (ds : List D)
abbrev Env := List Sl

/-- the slots σ hold δ -/
structure ER (K : PySem.W.Frag) (r : Addr) (A : Addr → Prop) (σ : L2.St) (H : Hp) (δ : Env) : Prop where
  rnd : RndOk r H
  ar : A r
  all : ∀ b, A b → H b ≠ none
  len : δ.length = σ.length
  val : ∀ (i : Nat) d, δ[i]? = some (.val d) → ∃ v, σ[i]? = some (some v) ∧ DR K r A H v d
  own : ∀ (i : Nat) ds, δ[i]? = some (.own ds) → ∃ l xs, σ[i]? = some (some (.ref l)) ∧ A l ∧ l ≠ r ∧ H l = some (.lst xs) ∧ xs.length ≤ sizeLine ∧ DRs K r A H xs ds
  sep : ∀ (i j : Nat) ds es l, i ≠ j → δ[i]? = some (.own ds) → δ[j]? = some (.own es) → σ[i]? = some (some (.ref l)) → σ[j]? = some (some (.ref l)) → False
section
variable {K : PySem.W.Frag} {r : Addr} {A A' : Addr → Prop} {σ : L2.St} {H H' : Hp} {δ : Env}
theorem ER.ext (h : ER K r A σ H δ) (e : Ext r H H') (rn : RndOk r H') : ER K r A σ H' δ where
  rnd := rn
  ar := h.ar
  all := fun b hb z => by
    cases q : H b with
    | none => exact h.all b hb q
    | some o =>
      by_cases hr : b = r
      · obtain ⟨ns, e1, _⟩ := rn
        rw [hr, e1] at z; cases z
      · rw [e b o hr q] at z; cases z
  len := h.len
  val := fun i d q => by
    obtain ⟨v, e1, e2⟩ := h.val i d q
    exact ⟨v, e1, e2.ext (e.toA h.ar)⟩
  own := fun i ds q => by
    obtain ⟨l, xs, e1, e2, e3, e4, e5, e6⟩ := h.own i ds q
    exact ⟨l, xs, e1, e2, e3, e _ _ e3 e4, e5, e6.ext (e.toA h.ar)⟩
  sep := h.sep
theorem ER.free (h : ER K r A σ H δ) {p : Addr} (n : H p = none) : ¬ A p := fun q => h.all p q n
/-- a slot gets a value -/
theorem ER.set (h : ER K r A σ H δ) {i : Nat} {v : V} {d : D} (hd : DR K r A H v d) : ER K r A (σ.set i (some v)) H (δ.set i (.val d)) where
  rnd := h.rnd
  ar := h.ar
  all := h.all
  len := by rw [List.length_set, List.length_set]; exact h.len
  val := fun j e q => by
    by_cases hj : i = j
    · subst hj
      by_cases hl : i < δ.length
      · rw [List.getElem?_set_self hl] at q
        cases q
        exact ⟨v, List.getElem?_set_self (by rw [← h.len]; exact hl), hd⟩
      · rw [List.getElem?_eq_none (by rw [List.length_set]; omega)] at q; cases q
    · rw [List.getElem?_set_ne hj] at q
      rw [List.getElem?_set_ne hj]
      exact h.val j e q
  own := fun j es q => by
    by_cases hj : i = j
    · subst hj
      by_cases hl : i < δ.length
      · rw [List.getElem?_set_self hl] at q; cases q
      · rw [List.getElem?_eq_none (by rw [List.length_set]; omega)] at q; cases q
    · rw [List.getElem?_set_ne hj] at q
      rw [List.getElem?_set_ne hj]
      exact h.own j es q
  sep := fun j k es fs l hjk q1 q2 q3 q4 => by
    by_cases hj : i = j
    · subst hj
      by_cases hl : i < δ.length
      · rw [List.getElem?_set_self hl] at q1; cases q1
      · rw [List.getElem?_eq_none (by rw [List.length_set]; omega)] at q1; cases q1
    · by_cases hk : i = k
      · subst hk
        by_cases hl : i < δ.length
        · rw [List.getElem?_set_self hl] at q2; cases q2
        · rw [List.getElem?_eq_none (by rw [List.length_set]; omega)] at q2; cases q2
      · rw [List.getElem?_set_ne hj] at q1 q3
        rw [List.getElem?_set_ne hk] at q2 q4
        exact h.sep j k es fs l hjk q1 q2 q3 q4
/-- slots forgotten -/
theorem ER.weak (h : ER K r A σ H δ) {σ' : L2.St} {δ' : Env} (hl : δ'.length = σ'.length) (w : ∀ (i : Nat) x, δ'[i]? = some x → x = .emp ∨ (δ[i]? = some x ∧ σ'[i]? = σ[i]?)) : ER K r A σ' H δ' where
  rnd := h.rnd
  ar := h.ar
  all := h.all
  len := hl
  val := fun i d q => by
    rcases w i _ q with z | ⟨z1, z2⟩
    · cases z
    · rw [z2]; exact h.val i d z1
  own := fun i d q => by
    rcases w i _ q with z | ⟨z1, z2⟩
    · cases z
    · rw [z2]; exact h.own i d z1
  sep := fun i j es fs l hij q1 q2 q3 q4 => by
    rcases w i _ q1 with z | ⟨z1, z2⟩
    · cases z
    · rcases w j _ q2 with y | ⟨y1, y2⟩
      · cases y
      · exact h.sep i j es fs l hij z1 y1 (z2 ▸ q3) (y2 ▸ q4)
/-- a fresh address is barred besides -/
theorem ER.bar (h : ER K r A σ H δ) {H1 : Hp} {p : Addr} (n : H p = none) (hp : H1 p ≠ none) (e : ∀ b o, b ≠ p → H b = some o → H1 b = some o) : ER K r (fun b => A b ∨ b = p) σ H1 δ := by
  have nr : r ≠ p := fun z => h.all r h.ar (z ▸ n)
  have hA : ExtA A H H1 := fun b o _ q => e b o (ne_of_none q n) q
  have grow : ∀ {v d}, DR K r A H v d → DR K r (fun b => A b ∨ b = p) H1 v d := fun hd => by
    have := DR.bar (A' := fun b => A b ∨ b = p) (fun b o q z => by
      rcases q with q | q
      · exact q
      · rw [q, n] at z; cases z) hd
    exact this.ext (fun b o nb z => e b o (ne_of_none z n) z)
  have growS : ∀ {v d}, DRs K r A H v d → DRs K r (fun b => A b ∨ b = p) H1 v d := fun hd => by
    have := DRs.bar (A' := fun b => A b ∨ b = p) (fun b o q z => by
      rcases q with q | q
      · exact q
      · rw [q, n] at z; cases z) hd
    exact this.ext (fun b o nb z => e b o (ne_of_none z n) z)
  refine ⟨?_, .inl h.ar, fun b hb => ?_, h.len, fun i d q => ?_, fun i ds q => ?_, h.sep⟩
  · obtain ⟨ns, e1, e2⟩ := h.rnd
    exact ⟨ns, e r _ nr e1, e2⟩
  · rcases hb with hb | hb
    · intro z
      cases q : H b with
      | none => exact h.all b hb q
      | some o => rw [e b o (ne_of_none q n) q] at z; cases z
    · rw [hb]; exact hp
  · obtain ⟨v, e1, e2⟩ := h.val i d q
    exact ⟨v, e1, grow e2⟩
  · obtain ⟨l, xs, e1, e2, e3, e4, e5, e6⟩ := h.own i ds q
    exact ⟨l, xs, e1, .inl e2, e3, e l _ (ne_of_none e4 n) e4, e5, growS e6⟩
end

/-! ### exceptions -/
/-- an exception: its class, its field (if it has one) -/
structure Ex where
  cls : Addr
  fs : Option (Str × D)
def XR (K : PySem.W.Frag) (r : Addr) (A : Addr → Prop) (H : Hp) (c : Value) (d : Option Addr) (x : Ex) : Prop :=
  c = .ref x.cls ∧ match x.fs with
    | none => d = none
    | some (f, y) => ∃ dd v, d = some dd ∧ H dd = some (.xd [(f, v)]) ∧ ¬ A dd ∧ DR K r A H v y
theorem XR.bar {K : PySem.W.Frag} {r : Addr} {A A' : Addr → Prop} {H : Hp} (e : ∀ b o, A' b → H b = some o → A b) {c : Value} {d : Option Addr} {x : Ex} (h : XR K r A H c d x) : XR K r A' H c d x := by
  obtain ⟨C, fs⟩ := x
  obtain ⟨h1, h2⟩ := h
  refine ⟨h1, ?_⟩
  cases fs with
  | none => exact h2
  | some p =>
    obtain ⟨dd, v, e1, e2, e3, e4⟩ := h2
    exact ⟨dd, v, e1, e2, fun q => e3 (e _ _ q e2), e4.bar e⟩

/-! ### an expression's reading by data -/
abbrev DP := D → Prop
abbrev XP := Ex → Prop
/-- from the slots, what is wanted of the value, of an exception -/
abbrev DE := Env → DP → XP → Prop
def tE (K : PySem.W.Frag) (E : XK) (f : DE) : TE := fun σ H Q => ∃ r A δ P Z, ER K r A σ H δ ∧ f δ P Z ∧
  (∀ d v H', P d → Ext r H H' → RndOk r H' → DR K r A H' v d → Q v H') ∧
  (∀ x c dd H', Z x → Ext r H H' → RndOk r H' → XR K r A H' c dd x → E c dd H')
theorem PE.imp {X : Cx} {e : Expr} {t t' : TE} (h : PE X e t) (w : ∀ σ H Q, t' σ H Q → t σ H Q) : PE X e t' := ⟨fun pins s σ H Q I q => h.run pins s σ H Q I (w σ H Q q)⟩
theorem PT.imp {X : Cx} {e : Expr} {t t' : TT} (h : PT X e t) (w : ∀ σ H Q, t' σ H Q → t σ H Q) : PT X e t' := ⟨fun pins s σ H Q I q => h.run pins s σ H Q I (w σ H Q q)⟩
theorem PW.imp {X : Cx} {e : Expr} {t t' : TT} (h : PW X e t) (w : ∀ σ H Q, t' σ H Q → t σ H Q) : PW X e t' := ⟨fun wh pins s σ H Q I q => h.run wh pins s σ H Q I (w σ H Q q)⟩
theorem PA.imp {X : Cx} {e : List Expr} {t t' : TA} (h : PA X e t) (w : ∀ σ H Q, t' σ H Q → t σ H Q) : PA X e t' := ⟨fun pos pins s σ H Q I q => h.run pos pins s σ H Q I (w σ H Q q)⟩
theorem PS.imp {X : Cx} {e : Stmt} {t t' : TS} (h : PS X e t) (w : ∀ D σ H, t' D σ H → t D σ H) : PS X e t' := ⟨fun pins s σ H D I q => h.run pins s σ H D I (w D σ H q)⟩
theorem PSs.imp {X : Cx} {e : List Stmt} {t t' : TS} (h : PSs X e t) (w : ∀ D σ H, t' D σ H → t D σ H) : PSs X e t' := ⟨fun pins s σ H D I q => h.run pins s σ H D I (w D σ H q)⟩

/-- a test's -/
abbrev DT := Env → (Bool → Prop) → XP → Prop
def tT (K : PySem.W.Frag) (E : XK) (f : DT) : TT := fun σ H Q => ∃ r A δ P Z, ER K r A σ H δ ∧ f δ P Z ∧
  (∀ b H', P b → Ext r H H' → RndOk r H' → Q b H') ∧
  (∀ x c dd H', Z x → Ext r H H' → RndOk r H' → XR K r A H' c dd x → E c dd H')
/-- arguments' -/
abbrev DA := Env → (List D → Prop) → XP → Prop
def tA (K : PySem.W.Frag) (E : XK) (f : DA) : TA := fun σ H Q => ∃ r A δ P Z, ER K r A σ H δ ∧ f δ P Z ∧
  (∀ ds vs H', P ds → Ext r H H' → RndOk r H' → DRs K r A H' vs ds → Q vs H') ∧
  (∀ x c dd H', Z x → Ext r H H' → RndOk r H' → XR K r A H' c dd x → E c dd H')
end L3

namespace L3
open PySem PySem.Spec PyProof.Rows L2
/-- what holds of the heap besides the slots -/
structure Wd (r : Addr) (A : Addr → Prop) (H : Hp) : Prop where
  rnd : RndOk r H
  ar : A r
  all : ∀ b, A b → H b ≠ none
section
variable {K : PySem.W.Frag} {r : Addr} {A : Addr → Prop} {σ : L2.St} {H H' : Hp} {δ : Env}
theorem ER.wd (h : ER K r A σ H δ) : Wd r A H := ⟨h.rnd, h.ar, h.all⟩
theorem Wd.free (h : Wd r A H) {p : Addr} (n : H p = none) : ¬ A p := fun q => h.all p q n
theorem Wd.ext (h : Wd r A H) (e : Ext r H H') (rn : RndOk r H') : Wd r A H' := ⟨rn, h.ar, fun b hb z => by
    cases q : H b with
    | none => exact h.all b hb q
    | some o =>
      by_cases hr : b = r
      · obtain ⟨ns, e1, _⟩ := rn
        rw [hr, e1] at z; cases z
      · rw [e b o hr q] at z; cases z⟩
theorem RndOk.upd (h : RndOk r H) {p : Addr} {o : HO} (n : H p = none) : RndOk r (upd H p o) := by
  obtain ⟨ns, e1, e2⟩ := h
  exact ⟨ns, by rw [upd_ne (ne_of_none e1 n)]; exact e1, e2⟩
/-- a new tuple, a new list -/
theorem Wd.tup (h : Wd r A H) {p : Addr} {xs : List V} {ds : List D} (n : H p = none) (z : xs.length ≤ sizeLine) (hd : DRs K r A H xs ds) : DR K r A (upd H p (.tup xs)) (.ref p) (.tup ds) :=
  .tup (h.free n) upd_same z (hd.ext ((Ext.upd n).toA h.ar))
theorem Wd.lst (h : Wd r A H) {p : Addr} {xs : List V} {ds : List D} (n : H p = none) (z : xs.length ≤ sizeLine) (hd : DRs K r A H xs ds) : DR K r A (upd H p (.lst xs)) (.ref p) (.lst ds) :=
  .lst (h.free n) upd_same z (hd.ext ((Ext.upd n).toA h.ar))
end

/-! ### operations by data -/
def OpD (K : PySem.W.Frag) (rr : R2) (g : D → D → DP → Prop) : Prop := ∀ (r : Addr) (A : Addr → Prop) (H : Hp) (x y : V) (d e : D) (P : DP) (Q : VK), Wd r A H → DR K r A H x d → DR K r A H y e → g d e P →
  (∀ c v H', P c → Ext r H H' → RndOk r H' → DR K r A H' v c → Q v H') → rr x y H Q
def CallD (K : PySem.W.Frag) (rr : List V → Hp → VK → Prop) (g : List D → DP → Prop) : Prop := ∀ (r : Addr) (A : Addr → Prop) (H : Hp) (xs : List V) (ds : List D) (P : DP) (Q : VK), Wd r A H → DRs K r A H xs ds → g ds P →
  (∀ c v H', P c → Ext r H H' → RndOk r H' → DR K r A H' v c → Q v H') → rr xs H Q
section
variable {X : Cx} {E : XK} {e a b c : Expr} {es : List Expr} {fa fb fc f : DE} {pos : Pos} {i : Nat} {x : Str}
theorem e_var (hN : X.N[i]? = some x) (hv : Vis X.env.scope x) (hd : (x == ("__debug__" : Str)) = false := by decide) (hcd : (x == ("__classdict__" : Str)) = false := by decide) : PE X (.Name x pos) (tE X.K E (fun δ P _ => ∃ d, δ[i]? = some (.val d) ∧ P d)) :=
  PE.imp (pe_var hN hv hd hcd) fun σ H Q ⟨r, A, δ, P, Z, R, ⟨d, h1, h2⟩, hq, _⟩ => by
    obtain ⟨v, e1, e2⟩ := R.val i d h1
    exact ⟨v, e1, hq d v H h2 .refl R.rnd e2⟩
theorem tC_of {v : V} {d : D} (h : ∀ r A H, DR X.K r A H v d) : ∀ σ H Q, tE X.K E (fun _ P _ => P d) σ H Q → tC v σ H Q := fun σ H Q ⟨r, A, δ, P, Z, R, h2, hq, _⟩ => hq d v H h2 .refl R.rnd (h r A H)
theorem e_int {n : Int} {j} : PE X (.Constant (.int n) j pos) (tE X.K E (fun _ P _ => P (.int n))) := PE.imp pe_int (tC_of fun _ _ _ => .int n)
theorem e_bl {n : Bool} {j} : PE X (.Constant (.bool n) j pos) (tE X.K E (fun _ P _ => P (.bl n))) := PE.imp pe_bl (tC_of fun _ _ _ => .bl n)
theorem e_non {j} : PE X (.Constant .none j pos) (tE X.K E (fun _ P _ => P .non)) := PE.imp pe_non (tC_of fun _ _ _ => .non)
theorem e_str {z : Str} {j} : PE X (.Constant (.str z) j pos) (tE X.K E (fun _ P _ => P (.str z))) := PE.imp pe_str (tC_of fun _ _ _ => .str z)
theorem e_glob {u : Value} {v : V} {d : D} (hg : Gl X x) (hm : X.mg x = some u) (rv : RelV v u) (h : ∀ r A H, DR X.K r A H v d) (hd : (x == ("__debug__" : Str)) = false := by decide) : PE X (.Name x pos) (tE X.K E (fun _ P _ => P d)) := PE.imp (pe_glob hg hm rv hd) (tC_of h)

theorem e_imp (h : PE X e (tE X.K E fa)) (w : ∀ δ P Z, fb δ P Z → fa δ P Z) : PE X e (tE X.K E fb) := PE.imp h fun σ H Q ⟨r, A, δ, P, Z, R, h2, hq⟩ => ⟨r, A, δ, P, Z, R, w _ _ _ h2, hq⟩

theorem two_of {rr : R2} {g : D → D → DP → Prop} (hg : OpD X.K rr g) : ∀ σ H Q, tE X.K E (fun δ P Z => fa δ (fun d => fb δ (fun d' => g d d' P) Z) Z) σ H Q → tOp rr (tE X.K E fa) (tE X.K E fb) σ H Q :=
  fun σ H Q ⟨r, A, δ, P, Z, R, h2, hq, hz⟩ => ⟨r, A, δ, _, Z, R, h2, fun d v H1 h3 x1 n1 r1 => ⟨r, A, δ, _, Z, R.ext x1 n1, h3, fun d' v' H2 h4 x2 n2 r2 =>
    hg r A H2 v v' d d' P Q ((R.ext x1 n1).ext x2 n2).wd (r1.ext (x2.toA R.ar)) r2 h4 fun c u H3 h5 x3 n3 r3 => hq c u H3 h5 ((x1.trans x2).trans x3) n3 r3,
    fun x c dd H' q x2 => hz x c dd H' q (x1.trans x2)⟩, hz⟩
theorem e_op {op : Operator} {rr : R2} {g : D → D → DP → Prop} (ho : OpR X (binaryOp op) rr) (hg : OpD X.K rr g) (ha : PE X a (tE X.K E fa)) (hb : PE X b (tE X.K E fb)) :
    PE X (.BinOp a op b pos) (tE X.K E (fun δ P Z => fa δ (fun d => fb δ (fun d' => g d d' P) Z) Z)) := PE.imp (pe_op ho ha hb) (two_of hg)
theorem e_cmp {op : CmpOp} {rr : R2} {g : D → D → DP → Prop} (ho : OpR X (compareOp op) rr) (hg : OpD X.K rr g) (ha : PE X a (tE X.K E fa)) (hb : PE X b (tE X.K E fb)) (hm : behindInMarks op b = false) :
    PE X (.Compare a [op] [b] pos) (tE X.K E (fun δ P Z => fa δ (fun d => fb δ (fun d' => g d d' P) Z) Z)) := PE.imp (pe_cmpR ho ha hb hm) (two_of hg)
theorem test_of {t : TE} {f : DE} (h : ∀ σ H Q, tE X.K E f σ H Q → t σ H Q) : ∀ σ H Q, tT X.K E (fun δ P Z => f δ (fun d => ∃ k, d = .bl k ∧ P k) Z) σ H Q → tTest t σ H Q :=
  fun σ H Q ⟨r, A, δ, P, Z, R, h2, hq, hz⟩ => h σ H _ ⟨r, A, δ, _, Z, R, h2, fun d v H' h3 x1 n1 r1 => by
    obtain ⟨k, rfl, h4⟩ := h3
    cases r1
    exact ⟨k, rfl, hq k H' h4 x1 n1⟩, hz⟩
theorem t_cmp {op : CmpOp} {rr : R2} {g : D → D → DP → Prop} (ho : OpR X (compareOp op) rr) (hg : OpD X.K rr g) (ha : PE X a (tE X.K E fa)) (hb : PE X b (tE X.K E fb)) (hm : behindInMarks op b = false) :
    PT X (.Compare a [op] [b] pos) (tT X.K E (fun δ P Z => fa δ (fun d => fb δ (fun d' => g d d' (fun c => ∃ k, c = .bl k ∧ P k)) Z) Z)) := PT.imp (pt_cmpR ho ha hb hm) (test_of (two_of hg))
/-- a value that is a bool, as a test -/
theorem t_val (h : PE X e (tE X.K E f)) (he : ∀ whole, isTrue e X.env whole = (do let v ← whole; standAt e.pos; holding [v] (truthy v)) := by intro _; rfl) :
    PT X e (tT X.K E (fun δ P Z => f δ (fun d => ∃ k, d = .bl k ∧ P k) Z)) := PT.imp (pt_val h he) fun σ H Q ⟨r, A, δ, P, Z, R, h2, hq, hz⟩ => ⟨r, A, δ, _, Z, R, h2, fun d v H' h3 x1 n1 r1 => by
    obtain ⟨k, rfl, h4⟩ := h3
    cases r1
    exact ⟨k, rfl, hq k H' h4 x1 n1⟩, hz⟩
/-- truth of lists, tuples, ints, None, bools -/
def truD : D → (Bool → Prop) → Prop
  | .non, P => P false
  | .bl b, P => P b
  | .int i, P => P (i != 0)
  | .lst ds, P => P (!ds.isEmpty)
  | .tup ds, P => P (!ds.isEmpty)
  | _, _ => False
theorem DRs.isEmpty {K : PySem.W.Frag} {A : Addr → Prop} {H : Hp} {xs : List V} {ds : List D} (h : DRs K r A H xs ds) : xs.isEmpty = ds.isEmpty := by
  cases h <;> rfl
theorem t_truth (h : PE X e (tE X.K E f)) (he : ∀ whole, isTrue e X.env whole = (do let v ← whole; standAt e.pos; holding [v] (truthy v)) := by intro _; rfl) :
    PT X e (tT X.K E (fun δ P Z => f δ (fun d => truD d P) Z)) := PT.imp (pt_truth h he) fun σ H Q ⟨r, A, δ, P, Z, R, h2, hq, hz⟩ => ⟨r, A, δ, _, Z, R, h2, fun d v H' h3 x1 n1 r1 => by
    have fin : ∀ k, P k → Q k H' := fun k p => hq k H' p x1 n1
    cases d with
    | non => cases r1; exact ⟨_, rfl, fin _ h3⟩
    | bl b => cases r1; exact ⟨_, rfl, fin _ h3⟩
    | int i => cases r1; exact ⟨_, rfl, fin _ h3⟩
    | lst ds =>
      obtain ⟨p, xs, rfl, _, e, z, t⟩ := r1.sqL
      exact ⟨!xs.isEmpty, .inl ⟨xs, SqL.of e, rfl⟩, fin _ (by rw [t.isEmpty]; exact h3)⟩
    | tup ds =>
      obtain ⟨p, xs, rfl, e, z, t⟩ := r1.sqT
      exact ⟨!xs.isEmpty, .inr (.inl ⟨xs, e, rfl⟩), fin _ (by rw [t.isEmpty]; exact h3)⟩
    | _ => exact h3.elim, hz⟩
variable {ga gb : DT} {rest : List Expr}
theorem t_not (ha : PT X a (tT X.K E ga)) : PT X (.UnaryOp .Not a pos) (tT X.K E (fun δ P Z => ga δ (fun b => P (!b)) Z)) := PT.imp (pt_not ha) fun σ H Q ⟨r, A, δ, P, Z, R, h2, hq, hz⟩ => ⟨r, A, δ, _, Z, R, h2, fun b H' h3 => hq _ H' h3, hz⟩
theorem w_one_and (ha : PT X a (tT X.K E ga)) : PW X (.BoolOp .And [a] pos) (tT X.K E ga) := pw_and1 ha
theorem w_one_or (ha : PT X a (tT X.K E ga)) : PW X (.BoolOp .Or [a] pos) (tT X.K E ga) := pw_or1 ha
theorem w_and (ha : PT X a (tT X.K E ga)) (hb : PW X (.BoolOp .And (b :: rest) pos) (tT X.K E gb)) : PW X (.BoolOp .And (a :: b :: rest) pos) (tT X.K E (fun δ P Z => ga δ (fun k => if k = true then gb δ P Z else P false) Z)) :=
  PW.imp (pw_and ha hb) fun σ H Q ⟨r, A, δ, P, Z, R, h2, hq, hz⟩ => ⟨r, A, δ, _, Z, R, h2, fun k H' h3 x1 n1 => by
    cases k with
    | true => exact ⟨r, A, δ, P, Z, R.ext x1 n1, h3, fun b H2 h4 x2 n2 => hq b H2 h4 (x1.trans x2) n2, fun x c dd H2 q x2 => hz x c dd H2 q (x1.trans x2)⟩
    | false => exact hq false H' h3 x1 n1, hz⟩
theorem w_or (ha : PT X a (tT X.K E ga)) (hb : PW X (.BoolOp .Or (b :: rest) pos) (tT X.K E gb)) : PW X (.BoolOp .Or (a :: b :: rest) pos) (tT X.K E (fun δ P Z => ga δ (fun k => if k = true then P true else gb δ P Z) Z)) :=
  PW.imp (pw_or ha hb) fun σ H Q ⟨r, A, δ, P, Z, R, h2, hq, hz⟩ => ⟨r, A, δ, _, Z, R, h2, fun k H' h3 x1 n1 => by
    cases k with
    | false => exact ⟨r, A, δ, P, Z, R.ext x1 n1, h3, fun b H2 h4 x2 n2 => hq b H2 h4 (x1.trans x2) n2, fun x c dd H2 q x2 => hz x c dd H2 q (x1.trans x2)⟩
    | true => exact hq true H' h3 x1 n1, hz⟩
/-- and, or, not as values: all but the last True or False -/
theorem e_one {op} (h : PE X a (tE X.K E fa)) : PE X (.BoolOp op [a] pos) (tE X.K E fa) := pe_one h
theorem e_and (ha : PE X a (tE X.K E fa)) (hb : PE X (.BoolOp .And (b :: rest) pos) (tE X.K E fb)) : PE X (.BoolOp .And (a :: b :: rest) pos) (tE X.K E (fun δ P Z => fa δ (fun d => ∃ k, d = .bl k ∧ if k = true then fb δ P Z else P (.bl false)) Z)) :=
  PE.imp (pe_and ha hb) fun σ H Q ⟨r, A, δ, P, Z, R, h2, hq, hz⟩ => ⟨r, A, δ, _, Z, R, h2, fun d v H' h3 x1 n1 r1 => by
    obtain ⟨k, rfl, h3⟩ := h3
    cases r1
    refine ⟨k, rfl, ?_⟩
    cases k with
    | true => exact ⟨r, A, δ, P, Z, R.ext x1 n1, h3, fun b v H2 h4 x2 n2 => hq b v H2 h4 (x1.trans x2) n2, fun x c dd H2 q x2 => hz x c dd H2 q (x1.trans x2)⟩
    | false => exact hq _ _ H' h3 x1 n1 (.bl false), hz⟩
theorem e_or (ha : PE X a (tE X.K E fa)) (hb : PE X (.BoolOp .Or (b :: rest) pos) (tE X.K E fb)) : PE X (.BoolOp .Or (a :: b :: rest) pos) (tE X.K E (fun δ P Z => fa δ (fun d => ∃ k, d = .bl k ∧ if k = true then P (.bl true) else fb δ P Z) Z)) :=
  PE.imp (pe_or ha hb) fun σ H Q ⟨r, A, δ, P, Z, R, h2, hq, hz⟩ => ⟨r, A, δ, _, Z, R, h2, fun d v H' h3 x1 n1 r1 => by
    obtain ⟨k, rfl, h3⟩ := h3
    cases r1
    refine ⟨k, rfl, ?_⟩
    cases k with
    | false => exact ⟨r, A, δ, P, Z, R.ext x1 n1, h3, fun b v H2 h4 x2 n2 => hq b v H2 h4 (x1.trans x2) n2, fun x c dd H2 q x2 => hz x c dd H2 q (x1.trans x2)⟩
    | true => exact hq _ _ H' h3 x1 n1 (.bl true), hz⟩
theorem e_not (ha : PE X a (tE X.K E fa)) : PE X (.UnaryOp .Not a pos) (tE X.K E (fun δ P Z => fa δ (fun d => ∃ k, d = .bl k ∧ P (.bl (!k))) Z)) :=
  PE.imp (pe_not ha) fun σ H Q ⟨r, A, δ, P, Z, R, h2, hq, hz⟩ => ⟨r, A, δ, _, Z, R, h2, fun d v H' h3 x1 n1 r1 => by
    obtain ⟨k, rfl, h3⟩ := h3
    cases r1
    exact ⟨k, rfl, hq _ _ H' h3 x1 n1 (.bl _)⟩, hz⟩
theorem e_if (hc : PT X c (tT X.K E ga)) (ha : PE X a (tE X.K E fa)) (hb : PE X b (tE X.K E fb)) : PE X (.IfExp c a b pos) (tE X.K E (fun δ P Z => ga δ (fun k => if k = true then fa δ P Z else fb δ P Z) Z)) :=
  PE.imp (pe_ifExp hc ha hb) fun σ H Q ⟨r, A, δ, P, Z, R, h2, hq, hz⟩ => ⟨r, A, δ, _, Z, R, h2, fun k H' h3 x1 n1 => by
    cases k with
    | true => exact ⟨r, A, δ, P, Z, R.ext x1 n1, h3, fun b v H2 h4 x2 n2 => hq b v H2 h4 (x1.trans x2) n2, fun x c dd H2 q x2 => hz x c dd H2 q (x1.trans x2)⟩
    | false => exact ⟨r, A, δ, P, Z, R.ext x1 n1, h3, fun b v H2 h4 x2 n2 => hq b v H2 h4 (x1.trans x2) n2, fun x c dd H2 q x2 => hz x c dd H2 q (x1.trans x2)⟩, hz⟩

/-! ### arguments, displays, calls -/
variable {fs : DA}
theorem a_nil : PA X [] (tA X.K E (fun _ P _ => P [])) := PA.imp pa_nil fun σ H Q ⟨r, A, δ, P, Z, R, h2, hq, hz⟩ => hq [] [] H h2 .refl R.rnd .nil
theorem a_cons (ha : PE X e (tE X.K E fa)) (hr : PA X es (tA X.K E fs)) (hs : starEach (e :: es) X.env = (false, eval e X.env) :: starEach es X.env := by rfl) :
    PA X (e :: es) (tA X.K E (fun δ P Z => fa δ (fun d => fs δ (fun ds => P (d :: ds)) Z) Z)) := PA.imp (pa_cons ha hr hs) fun σ H Q ⟨r, A, δ, P, Z, R, h2, hq, hz⟩ => ⟨r, A, δ, _, Z, R, h2, fun d v H1 h3 x1 n1 r1 =>
      ⟨r, A, δ, _, Z, R.ext x1 n1, h3, fun ds vs H2 h4 x2 n2 r2 => hq _ _ H2 h4 (x1.trans x2) n2 (.cons (r1.ext (x2.toA R.ar)) r2), fun x c dd H2 q x2 => hz x c dd H2 q (x1.trans x2)⟩, hz⟩
theorem e_tup {x1} (h : PA X es (tA X.K E fs)) : PE X (.Tuple es x1 pos) (tE X.K E (fun δ P Z => fs δ (fun ds => ds.length ≤ sizeLine ∧ P (.tup ds)) Z)) := PE.imp (pe_tup h) fun σ H Q ⟨r, A, δ, P, Z, R, h2, hq, hz⟩ =>
  ⟨r, A, δ, _, Z, R, h2, fun ds vs H1 h3 x1 n1 r1 => ⟨by rw [r1.length]; exact h3.1, fun p np => hq _ _ _ h3.2 (x1.trans (Ext.upd np)) (n1.upd np) ((R.ext x1 n1).wd.tup np (by rw [r1.length]; exact h3.1) r1)⟩, hz⟩
theorem e_lst (h : PA X es (tA X.K E fs)) : PE X (.List es pos) (tE X.K E (fun δ P Z => fs δ (fun ds => ds.length ≤ sizeLine ∧ P (.lst ds)) Z)) := PE.imp (pe_lst h) fun σ H Q ⟨r, A, δ, P, Z, R, h2, hq, hz⟩ =>
  ⟨r, A, δ, _, Z, R, h2, fun ds vs H1 h3 x1 n1 r1 => ⟨by rw [r1.length]; exact h3.1, fun p np => hq _ _ _ h3.2 (x1.trans (Ext.upd np)) (n1.upd np) ((R.ext x1 n1).wd.lst np (by rw [r1.length]; exact h3.1) r1)⟩, hz⟩
theorem e_dic : PE X (.Dict [] [] pos) (tE X.K E (fun _ P _ => P .dic)) := PE.imp pe_dnewK fun σ H Q ⟨r, A, δ, P, Z, R, h2, hq, hz⟩ p np => hq _ _ _ h2 (Ext.upd np) (R.rnd.upd np) (.dic (R.free np) upd_same)
/-- a def's promise by data -/
abbrev DF := List D → DP → XP → Prop
def spD (K : PySem.W.Frag) (n : Nat) (f : DF) : Sp := fun vs H Q E => ∃ r A ds P Z, Wd r A H ∧ DRs K r A H vs ds ∧ ds.length = n ∧ f ds P Z ∧
  (∀ d v H', P d → Ext r H H' → RndOk r H' → DR K r A H' v d → Q v H') ∧ (∀ x c dd H', Z x → Ext r H H' → RndOk r H' → XR K r A H' c dd x → E c dd H')
theorem call_of {g : DF} {n : Nat} : ∀ σ H Q, tE X.K E (fun δ P Z => fs δ (fun ds => ds.length = n ∧ g ds P Z) Z) σ H Q → tCall (spD X.K n g) [] E (tA X.K E fs) σ H Q := fun σ H Q ⟨r, A, δ, P, Z, R, h2, hq, hz⟩ =>
  ⟨r, A, δ, _, Z, R, h2, fun ds vs H1 h3 x1 n1 r1 => by
    show spD X.K n g (vs ++ []) H1 Q E
    rw [List.append_nil]
    exact ⟨r, A, ds, P, Z, (R.ext x1 n1).wd, r1, h3.1, h3.2, fun d v H2 h4 x2 n2 r2 => hq d v H2 h4 (x1.trans x2) n2 r2, fun x c dd H2 q x2 => hz x c dd H2 q (x1.trans x2)⟩, hz⟩
/-- f(e, ..) -/
theorem e_call {CX : CXT} {k n : Nat} {fad : Addr} {fd : FuncData} {ps : List Str} {g : DF} {p : Pos} (F : FnOk X.prog X.w X.K X.mg X.base CX k fad fd ps (spD X.K n g)) (hr : Room k X.A) (hg : Gl X x) (hm : X.mg x = some (.ref fad)) (hk : PySem.W.keepIn X.K (.ref fad) = true)
    (hb : Binds X.K fd ps []) (hx : Passes CX X E) (ha : PA X (e :: es) (tA X.K E fs)) (hdb : (x == ("__debug__" : Str)) = false := by decide)
    (he : starEach (e :: es) X.env = (false, eval e X.env) :: starEach es X.env := by rfl) (hpl : (backTo pos (starEach es X.env)).any (·.1) = false := by rfl) :
    PE X (.Call (.Name x p) (e :: es) [] pos) (tE X.K E (fun δ P Z => fs δ (fun ds => ds.length = n ∧ g ds P Z) Z)) := PE.imp (pe_call F hr hg hm hk hb .nil hx ha hdb he hpl) call_of
theorem cb_of {rr : List V → Hp → VK → Prop} {g : List D → DP → Prop} (hg : CallD X.K rr g) : ∀ σ H Q, tE X.K E (fun δ P Z => fs δ (fun ds => g ds P) Z) σ H Q → tCB rr (tA X.K E fs) σ H Q := fun σ H Q ⟨r, A, δ, P, Z, R, h2, hq, hz⟩ =>
  ⟨r, A, δ, _, Z, R, h2, fun ds vs H1 h3 x1 n1 r1 => hg r A H1 vs ds P Q (R.ext x1 n1).wd r1 h3 fun d v H2 h4 x2 n2 r2 => hq d v H2 h4 (x1.trans x2) n2 r2, hz⟩
/-- a builtin, a builtin class by its name -/
theorem e_callB {id : String} {rr : List V → Hp → VK → Prop} {g : List D → DP → Prop} {p : Pos} (hc : CallR X (.builtin id) rr) (hd : CallD X.K rr g) (hg : Gl X x) (hm : X.mg x = none) (hv : bootBuiltins x = some (.builtin id)) (ha : PA X (e :: es) (tA X.K E fs))
    (hn : x ≠ "__name__" := by decide) (hdb : (x == ("__debug__" : Str)) = false := by decide) (he : starEach (e :: es) X.env = (false, eval e X.env) :: starEach es X.env := by rfl) (hpl : (backTo pos (starEach es X.env)).any (·.1) = false := by rfl) :
    PE X (.Call (.Name x p) (e :: es) [] pos) (tE X.K E (fun δ P Z => fs δ (fun ds => g ds P) Z)) := PE.imp (pe_callB hc hg hm hv ha hn hdb he hpl) (cb_of hd)
theorem e_callTy {T : String} {rr : List V → Hp → VK → Prop} {g : List D → DP → Prop} {p : Pos} (hc : CallR X (.type T) rr) (hd : CallD X.K rr g) (hg : Gl X x) (hm : X.mg x = none) (hv : bootBuiltins x = some (.type T)) (ha : PA X (e :: es) (tA X.K E fs))
    (hn : x ≠ "__name__" := by decide) (hdb : (x == ("__debug__" : Str)) = false := by decide) (he : starEach (e :: es) X.env = (false, eval e X.env) :: starEach es X.env := by rfl) (hpl : (backTo pos (starEach es X.env)).any (·.1) = false := by rfl) :
    PE X (.Call (.Name x p) (e :: es) [] pos) (tE X.K E (fun δ P Z => fs δ (fun ds => g ds P) Z)) := PE.imp (pe_callTy hc hg hm hv ha hn hdb he hpl) (cb_of hd)
end
end L3

namespace L3
open PySem PySem.Spec PyProof.Rows L2
open Sem (wp)
open AutoSeq1 (wpAny_loadPart')
/-! enumerate(t) of a tuple -/
/-- the cell that walks a tuple -/
def twC (l : Addr) : Obj := { cls := .type "tuple_iterator", data := .fields #[.ref l, .int 0 0] }
/-- the cell that counts: its walker stands at w0 -/
def cnC (w0 : Addr) : Obj := { cls := .type "enumerate", data := .fields #[.none, .bool false, .ref w0, rawInt 0, .none, .none] }
/-- both cells on a heap -/
def two (h : Heap) (l : Addr) : Heap := (h.push (twC l)).push (cnC h.objs.size)
theorem two_size (h : Heap) (l : Addr) : (h.push (twC l)).objs.size = h.objs.size + 1 := Heap.size_push ..
theorem two_new {l n : Nat} {xs : Array Value} {dc : Option Addr} {so : Array (Option Value)} :
    Meets (Builtin.«enumerate.__new__» ⟨[.type "enumerate", .ref l], []⟩) (fun _ R s => s.heap.get? l = some ⟨.type "tuple", dc, .seq xs n, so⟩ ∧ R (.ok (.ret (.ref (s.heap.push (twC l)).objs.size))) { s with heap := two s.heap l }) :=
  .of_wp fun prog w A R ⟨hp, gs, dr, tk, os⟩ ⟨at_, want⟩ => by
    have sb := sub_enumerate
    have isT : Heap.IsTuple (Shared.heap ⟨hp, gs, dr, tk, os⟩) l xs := ⟨_, at_, rfl, n, rfl⟩
    wp_walk using wpAny_loadPart' at_
    refine wpAny_stack_any fun stk => wpAny_pure ?_
    split
    rotate_left
    · wp_walk using wpAny_loadPart' at_, wpAny_pyIter_tuple isT
      exact ⟨_, rfl, want⟩
    rename_i kl _ _ _ _ _
    cases kl == Value.type "enumerate" <;> (wp_walk using wpAny_loadPart' at_, wpAny_pyIter_tuple isT; exact ⟨_, rfl, want⟩)
theorem two_cnt (h : Heap) (l : Addr) : IsEnum (two h l) (h.objs.size + 1) h.objs.size 0 .none := (two_size h l) ▸ Heap.get?_push_size (h.push (twC l)) (o := cnC h.objs.size) rfl
theorem two_call {prog : Program} {w : World} {A : Around} {E : Value → Shared → Prop} {s : Shared} {l : Addr} {xs : Array Value} {Q : Value → Shared → Prop} (isT : s.heap.IsTuple l xs)
    (go : (two s.heap l).IsTupleIter s.heap.objs.size l 0 → (∀ b o, s.heap.get? b = some o → (two s.heap l).get? b = some o) → Q (.ref (s.heap.objs.size + 1)) { s with heap := two s.heap l }) : wpAny (model prog w) A (call (.type "enumerate") [.ref l]) Q E s := by
  obtain ⟨⟨kl, dc, dat, so⟩, at_, e1, n, e2⟩ := isT
  cases (show kl = .type "tuple" from e1); cases (show dat = .seq xs n from e2)
  refine callType_new F.called_enumerate (by decide) (F.typeCall_enumerate_1 _) (F.newCall_enumerate_1 _) (fun ob => F.args_object_init_2 ob _) F.entry_enumerate_new two_new ⟨at_, ?_⟩
  rw [two_size]
  exact ⟨⟨_, two_cnt _ l, rfl⟩, go ⟨_, Heap.get?_push_of_some _ (Heap.get?_push_size _ rfl), rfl, rfl⟩ fun b o y => Heap.get?_push_of_some _ (Heap.get?_push_of_some _ y)⟩
/-- the tuple at a, each item in a new pair -/
def IteT (K : PySem.W.Frag) (a : Addr) : It :=
  ⟨fun i H => ∃ (xs : List V) (x : V), SqT K H a xs ∧ xs[i]? = some x, fun i H v H' => ∃ T x, v = .ref T ∧ H T = none ∧ H' = upd H T (.tup [.int (i : Nat), x]) ∧ ∀ xs, SqT K H a xs → xs[i]? = some x, fun i H => ∃ xs : List V, SqT K H a xs ∧ xs.length ≤ i⟩
/-- the state of such a walk behind i items -/
def StT (a e t : Addr) (i : Nat) (h : Heap) : Prop := (∃ old, IsEnum h e t ((i : Nat) : Int) old) ∧ h.IsTupleIter t a i ∧ e ≠ t ∧ a ≠ t ∧ e ≠ a
theorem two_mem {e t b : Addr} (h : b ∈ [e, t]) : b = e ∨ b = t := by simpa using h
theorem turn_enumT {P : Program} {w : World} {K : PySem.W.Frag} {elts : List Expr} {kk : Nat} {tpos : Pos} (a e t : Addr) : Turn P w K (.Tuple elts kk tpos) (IteT K a) [e, t] e (StT a e t) where
  mem := List.mem_cons_self
  obj := fun i h ⟨⟨ol, ce⟩, ⟨ob, co, k1, k2⟩, _⟩ b hb => by
    cases two_mem hb with
    | inl z => subst z; exact ⟨_, ce, fun _ y => nomatch y⟩
    | inr z => subst z; exact ⟨ob, co, fun _ y => by rw [k2] at y; cases y⟩
  keep := fun i h h' ⟨⟨ol, ce⟩, ct, sep⟩ k => ⟨⟨ol, k e List.mem_cons_self _ ce⟩, ct.at fun ob y => k t (List.mem_cons_of_mem _ List.mem_cons_self) ob y, sep⟩
  self := fun A i s Q E ⟨⟨_, ce⟩, _⟩ h => wpAny_pyIter_enum ce h
  item := by
    rintro X rfl rfl rfl cl i pins s σ H E I fp ⟨⟨ol, ce⟩, ct, ne1, ne2, ne3⟩ ⟨xs, x, hT, hx⟩
    obtain ⟨us, rus, isT, _⟩ := I.tuple hT
    obtain ⟨u, hu, rxu⟩ := rus.get hx
    have isT' : s.heap.IsTuple a us.toArray := isT
    have eLt := Heap.lt_size ce
    have tLt : t < s.heap.objs.size := let ⟨_, y, _⟩ := ct; Heap.lt_size y
    have iLt : i < us.toArray.size := by simpa using (List.getElem?_eq_some_iff.mp hu).1
    have arr : us.toArray[i]? = some u := by simpa using hu
    have dr := Draws.tuple (prog := X.prog) (w := X.w) (A := X.A.in1) (show X.A.in1.handled = none from I.ok.hd cl) t a ne2 us.toArray
    refine wpAny_pyNext_enum_itemD dr ce ⟨ct, isT'⟩ iLt ne1 (by simp [ne1, ne3]) fun v h1 tk hv own ct1 newT _ kp => ?_
    obtain rfl : u = v := Option.some.inj (arr.symm.trans hv)
    refine ⟨_, rfl, wpAny_letOwnedTupleGo_enum (s := { s with heap := h1, toks := tk + 1 }) own fun h2 ce2 ob2 => ?_⟩
    have pairAt := (ob2.2 _ (Nat.ne_of_gt eLt)).trans newT
    have okP : ObjOk X.prog X.w (upd H s.heap.objs.size (.tup [.int (i : Nat), x])) h2 s.heap.objs.size (.tup [.int (i : Nat), x]) := ⟨by show 2 ≤ sizeLine; decide, [.int i tk, u], .cons ⟨_, rfl⟩ (.cons rxu .nil), ⟨_, pairAt, rfl, _, rfl⟩⟩
    have old : ∀ b ob, b ∉ [e, t] → s.heap.get? b = some ob → h2.get? b = some ob := fun b ob hb y => by
      have nE : b ≠ e := fun z => hb (by simp [z])
      have nT : b ≠ t := fun z => hb (by simp [z])
      exact (ob2.2 b nE).trans (kp b ob nE (by simpa using nT) y)
    have I2 : Inv X pins σ (upd H s.heap.objs.size (.tup [.int (i : Nat), x])) { s with heap := h2, toks := tk + 1 } := I.turnedNew (ch := [e, t]) old fp (Nat.le_refl _) okP
    refine ⟨.ref s.heap.objs.size, _, I2, rfl, ⟨_, x, rfl, I.hok.fresh (Nat.le_refl _), rfl, fun ys hy => (I.tuple_inj hy hT) ▸ hx⟩, ⟨⟨u, ?_⟩, ct1.1.at fun ob y => (ob2.2 t (Ne.symm ne1)).trans y, ne1, ne2, ne3⟩, fun b hb => ?_⟩
    · rw [show ((i + 1 : Nat) : Int) = (i : Int) + 1 from by omega]
      exact ce2
    · rw [upd_ne (Nat.ne_of_lt (by cases two_mem hb with
        | inl z => rw [z]; exact eLt
        | inr z => rw [z]; exact tLt))]
      exact (fp b hb).1
  done := by
    rintro X rfl rfl rfl cl i pins s σ H E I fp ⟨⟨ol, ce⟩, ct, _, _, _⟩ ⟨xs, hT, hx⟩
    obtain ⟨us, rus, isT, _⟩ := I.tuple hT
    obtain ⟨f0, f1, _, f3, f4, f5⟩ := fp t (List.mem_cons_of_mem _ List.mem_cons_self)
    have isT' : s.heap.IsTuple a us.toArray := isT
    have few := rus.length
    have ty : s.TypeIs (.ref e) "enumerate" := ⟨_, ce, rfl⟩
    have body := F.args_enumerate_next_1 (.ref e)
    unfold pyNext
    refine wpAny_bind (wpAny_attempt (wpAny_callSpecial?_slot (name := Str.ofString "__next__") ty F.slot_enumerate_next (wpAny_call_entry F.slot_enumerate_next ty F.entry_enumerate_next ?_ body)))
    show wpAny _ _ (field (.ref e) 2 >>= fun _ => _) _ _ _
    refine wpAny_bind (wpAny_field ce rfl (x := .ref t) rfl (wpAny_bind (wpAny_nextOf_tuple_end (I.ok.hd cl) ct isT' (by simp; omega) fun h1 stop kp ⟨ob, co, cs⟩ => ?_)))
    exact wpAny_bind (wpAny_isInstance (T := "StopIteration") (b := true) ⟨ob, co, cs⟩ isSubtype_stop (wpAny_pure ⟨rfl, I.turned (t' := s.toks) (fun b o hb y => kp b o hb y) f0 f1 f3 f4 f5⟩))
def iEnumT (K : PySem.W.Frag) (ta : TA) : TI := fun σ H R => ta σ H fun vs H1 => ∃ a xs, vs = [.ref a] ∧ SqT K H1 a xs ∧ R (IteT K a) H1
theorem pi_enumT {X : Cx} {e : Expr} {ta : TA} {p pos tpos : Pos} {elts : List Expr} {kk : Nat} (hg : Gl X "enumerate") (hm : X.mg "enumerate" = none) (ha : PA X [e] ta) (hs : starEach [e] X.env = [(false, eval e X.env)] := by rfl) :
    PI X (.Tuple elts kk tpos) (.Call (.Name "enumerate" p) [e] [] pos) (iEnumT X.K ta) := by
  refine ⟨fun pins s σ H R I h => Call_ (ld_blt I hg hm boot_enumerate (PyProof.Rows.callWith_type1 (thn (ha.run pos pins s σ H _ I h) ?_) hs rfl))⟩
  rintro us s1 ⟨vs, H1, I1, r1, a, xs, rfl, hT, q⟩
  obtain ⟨u, rfl, rfl⟩ : ∃ u, us = [u] ∧ u = Value.ref a := by
    cases r1 with
    | cons r rr => cases rr; cases r; exact ⟨_, rfl, rfl⟩
  obtain ⟨its, _, isT, _⟩ := I1.tuple hT
  have aLt : a < s1.heap.objs.size := isT.lt
  refine two_call (show s1.heap.IsTuple a its.toArray from isT) fun ct kp => wpAny_pyIter_enum (two_cnt _ a) ?_
  refine ⟨s1.heap.objs.size + 1, [s1.heap.objs.size + 1, s1.heap.objs.size], _, _, H1, rfl, I1.kept (t' := s1.toks) kp, turn_enumT a _ s1.heap.objs.size, ⟨⟨.none, two_cnt _ a⟩, ct, Nat.succ_ne_self _, Nat.ne_of_lt aLt, Nat.ne_of_gt (Nat.lt_succ_of_lt aLt)⟩, fun b hb => ?_, q⟩
  have far : s1.heap.objs.size ≤ b := by
    cases two_mem hb with
    | inl z => rw [z]; exact Nat.le_add_right _ _
    | inr z => rw [z]; exact Nat.le_refl _
  exact I1.fpOk far (I1.hok.fresh far)
end L3

namespace L3
open PySem PySem.Spec PyProof.Rows L2
/-! ### what a loop walks -/
def YD (K : PySem.W.Frag) (r : Addr) (A : Addr → Prop) (J : It) (ds : List D) (H1 : Hp) : Prop := ∀ (i : Nat) (H : Hp) (A' : Addr → Prop), ExtA A H1 H → Wd r A' H → (∀ b o, A' b → H1 b = some o → A b) →
  (ds.length ≤ i → J.stop i H) ∧ ∀ d, ds[i]? = some d → J.go i H ∧ ∀ x H', J.yld i H x H' → Ext r H H' ∧ RndOk r H' ∧ DR K r A' H' x d
/-- an iterable's reading -/
abbrev DI := Env → (List D → Prop) → XP → Prop
def tI (K : PySem.W.Frag) (E : XK) (f : DI) : TI := fun σ H R => ∃ r A δ P Z, ER K r A σ H δ ∧ f δ P Z ∧
  (∀ ds J H1, P ds → Ext r H H1 → RndOk r H1 → YD K r A J ds H1 → R J H1) ∧
  (∀ x c dd H', Z x → Ext r H H' → RndOk r H' → XR K r A H' c dd x → E c dd H')
theorem PI.imp {X : Cx} {tg e : Expr} {t t' : TI} (h : PI X tg e t) (w : ∀ σ H Q, t' σ H Q → t σ H Q) : PI X tg e t' := ⟨fun pins s σ H Q I q => h.run pins s σ H Q I (w σ H Q q)⟩
section
variable {X : Cx} {E : XK} {e tg : Expr} {f : DE}
def itL : D → (List D → Prop) → Prop
  | .lst ds, P => P ds
  | _, _ => False
def itT : D → (List D → Prop) → Prop
  | .tup ds, P => P ds
  | _, _ => False
theorem i_list (h : PE X e (tE X.K E f)) : PI X tg e (tI X.K E (fun δ P Z => f δ (fun d => itL d P) Z)) := PI.imp (pi_list h) fun σ H R ⟨r, A, δ, P, Z, R0, h2, hq, hz⟩ =>
  ⟨r, A, δ, _, Z, R0, h2, fun d v H1 h3 x1 n1 r1 => by
    cases d with
    | lst ds =>
      obtain ⟨a, xs, rfl, na, e1, z, t⟩ := r1.sqL
      refine ⟨a, rfl, ⟨xs, SqL.of e1⟩, hq ds _ H1 h3 x1 n1 fun i H2 A' ea w wa => ⟨fun hl => ⟨xs, SqL.of (ea a _ na e1), by rw [t.length]; exact hl⟩, fun d hd => ?_⟩⟩
      obtain ⟨u, hu, ru⟩ := t.get hd
      refine ⟨⟨xs, u, SqL.of (ea a _ na e1), hu⟩, ?_⟩
      rintro x H' ⟨rfl, hx⟩
      have := hx xs (SqL.of (ea a _ na e1))
      rw [hu] at this
      cases this
      exact ⟨.refl, w.rnd, ru.move ea wa⟩
    | _ => exact h3.elim, hz⟩
theorem i_tup (h : PE X e (tE X.K E f)) : PI X tg e (tI X.K E (fun δ P Z => f δ (fun d => itT d P) Z)) := PI.imp (pi_tup h) fun σ H R ⟨r, A, δ, P, Z, R0, h2, hq, hz⟩ =>
  ⟨r, A, δ, _, Z, R0, h2, fun d v H1 h3 x1 n1 r1 => by
    cases d with
    | tup ds =>
      obtain ⟨a, xs, rfl, t, keep, e1⟩ : ∃ a xs, v = .ref a ∧ DRs X.K r A H1 xs ds ∧ (∀ H2, ExtA A H1 H2 → SqT X.K H2 a xs) ∧ SqT X.K H1 a xs := by
        cases r1 with
        | tup n e1 z t => exact ⟨_, _, rfl, t, fun H2 ea => SqT.of (ea _ _ n e1), SqT.of e1⟩
        | ktup o its n e1 c d z w t => exact ⟨_, _, rfl, t, fun H2 ea => .inr ⟨o, its, n, e1, c, d, z, w⟩, .inr ⟨o, its, n, e1, c, d, z, w⟩⟩
      refine ⟨a, rfl, ⟨xs, e1⟩, hq ds _ H1 h3 x1 n1 fun i H2 A' ea w wa => ⟨fun hl => ⟨xs, keep _ ea, by rw [t.length]; exact hl⟩, fun d hd => ?_⟩⟩
      obtain ⟨u, hu, ru⟩ := t.get hd
      refine ⟨⟨xs, u, keep _ ea, hu⟩, ?_⟩
      rintro x H' ⟨rfl, hx⟩
      have := hx xs (keep _ ea)
      rw [hu] at this
      cases this
      exact ⟨.refl, w.rnd, ru.move ea wa⟩
    | _ => exact h3.elim, hz⟩
def itS : D → (List D → Prop) → Prop
  | .str x, P => P (x.cps.toList.map fun c => D.str ⟨#[c]⟩)
  | _, _ => False
theorem i_str (h : PE X e (tE X.K E f)) : PI X tg e (tI X.K E (fun δ P Z => f δ (fun d => itS d P) Z)) := PI.imp (pi_str h) fun σ H R ⟨r, A, δ, P, Z, R0, h2, hq, hz⟩ =>
  ⟨r, A, δ, _, Z, R0, h2, fun d v H1 h3 x1 n1 r1 => by
    cases d with
    | str x =>
      cases r1
      refine ⟨x, rfl, hq _ _ H1 h3 x1 n1 fun i H2 A' ea w wa => ⟨fun hl => by show x.cps.size ≤ i; simpa using hl, fun d hd => ?_⟩⟩
      rw [List.getElem?_map] at hd
      cases hc : x.cps.toList[i]? with
      | none => rw [hc] at hd; cases hd
      | some c =>
        rw [hc] at hd
        cases hd
        have hi := (List.getElem?_eq_some_iff.mp hc).1
        refine ⟨by show i < x.cps.size; simpa using hi, ?_⟩
        rintro y H' ⟨rfl, c', hc', rfl⟩
        have : c' = c := by
          have q : x.cps.toList[i]? = some c' := by simpa using hc'
          rw [hc] at q; cases q; rfl
        subst this
        exact ⟨.refl, w.rnd, .str _⟩
    | _ => exact h3.elim, hz⟩
/-- lo, lo + 1, .. -/
def rngD (lo : Int) (n : Nat) : List D := (List.range n).map fun i => D.int (lo + (i : Nat))
theorem yd_rng {K : PySem.W.Frag} {r : Addr} {A : Addr → Prop} {H : Hp} {lo : Int} {n : Nat} : YD K r A (Itr lo n) (rngD lo n) H := fun i H2 A' ea w wa => ⟨fun hl => by
    show n ≤ i
    simpa [rngD] using hl, fun d hd => by
    unfold rngD at hd
    rw [List.getElem?_map] at hd
    cases hc : (List.range n)[i]? with
    | none => rw [hc] at hd; cases hd
    | some c =>
      rw [hc] at hd
      cases hd
      obtain ⟨hi, e⟩ := List.getElem?_eq_some_iff.mp hc
      rw [List.getElem_range] at e
      subst e
      refine ⟨by show i < n; simpa using hi, ?_⟩
      rintro y H' ⟨rfl, rfl⟩
      exact ⟨.refl, w.rnd, .int _⟩⟩
variable {p pos : Pos} {es : List Expr} {fs : DA}
def itR1 : List D → (List D → Prop) → Prop
  | [.int j], P => -1073741824 ≤ j ∧ j ≤ 1073741824 ∧ P (rngD 0 j.toNat)
  | _, _ => False
def itR2 : List D → (List D → Prop) → Prop
  | [.int i, .int j], P => -1073741824 ≤ i ∧ i ≤ 1073741824 ∧ -1073741824 ≤ j ∧ j ≤ 1073741824 ∧ P (rngD i (j - i).toNat)
  | _, _ => False

theorem i_range1 {a : Expr} (hg : Gl X "range") (hm : X.mg "range" = none) (ha : PA X [a] (tA X.K E fs)) (hs : starEach [a] X.env = [(false, eval a X.env)] := by rfl) :
    PI X tg (.Call (.Name "range" p) [a] [] pos) (tI X.K E (fun δ P Z => fs δ (fun ds => itR1 ds P) Z)) := PI.imp (pi_range1 hg hm ha hs) fun σ H R ⟨r, A, δ, P, Z, R0, h2, hq, hz⟩ =>
  ⟨r, A, δ, _, Z, R0, h2, fun ds vs H1 h3 x1 n1 r1 => by
    match ds, h3 with
    | [.int j], h3 =>
      cases r1 with
      | cons a b => cases a; cases b; (obtain ⟨b1, b2, h3⟩ : -1073741824 ≤ j ∧ j ≤ 1073741824 ∧ P (rngD 0 j.toNat) := h3); exact ⟨j, rfl, by omega, by omega, hq _ _ H1 h3 x1 n1 yd_rng⟩, hz⟩
theorem i_range2 {a b : Expr} (hg : Gl X "range") (hm : X.mg "range" = none) (ha : PA X [a, b] (tA X.K E fs)) (hs : starEach [a, b] X.env = [(false, eval a X.env), (false, eval b X.env)] := by rfl) (hs2 : starEach [b] X.env = [(false, eval b X.env)] := by rfl) :
    PI X tg (.Call (.Name "range" p) [a, b] [] pos) (tI X.K E (fun δ P Z => fs δ (fun ds => itR2 ds P) Z)) := PI.imp (pi_range2 hg hm ha hs hs2) fun σ H R ⟨r, A, δ, P, Z, R0, h2, hq, hz⟩ =>
  ⟨r, A, δ, _, Z, R0, h2, fun ds vs H1 h3 x1 n1 r1 => by
    match ds, h3 with
    | [.int i, .int j], h3 =>
      cases r1 with
      | cons a b =>
        cases a
        cases b with
        | cons a b =>
          cases a; cases b
          (obtain ⟨b1, b2, b3, b4, h3⟩ : -1073741824 ≤ i ∧ i ≤ 1073741824 ∧ -1073741824 ≤ j ∧ j ≤ 1073741824 ∧ P (rngD i (j - i).toNat) := h3); exact ⟨i, j, rfl, ⟨by omega, by omega, by omega, by omega⟩, hq _ _ H1 h3 x1 n1 yd_rng⟩, hz⟩
/-- 0, x; 1, y; .. -/
def enumD (ds : List D) : List D := ds.mapIdx fun i d => .tup [.int (i : Nat), d]
theorem enumD_length (ds : List D) : (enumD ds).length = ds.length := by simp [enumD]
theorem enumD_get {ds : List D} {i : Nat} {d : D} (h : (enumD ds)[i]? = some d) : ∃ y, ds[i]? = some y ∧ d = .tup [.int (i : Nat), y] := by
  unfold enumD at h
  rw [List.getElem?_mapIdx] at h
  cases e : ds[i]? with
  | none => rw [e] at h; cases h
  | some y => rw [e] at h; exact ⟨y, rfl, (Option.some.inj h).symm⟩
def itE : List D → (List D → Prop) → Prop
  | [.tup ds], P => P (enumD ds)
  | _, _ => False
def itEL : List D → (List D → Prop) → Prop
  | [.lst ds], P => P (enumD ds)
  | _, _ => False
theorem i_enumT {a : Expr} {elts : List Expr} {kk : Nat} {tpos : Pos} (hg : Gl X "enumerate") (hm : X.mg "enumerate" = none) (ha : PA X [a] (tA X.K E fs)) (hs : starEach [a] X.env = [(false, eval a X.env)] := by rfl) :
    PI X (.Tuple elts kk tpos) (.Call (.Name "enumerate" p) [a] [] pos) (tI X.K E (fun δ P Z => fs δ (fun ds => itE ds P) Z)) := PI.imp (pi_enumT hg hm ha hs) fun σ H R ⟨r, A, δ, P, Z, R0, h2, hq, hz⟩ =>
  ⟨r, A, δ, _, Z, R0, h2, fun ds vs H1 h3 x1 n1 r1 => by
    match ds, h3 with
    | [.tup ds], h3 =>
      cases r1 with
      | @cons v _ _ _ r1 b =>
        cases b
        obtain ⟨a, xs, rfl, t, keep, e1⟩ : ∃ a xs, v = V.ref a ∧ DRs X.K r A H1 xs ds ∧ (∀ H2, ExtA A H1 H2 → SqT X.K H2 a xs) ∧ SqT X.K H1 a xs := by
          cases r1 with
          | tup n e1 z t => exact ⟨_, _, rfl, t, fun H2 ea => SqT.of (ea _ _ n e1), SqT.of e1⟩
          | ktup o its n e1 c d z w t => exact ⟨_, _, rfl, t, fun H2 ea => .inr ⟨o, its, n, e1, c, d, z, w⟩, .inr ⟨o, its, n, e1, c, d, z, w⟩⟩
        refine ⟨a, xs, rfl, e1, hq _ _ H1 h3 x1 n1 fun i H2 A' ea w wa => ⟨fun hl => ⟨xs, keep _ ea, by rw [t.length, ← enumD_length]; exact hl⟩, fun d hd => ?_⟩⟩
        obtain ⟨y, hy, rfl⟩ := enumD_get hd
        obtain ⟨u, hu, ru⟩ := t.get hy
        refine ⟨⟨xs, u, keep _ ea, hu⟩, ?_⟩
        rintro x H' ⟨T, z, rfl, nT, rfl, hx⟩
        have := hx xs (keep _ ea)
        rw [hu] at this
        cases this
        exact ⟨Ext.upd nT, w.rnd.upd nT, w.tup nT (by show 2 ≤ sizeLine; decide) (.cons (.int _) (.cons (ru.move ea wa) .nil))⟩, hz⟩
theorem i_enumL {a : Expr} {elts : List Expr} {kk : Nat} {tpos : Pos} (hg : Gl X "enumerate") (hm : X.mg "enumerate" = none) (ha : PA X [a] (tA X.K E fs)) (hs : starEach [a] X.env = [(false, eval a X.env)] := by rfl) :
    PI X (.Tuple elts kk tpos) (.Call (.Name "enumerate" p) [a] [] pos) (tI X.K E (fun δ P Z => fs δ (fun ds => itEL ds P) Z)) := PI.imp (pi_enum hg hm ha hs) fun σ H R ⟨r, A, δ, P, Z, R0, h2, hq, hz⟩ =>
  ⟨r, A, δ, _, Z, R0, h2, fun ds vs H1 h3 x1 n1 r1 => by
    match ds, h3 with
    | [.lst ds], h3 =>
      cases r1 with
      | cons r1 b =>
        cases b
        obtain ⟨a, xs, rfl, na, e1, z, t⟩ := r1.sqL
        refine ⟨a, xs, rfl, SqL.of e1, hq _ _ H1 h3 x1 n1 fun i H2 A' ea w wa => ⟨fun hl => ⟨xs, SqL.of (ea a _ na e1), by rw [t.length, ← enumD_length]; exact hl⟩, fun d hd => ?_⟩⟩
        obtain ⟨y, hy, rfl⟩ := enumD_get hd
        obtain ⟨u, hu, ru⟩ := t.get hy
        refine ⟨⟨xs, u, SqL.of (ea a _ na e1), hu⟩, ?_⟩
        rintro x H' ⟨T, z, rfl, nT, rfl, hx⟩
        have := hx xs (SqL.of (ea a _ na e1))
        rw [hu] at this
        cases this
        exact ⟨Ext.upd nT, w.rnd.upd nT, w.tup nT (by show 2 ≤ sizeLine; decide) (.cons (.int _) (.cons (ru.move ea wa) .nil))⟩, hz⟩
end

/-! ### targets -/
abbrev DG := D → Env → (Env → Prop) → Prop
def tG (K : PySem.W.Frag) (g : DG) (t : TG) : Prop := ∀ (r : Addr) (A : Addr → Prop) (v : V) (d : D) (σ : L2.St) (H : Hp) (δ : Env) (P : Env → Prop) (Q : L2.St → Hp → Prop), ER K r A σ H δ → DR K r A H v d → g d δ P → (∀ δ' σ', P δ' → ER K r A σ' H δ' → Q σ' H) → t v σ H Q
def gN (i : Nat) : DG := fun d δ P => P (δ.set i (.val d))
theorem g_name {K : PySem.W.Frag} (i : Nat) : tG K (gN i) (gName i) := fun r A v d σ H δ P Q R hd h q => q _ _ h (R.set hd)
def gN2 (i j : Nat) : DG := fun d δ P => match d with
  | .tup [x, y] => P ((δ.set i (.val x)).set j (.val y))
  | _ => False
theorem g_two {K : PySem.W.Frag} (i j : Nat) : tG K (gN2 i j) (gTup K 2 (gCons (gName i) (gCons (gName j) gNil))) := fun r A v d σ H δ P Q R hd h q => by
  cases d with
  | tup ds =>
    obtain ⟨a, xs, rfl, e, z, t⟩ := hd.sqT
    match ds, t, h with
    | [x, y], t, h =>
      cases t with
      | cons t1 t => cases t with
        | cons t2 t =>
          cases t
          exact ⟨a, _, rfl, e, rfl, _, _, rfl, _, _, rfl, rfl, q _ _ h ((R.set t1).set t2)⟩
  | _ => exact h.elim
end L3

namespace L3
open PySem PySem.Spec PyProof.Rows L2
/-! ### comprehensions -/
def XF : XP := fun _ => False
def E0 : XK := fun _ _ _ => False
def lcD (g : DG) (tt : DT) (te : DE) (δw : Env) : List D → List D → (List D → Prop) → Prop
  | [], acc, P => P acc
  | d :: ds, acc, P => g d δw fun δ2 => tt δ2 (fun b => if b = true then te δ2 (fun y => lcD g tt te δw ds (acc ++ [y]) P) XF else lcD g tt te δw ds acc P) XF
def wipeE (δ : Env) : List Nat → Env
  | [] => δ
  | v :: vs => (wipeE δ vs).set v .emp
theorem wipeE_length (δ : Env) : ∀ vs : List Nat, (wipeE δ vs).length = δ.length
  | [] => rfl
  | v :: vs => by unfold wipeE; rw [List.length_set, wipeE_length δ vs]
theorem wipe_get (σ : L2.St) : ∀ (vs : List Nat) (j : Nat), (wipe σ vs)[j]? = if j ∈ vs then σ[j]?.map (fun _ => none) else σ[j]?
  | [], j => by simp [wipe]
  | v :: vs, j => by
    unfold wipe
    by_cases h : v = j
    · subst h
      have ih := wipe_get σ vs v
      by_cases hl : v < (wipe σ vs).length
      · rw [List.getElem?_set_self hl]
        rw [wipe_length] at hl
        simp [List.getElem?_eq_getElem hl]
      · rw [List.getElem?_eq_none (by rw [List.length_set]; omega)]
        rw [wipe_length] at hl
        simp [List.getElem?_eq_none (show σ.length ≤ v by omega)]
    · rw [List.getElem?_set_ne h, wipe_get σ vs j]
      have hne : ¬ j = v := fun e => h e.symm
      simp only [List.mem_cons, hne, false_or]
theorem wipeE_get (δ : Env) : ∀ (vs : List Nat) (j : Nat) (x : Sl), (wipeE δ vs)[j]? = some x → x = .emp ∨ (j ∉ vs ∧ δ[j]? = some x)
  | [], j, x, h => .inr ⟨by simp, h⟩
  | v :: vs, j, x, h => by
    unfold wipeE at h
    by_cases e : v = j
    · subst e
      by_cases hl : v < (wipeE δ vs).length
      · rw [List.getElem?_set_self hl] at h
        cases h
        exact .inl rfl
      · rw [List.getElem?_eq_none (by rw [List.length_set]; omega)] at h; cases h
    · rw [List.getElem?_set_ne e] at h
      rcases wipeE_get δ vs j x h with q | ⟨q1, q2⟩
      · exact .inl q
      · have hne : ¬ j = v := fun z => e z.symm
        exact .inr ⟨by simp [hne, q1], q2⟩
theorem wipe_wipe (σ : L2.St) (vs : List Nat) : wipe (wipe σ vs) vs = wipe σ vs := by
  apply List.ext_getElem?
  intro j
  rw [wipe_get, wipe_get]
  by_cases h : j ∈ vs
  · rw [if_pos h, if_pos h, Option.map_map]; rfl
  · rw [if_neg h, if_neg h]
theorem wipe_set (σ : L2.St) {vs : List Nat} {i : Nat} (x : Option V) (hi : i ∈ vs) : wipe (σ.set i x) vs = wipe σ vs := by
  apply List.ext_getElem?
  intro j
  rw [wipe_get, wipe_get]
  by_cases h : j ∈ vs
  · rw [if_pos h, if_pos h]
    by_cases e : i = j
    · subst e
      by_cases hl : i < σ.length
      · rw [List.getElem?_set_self hl, List.getElem?_eq_getElem hl]; rfl
      · rw [List.getElem?_eq_none (by rw [List.length_set]; omega), List.getElem?_eq_none (by omega)]
    · rw [List.getElem?_set_ne e]
  · rw [if_neg h, if_neg h, List.getElem?_set_ne (fun e => h (by rw [← e]; exact hi))]
section
variable {K : PySem.W.Frag} {r : Addr} {A A' : Addr → Prop} {σ σ' : L2.St} {H H' : Hp} {δ δ' : Env}
theorem ER.wipe (h : ER K r A σ H δ) (vs : List Nat) : ER K r A (wipe σ vs) H (wipeE δ vs) := h.weak (by rw [wipeE_length, wipe_length]; exact h.len) fun j x q => by
  rcases wipeE_get δ vs j x q with q | ⟨q1, q2⟩
  · exact .inl q
  · exact .inr ⟨q2, by rw [wipe_get, if_neg q1]⟩
/-- a barred cell p that no slot owns changes -/
theorem ER.extD {p : Addr} (h : ER K r A σ H δ) (hp : A p) (no : ∀ (i : Nat) ds, δ[i]? = some (.own ds) → σ[i]? ≠ some (some (.ref p))) (e : ∀ b o, b ≠ r → b ≠ p → H b = some o → H' b = some o) (hn : H' p ≠ none) (rn : RndOk r H') : ER K r A σ H' δ := by
  have ea : ExtA A H H' := fun b o n q => e b o (fun z => n (z ▸ h.ar)) (fun z => n (z ▸ hp)) q
  refine ⟨rn, h.ar, fun b hb z => ?_, h.len, fun i d q => ?_, fun i ds q => ?_, h.sep⟩
  · by_cases hr : b = r
    · obtain ⟨ns, e1, _⟩ := rn
      rw [hr, e1] at z; cases z
    · by_cases hb' : b = p
      · exact hn (hb' ▸ z)
      · cases q : H b with
        | none => exact h.all b hb q
        | some o => rw [e b o hr hb' q] at z; cases z
  · obtain ⟨v, e1, e2⟩ := h.val i d q
    exact ⟨v, e1, e2.ext ea⟩
  · obtain ⟨l, xs, e1, e2, e3, e4, e5, e6⟩ := h.own i ds q
    exact ⟨l, xs, e1, e2, e3, e l _ e3 (fun z => no i ds q (z ▸ e1)) e4, e5, e6.ext ea⟩
end
/-- no slot is an own list's that wasn't -/
def OwnSub (σ : L2.St) (δ : Env) (σ' : L2.St) (δ' : Env) : Prop := ∀ (j : Nat) (es : List D), δ'[j]? = some (.own es) → δ[j]? = some (.own es) ∧ σ'[j]? = σ[j]?
theorem OwnSub.set (σ : L2.St) (δ : Env) (i : Nat) (v : Option V) (d : D) : OwnSub σ δ (σ.set i v) (δ.set i (.val d)) := fun j es q => by
  by_cases hj : i = j
  · subst hj
    by_cases hl : i < δ.length
    · rw [List.getElem?_set_self hl] at q; cases q
    · rw [List.getElem?_eq_none (by rw [List.length_set]; omega)] at q; cases q
  · rw [List.getElem?_set_ne hj] at q
    exact ⟨q, List.getElem?_set_ne hj⟩
theorem OwnSub.trans {σ σ1 σ2 : L2.St} {δ δ1 δ2 : Env} (a : OwnSub σ δ σ1 δ1) (b : OwnSub σ1 δ1 σ2 δ2) : OwnSub σ δ σ2 δ2 := fun j es q => ⟨(a j es (b j es q).1).1, (b j es q).2.trans (a j es (b j es q).1).2⟩
theorem OwnSub.wipe (σ : L2.St) (δ : Env) (vs : List Nat) : OwnSub σ δ (L2.wipe σ vs) (wipeE δ vs) := fun j es q => by
  rcases wipeE_get δ vs j _ q with z | ⟨z1, z2⟩
  · cases z
  · exact ⟨z2, by rw [wipe_get, if_neg z1]⟩
/-- what a comprehension's target does: it keeps to its own slots -/
def tGc (K : PySem.W.Frag) (vs : List Nat) (g : DG) (t : TG) : Prop := ∀ (r : Addr) (A : Addr → Prop) (v : V) (d : D) (σ : L2.St) (H : Hp) (δ : Env) (P : Env → Prop) (Q : L2.St → Hp → Prop), ER K r A σ H δ → DR K r A H v d → g d δ P → (∀ δ' σ', P δ' → wipe σ' vs = wipe σ vs → OwnSub σ δ σ' δ' → ER K r A σ' H δ' → Q σ' H) → t v σ H Q
theorem gc_name {K : PySem.W.Frag} {vs : List Nat} (i : Nat) (hi : i ∈ vs := by simp) : tGc K vs (gN i) (gName i) := fun r A v d σ H δ P Q R hd h q => q _ _ h (wipe_set _ _ hi) (OwnSub.set _ _ _ _ _) (R.set hd)
theorem gc_two {K : PySem.W.Frag} {vs : List Nat} (i j : Nat) (hi : i ∈ vs := by simp) (hj : j ∈ vs := by simp) : tGc K vs (gN2 i j) (gTup K 2 (gCons (gName i) (gCons (gName j) gNil))) := fun r A v d σ H δ P Q R hd h q => by
  cases d with
  | tup ds =>
    obtain ⟨a, xs, rfl, e, z, t⟩ := hd.sqT
    match ds, t, h with
    | [x, y], t, h =>
      cases t with
      | cons t1 t => cases t with
        | cons t2 t =>
          cases t
          exact ⟨a, _, rfl, e, rfl, _, _, rfl, _, _, rfl, rfl, q _ _ h (by rw [wipe_set _ _ hj, wipe_set _ _ hi]) ((OwnSub.set _ _ _ _ _).trans (OwnSub.set _ _ _ _ _)) ((R.set t1).set t2)⟩
  | _ => exact h.elim
theorem lc_of {K : PySem.W.Frag} {E : XK} {fi : DI} {g : DG} {gt : TG} {tt : DT} {te : DE} {vs : List Nat} (hg : tGc K vs g gt) : ∀ σ H Q,
    tE K E (fun δ P Z => fi δ (fun ds => ds.length ≤ sizeLine ∧ lcD g tt te (wipeE δ vs) ds [] (fun out => P (.lst out))) Z) σ H Q →
    tLc (tI K E fi) gt (tT K E0 tt) (tE K E0 te) vs σ H Q := fun σ H Q ⟨r, A, δ, P, Z, R, h2, hq, hz⟩ =>
  ⟨r, A, δ, _, Z, R, h2, fun ds J H1 h3 x1 n1 y => by
    obtain ⟨hlen, h3⟩ := h3
    intro D nD
    have R1 := R.ext x1 n1
    have nDr : D ≠ r := fun z => by
      obtain ⟨ns, e, _⟩ := n1
      rw [z, e] at nD; cases nD
    have nA : ¬ A D := R1.free nD
    refine ⟨fun i m Hc => m = ds.length - i ∧ i ≤ ds.length ∧ ∃ (acc : List L3.D) (accV : List V), lcD g tt te (wipeE δ vs) (ds.drop i) acc (fun out => P (.lst out)) ∧ Hc D = some (.lst accV) ∧ accV.length ≤ i ∧ DRs K r (fun b => A b ∨ b = D) Hc accV acc ∧
      (∀ b o, b ≠ r → b ≠ D → H1 b = some o → Hc b = some o) ∧ RndOk r Hc, ⟨ds.length, by simp, Nat.zero_le _, [], [], h3, upd_same, Nat.le_refl _, .nil, fun b o _ hb e => by rw [upd_ne hb]; exact e, n1.upd nD⟩, ?_⟩
    rintro i m Hc ⟨rfl, hi, acc, accV, h4, hD, hl, hacc, keep, rn⟩
    have ea : ExtA A H1 Hc := fun b o nb q => keep b o (fun z => nb (z ▸ R1.ar)) (ne_of_none q nD) q
    have wa : ∀ b o, (A b ∨ b = D) → H1 b = some o → A b := fun b o hb q => by
      rcases hb with hb | hb
      · exact hb
      · rw [hb, nD] at q; cases q
    have R2 : ER K r (fun b => A b ∨ b = D) σ (upd H1 D (.lst [])) δ := R1.bar nD (by rw [upd_same]; simp) fun b o hb q => by rw [upd_ne hb]; exact q
    have R3 : ER K r (fun b => A b ∨ b = D) σ Hc δ := R2.extD (p := D) (.inr rfl) (fun j es q z => by
        obtain ⟨l, xs, e1, _, _, e4, _⟩ := R1.own j es q
        rw [e1] at z
        cases z
        rw [nD] at e4; cases e4) (fun b o hr hb q => by
          rw [upd_ne hb] at q
          exact keep b o hr hb q) (by rw [hD]; simp) rn
    obtain ⟨ys, yg⟩ := y i Hc _ ea R3.wd wa
    by_cases hlt : i < ds.length
    · obtain ⟨go, yl⟩ := yg ds[i] (List.getElem?_eq_getElem hlt)
      refine .inr ⟨go, fun H' => ∃ m', m' < ds.length - i ∧ m' = ds.length - (i + 1) ∧ i + 1 ≤ ds.length ∧ ∃ (acc : List L3.D) (accV : List V), lcD g tt te (wipeE δ vs) (ds.drop (i + 1)) acc (fun out => P (.lst out)) ∧ H' D = some (.lst accV) ∧ accV.length ≤ i + 1 ∧ DRs K r (fun b => A b ∨ b = D) H' accV acc ∧
        (∀ b o, b ≠ r → b ≠ D → H1 b = some o → H' b = some o) ∧ RndOk r H', fun H' h => h, fun x H' hy => ?_⟩
      obtain ⟨x5, n5, d5⟩ := yl x H' hy
      rw [List.drop_eq_getElem_cons hlt] at h4
      have R5 := (R3.ext x5 n5).wipe vs
      refine hg r _ x ds[i] _ H' _ _ _ R5 d5 h4 fun δ2 σ2 h6 hw _ R6 => ⟨by rw [hw, wipe_wipe], r, _, δ2, _, XF, R6, h6, fun b H3 h7 x7 n7 => ?_, fun x c dd H' z => z.elim⟩
      cases b with
      | true =>
        refine ⟨r, _, δ2, _, XF, R6.ext x7 n7, h7, fun y v H4 h8 x8 n8 d8 => ?_, fun x c dd H' z => z.elim⟩
        have xx := (x5.trans x7).trans x8
        have hD4 : H4 D = some (.lst accV) := xx D _ nDr hD
        have eD : ExtA (fun b => A b ∨ b = D) H4 (upd H4 D (.lst (accV ++ [v]))) := fun b o nb q => by
          rw [upd_ne (fun z => nb (.inr z))]; exact q
        refine ⟨accV, hD4, by omega, ds.length - (i + 1), by omega, rfl, by omega, acc ++ [y], accV ++ [v], h8, upd_same, by rw [List.length_append, List.length_singleton]; omega,
          DRs.append ((hacc.ext (xx.toA (.inl R1.ar))).ext eD) (.cons (d8.ext eD) .nil), fun b o hr hb q => by rw [upd_ne hb]; exact xx b o hr (keep b o hr hb q), ?_⟩
        obtain ⟨ns, e1, e2⟩ := n8
        exact ⟨ns, by rw [upd_ne (Ne.symm nDr)]; exact e1, e2⟩
      | false =>
        have xx := x5.trans x7
        exact ⟨ds.length - (i + 1), by omega, rfl, by omega, acc, accV, h7, xx D _ nDr hD, by omega, hacc.ext (xx.toA (.inl R1.ar)), fun b o hr hb q => xx b o hr (keep b o hr hb q), n7⟩
    · have ei : i = ds.length := by omega
      refine .inl ⟨ys (by omega), ?_⟩
      rw [List.drop_eq_nil_of_le (by omega)] at h4
      refine hq (.lst acc) _ Hc h4 (fun b o hr q => ?_) rn (.lst nA hD (by omega) (hacc.bar fun b o hb _ => .inl hb))
      have q1 := x1 b o hr q
      exact keep b o hr (ne_of_none q1 nD) q1, hz⟩
section
variable {X : Cx} {E : XK} {elt tg iter : Expr} {ifs : List Expr} {scope : Scope} {own : List (Str × Nat)} {pos : Pos} {fi : DI} {g : DG} {gt : TG} {tt : DT} {te : DE}
theorem ts_nil : PTs X [] (tT X.K E (fun _ P _ => P true)) := ⟨fun pins s σ H Q I ⟨r, A, δ, P, Z, R, h2, hq, _⟩ => pts_nil.run pins s σ H Q I (hq true H h2 .refl R.rnd)⟩
theorem ts_one {c : Expr} (h : PT X c (tT X.K E tt)) : PTs X [c] (tT X.K E tt) := pts_one h
theorem e_lc (hc : X.calm = true) (hN : X.N.Nodup) (hi : PI X tg iter (tI X.K E fi)) (ok : BlkOk X.N X.env.scope scope own) (hG : tGc X.K (own.map (·.2)) g gt)
    (hg : ∀ (s : Shared) (H : Hp) (C : Addr) (cl : List (Str × Addr)) (fp : List Addr), PG (X.blk s H scope (compEnvC scope cl C X.env) fp) tg gt) (ht : ∀ (s : Shared) (H : Hp) (C : Addr) (cl : List (Str × Addr)) (fp : List Addr), PTs (X.blk s H scope (compEnvC scope cl C X.env) fp) ifs (tT X.K E0 tt))
    (he : ∀ (s : Shared) (H : Hp) (C : Addr) (cl : List (Str × Addr)) (fp : List Addr), PE (X.blk s H scope (compEnvC scope cl C X.env) fp) elt (tE X.K E0 te)) (hs : ∀ x, foldedSetIterable iter X.env x = pure x := by intro _; rfl) :
    PE X (.ListComp elt [⟨tg, iter, ifs, 0⟩] scope pos) (tE X.K E (fun δ P Z => fi δ (fun ds => ds.length ≤ sizeLine ∧ lcD g tt te (wipeE δ (own.map (·.2))) ds [] (fun out => P (.lst out))) Z)) :=
  PE.imp (pe_lc hc hN hi ok hg ht he hs) (lc_of hG)
end

/-! ### statements -/
def Av (A0 : Addr → Prop) (r : Addr) (σ : L2.St) (δ : Env) (b : Addr) : Prop := A0 b ∨ b = r ∨ ∃ (i : Nat) (ds : List D), δ[i]? = some (Sl.own ds) ∧ σ[i]? = some (some (V.ref b))
structure SR (K : PySem.W.Frag) (r : Addr) (A0 : Addr → Prop) (H0 : Hp) (σ : L2.St) (H : Hp) (δ : Env) : Prop where
  er : ER K r (Av A0 r σ δ) σ H δ
  ext : Ext r H0 H
  fresh : ∀ (i : Nat) ds l, δ[i]? = some (.own ds) → σ[i]? = some (some (.ref l)) → H0 l = none
  a0 : ∀ b, A0 b → H0 b ≠ none
structure DEnds where
  nx : Env → Prop
  rt : DP
  bk : Env → Prop
  ct : Env → Prop
  ex : XP
abbrev DS := DEnds → Env → Prop
structure Lands (K : PySem.W.Frag) (E : XK) (r : Addr) (A0 : Addr → Prop) (H0 : Hp) (P : DEnds) (Dd : Ends) : Prop where
  nx : ∀ δ' σ' H', P.nx δ' → SR K r A0 H0 σ' H' δ' → Dd.nx σ' H'
  rt : ∀ d v H', P.rt d → Ext r H0 H' → RndOk r H' → DR K r A0 H' v d → Dd.rt v H'
  bk : ∀ δ' σ' H', P.bk δ' → SR K r A0 H0 σ' H' δ' → Dd.bk σ' H'
  ct : ∀ δ' σ' H', P.ct δ' → SR K r A0 H0 σ' H' δ' → Dd.ct σ' H'
  ex : ∀ x c dd H', P.ex x → Ext r H0 H' → RndOk r H' → XR K r A0 H' c dd x → E c dd H'
def tS (K : PySem.W.Frag) (E : XK) (f : DS) : TS := fun Dd σ H => ∃ r A0 H0 δ P, SR K r A0 H0 σ H δ ∧ f P δ ∧ Lands K E r A0 H0 P Dd
section
variable {K : PySem.W.Frag} {E : XK} {r : Addr} {A0 A A' : Addr → Prop} {H0 H H' : Hp} {σ σ' : L2.St} {δ δ' : Env} {P : DEnds} {Dd : Ends}
theorem ER.shrink (h : ER K r A σ H δ) (w : ∀ b, A' b → A b) (ar : A' r) (ow : ∀ (i : Nat) ds l, δ[i]? = some (.own ds) → σ[i]? = some (some (.ref l)) → A' l) : ER K r A' σ H δ :=
  ⟨h.rnd, ar, fun b hb => h.all b (w b hb), h.len, fun i d q => by
    obtain ⟨v, e1, e2⟩ := h.val i d q
    exact ⟨v, e1, e2.bar fun b o hb _ => w b hb⟩, fun i ds q => by
    obtain ⟨l, xs, e1, e2, e3, e4, e5, e6⟩ := h.own i ds q
    exact ⟨l, xs, e1, ow i ds l q e1, e3, e4, e5, e6.bar fun b o hb _ => w b hb⟩, h.sep⟩
theorem SR.of (h : ER K r A σ H δ) (w : ∀ b, A0 b → A b) (ext : Ext r H0 H) (fresh : ∀ (i : Nat) ds l, δ[i]? = some (.own ds) → σ[i]? = some (some (.ref l)) → H0 l = none) (a0 : ∀ b, A0 b → H0 b ≠ none) : SR K r A0 H0 σ H δ :=
  ⟨h.shrink (fun b hb => by
    rcases hb with hb | hb | ⟨i, ds, q1, q2⟩
    · exact w b hb
    · rw [hb]; exact h.ar
    · obtain ⟨l, xs, e1, e2, _⟩ := h.own i ds q1
      rw [e1] at q2
      cases q2
      exact e2) (.inr (.inl rfl)) fun i ds l q1 q2 => .inr (.inr ⟨i, ds, q1, q2⟩), ext, fresh, a0⟩
theorem SR.move (h : SR K r A0 H0 σ H δ) (e : Ext r H H') (rn : RndOk r H') : SR K r A0 H0 σ H' δ := ⟨h.er.ext e rn, h.ext.trans e, h.fresh, h.a0⟩
/-- a slot gets a value -/
theorem SR.set (h : SR K r A0 H0 σ H δ) {i : Nat} {v : V} {d : D} (hd : DR K r (Av A0 r σ δ) H v d) : SR K r A0 H0 (σ.set i (some v)) H (δ.set i (.val d)) :=
  SR.of (h.er.set hd) (fun b hb => .inl hb) h.ext (fun j es l q1 q2 => by
    by_cases hj : i = j
    · subst hj
      by_cases hl : i < δ.length
      · rw [List.getElem?_set_self hl] at q1; cases q1
      · rw [List.getElem?_eq_none (by rw [List.length_set]; omega)] at q1; cases q1
    · rw [List.getElem?_set_ne hj] at q1 q2
      exact h.fresh j es l q1 q2) h.a0
theorem SR.down {H1 : Hp} (h : SR K r A0 H1 σ H δ) (w : ∀ b o, H0 b = some o → H1 b = some o) (a0 : ∀ b, A0 b → H0 b ≠ none) : SR K r A0 H0 σ H δ :=
  ⟨h.er, fun b o hr q => h.ext b o hr (w b o q), fun i ds l q1 q2 => (by
    cases q : H0 l with
    | none => rfl
    | some o =>
      have z := h.fresh i ds l q1 q2
      rw [w l o q] at z
      cases z), a0⟩
/-- an expression within a statement -/
theorem use_of {f : DE} {R : VK} (h : SR K r A0 H0 σ H δ) (L : Lands K E r A0 H0 P Dd) {Pd : DP} (hf : f δ Pd P.ex) (hq : ∀ d v H', Pd d → Ext r H H' → RndOk r H' → DR K r (Av A0 r σ δ) H' v d → R v H') : tE K E f σ H R :=
  ⟨r, _, δ, Pd, P.ex, h.er, hf, hq, fun x c dd H' z e n y => L.ex x c dd H' z (h.ext.trans e) n (y.bar fun b o hb _ => .inl hb)⟩
theorem useT_of {f : DT} {R : Bool → Hp → Prop} (h : SR K r A0 H0 σ H δ) (L : Lands K E r A0 H0 P Dd) {Pd : Bool → Prop} (hf : f δ Pd P.ex) (hq : ∀ d H', Pd d → Ext r H H' → RndOk r H' → R d H') : tT K E f σ H R :=
  ⟨r, _, δ, Pd, P.ex, h.er, hf, hq, fun x c dd H' z e n y => L.ex x c dd H' z (h.ext.trans e) n (y.bar fun b o hb _ => .inl hb)⟩
end
section
variable {X : Cx} {E : XK} {st : Stmt} {rest : List Stmt} {f g : DS} {e c : Expr} {fe : DE} {ft : DT} {pos : Pos} {i : Nat} {x : Str}
theorem s_nil : PSs X [] (tS X.K E (fun P δ => P.nx δ)) := PSs.imp pss_nil fun D σ H ⟨r, A0, H0, δ, P, R, h, L⟩ => L.nx _ _ _ h R
theorem s_cons (h1 : PS X st (tS X.K E f)) (h2 : PSs X rest (tS X.K E g)) : PSs X (st :: rest) (tS X.K E (fun P δ => f { P with nx := g P } δ)) := PSs.imp (pss_cons h1 h2) fun D σ H ⟨r, A0, H0, δ, P, R, h, L⟩ =>
  ⟨r, A0, H0, δ, { P with nx := g P }, R, h, ⟨fun δ' σ' H' q R' => ⟨r, A0, H0, δ', P, R', q, L⟩, L.rt, L.bk, L.ct, L.ex⟩⟩
theorem s_one (h1 : PS X st (tS X.K E f)) : PSs X [st] (tS X.K E f) := pss_one h1
theorem s_set {p' : Pos} (hN : X.N.Nodup) (hi : X.N[i]? = some x) (hx : Loc X.env.scope x) (he : PE X e (tE X.K E fe)) (hs : swapsWith e (some (.Name x p')) pos.line X.env = pure false := by rfl)
    (hf : X.fn x = true ∨ X.env.scope.names.lookup x = some .local := by first | exact .inl rfl | exact .inr rfl | assumption) :
    PS X (.Assign [.Name x p'] e pos) (tS X.K E (fun P δ => fe δ (fun d => P.nx (δ.set i (.val d))) P.ex)) := PS.imp (ps_set hN hi hx he hs hf) fun D σ H ⟨r, A0, H0, δ, P, R, h, L⟩ =>
  use_of R L h fun d v H' h2 x2 n2 r2 => L.nx _ _ _ h2 ((R.move x2 n2).set r2)
theorem s_ret (he : PE X e (tE X.K E fe)) : PS X (.Return (some e) pos) (tS X.K E (fun P δ => fe δ P.rt P.ex)) := PS.imp (ps_ret he) fun D σ H ⟨r, A0, H0, δ, P, R, h, L⟩ =>
  use_of R L h fun d v H' h2 x2 n2 r2 => L.rt d v H' h2 (R.ext.trans x2) n2 (r2.bar fun b o hb _ => .inl hb)
theorem s_if {a b : List Stmt} (hc : PT X c (tT X.K E ft)) (ha : PSs X a (tS X.K E f)) (hb : PSs X b (tS X.K E g)) : PS X (.If c a b pos) (tS X.K E (fun P δ => ft δ (fun k => if k = true then f P δ else g P δ) P.ex)) := PS.imp (ps_if hc ha hb) fun D σ H ⟨r, A0, H0, δ, P, R, h, L⟩ =>
  useT_of R L h fun k H' h2 x2 n2 => by
    cases k with
    | true => exact ⟨r, A0, H0, δ, P, R.move x2 n2, h2, L⟩
    | false => exact ⟨r, A0, H0, δ, P, R.move x2 n2, h2, L⟩
theorem s_expr (he : PE X e (tE X.K E fe)) (hs : swapsWith e none pos.line X.env = pure false := by rfl) : PS X (.Expr e pos) (tS X.K E (fun P δ => fe δ (fun _ => P.nx δ) P.ex)) := PS.imp (ps_expr he hs) fun D σ H ⟨r, A0, H0, δ, P, R, h, L⟩ =>
  use_of R L h fun d v H' h2 x2 n2 r2 => L.nx _ _ _ h2 (R.move x2 n2)
theorem s_pass : PS X (.Pass pos) (tS X.K E (fun P δ => P.nx δ)) := PS.imp ps_pass fun D σ H ⟨r, A0, H0, δ, P, R, h, L⟩ => L.nx _ _ _ h R
/-- an own list -/
theorem s_own {p' p2 : Pos} (hN : X.N.Nodup) (hi : X.N[i]? = some x) (hx : Loc X.env.scope x) (hs : swapsWith (.List [] p2) (some (.Name x p')) pos.line X.env = pure false := by rfl)
    (hf : X.fn x = true ∨ X.env.scope.names.lookup x = some .local := by first | exact .inl rfl | exact .inr rfl | assumption) :
    PS X (.Assign [.Name x p'] (.List [] p2) pos) (tS X.K E (fun P δ => P.nx (δ.set i (.own [])))) := PS.imp (ps_set hN hi hx (pe_lst pa_nil) hs hf) fun D σ H ⟨r, A0, H0, δ, P, R, h, L⟩ => by
  refine ⟨Nat.zero_le _, fun p np => L.nx _ _ _ h ?_⟩
  have R1 := R.er.bar (H1 := upd H p (.lst [])) np (by rw [upd_same]; simp) fun b o hb q => by rw [upd_ne hb]; exact q
  have np0 : H0 p = none := by
    cases q : H0 p with
    | none => rfl
    | some o =>
      by_cases hr : p = r
      · obtain ⟨ns, e1, _⟩ := R.er.rnd
        rw [hr, e1] at np; cases np
      · rw [R.ext p o hr q] at np; cases np
  have npr : p ≠ r := fun z => by
    obtain ⟨ns, e1, _⟩ := R.er.rnd
    rw [z, e1] at np; cases np
  have hsl : ∀ (j : Nat) (s : Sl), (δ.set i (.own []))[j]? = some s → (i = j ∧ s = .own []) ∨ (i ≠ j ∧ δ[j]? = some s) := fun j s q => by
    by_cases hj : i = j
    · subst hj
      by_cases hl : i < δ.length
      · rw [List.getElem?_set_self hl] at q; cases q; exact .inl ⟨rfl, rfl⟩
      · rw [List.getElem?_eq_none (by rw [List.length_set]; omega)] at q; cases q
    · rw [List.getElem?_set_ne hj] at q; exact .inr ⟨hj, q⟩
  have hil : ∀ (j : Nat) (s : Sl), (δ.set i (.own []))[j]? = some s → i = j → (σ.set i (some (V.ref p)))[j]? = some (some (V.ref p)) := fun j s q e => by
    subst e
    by_cases hl : i < σ.length
    · exact List.getElem?_set_self hl
    · rw [List.getElem?_eq_none (by rw [List.length_set, R.er.len]; omega)] at q; cases q
  have nown : ∀ (j : Nat) ds l, δ[j]? = some (.own ds) → σ[j]? = some (some (.ref l)) → l ≠ p := fun j ds l q1 q2 z => by
    obtain ⟨l', xs, e1, _, _, e4, _⟩ := R.er.own j ds q1
    rw [e1] at q2; cases q2
    rw [z, np] at e4; cases e4
  refine SR.of (A := fun b => Av A0 r σ δ b ∨ b = p) ⟨R1.rnd, R1.ar, R1.all, by rw [List.length_set, List.length_set]; exact R1.len, fun j d q => ?_, fun j ds q => ?_, fun j k es fs l hjk q1 q2 q3 q4 => ?_⟩
    (fun b hb => .inl (.inl hb)) (R.ext.trans (Ext.upd np)) (fun j es l q1 q2 => ?_) R.a0
  · rcases hsl j _ q with ⟨_, z⟩ | ⟨hj, q⟩
    · cases z
    · rw [List.getElem?_set_ne hj]; exact R1.val j d q
  · rcases hsl j _ q with ⟨e, z⟩ | ⟨hj, q'⟩
    · cases z
      exact ⟨p, [], hil j _ q e, .inr rfl, npr, upd_same, Nat.zero_le _, .nil⟩
    · rw [List.getElem?_set_ne hj]; exact R1.own j ds q'
  · rcases hsl j _ q1 with ⟨e1, z1⟩ | ⟨hj, q1'⟩
    · rcases hsl k _ q2 with ⟨e2, z2⟩ | ⟨hk, q2'⟩
      · exact hjk (e1.symm.trans e2)
      · rw [hil j _ q1 e1] at q3; cases q3
        rw [List.getElem?_set_ne hk] at q4
        exact nown k _ _ q2' q4 rfl
    · rcases hsl k _ q2 with ⟨e2, z2⟩ | ⟨hk, q2'⟩
      · rw [hil k _ q2 e2] at q4; cases q4
        rw [List.getElem?_set_ne hj] at q3
        exact nown j _ _ q1' q3 rfl
      · rw [List.getElem?_set_ne hj] at q3
        rw [List.getElem?_set_ne hk] at q4
        exact R.er.sep j k _ _ l hjk q1' q2' q3 q4
  · rcases hsl j _ q1 with ⟨e1, z1⟩ | ⟨hj, q1'⟩
    · rw [hil j _ q1 e1] at q2; cases q2; exact np0
    · rw [List.getElem?_set_ne hj] at q2
      exact R.fresh j es l q1' q2
/-- an own list is a value from now on -/
def frz (i : Nat) (δ : Env) : Env := match δ[i]? with
  | some (.own ds) => δ.set i (.val (.lst ds))
  | _ => δ
theorem SR.frz {K : PySem.W.Frag} {r : Addr} {A0 : Addr → Prop} {H0 H : Hp} {σ : L2.St} {δ : Env} (h : SR K r A0 H0 σ H δ) (i : Nat) : SR K r A0 H0 σ H (L3.frz i δ) := by
  unfold L3.frz
  split
  · rename_i ds hi
    obtain ⟨l, xs, e1, e2, e3, e4, e5, e6⟩ := h.er.own i ds hi
    have hl0 : H0 l = none := h.fresh i ds l hi e1
    have w : ∀ b, (Av A0 r σ δ b ∧ b ≠ l) → Av A0 r σ δ b := fun b hb => hb.1
    have hsl : ∀ (j : Nat) (s : Sl), (δ.set i (.val (.lst ds)))[j]? = some s → (i = j ∧ s = .val (.lst ds)) ∨ (i ≠ j ∧ δ[j]? = some s) := fun j s q => by
      by_cases hj : i = j
      · subst hj
        rw [List.getElem?_set_self (List.getElem?_eq_some_iff.mp hi).1] at q; cases q; exact .inl ⟨rfl, rfl⟩
      · rw [List.getElem?_set_ne hj] at q; exact .inr ⟨hj, q⟩
    refine SR.of (A := fun b => Av A0 r σ δ b ∧ b ≠ l) ⟨h.er.rnd, ⟨.inr (.inl rfl), fun z => e3 z.symm⟩, fun b hb => h.er.all b hb.1, by rw [List.length_set]; exact h.er.len, fun j d q => ?_, fun j es q => ?_, fun j k es fs m hjk q1 q2 q3 q4 => ?_⟩
      (fun b hb => ⟨.inl hb, fun z => h.a0 b hb (by rw [z]; exact hl0)⟩) h.ext (fun j es m q1 q2 => ?_) h.a0
    · rcases hsl j _ q with ⟨e, z⟩ | ⟨hj, q'⟩
      · cases z
        subst e
        exact ⟨.ref l, e1, .lst (fun z => z.2 rfl) e4 e5 (e6.bar fun b o hb _ => hb.1)⟩
      · obtain ⟨v, f1, f2⟩ := h.er.val j d q'
        exact ⟨v, f1, f2.bar fun b o hb _ => hb.1⟩
    · rcases hsl j _ q with ⟨e, z⟩ | ⟨hj, q'⟩
      · cases z
      · obtain ⟨m, ys, f1, f2, f3, f4, f5, f6⟩ := h.er.own j es q'
        exact ⟨m, ys, f1, ⟨f2, fun z => h.er.sep i j _ _ l hj hi q' e1 (z ▸ f1)⟩, f3, f4, f5, f6.bar fun b o hb _ => hb.1⟩
    · rcases hsl j _ q1 with ⟨e, z⟩ | ⟨hj, q1'⟩
      · cases z
      · rcases hsl k _ q2 with ⟨e, z⟩ | ⟨hk, q2'⟩
        · cases z
        · exact h.er.sep j k _ _ m hjk q1' q2' q3 q4
    · rcases hsl j _ q1 with ⟨e, z⟩ | ⟨hj, q1'⟩
      · cases z
      · exact h.fresh j es m q1' q2
  · exact h
theorem s_frz (i : Nat) {sts : List Stmt} (h : PSs X sts (tS X.K E f)) : PSs X sts (tS X.K E (fun P δ => f P (frz i δ))) := PSs.imp h fun D σ H ⟨r, A0, H0, δ, P, R, h, L⟩ => ⟨r, A0, H0, frz i δ, P, R.frz i, h, L⟩
theorem s_imp {sts : List Stmt} (h : PSs X sts (tS X.K E f)) (w : ∀ P δ, g P δ → f P δ) : PSs X sts (tS X.K E g) := PSs.imp h fun D σ H ⟨r, A0, H0, δ, P, R, h, L⟩ => ⟨r, A0, H0, δ, P, R, w _ _ h, L⟩
end
end L3

namespace L3
open PySem PySem.Spec PyProof.Rows L2
/-! ### for -/
def forD (g : DG) (body : DS) (P : DEnds) : List D → Env → Prop
  | [], δ => P.nx δ
  | d :: ds, δ => g d δ fun δ1 => body { P with nx := fun δ2 => forD g body P ds δ2, ct := fun δ2 => forD g body P ds δ2, bk := P.nx } δ1
/-- a for's target: no slot becomes an own list by it -/
def tGs (K : PySem.W.Frag) (g : DG) (t : TG) : Prop := ∀ (r : Addr) (A0 : Addr → Prop) (H0 : Hp) (v : V) (d : D) (σ : L2.St) (H : Hp) (δ : Env) (P : Env → Prop) (Q : L2.St → Hp → Prop), SR K r A0 H0 σ H δ → DR K r (Av A0 r σ δ) H v d → g d δ P → (∀ δ' σ', P δ' → SR K r A0 H0 σ' H δ' → Q σ' H) → t v σ H Q
theorem SR.set_val {K : PySem.W.Frag} {r : Addr} {A0 : Addr → Prop} {H0 H : Hp} {σ : L2.St} {δ : Env} (h : SR K r A0 H0 σ H δ) {i : Nat} {v w : V} {d e : D} (hd : DR K r (Av A0 r σ δ) H v d) (he : DR K r (Av A0 r σ δ) H w e) :
    DR K r (Av A0 r (σ.set i (some v)) (δ.set i (.val d))) H w e := he.bar fun b o hb _ => by
  rcases hb with hb | hb | ⟨j, ds, q1, q2⟩
  · exact .inl hb
  · exact .inr (.inl hb)
  · by_cases hj : i = j
    · subst hj
      by_cases hl : i < δ.length
      · rw [List.getElem?_set_self hl] at q1; cases q1
      · rw [List.getElem?_eq_none (by rw [List.length_set]; omega)] at q1; cases q1
    · rw [List.getElem?_set_ne hj] at q1 q2
      exact .inr (.inr ⟨j, ds, q1, q2⟩)
theorem gs_name {K : PySem.W.Frag} (i : Nat) : tGs K (gN i) (gName i) := fun r A0 H0 v d σ H δ P Q R hd h q => q _ _ h (R.set hd)
theorem gs_two {K : PySem.W.Frag} (i j : Nat) : tGs K (gN2 i j) (gTup K 2 (gCons (gName i) (gCons (gName j) gNil))) := fun r A0 H0 v d σ H δ P Q R hd h q => by
  cases d with
  | tup ds =>
    obtain ⟨a, xs, rfl, e, z, t⟩ := hd.sqT
    match ds, t, h with
    | [x, y], t, h =>
      cases t with
      | cons t1 t => cases t with
        | cons t2 t =>
          cases t
          exact ⟨a, _, rfl, e, rfl, _, _, rfl, _, _, rfl, rfl, q _ _ h ((R.set t1).set (R.set_val t1 t2))⟩
  | _ => exact h.elim
open Classical in
/-- what stands through a loop: what stood at the entry, and all that is not barred -/
noncomputable def held (H0 H1 : Hp) (A : Addr → Prop) : Hp := fun b => match H0 b with
  | some o => some o
  | none => if A b then none else H1 b
theorem held_of {H0 H1 : Hp} {A : Addr → Prop} {b : Addr} {o : HO} (h : H0 b = some o) : held H0 H1 A b = some o := by
  unfold held; rw [h]
theorem held_in {r : Addr} {H0 H1 : Hp} {A : Addr → Prop} (e : Ext r H0 H1) {b : Addr} {o : HO} (hr : b ≠ r) (h : held H0 H1 A b = some o) : H1 b = some o := by
  unfold held at h
  cases q : H0 b with
  | some u => rw [q] at h; cases h; exact e b _ hr q
  | none =>
    rw [q] at h
    simp only at h
    split at h
    · cases h
    · exact h
theorem held_new {r : Addr} {H0 H1 : Hp} {A : Addr → Prop} (e : Ext r H0 H1) {b : Addr} {o : HO} (hr : b ≠ r) (n : ¬ A b) (h : H1 b = some o) : held H0 H1 A b = some o := by
  unfold held
  cases q : H0 b with
  | some u =>
    have := e b _ hr q
    rw [h] at this; cases this; rfl
  | none => simp only; rw [if_neg n]; exact h
theorem held_none {H0 H1 : Hp} {A : Addr → Prop} {b : Addr} (h0 : H0 b = none) (h : A b) : held H0 H1 A b = none := by
  unfold held; rw [h0]; simp only; rw [if_pos h]
theorem for_of {K : PySem.W.Frag} {E : XK} {fi : DI} {g : DG} {gt : TG} {body : DS} (hg : tGs K g gt) : ∀ Dd σ H, tS K E (fun P δ => fi δ (fun ds => forD g body P ds δ) P.ex) Dd σ H → tFor (tI K E fi) gt (tS K E body) Dd σ H := fun Dd σ H ⟨r, A0, H0, δ, P, R, h2, L⟩ =>
  ⟨r, _, δ, _, P.ex, R.er, h2, fun ds J H1 h3 x1 n1 y => by
    have R1 := R.move x1 n1
    have dn : ∀ b o, H0 b = some o → held H0 H1 (Av A0 r σ δ) b = some o := fun b o q => held_of q
    have R2 : SR K r A0 (held H0 H1 (Av A0 r σ δ)) σ H1 δ := ⟨R1.er, fun b o hr q => held_in R1.ext hr q, fun i es l q1 q2 => held_none (R1.fresh i es l q1 q2) (.inr (.inr ⟨i, es, q1, q2⟩)), fun b hb z => by
      cases q : H0 b with
      | none => exact R1.a0 b hb q
      | some o => rw [dn b o q] at z; cases z⟩
    refine ⟨fun i m σ' H' => m = ds.length - i ∧ i ≤ ds.length ∧ ∃ δ', SR K r A0 (held H0 H1 (Av A0 r σ δ)) σ' H' δ' ∧ forD g body P (ds.drop i) δ', ⟨ds.length, by simp, Nat.zero_le _, δ, R2, h3⟩, ?_⟩
    rintro i m σ' H' ⟨rfl, hi, δ', R3, h4⟩
    have ea : ExtA (Av A0 r σ δ) H1 H' := fun b o nb q => R3.ext b o (fun z => nb (.inr (.inl z))) (held_new R1.ext (fun z => nb (.inr (.inl z))) nb q)
    have wa : ∀ b o, Av A0 r σ' δ' b → H1 b = some o → Av A0 r σ δ b := fun b o hb q => by
      rcases hb with hb | hb | ⟨j, es, q1, q2⟩
      · exact .inl hb
      · exact .inr (.inl hb)
      · have z := R3.fresh j es b q1 q2
        by_cases hA : Av A0 r σ δ b
        · exact hA
        · by_cases hr : b = r
          · exact .inr (.inl hr)
          · rw [held_new R1.ext hr hA q] at z; cases z
    obtain ⟨ys, yg⟩ := y i H' _ ea R3.er.wd wa
    by_cases hlt : i < ds.length
    · obtain ⟨go, yl⟩ := yg ds[i] (List.getElem?_eq_getElem hlt)
      refine .inr ⟨go, fun σ2 H2 => ∃ m', m' < ds.length - i ∧ m' = ds.length - (i + 1) ∧ i + 1 ≤ ds.length ∧ ∃ δ', SR K r A0 (held H0 H1 (Av A0 r σ δ)) σ2 H2 δ' ∧ forD g body P (ds.drop (i + 1)) δ', fun σ2 H2 h => h, fun x H2 hy => ?_⟩
      obtain ⟨x5, n5, d5⟩ := yl x H2 hy
      rw [List.drop_eq_getElem_cons hlt] at h4
      refine hg r A0 _ x ds[i] _ H2 _ _ _ (R3.move x5 n5) d5 h4 fun δ2 σ2 h6 R6 => ⟨r, A0, _, δ2, _, R6, h6, ?_⟩
      refine ⟨fun δ3 σ3 H3 q R7 => ⟨_, by omega, rfl, by omega, δ3, R7, q⟩, fun d v H3 q x7 n7 d7 => L.rt d v H3 q (fun b o hr z => x7 b o hr (dn b o z)) n7 d7, fun δ3 σ3 H3 q R7 => L.nx _ _ _ q (R7.down dn R.a0), fun δ3 σ3 H3 q R7 => ⟨_, by omega, rfl, by omega, δ3, R7, q⟩,
        fun x c dd H3 q x7 n7 z => L.ex x c dd H3 q (fun b o hr z => x7 b o hr (dn b o z)) n7 z⟩
    · have ei : i = ds.length := by omega
      rw [List.drop_eq_nil_of_le (by omega)] at h4
      exact .inl ⟨ys (by omega), L.nx _ _ _ h4 (R3.down dn R.a0)⟩, fun x c dd H' z e n q => L.ex x c dd H' z (R.ext.trans e) n (q.bar fun b o hb _ => .inl hb)⟩
section
variable {X : Cx} {E : XK} {iter tg : Expr} {body : List Stmt} {fi : DI} {g : DG} {gt : TG} {fb : DS} {pos : Pos}
theorem s_for (hp : PassesOwn (model X.prog X.w) X.A X.env X.xe) (hc : X.calm = true) (hi : PI X tg iter (tI X.K E fi)) (hG : tGs X.K g gt) (hg : PG X tg gt) (hb : PSs X body (tS X.K E fb)) (hs : ∀ x, foldedSetIterable iter X.env x = pure x := by intro _; rfl) :
    PS X (.For tg iter body [] pos) (tS X.K E (fun P δ => fi δ (fun ds => forD g fb P ds δ) P.ex)) := PS.imp (ps_for hp hc hi hg hb hs) (for_of hG)
end
/-! ### an own list grows -/
section
variable {X : Cx} {E : XK} {e : Expr} {fe : DE} {pos apos cpos p : Pos} {i : Nat} {x : Str}
theorem SR.grow {K : PySem.W.Frag} {r : Addr} {A0 : Addr → Prop} {H0 H : Hp} {σ : L2.St} {δ : Env} (h : SR K r A0 H0 σ H δ) {ds : List D} {l : Addr} {xs : List V} {v : V} {d : D} (hi : δ[i]? = some (.own ds)) (e1 : σ[i]? = some (some (.ref l))) (e4 : H l = some (.lst xs))
    (t : DRs K r (Av A0 r σ δ) H xs ds) (hd : DR K r (Av A0 r σ δ) H v d) (z : xs.length + 1 ≤ sizeLine) (lr : l ≠ r) : SR K r A0 H0 σ (upd H l (.lst (xs ++ [v]))) (δ.set i (.own (ds ++ [d]))) := by
  have hA : Av A0 r σ δ l := .inr (.inr ⟨i, ds, hi, e1⟩)
  have hil := (List.getElem?_eq_some_iff.mp hi).1
  have ea : ExtA (Av A0 r σ δ) H (upd H l (.lst (xs ++ [v]))) := fun b o nb q => by rw [upd_ne (fun y => nb (by rw [y]; exact hA))]; exact q
  have rn : RndOk r (upd H l (.lst (xs ++ [v]))) := by
    obtain ⟨ns, f1, f2⟩ := h.er.rnd
    exact ⟨ns, by rw [upd_ne (Ne.symm lr)]; exact f1, f2⟩
  have hsl : ∀ (j : Nat) (s : Sl), (δ.set i (.own (ds ++ [d])))[j]? = some s → (i = j ∧ s = .own (ds ++ [d])) ∨ (i ≠ j ∧ δ[j]? = some s) := fun j s q => by
    by_cases hj : i = j
    · subst hj
      rw [List.getElem?_set_self hil] at q; cases q; exact .inl ⟨rfl, rfl⟩
    · rw [List.getElem?_set_ne hj] at q; exact .inr ⟨hj, q⟩
  have own0 : ∀ (j : Nat) es, (δ.set i (.own (ds ++ [d])))[j]? = some (.own es) → ∃ es', δ[j]? = some (.own es') := fun j es q => by
    rcases hsl j _ q with ⟨e, _⟩ | ⟨_, q'⟩
    · exact ⟨ds, by rw [← e]; exact hi⟩
    · exact ⟨es, q'⟩
  refine SR.of (A := Av A0 r σ δ) ⟨rn, h.er.ar, fun b hb => ?_, by rw [List.length_set]; exact h.er.len, fun j d' q => ?_, fun j es q => ?_, fun j k es fs m hjk q1 q2 q3 q4 => ?_⟩ (fun b hb => .inl hb) (fun b o hr q => ?_) (fun j es m q1 q2 => ?_) h.a0
  · by_cases hb' : b = l
    · rw [hb', upd_same]; simp
    · rw [upd_ne hb']; exact h.er.all b hb
  · rcases hsl j _ q with ⟨_, y⟩ | ⟨_, q'⟩
    · cases y
    · obtain ⟨u, f1, f2⟩ := h.er.val j d' q'
      exact ⟨u, f1, f2.ext ea⟩
  · rcases hsl j _ q with ⟨e, y⟩ | ⟨hj, q'⟩
    · cases y
      subst e
      exact ⟨l, xs ++ [v], e1, hA, lr, upd_same, by rw [List.length_append, List.length_singleton]; exact z, DRs.append (t.ext ea) (.cons (hd.ext ea) .nil)⟩
    · obtain ⟨m, ys, f1, f2, f3, f4, f5, f6⟩ := h.er.own j es q'
      have hml : m ≠ l := fun y => h.er.sep i j _ _ l hj hi q' e1 (by rw [← y]; exact f1)
      exact ⟨m, ys, f1, f2, f3, by rw [upd_ne hml]; exact f4, f5, f6.ext ea⟩
  · obtain ⟨es', q1'⟩ := own0 j es q1
    obtain ⟨fs', q2'⟩ := own0 k fs q2
    exact h.er.sep j k _ _ m hjk q1' q2' q3 q4
  · have q' := h.ext b o hr q
    rw [upd_ne (fun y => by
      have z := h.fresh i ds l hi e1
      rw [← y, q] at z; cases z)]
    exact q'
  · obtain ⟨es', q1'⟩ := own0 j es q1
    exact h.fresh j es' m q1' q2
theorem s_append (hN : X.N[i]? = some x) (hv : Vis X.env.scope x) (he : PE X e (tE X.K E fe)) (hd : (x == ("__debug__" : Str)) = false := by decide) (hcd : (x == ("__classdict__" : Str)) = false := by decide)
    (hs1 : starEach [e] X.env = (false, eval e X.env) :: starEach [] X.env := by rfl)
    (hbase : attributeBase (.Name x p) "append" X.env (eval (.Name x p) X.env) = eval (.Name x p) X.env := by rfl)
    (hfew : ((backTo cpos (starEach [e] X.env)).all (fun x => !x.1) && (backToKw cpos (keywordEach [] X.env)).all (fun x => x.1.isSome)
      && decide ([e].length + ([] : List Keyword).length + (if ([] : List Keyword).isEmpty then 0 else 1) < 30)) = true := by rfl)
    (hline : (apos.endLine == cpos.line) = true := by rfl) (hplain : (backTo cpos (starEach [] X.env)).any (·.1) = false := by rfl)
    (hsw : swapsWith (.Call (.Attribute (.Name x p) "append" apos) [e] [] cpos) none pos.line X.env = pure false := by rfl) :
    PS X (.Expr (.Call (.Attribute (.Name x p) "append" apos) [e] [] cpos) pos) (tS X.K E (fun P δ => ∃ ds, δ[i]? = some (.own ds) ∧ fe δ (fun d => ds.length + 1 ≤ sizeLine ∧ P.nx (δ.set i (.own (ds ++ [d])))) P.ex)) :=
  PS.imp (ps_expr (pe_bm PySem.F.plainAttrs_list PySem.F.slot_list_append PySem.F.type_list_append mt_append (pe_var hN hv hd hcd) (pa_cons he pa_nil hs1) hbase hfew hline hs1 hplain) hsw) fun D σ H ⟨r, A0, H0, δ, P, R, ⟨ds, h1, h2⟩, L⟩ => by
    obtain ⟨l, xs, e1, e2, e3, e4, e5, e6⟩ := R.er.own i ds h1
    refine ⟨.ref l, e1, .inl ⟨rfl, xs, SqL.of e4⟩, use_of R L h2 fun d v H' h3 x3 n3 r3 => ?_⟩
    have R' := R.move x3 n3
    have e4' := x3 l _ e3 e4
    have t := e6.ext (x3.toA R.er.ar)
    have zl := t.length
    exact ⟨l, xs, v, rfl, rfl, e4', by omega, L.nx _ _ _ h3.2 (R'.grow h1 e1 e4' t r3 (by omega) e3)⟩
end
/-! ### defs -/
theorem startE_get {n m : Nat} {ds : List D} : ((ds.map Sl.val ++ List.replicate m Sl.emp)).length = ds.length + m := by simp
/-- a def at work: its name, its promise -/
structure Cal (P : Program) (w : World) (K : PySem.W.Frag) (mg : Str → Option Value) (base : Heap) (x : Str) (k n : Nat) (g : DF) : Prop where
  ex : ∃ (f : Addr) (fd : FuncData) (ps : List Str), FnOk P w K mg base (L2.CX P w) k f fd ps (spD K n g) ∧ mg x = some (.ref f) ∧ PySem.W.keepIn K (.ref f) = true ∧ Binds K fd ps []
section
variable {P : Program} {w : World} {K : PySem.W.Frag} {mg : Str → Option Value} {base : Heap}
theorem Cal.mono {x : Str} {k k' n : Nat} {g : DF} (c : Cal P w K mg base x k n g) (h : k ≤ k') : Cal P w K mg base x k' n g := by
  obtain ⟨f, fd, ps, F, m, kp, b⟩ := c.ex
  exact ⟨f, fd, ps, F.mono h, m, kp, b⟩
theorem Cal.imp {x : Str} {k n : Nat} {g g' : DF} (c : Cal P w K mg base x k n g) (h : ∀ ds P Z, ds.length = n → g' ds P Z → g ds P Z) : Cal P w K mg base x k n g' := by
  obtain ⟨f, fd, ps, F, m, kp, b⟩ := c.ex
  exact ⟨f, fd, ps, F.imp fun vs H Q E ⟨r, A, ds, P, Z, h1, h2, h3, h4, h5⟩ => ⟨r, A, ds, P, Z, h1, h2, h3, h _ _ _ h3 h4, h5⟩, m, kp, b⟩
theorem start_er {N : List Str} {vs : List V} {ds : List D} {r : Addr} {A : Addr → Prop} {H : Hp} (w : Wd r A H) (t : DRs K r A H vs ds) (hl : vs.length ≤ N.length) : ER K r A (L2.start N vs) H (ds.map Sl.val ++ List.replicate (N.length - ds.length) Sl.emp) := by
  have e := t.length
  have sl : ∀ (i : Nat) (s : Sl), (ds.map Sl.val ++ List.replicate (N.length - ds.length) Sl.emp)[i]? = some s → s = .emp ∨ ∃ d, ds[i]? = some d ∧ s = .val d := fun i s q => by
    rw [List.getElem?_append] at q
    split at q
    · rw [List.getElem?_map] at q
      cases hd : ds[i]? with
      | none => rw [hd] at q; cases q
      | some d => rw [hd] at q; exact .inr ⟨d, rfl, (Option.some.inj q).symm⟩
    · rw [List.getElem?_replicate] at q
      split at q
      · exact .inl (Option.some.inj q).symm
      · cases q
  refine ⟨w.rnd, w.ar, w.all, by simp [L2.start, e], fun i d q => ?_, fun i es q => ?_, fun i j es fs l hij q1 q2 q3 q4 => ?_⟩
  · rcases sl i _ q with z | ⟨d', hd, z⟩
    · cases z
    · cases z
      obtain ⟨u, hu, ru⟩ := t.get hd
      refine ⟨u, ?_, ru⟩
      unfold L2.start
      have hi := (List.getElem?_eq_some_iff.mp hu).1
      rw [List.getElem?_append_left (by simpa using hi), List.getElem?_map, hu]
      rfl
  · rcases sl i _ q with z | ⟨d', hd, z⟩ <;> cases z
  · rcases sl i _ q1 with z | ⟨d', hd, z⟩ <;> cases z
/-- THE RULE for a def -/
theorem def_ok {x qual : Str} {st : Stmt} {f : Addr} {fd : FuncData} {N ps : List Str} {k n : Nat} {g : DF} {body : DS} (F : Fun K x qual st f fd) (S : FnScope N ps (defScope st)) (hn : ps.length = n) (hN : n ≤ N.length)
    (hb : ∀ (cdv : Value) (A : Around) (outer : List PySem.Env) (s : Shared) (H : Hp) (E : XK), Room k (A.deeper (envOfC qual (defScope st) s.heap.objs.size f cdv)) →
      PSs (cxOf (L2.CX P w) P w K mg base N qual (defScope st) f cdv A outer s H E) (defBody st) (tS K E body))
    (hg : ∀ ds P Z, ds.length = n → g ds P Z → body ⟨fun _ => P .non, P, fun _ => False, fun _ => False, Z⟩ (ds.map Sl.val ++ List.replicate (N.length - n) Sl.emp)) :
    FnOk P w K mg base (L2.CX P w) (k + 1) f fd ps (spD K n g) := by
  refine F.okX S (fun vs H Q E h => ?_) (fun cdv A outer s H vs Q E hr h => ?_)
  · obtain ⟨r, A, ds, P, Z, _, t, hl, _⟩ := h
    rw [t.length, hl, hn]
  · obtain ⟨r, A0, ds, P', Z, wd, t, hl, h4, h5, h6⟩ := h
    refine ⟨_, hb cdv A outer s H E hr, r, A0, H, _, _, ?_, hg ds P' Z hl h4, ⟨fun δ' σ' H' q R => ?_, fun d v H' q e n y => h5 d v H' q e n y, fun _ _ _ q => q.elim, fun _ _ _ q => q.elim, fun x c dd H' q e n y => h6 x c dd H' q e n y⟩⟩
    · have := start_er (N := N) wd t (by rw [t.length, hl]; exact hN)
      rw [hl] at this
      refine SR.of this (fun b hb => hb) .refl (fun i es l q1 q2 => ?_) wd.all
      rw [List.getElem?_append] at q1
      split at q1
      · rw [List.getElem?_map] at q1
        cases hd : ds[i]? with
        | none => rw [hd] at q1; cases q1
        | some d => rw [hd] at q1; cases q1
      · rw [List.getElem?_replicate] at q1
        split at q1 <;> cases q1
    · exact h5 .non .non H' q R.ext R.er.rnd .non
theorem passX {K : PySem.W.Frag} {N : List Str} {qual : Str} {scope : Scope} {f : Addr} {cdv : Value} {A : Around} {outer : List PySem.Env} {s : Shared} {H : Hp} {E : XK} : Passes (L2.CX P w) (cxOf (L2.CX P w) P w K mg base N qual scope f cdv A outer s H E) E :=
  passes_call (W := fun cls d _ H => E cls d H) (takes_of rfl rfl rfl rfl) fun _ _ _ _ h => h
theorem pass0 {X : Cx} : Passes (L2.CX P w) X E0 := fun _ _ _ _ _ _ _ h => by
  obtain ⟨_, _, _, _, _, _, _, _, _, _, _, _, h⟩ := h
  exact h.elim
end
section
variable {X : Cx} {E : XK} {e : Expr} {es : List Expr} {fs : DA} {x : Str} {pos p : Pos} {k n : Nat} {g : DF}
/-- f(e, ..) by its promise -/
theorem e_cal (c : Cal X.prog X.w X.K X.mg X.base x k n g) (hr : Room k X.A) (hg : Gl X x) (hx : Passes (L2.CX X.prog X.w) X E) (ha : PA X (e :: es) (tA X.K E fs)) (hdb : (x == ("__debug__" : Str)) = false := by decide)
    (he : starEach (e :: es) X.env = (false, eval e X.env) :: starEach es X.env := by rfl) (hpl : (backTo pos (starEach es X.env)).any (·.1) = false := by rfl) :
    PE X (.Call (.Name x p) (e :: es) [] pos) (tE X.K E (fun δ P Z => fs δ (fun ds => ds.length = n ∧ g ds P Z) Z)) := by
  obtain ⟨f, fd, ps, F, m, kp, b⟩ := c.ex
  exact e_call F hr hg m kp b hx ha hdb he hpl
end
end L3

namespace L3
open PySem PySem.Spec PyProof.Rows L2
section
variable {K : PySem.W.Frag}
theorem DR.flat {r : Addr} {A : Addr → Prop} {H : Hp} {v : V} {d : D} (h : DR K r A H v d) : (∀ i, d = .int i → v = .int i) ∧ (∀ b, d = .bl b → v = .bl b) ∧ (∀ z, d = .str z → v = .str z) ∧ (d = .non → v = .non) := by
  refine ⟨fun i e => ?_, fun b e => ?_, fun z e => ?_, fun e => ?_⟩ <;> subst e <;> cases h <;> rfl
/-! ### + - * // % -/
def addD : D → D → DP → Prop
  | .int i, .int j, P => P (.int (i + j))
  | .str i, .str j, P => i.length + j.length ≤ sizeLine ∧ P (.str (i ++ j))
  | .lst a, .lst b, P => a.length + b.length ≤ sizeLine ∧ P (.lst (a ++ b))
  | .tup a, .tup b, P => a.length + b.length ≤ sizeLine ∧ P (.tup (a ++ b))
  | _, _, _ => False
def rAddA (K : PySem.W.Frag) : R2 := fun x y H Q => (((∃ i j, x = .int i ∧ y = .int j ∧ Q (.int (i + j)) H) ∨ (∃ i j, x = .str i ∧ y = .str j ∧ i.length + j.length ≤ sizeLine ∧ Q (.str (i ++ j)) H)) ∨ rCat x y H Q) ∨ rCatA K x y H Q
theorem or_add {X : Cx} : OpR X (binaryOp .Add) (rAddA X.K) := ((op_add.or op_add_str).or op_cat).or op_catA
theorem od_add : OpD K (rAddA K) addD := fun r A H x y d e P Q w hx hy h q => by
  cases d with
  | int i =>
    cases e with
    | int j => cases hx; cases hy; exact .inl (.inl (.inl ⟨i, j, rfl, rfl, q _ _ _ h .refl w.rnd (.int _)⟩))
    | _ => exact h.elim
  | str i =>
    cases e with
    | str j => cases hx; cases hy; exact .inl (.inl (.inr ⟨i, j, rfl, rfl, h.1, q _ _ _ h.2 .refl w.rnd (.str _)⟩))
    | _ => exact h.elim
  | lst a =>
    cases e with
    | lst b =>
      obtain ⟨p, xs, rfl, _, e1, z1, t1⟩ := hx.sqL
      obtain ⟨p', ys, rfl, _, e2, z2, t2⟩ := hy.sqL
      have hz : xs.length + ys.length ≤ sizeLine := by rw [t1.length, t2.length]; exact h.1
      exact .inl (.inr ⟨p, p', xs, ys, rfl, rfl, e1, e2, hz, fun t nt => q _ _ _ h.2 (Ext.upd nt) (w.rnd.upd nt) (w.lst nt (by rw [List.length_append]; exact hz) (t1.append t2))⟩)
    | _ => exact h.elim
  | tup a =>
    cases e with
    | tup b =>
      obtain ⟨p, xs, rfl, e1, z1, t1⟩ := hx.sqT
      obtain ⟨p', ys, rfl, e2, z2, t2⟩ := hy.sqT
      have hz : xs.length + ys.length ≤ sizeLine := by rw [t1.length, t2.length]; exact h.1
      refine .inr ⟨p, p', xs, ys, rfl, rfl, e1, e2, hz, fun e0 => ?_, fun _ e0 => ?_, fun _ _ t nt => q _ _ _ h.2 (Ext.upd nt) (w.rnd.upd nt) (w.tup nt (by rw [List.length_append]; exact hz) (t1.append t2))⟩
      · subst e0
        cases t1
        exact q _ _ _ h.2 .refl w.rnd hy
      · subst e0
        cases t2
        exact q _ _ _ (by have h2 := h.2; rw [List.append_nil] at h2; exact h2) .refl w.rnd hx
    | _ => exact h.elim
  | _ => exact h.elim
def intD (g : Int → Int → D) (C : Int → Int → Prop) : D → D → DP → Prop
  | .int i, .int j, P => C i j ∧ P (g i j)
  | _, _, _ => False
theorem od_int {g : Int → Int → V} {gd : Int → Int → D} {C : Int → Int → Prop} (hg : ∀ i j r A H, DR K r A H (g i j) (gd i j)) : OpD K (rI C g) (intD gd C) := fun r A H x y d e P Q w hx hy h q => by
  cases d with
  | int i =>
    cases e with
    | int j => cases hx; cases hy; exact ⟨i, j, rfl, rfl, h.1, q _ _ _ h.2 .refl w.rnd (hg i j r A H)⟩
    | _ => exact h.elim
  | _ => exact h.elim
def intD0 (g : Int → Int → D) : D → D → DP → Prop
  | .int i, .int j, P => P (g i j)
  | _, _, _ => False
theorem od_int0 {g : Int → Int → V} {gd : Int → Int → D} (hg : ∀ i j r A H, DR K r A H (g i j) (gd i j)) : OpD K (rI0 g) (intD0 gd) := fun r A H x y d e P Q w hx hy h q => by
  cases d with
  | int i =>
    cases e with
    | int j => cases hx; cases hy; exact ⟨i, j, rfl, rfl, q _ _ _ h .refl w.rnd (hg i j r A H)⟩
    | _ => exact h.elim
  | _ => exact h.elim
abbrev subD := intD0 fun i j => .int (i - j)
theorem od_sub : OpD K (rI0 fun i j => .int (i - j)) subD := od_int0 fun _ _ _ _ _ => .int _
abbrev mulD := intD (fun i j => .int (i * j)) CMul
theorem od_mul : OpD K (rI CMul fun i j => .int (i * j)) mulD := od_int fun _ _ _ _ _ => .int _
abbrev divD := intD (fun i j => .int (i / j)) CDivW
theorem od_div : OpD K (rI CDivW fun i j => .int (i / j)) divD := od_int fun _ _ _ _ _ => .int _
abbrev modD := intD (fun i j => .int (i % j)) (fun _ j => 0 < j)
theorem od_mod : OpD K (rI (fun _ j => 0 < j) fun i j => .int (i % j)) modD := od_int fun _ _ _ _ _ => .int _
abbrev powD := intD (fun i j => .int (i ^ j.toNat)) CPow
theorem od_pow : OpD K (rI CPow fun i j => .int (i ^ j.toNat)) powD := od_int fun _ _ _ _ _ => .int _
/-! ### comparisons -/
abbrev ltD := intD0 fun i j => .bl (decide (i < j))
theorem od_lt : OpD K (rI0 fun i j => .bl (decide (i < j))) ltD := od_int0 fun _ _ _ _ _ => .bl _
abbrev leD := intD0 fun i j => .bl (decide (i ≤ j))
theorem od_le : OpD K (rI0 fun i j => .bl (decide (i ≤ j))) leD := od_int0 fun _ _ _ _ _ => .bl _
abbrev gtD := intD0 fun i j => .bl (decide (j < i))
theorem od_gt : OpD K (rI0 fun i j => .bl (decide (j < i))) gtD := od_int0 fun _ _ _ _ _ => .bl _
abbrev geD := intD0 fun i j => .bl (decide (j ≤ i))
theorem od_ge : OpD K (rI0 fun i j => .bl (decide (j ≤ i))) geD := od_int0 fun _ _ _ _ _ => .bl _
def D.isNon : D → Bool
  | .non => true
  | _ => false
theorem DR.non_iff {r : Addr} {A : Addr → Prop} {H : Hp} {v : V} {d : D} (h : DR K r A H v d) : decide (v = .non) = d.isNon := by
  cases h <;> simp [D.isNon]
def isND : D → D → DP → Prop
  | x, .non, P => P (.bl x.isNon)
  | _, _, _ => False
def notND : D → D → DP → Prop
  | x, .non, P => P (.bl (!x.isNon))
  | _, _, _ => False
theorem od_isN : OpD K (fun x y H Q => y = .non ∧ Q (.bl (decide (x = .non))) H) isND := fun r A H x y d e P Q w hx hy h q => by
  cases e with
  | non => cases hy; exact ⟨rfl, by rw [hx.non_iff]; exact q _ _ _ h .refl w.rnd (.bl _)⟩
  | _ => exact h.elim
theorem od_notN : OpD K (fun x y H Q => y = .non ∧ Q (.bl (!decide (x = .non))) H) notND := fun r A H x y d e P Q w hx hy h q => by
  cases e with
  | non => cases hy; exact ⟨rfl, by rw [hx.non_iff]; exact q _ _ _ h .refl w.rnd (.bl _)⟩
  | _ => exact h.elim
/-! ### == of data -/
mutual
/-- plain data: no source, no instance, no dict -/
def D.py : D → Option PyData
  | .non => some .none
  | .bl b => some (.bool b)
  | .int i => some (.int i)
  | .str x => some (.str x)
  | .lst ds => (D.pys ds).map .list
  | .tup ds => (D.pys ds).map .tuple
  | .dic => none
  | .rnd => none
  | .adr _ => none
  | .exc _ _ _ => none
  | .obj _ _ _ => none
def D.pys : List D → Option (List PyData)
  | [] => some []
  | d :: ds => (D.py d).bind fun x => (D.pys ds).map fun xs => x :: xs
end
mutual
theorem DR.dp {r : Addr} {A : Addr → Prop} {H : Hp} : ∀ {d : D} {v : V} {y : PyData}, DR K r A H v d → d.py = some y → Dp K H v y
  | .non, _, _, h, e => by cases h; cases e; exact .non
  | .bl b, _, _, h, e => by cases h; cases e; exact .bl b
  | .int b, _, _, h, e => by cases h; cases e; exact .int b
  | .str b, _, _, h, e => by cases h; cases e; exact .str b
  | .lst ds, _, _, h, e => by
    obtain ⟨p, xs, rfl, _, e1, z1, t1⟩ := h.sqL
    unfold D.py at e
    cases q : D.pys ds with
    | none => rw [q] at e; cases e
    | some ys => rw [q] at e; cases e; exact .lst (SqL.of e1) (DRs.dps t1 q)
  | .tup ds, _, _, h, e => by
    obtain ⟨p, xs, rfl, e1, z1, t1⟩ := h.sqT
    unfold D.py at e
    cases q : D.pys ds with
    | none => rw [q] at e; cases e
    | some ys => rw [q] at e; cases e; exact .tup e1 (DRs.dps t1 q)
  | .dic, _, _, _, e => by cases e
  | .rnd, _, _, _, e => by cases e
  | .adr _, _, _, _, e => by cases e
  | .exc _ _ _, _, _, _, e => by cases e
  | .obj _ _ _, _, _, _, e => by cases e
theorem DRs.dps {r : Addr} {A : Addr → Prop} {H : Hp} : ∀ {ds : List D} {vs : List V} {ys : List PyData}, DRs K r A H vs ds → D.pys ds = some ys → DpAll K H vs ys
  | [], _, _, h, e => by cases h; cases e; exact .nil
  | d :: ds, _, _, h, e => by
    cases h with
    | cons a b =>
      unfold D.pys at e
      cases q : d.py with
      | none => rw [q] at e; cases e
      | some x =>
        cases q2 : D.pys ds with
        | none => rw [q, q2] at e; cases e
        | some xs => rw [q, q2] at e; cases e; exact .cons (DR.dp a q) (DRs.dps b q2)
end
/-- what == is asked of: plain data, no deeper than 64 -/
def D.eqOk (d : D) : Bool := match d.py with
  | some y => SeqAt.shaped y
  | none => false
def eqD (d e : D) : Bool := match d.py, e.py with
  | some x, some y => PyData.eqv x y
  | _, _ => false
theorem od_eq : OpD K (rEqD K) (fun d e P => d.eqOk = true ∧ e.eqOk = true ∧ P (.bl (eqD d e))) := fun r A H x y d e P Q w hx hy h q => by
  obtain ⟨h1, h2, h3⟩ := h
  unfold D.eqOk at h1 h2
  cases p1 : d.py with
  | none => rw [p1] at h1; cases h1
  | some a =>
    cases p2 : e.py with
    | none => rw [p2] at h2; cases h2
    | some b =>
      rw [p1] at h1
      rw [p2] at h2
      refine ⟨a, b, hx.dp p1, hy.dp p2, h1, h2, q _ _ _ ?_ .refl w.rnd (.bl _)⟩
      have : eqD d e = PyData.eqv a b := by unfold eqD; rw [p1, p2]
      rw [← this]; exact h3
theorem od_ne : OpD K (rNeD K) (fun d e P => d.eqOk = true ∧ e.eqOk = true ∧ P (.bl (!eqD d e))) := fun r A H x y d e P Q w hx hy h q => by
  obtain ⟨h1, h2, h3⟩ := h
  unfold D.eqOk at h1 h2
  cases p1 : d.py with
  | none => rw [p1] at h1; cases h1
  | some a =>
    cases p2 : e.py with
    | none => rw [p2] at h2; cases h2
    | some b =>
      rw [p1] at h1
      rw [p2] at h2
      refine ⟨a, b, hx.dp p1, hy.dp p2, h1, h2, q _ _ _ ?_ .refl w.rnd (.bl _)⟩
      have : eqD d e = PyData.eqv a b := by unfold eqD; rw [p1, p2]
      rw [← this]; exact h3
/-! ### in -/
def D.flat : D → Bool
  | .non => true
  | .bl _ => true
  | .int _ => true
  | .str _ => true
  | _ => false
def D.toV : D → V
  | .non => .non
  | .bl b => .bl b
  | .int i => .int i
  | .str x => .str x
  | _ => .non
theorem DR.toV {r : Addr} {A : Addr → Prop} {H : Hp} {v : V} {d : D} (h : DR K r A H v d) (f : d.flat = true) : v = d.toV ∧ flatV v = true := by
  cases h <;> first | exact ⟨rfl, rfl⟩ | cases f
theorem DRs.toVs {r : Addr} {A : Addr → Prop} {H : Hp} : ∀ {vs : List V} {ds : List D}, DRs K r A H vs ds → ds.all D.flat = true → vs = ds.map D.toV ∧ vs.all flatV = true
  | _, _, .nil, _ => ⟨rfl, rfl⟩
  | _, _, .cons a b, f => by
    rw [List.all_cons, Bool.and_eq_true] at f
    obtain ⟨h1, h2⟩ := a.toV f.1
    obtain ⟨h3, h4⟩ := DRs.toVs b f.2
    exact ⟨by rw [h1, h3]; rfl, by rw [List.all_cons, h2, h4]; rfl⟩
/-- x in a list or tuple of flat things -/
def inL (d : D) (ds : List D) : Bool := inV d.toV (ds.map D.toV)
def inD : D → D → DP → Prop
  | x, .lst ds, P => x.flat = true ∧ ds.all D.flat = true ∧ P (.bl (inL x ds))
  | x, .tup ds, P => x.flat = true ∧ ds.all D.flat = true ∧ P (.bl (inL x ds))
  | .str c, .str z, P => ∃ k, c = ⟨#[k]⟩ ∧ P (.bl (decide (k ∈ z.cps.toList)))
  | _, _, _ => False
def notInD : D → D → DP → Prop
  | x, .lst ds, P => x.flat = true ∧ ds.all D.flat = true ∧ P (.bl (!inL x ds))
  | x, .tup ds, P => x.flat = true ∧ ds.all D.flat = true ∧ P (.bl (!inL x ds))
  | .str c, .str z, P => ∃ k, c = ⟨#[k]⟩ ∧ P (.bl (!decide (k ∈ z.cps.toList)))
  | _, _, _ => False
def rInA (K : PySem.W.Frag) (neg : Bool) : R2 := fun x y H Q => rIn K neg x y H Q ∨ ∃ (c : Nat) (z : Str), x = .str ⟨#[c]⟩ ∧ y = .str z ∧ Q (.bl (if neg then !decide (c ∈ z.cps.toList) else decide (c ∈ z.cps.toList))) H
theorem or_in {X : Cx} : OpR X (compareOp .In) (rInA X.K false) := op_in_seq.or op_in_sign
theorem or_notIn {X : Cx} : OpR X (compareOp .NotIn) (rInA X.K true) := op_notIn_seq.or op_notIn_sign
theorem od_in : OpD K (rInA K false) inD := fun r A H x y d e P Q w hx hy h q => by
  cases e with
  | lst ds =>
    obtain ⟨h1, h2, h3⟩ : d.flat = true ∧ ds.all D.flat = true ∧ P (.bl (inL d ds)) := by cases d <;> exact h
    obtain ⟨p, xs, rfl, _, e1, z1, t1⟩ := hy.sqL
    obtain ⟨f1, f2⟩ := hx.toV h1
    obtain ⟨f3, f4⟩ := t1.toVs h2
    exact .inl ⟨p, xs, rfl, .inl (SqL.of e1), f2, f4, q _ _ _ h3 .refl w.rnd (by rw [f1, f3]; exact .bl _)⟩
  | tup ds =>
    obtain ⟨h1, h2, h3⟩ : d.flat = true ∧ ds.all D.flat = true ∧ P (.bl (inL d ds)) := by cases d <;> exact h
    obtain ⟨p, xs, rfl, e1, z1, t1⟩ := hy.sqT
    obtain ⟨f1, f2⟩ := hx.toV h1
    obtain ⟨f3, f4⟩ := t1.toVs h2
    exact .inl ⟨p, xs, rfl, .inr e1, f2, f4, q _ _ _ h3 .refl w.rnd (by rw [f1, f3]; exact .bl _)⟩
  | str z =>
    cases d with
    | str c =>
      obtain ⟨k, rfl, h3⟩ := h
      cases hx; cases hy
      exact .inr ⟨k, z, rfl, rfl, q _ _ _ h3 .refl w.rnd (.bl _)⟩
    | _ => exact h.elim
  | _ => cases d <;> exact h.elim
theorem od_notIn : OpD K (rInA K true) notInD := fun r A H x y d e P Q w hx hy h q => by
  cases e with
  | lst ds =>
    obtain ⟨h1, h2, h3⟩ : d.flat = true ∧ ds.all D.flat = true ∧ P (.bl (!inL d ds)) := by cases d <;> exact h
    obtain ⟨p, xs, rfl, _, e1, z1, t1⟩ := hy.sqL
    obtain ⟨f1, f2⟩ := hx.toV h1
    obtain ⟨f3, f4⟩ := t1.toVs h2
    exact .inl ⟨p, xs, rfl, .inl (SqL.of e1), f2, f4, q _ _ _ h3 .refl w.rnd (by rw [f1, f3]; exact .bl _)⟩
  | tup ds =>
    obtain ⟨h1, h2, h3⟩ : d.flat = true ∧ ds.all D.flat = true ∧ P (.bl (!inL d ds)) := by cases d <;> exact h
    obtain ⟨p, xs, rfl, e1, z1, t1⟩ := hy.sqT
    obtain ⟨f1, f2⟩ := hx.toV h1
    obtain ⟨f3, f4⟩ := t1.toVs h2
    exact .inl ⟨p, xs, rfl, .inr e1, f2, f4, q _ _ _ h3 .refl w.rnd (by rw [f1, f3]; exact .bl _)⟩
  | str z =>
    cases d with
    | str c =>
      obtain ⟨k, rfl, h3⟩ := h
      cases hx; cases hy
      exact .inr ⟨k, z, rfl, rfl, q _ _ _ h3 .refl w.rnd (.bl _)⟩
    | _ => exact h.elim
  | _ => cases d <;> exact h.elim
/-! ### items -/
def ixD : D → D → DP → Prop
  | .lst ds, .int i, P => ∃ x, atI ds i = some x ∧ P x
  | .tup ds, .int i, P => ∃ x, atI ds i = some x ∧ P x
  | .str z, .int i, P => z.length ≤ sizeLine ∧ ∃ c, atI z.cps.toList i = some c ∧ P (.str ⟨#[c]⟩)
  | _, _, _ => False
theorem DRs.atI {r : Addr} {A : Addr → Prop} {H : Hp} {vs : List V} {ds : List D} (t : DRs K r A H vs ds) {i : Int} {x : D} (h : L2.atI ds i = some x) : ∃ v, L2.atI vs i = some v ∧ DR K r A H v x := by
  unfold L2.atI at h ⊢
  rw [t.length]
  cases q : ixN ds.length i with
  | none => rw [q] at h; cases h
  | some j =>
    rw [q] at h
    obtain ⟨u, hu, ru⟩ := t.get (i := j) h
    exact ⟨u, hu, ru⟩
theorem IxR.or {X : Cx} {r r' : R2} (h : IxR X r) (h' : IxR X r') : IxR X (fun x y H Q => r x y H Q ∨ r' x y H Q) := by
  intro value slice pins s σ H x y v u Q I rx ry q hs
  rcases q with q | q
  · exact h value slice pins s σ H x y v u Q I rx ry q hs
  · exact h' value slice pins s σ H x y v u Q I rx ry q hs
def rIxA (K : PySem.W.Frag) : R2 := fun x y H Q => (rIxL K x y H Q ∨ rIxT K x y H Q) ∨ rIxS x y H Q
theorem or_ix {X : Cx} : IxR X (rIxA X.K) := (ix_list.or ix_tup).or ix_str
theorem od_ix : OpD K (rIxA K) ixD := fun r A H x y d e P Q w hx hy h q => by
  cases e with
  | int i =>
    cases hy
    cases d with
    | lst ds =>
      obtain ⟨z, h1, h2⟩ := h
      obtain ⟨p, xs, rfl, _, e1, z1, t1⟩ := hx.sqL
      obtain ⟨v, hv, rv⟩ := t1.atI h1
      exact .inl (.inl ⟨p, xs, i, v, rfl, rfl, SqL.of e1, hv, q _ _ _ h2 .refl w.rnd rv⟩)
    | tup ds =>
      obtain ⟨z, h1, h2⟩ := h
      obtain ⟨p, xs, rfl, e1, z1, t1⟩ := hx.sqT
      obtain ⟨v, hv, rv⟩ := t1.atI h1
      exact .inl (.inr ⟨p, xs, i, v, rfl, rfl, e1, hv, q _ _ _ h2 .refl w.rnd rv⟩)
    | str z =>
      obtain ⟨hz, c, h1, h2⟩ := h
      cases hx
      exact .inr ⟨z, i, c, rfl, rfl, hz, h1, q _ _ _ h2 .refl w.rnd (.str _)⟩
    | _ => exact h.elim
  | _ => cases d <;> exact h.elim
end
section
variable {X : Cx} {E : XK} {a b c : Expr} {fa fb fc : DE} {pos : Pos}
theorem e_ix (ha : PE X a (tE X.K E fa)) (hb : PE X b (tE X.K E fb)) (hs : PlainIx b) : PE X (.Subscript a b pos) (tE X.K E (fun δ P Z => fa δ (fun d => fb δ (fun d' => ixD d d' P) Z) Z)) := PE.imp (pe_ix or_ix ha hb hs) (two_of od_ix)
/-- a op b op' c -/
theorem chain_of {rr rr' : R2} {g g' : D → D → DP → Prop} (h1 : OpD X.K rr g) (h2 : OpD X.K rr' g') : ∀ σ H Q, tE X.K E (fun δ P Z => fa δ (fun d => fb δ (fun d' => g d d' (fun k => ∃ b, k = .bl b ∧ if b = true then fc δ (fun d2 => g' d' d2 P) Z else P (.bl false))) Z) Z) σ H Q →
    tChain rr rr' (tE X.K E fa) (tE X.K E fb) (tE X.K E fc) σ H Q := fun σ H Q ⟨r, A, δ, P, Z, R, h, hq, hz⟩ => ⟨r, A, δ, _, Z, R, h, fun d v H1 h3 x1 n1 r1 => ⟨r, A, δ, _, Z, R.ext x1 n1, h3, fun d' v' H2 h4 x2 n2 r2 =>
      h1 r A H2 v v' d d' _ _ ((R.ext x1 n1).ext x2 n2).wd (r1.ext (x2.toA R.ar)) r2 h4 fun k u H3 h5 x3 n3 r3 => by
        obtain ⟨kb, rfl, h5⟩ := h5
        cases r3
        refine ⟨kb, rfl, ?_⟩
        have R3 := ((R.ext x1 n1).ext x2 n2).ext x3 n3
        cases kb with
        | true => exact ⟨r, A, δ, _, Z, R3, h5, fun d2 v2 H4 h6 x4 n4 r4 => h2 r A H4 v' v2 d' d2 P Q (R3.ext x4 n4).wd ((r2.ext (x3.toA R.ar)).ext (x4.toA R.ar)) r4 h6 fun c u H5 h7 x5 n5 r5 =>
            hq c u H5 h7 ((((x1.trans x2).trans x3).trans x4).trans x5) n5 r5, fun x c dd H' z x4 => hz x c dd H' z (((x1.trans x2).trans x3).trans x4)⟩
        | false => exact hq _ _ H3 h5 ((x1.trans x2).trans x3) n3 (.bl false), fun x c dd H' z x2 => hz x c dd H' z (x1.trans x2)⟩, hz⟩
theorem e_chain {op op' : CmpOp} {rr rr' : R2} {g g' : D → D → DP → Prop} (ho : OpR X (compareOp op) rr) (ho' : OpR X (compareOp op') rr') (h1 : OpD X.K rr g) (h2 : OpD X.K rr' g') (ha : PE X a (tE X.K E fa)) (hb : PE X b (tE X.K E fb)) (hc : PE X c (tE X.K E fc))
    (hm : lastMarks [op, op'] [b, c] = false := by with_unfolding_all rfl) : PE X (.Compare a [op, op'] [b, c] pos) (tE X.K E (fun δ P Z => fa δ (fun d => fb δ (fun d' => g d d' (fun k => ∃ b, k = .bl b ∧ if b = true then fc δ (fun d2 => g' d' d2 P) Z else P (.bl false))) Z) Z)) :=
  PE.imp (pe_chain ho ho' ha hb hc hm) (chain_of h1 h2)
theorem t_chain {op op' : CmpOp} {rr rr' : R2} {g g' : D → D → DP → Prop} (ho : OpR X (compareOp op) rr) (ho' : OpR X (compareOp op') rr') (h1 : OpD X.K rr g) (h2 : OpD X.K rr' g') (ha : PE X a (tE X.K E fa)) (hb : PE X b (tE X.K E fb)) (hc : PE X c (tE X.K E fc))
    (hm : lastMarks [op, op'] [b, c] = false := by with_unfolding_all rfl) : PT X (.Compare a [op, op'] [b, c] pos) (tT X.K E (fun δ P Z => (fun δ P Z => fa δ (fun d => fb δ (fun d' => g d d' (fun k => ∃ b, k = .bl b ∧ if b = true then fc δ (fun d2 => g' d' d2 P) Z else P (.bl false))) Z) Z) δ (fun c => ∃ k, c = .bl k ∧ P k) Z)) :=
  PT.imp (pt_chain ho ho' ha hb hc hm) (test_of (chain_of h1 h2))
end
/-! ### builtins -/
section
variable {K : PySem.W.Frag}
def lenD : List D → DP → Prop
  | [.lst ds], P => P (.int ds.length)
  | [.tup ds], P => P (.int ds.length)
  | [.str z], P => z.length ≤ sizeLine ∧ P (.int z.length)
  | _, _ => False
def rLenA (K : PySem.W.Frag) : List V → Hp → VK → Prop := fun xs H Q => (∃ p ys, xs = [.ref p] ∧ (SqL K H p ys ∨ SqT K H p ys) ∧ Q (.int ys.length) H) ∨ ∃ z, xs = [.str z] ∧ z.length ≤ sizeLine ∧ Q (.int z.length) H
theorem cr_len {X : Cx} : CallR X (.builtin "len") (rLenA X.K) := call_len_seq.or call_len_str
theorem DRs.one {r : Addr} {A : Addr → Prop} {H : Hp} {vs : List V} {d : D} (t : DRs K r A H vs [d]) : ∃ v, vs = [v] ∧ DR K r A H v d := by
  cases t with
  | cons a b => cases b; exact ⟨_, rfl, a⟩
theorem DRs.two {r : Addr} {A : Addr → Prop} {H : Hp} {vs : List V} {d e : D} (t : DRs K r A H vs [d, e]) : ∃ v u, vs = [v, u] ∧ DR K r A H v d ∧ DR K r A H u e := by
  cases t with
  | cons a b =>
    obtain ⟨u, rfl, c⟩ := b.one
    exact ⟨_, u, rfl, a, c⟩
theorem cd_len : CallD K (rLenA K) lenD := fun r A H xs ds P Q w t h q => by
  match ds, h with
  | [.lst ds], h =>
    obtain ⟨v, rfl, a⟩ := t.one
    obtain ⟨p, xs, rfl, _, e1, z1, t1⟩ := a.sqL
    exact .inl ⟨p, xs, rfl, .inl (SqL.of e1), by rw [t1.length]; exact q _ _ _ h .refl w.rnd (.int _)⟩
  | [.tup ds], h =>
    obtain ⟨v, rfl, a⟩ := t.one
    obtain ⟨p, xs, rfl, e1, z1, t1⟩ := a.sqT
    exact .inl ⟨p, xs, rfl, .inr e1, by rw [t1.length]; exact q _ _ _ h .refl w.rnd (.int _)⟩
  | [.str z], h =>
    obtain ⟨v, rfl, a⟩ := t.one
    cases a
    exact .inr ⟨z, rfl, h.1, q _ _ _ h.2 .refl w.rnd (.int _)⟩
def tupleD : List D → DP → Prop
  | [.lst ds], P => P (.tup ds)
  | [.tup ds], P => P (.tup ds)
  | _, _ => False
theorem cd_tuple : CallD K (fun xs H Q => ∃ p ys, xs = [.ref p] ∧ ((SqL K H p ys ∧ ∀ l, H l = none → Q (.ref l) (upd H l (.tup ys))) ∨ (SqT K H p ys ∧ Q (.ref p) H))) tupleD := fun r A H xs ds P Q w t h q => by
  match ds, h with
  | [.lst ds], h =>
    obtain ⟨v, rfl, a⟩ := t.one
    obtain ⟨p, xs, rfl, _, e1, z1, t1⟩ := a.sqL
    exact ⟨p, xs, rfl, .inl ⟨SqL.of e1, fun l nl => q _ _ _ h (Ext.upd nl) (w.rnd.upd nl) (w.tup nl z1 t1)⟩⟩
  | [.tup ds], h =>
    obtain ⟨v, rfl, a⟩ := t.one
    obtain ⟨p, xs, e, e1, z1, t1⟩ := a.sqT
    subst e
    exact ⟨p, xs, rfl, .inr ⟨e1, q _ _ _ h .refl w.rnd a⟩⟩
def listD : List D → DP → Prop
  | [.lst ds], P => P (.lst ds)
  | [.tup ds], P => P (.lst ds)
  | _, _ => False
theorem cd_list : CallD K (fun xs H Q => ∃ p ys, xs = [.ref p] ∧ (SqL K H p ys ∨ SqT K H p ys) ∧ ∀ l, H l = none → Q (.ref l) (upd H l (.lst ys))) listD := fun r A H xs ds P Q w t h q => by
  match ds, h with
  | [.lst ds], h =>
    obtain ⟨v, rfl, a⟩ := t.one
    obtain ⟨p, xs, rfl, _, e1, z1, t1⟩ := a.sqL
    exact ⟨p, xs, rfl, .inl (SqL.of e1), fun l nl => q _ _ _ h (Ext.upd nl) (w.rnd.upd nl) (w.lst nl z1 t1)⟩
  | [.tup ds], h =>
    obtain ⟨v, rfl, a⟩ := t.one
    obtain ⟨p, xs, rfl, e1, z1, t1⟩ := a.sqT
    exact ⟨p, xs, rfl, .inr e1, fun l nl => q _ _ _ h (Ext.upd nl) (w.rnd.upd nl) (w.lst nl z1 t1)⟩
def allD : List D → DP → Prop := fun ds P => ∃ bs : List Bool, ds = [.lst (bs.map .bl)] ∧ P (.bl (bs.all id))
def anyD : List D → DP → Prop := fun ds P => ∃ bs : List Bool, ds = [.lst (bs.map .bl)] ∧ P (.bl (bs.any id))
def sumD : List D → DP → Prop := fun ds P => ∃ ns : List Int, ds = [.lst (ns.map .int)] ∧ P (.int ns.sum)
theorem cd_all : CallD K (rAll K) allD := fun r A H xs ds P Q w t h q => by
  obtain ⟨bs, rfl, h⟩ := h
  obtain ⟨v, rfl, a⟩ := t.one
  obtain ⟨p, xs, rfl, _, e1, z1, t1⟩ := a.sqL
  rw [t1.bls] at e1
  exact ⟨p, bs, rfl, SqL.of e1, q _ _ _ h .refl w.rnd (.bl _)⟩
theorem cd_any : CallD K (rAny K) anyD := fun r A H xs ds P Q w t h q => by
  obtain ⟨bs, rfl, h⟩ := h
  obtain ⟨v, rfl, a⟩ := t.one
  obtain ⟨p, xs, rfl, _, e1, z1, t1⟩ := a.sqL
  rw [t1.bls] at e1
  exact ⟨p, bs, rfl, SqL.of e1, q _ _ _ h .refl w.rnd (.bl _)⟩
theorem cd_sum : CallD K (rSum K) sumD := fun r A H xs ds P Q w t h q => by
  obtain ⟨ns, rfl, h⟩ := h
  obtain ⟨v, rfl, a⟩ := t.one
  obtain ⟨p, xs, rfl, _, e1, z1, t1⟩ := a.sqL
  rw [t1.ints] at e1
  exact ⟨p, ns, rfl, SqL.of e1, q _ _ _ h .refl w.rnd (.int _)⟩
def absD : List D → DP → Prop
  | [.int i], P => P (.int (if i < 0 then -i else i))
  | _, _ => False
theorem cd_abs : CallD K (fun xs H Q => ∃ i, xs = [.int i] ∧ Q (.int (if i < 0 then -i else i)) H) absD := fun r A H xs ds P Q w t h q => by
  match ds, h with
  | [.int i], h =>
    obtain ⟨v, rfl, a⟩ := t.one
    cases a
    exact ⟨i, rfl, q _ _ _ h .refl w.rnd (.int _)⟩
def intS : List D → DP → Prop
  | [.str a], P => ∃ n, PySem.intText? a = some n ∧ a.length ≤ 640 ∧ P (.int n)
  | _, _ => False
theorem cd_intS : CallD K (fun xs H Q => ∃ a n, xs = [.str a] ∧ PySem.intText? a = some n ∧ a.length ≤ 640 ∧ Q (.int n) H) intS := fun r A H xs ds P Q w t h q => by
  match ds, h with
  | [.str z], h =>
    obtain ⟨v, rfl, a⟩ := t.one
    cases a
    obtain ⟨n, h1, h2, h3⟩ := h
    exact ⟨z, n, rfl, h1, h2, q _ _ _ h3 .refl w.rnd (.int _)⟩
end
end L3

namespace L3
open PySem PySem.Spec PyProof.Rows L2
/-! set(t) of a tuple, whatever its loop is shown by -/
section
variable {P : Program} {w : World} {A : Around} {E : Value → Shared → Prop} {s : Shared}
/-- the fresh set -/
abbrev newSet (w : World) : Obj := { cls := .type "set", dict := none, data := .set #[] 0 (.fresh 0 0 (!w.params.followText "set-order")) }
abbrev tupIt (l : Addr) : Obj := { cls := .type "tuple_iterator", data := .fields #[.ref l, .int 0 0] }
theorem set_from_tuple {l : Addr} {items : Array Value} {Q : Value → Shared → Prop} {Good : Shared → Prop} (hl : s.heap.IsTuple l items)
    (loop : ∀ R : Result → Shared → Prop, (∀ s', Good s' → R (.ok (.ret .none)) s') →
      codeAny (model P w) A.in1.in1 (.builtin "set.update.loop" ⟨[.ref s.heap.objs.size, .ref (s.heap.push (newSet w)).objs.size], []⟩) R { s with heap := (s.heap.push (newSet w)).push (tupIt l) })
    (h : ∀ s', Good s' → Q (.ref s.heap.objs.size) s') : wpAny (model P w) A (call (.type "set") [.ref l]) Q E s := by
  obtain ⟨c, tl, hmro⟩ := F.called_set.mro
  have made := F.called_set.made; have hsub := F.called_set.sub
  refine wpAny_call (codeAny_of_tree ?_); show wpAny _ _ (callAny (.type "set") _) _ _ _
  refine wpAny_pure ⟨Code.quiet_builtin _ (by decide +kernel), codeAny_builtin F.entry_type_call ?_⟩
  rw [Around.under_plain (weight_type_call_type "set" [.ref l] []) rfl]
  have nt := F.called_set.notType; have cc := F.called_set.canCreate; have tc := F.typeCall_set_1 (.ref l)
  repeat (any_goals (first | assumption | wp_step))
  refine codeAny_mono (code_set_led1 (.ref l) (E := E) (Q₁ := fun obj s₁ => obj = .ref s.heap.objs.size ∧ s₁ = { s with heap := s.heap.push (newSet w) }) ⟨rfl, rfl⟩) fun r s₁ hr => ?_
  cases r with
  | error e => exact hr
  | ok fl =>
    cases fl with
    | next => exact hr.elim
    | brk => exact hr.elim
    | cont => exact hr.elim
    | ret obj =>
      obtain ⟨rfl, rfl⟩ := hr
      have isS : (s.heap.push (newSet w)).get? s.heap.objs.size = some (newSet w) := Heap.get?_push_size _ rfl
      have tyS : Shared.TypeIs { s with heap := s.heap.push (newSet w) } (.ref s.heap.objs.size) "set" := ⟨_, isS, rfl⟩
      have li := F.called_set.init.lookup; have bi := F.called_set.init.bind (.ref s.heap.objs.size)
      repeat (any_goals (first | assumption | wp_step))
      refine codeAny_mono (codeAny_call_builtin (R := wants (fun r s₂ => r = .none ∧ Good s₂) E) F.called_set.init.plain F.entry_set_init (check_set_init_1 tyS ?_)) fun r₂ s₂ hr₂ => ?_
      · obtain ⟨⟨oc, od, odt, os⟩, hol, hcl, nl, hdl⟩ := hl
        simp only at hcl hdl; subst hcl hdl
        have hol' : (s.heap.push (newSet w)).get? l = some { cls := .type "tuple", dict := od, data := .seq items nl, slots := os } := Heap.get?_push_of_some _ hol
        have st1 := F.sub_tuple_set; have st2 := F.sub_tuple_frozenset
        have ne : (Value.type "tuple" == Value.type "dict") = false := by decide
        have isT : (s.heap.push (newSet w)).IsTuple l items := ⟨_, hol', rfl, nl, rfl⟩
        unfold Builtin.«set.__init__» noKeywords Builtin.Frozenset.updateFrom
        generalize hPI : pyIter = PI
        wp_walk
        subst hPI
        refine wpAny_pyIter_tuple isT (wpAny_bind (wpAny_runValue (loop _ fun s' g => ?_)))
        refine wpAny_pure ?_; show wpAny _ _ (ret Value.none) _ _ _
        exact wpAny_pure ⟨rfl, g⟩
      · cases r₂ with
        | error e => exact hr₂
        | ok fl₂ =>
          cases fl₂ with
          | ret r =>
            obtain ⟨rfl, g⟩ := hr₂
            repeat (any_goals (first | assumption | wp_step))
            exact h _ g
          | _ => exact hr₂.elim
end
end L3

namespace L3
open PySem PySem.Spec PyProof.Rows L2
/-! ### set(t), t a tuple of ints; a tuple of tuples of ints -/
section
variable {X : Cx}
def rSetI (K : PySem.W.Frag) (w : World) : List V → Hp → VK → Prop := fun xs H Q => ∃ (l : Addr) (ns : List Int), xs = [V.ref l] ∧ SqT K H l (ns.map V.int) ∧ ns.length < 64 ∧
  ∀ a c, H a = none → c ≤ ns.length → Q (.ref a) (upd H a (SetO w a (fun j => decide (j ∈ ns)) c))
theorem cr_setI (hc : X.calm = true) : CallR X (.type "set") (rSetI X.K X.w) := by
  intro pins s σ H xs us Q I r h
  obtain ⟨l, ns, rfl, hl, hf, q⟩ := h
  rw [Vals.ref1 r]
  obtain ⟨its, rv, pl, hz⟩ := I.tuple hl
  refine call_set_tupI (P := X.prog) (w := X.w) (items := its.toArray) ns (I.ok.hd hc) pl (by simpa using rv.ints) (by unfold scanBound; omega) fun h' tk c R hcl k => ?_
  exact ⟨.ref s.heap.objs.size, upd H s.heap.objs.size (SetO X.w s.heap.objs.size (fun j => decide (j ∈ ns)) c), I.laid (t' := tk) k (Nat.le_refl _) (setO_new R), rfl, q _ c (I.hok.fresh (Nat.le_refl _)) hcl⟩
def rSetT (K : PySem.W.Frag) (P : Program) (w : World) : List V → Hp → VK → Prop := fun xs H Q => ∃ (l : Addr) (ks : List (Addr × List Int)), xs = [V.ref l] ∧ SqT K H l (ks.map fun p => V.ref p.1) ∧ (∀ p ∈ ks, SqT K H p.1 (p.2.map V.int)) ∧ ks.length < 64 ∧
  ∀ a L, H a = none → (∀ p ∈ L, p ∈ ks) → (∀ p ∈ ks, p.2 ∈ L.map (·.2)) → Q (.ref a) (upd H a (SetTO P w a L))
theorem cr_setT (hc : X.calm = true) (hu : X.A.units + 64 < cLine) : CallR X (.type "set") (rSetT X.K X.prog X.w) := by
  intro pins s σ H xs us Q I r h
  obtain ⟨l, ks, rfl, hl, hk, hf, q⟩ := h
  rw [Vals.ref1 r]
  obtain ⟨its, rv, pl, hz⟩ := I.tuple hl
  have hn : H s.heap.objs.size = none := I.hok.fresh (Nat.le_refl _)
  have hh := I.ok.hd hc
  have pt : s.heap.IsTuple l its.toArray := pl
  have hit : its = ks.map fun p => Value.ref p.1 := refs_of_vals rv
  have hll : l < s.heap.objs.size := pl.lt
  have noneAt : ∀ b, s.heap.objs.size ≤ b → s.heap.get? b = none := fun b hb => Heap.get?_none_of_le hb
  have hsz : (s.heap.push (newSet X.w)).objs.size = s.heap.objs.size + 1 := Heap.size_push ..
  refine set_from_tuple (P := X.prog) (w := X.w) (Good := fun s' => ∃ h' tk L es ep t, s' = { s with heap := h', toks := tk } ∧ SetTR X.prog X.w h' s.heap.objs.size L es ep t ∧ Got ks ks.length L ∧ ∀ b o, s.heap.get? b = some o → h'.get? b = some o) pt ?_ ?_
  · intro R hR
    have pt1 : (s.heap.push (newSet X.w)).IsTuple l its.toArray := pt.at fun o e => Heap.get?_push_of_some _ e
    have isS : (s.heap.push (newSet X.w)).get? s.heap.objs.size = some (newSet X.w) := Heap.get?_push_size _ rfl
    refine set_update_tups (A := X.A.in1.in1) ((Walks.tuple (A := X.A.in1.in1.in1) (by simp [hh]) (s.heap.push (newSet X.w)).objs.size l (by rw [hsz]; exact Nat.ne_of_lt (Nat.lt_succ_of_lt hll)) its.toArray).toS) s.heap.objs.size ?_ ks (by rw [List.size_toArray, hit, List.length_map]) hf (fun i v hv => ?_)
      s.heap (fun p hp => I.isT (hk p hp)) (noneAt _ (Nat.le_refl _)) (fun b hb => noneAt b (by rw [List.mem_singleton.mp hb, hsz]; exact Nat.le_succ _)) (by show X.A.units + 1 + 1 + 1 < cLine; omega) (its.toArray.size - 0) 0 _ (by omega) (Nat.zero_le _)
      ⟨⟨_, Heap.get?_push_size _ rfl, rfl, rfl⟩, pt1.at fun o e => Heap.get?_push_of_some _ e⟩ (fun b o e => Heap.get?_push_of_some _ (Heap.get?_push_of_some _ e)) ⟨[], #[], 0, _, setTR_fresh (Heap.get?_push_of_some _ isS), Got.zero ks⟩ ?_
    · rw [hsz]
      simp only [List.mem_cons, List.not_mem_nil, or_false, not_or]
      exact ⟨Nat.ne_of_lt (Nat.lt_succ_self _), Nat.ne_of_gt hll⟩
    · have q2 : its[i]? = some v := by simpa using hv
      rw [hit, List.getElem?_map] at q2
      cases hq : ks[i]? with
      | none => rw [hq] at q2; cases q2
      | some p => rw [hq] at q2; exact ⟨p, rfl, (Option.some.inj q2).symm⟩
    · intro s' L es ep t hm hS' g' hkp
      obtain ⟨h', g2, d', tk', os'⟩ := s'
      have eg : g2 = s.gens := hm.gens
      have ed : d' = s.drawn := hm.drawn
      have eo : os' = s.os := hm.os
      subst eg ed eo
      refine hR _ ⟨h', tk', L, es, ep, t, rfl, hS', ?_, hkp⟩
      have : its.toArray.size = ks.length := by rw [List.size_toArray, hit, List.length_map]
      rw [this] at g'
      exact g'
  · rintro s' ⟨h', tk, L, es, ep, t, rfl, R, g, k⟩
    exact ⟨.ref s.heap.objs.size, upd H s.heap.objs.size (SetTO X.prog X.w s.heap.objs.size L), I.laid (t' := tk) k (Nat.le_refl _) (setTO_new R.t0), rfl, q _ L hn (fun p hp => List.mem_of_mem_take (g.sub p hp)) fun p hp => g.all p (by rw [List.take_length]; exact hp)⟩
/-! ### sorted(set(t)) by data -/
/-- what sorted(set(t)) may be: ints; tuples of d ints each in [0, 64) -/
def ssD : D → DP → Prop
  | .tup ds, P => (∃ ns : List Int, ds = ns.map D.int ∧ ns.length < 64 ∧ ∀ ms : List Int, ms.Pairwise (· < ·) → (∀ k, k ∈ ms ↔ k ∈ ns) → P (.lst (ms.map D.int))) ∨
      ∃ (ks : List (List Int)) (d : Nat), ds = ks.map (fun k => D.tup (k.map D.int)) ∧ ks.length < 64 ∧ 1 ≤ d ∧ (∀ k ∈ ks, k.length = d ∧ TS.Bd 64 k) ∧
        ∀ ms : List (List Int), ms.Nodup → (∀ k, k ∈ ms ↔ k ∈ ks) → ms.Pairwise (fun x y => TS.code 64 x ≤ TS.code 64 y) → P (.lst (ms.map fun k => D.tup (k.map D.int)))
  | _, _ => False
variable {E : XK} {a : Expr} {fa : DE} {p p2 pos q : Pos}
theorem tups_addr {K : PySem.W.Frag} {r : Addr} {A : Addr → Prop} {H : Hp} : ∀ {ks : List (List Int)} {vs : List V}, DRs K r A H vs (ks.map fun k => D.tup (k.map D.int)) → ∃ L : List (Addr × List Int), vs = L.map (fun p => V.ref p.1) ∧ L.map (·.2) = ks ∧ ∀ p ∈ L, DR K r A H (.ref p.1) (.tup (p.2.map D.int))
  | [], _, .nil => ⟨[], rfl, rfl, fun _ h => by cases h⟩
  | k :: ks, _, .cons a b => by
    obtain ⟨L, h1, h2, h3⟩ := tups_addr b
    obtain ⟨p, xs, rfl, _, _, _⟩ := a.sqT
    refine ⟨(p, k) :: L, by rw [h1]; rfl, by rw [← h2]; rfl, fun q hq => ?_⟩
    rcases List.mem_cons.mp hq with rfl | hq
    · exact a
    · exact h3 q hq
theorem DR.tupI {K : PySem.W.Frag} {r : Addr} {A : Addr → Prop} {H : Hp} {a : Addr} {k : List Int} (h : DR K r A H (.ref a) (.tup (k.map D.int))) : SqT K H a (k.map V.int) := by
  obtain ⟨p, xs, e, e1, z, t⟩ := h.sqT
  cases e
  rw [t.ints] at e1
  exact e1
theorem e_sortedSet (hc : X.calm = true) (hu : X.A.units + 64 < cLine) (hg : Gl X "sorted") (hm : X.mg "sorted" = none) (hg2 : Gl X "set") (hm2 : X.mg "set" = none) (ha : PE X a (tE X.K E fa))
    (na : starEach [a] X.env = (false, eval a X.env) :: starEach [] X.env := by rfl) (nb : starEach [.Call (.Name "set" p2) [a] [] q] X.env = (false, eval (.Call (.Name "set" p2) [a] [] q) X.env) :: starEach [] X.env := by rfl) :
    PE X (.Call (.Name "sorted" p) [.Call (.Name "set" p2) [a] [] q] [] pos) (tE X.K E (fun δ P Z => fa δ (fun d => ssD d P) Z)) :=
  PE.imp (pe_callB ((cr_sortedSet hc).or (cr_sortedT hc)) hg hm (by decide +kernel) (pa_cons (pe_callTy ((cr_setI hc).or (cr_setT hc hu)) hg2 hm2 (by decide +kernel) (pa_cons ha pa_nil na) (by decide) (by decide) na) pa_nil nb) (by decide) (by decide) nb) fun σ H Q ⟨r, A, δ, P, Z, R, h, hq, hz⟩ => by
    refine ⟨r, A, δ, _, Z, R, h, fun d v H1 h1 x1 n1 r1 => ?_, hz⟩
    have w1 := (R.ext x1 n1).wd
    cases d with
    | tup ds =>
      obtain ⟨l, xs, rfl, e1, z1, t1⟩ := r1.sqT
      rcases h1 with ⟨ns, rfl, hl, h1⟩ | ⟨ks, d, rfl, hl, hd, hB, h1⟩
      · have := t1.ints
        subst this
        refine .inl ⟨l, ns, rfl, e1, hl, fun a c na hcl => .inl ⟨a, _, c, rfl, upd_same, by omega, fun ms p pw hm hlen np => ?_⟩⟩
        have w2 : Wd r A (upd H1 a (SetO X.w a (fun j => decide (j ∈ ns)) c)) := w1.ext (Ext.upd na) (n1.upd na)
        exact hq _ _ _ (h1 ms pw fun k => by rw [hm k]; simp) ((x1.trans (Ext.upd na)).trans (Ext.upd np)) ((n1.upd na).upd np) (w2.lst np (by rw [List.length_map, sizeLine_eq]; omega) DRs.of_ints)
      · obtain ⟨L, rfl, hL2, hL⟩ := tups_addr t1
        have hll : L.length = ks.length := by rw [← hL2, List.length_map]
        refine .inr ⟨l, L, rfl, e1, fun p hp => (hL p hp).tupI, by omega, fun a L1 na sub all => .inr ⟨a, L1, d, 64, rfl, upd_same, fun p hp => ?_, hd, fun p hp => hB p.2 (by rw [← hL2]; exact List.mem_map.mpr ⟨p, sub p hp, rfl⟩), fun L' p pm nd hfew pw np => ?_⟩⟩
        · exact ((hL p (sub p hp)).ext ((Ext.upd na).toA w1.ar)).tupI
        · have w2 : Wd r A (upd H1 a (SetTO X.prog X.w a L1)) := w1.ext (Ext.upd na) (n1.upd na)
          have mem : ∀ k, k ∈ L'.map (·.2) ↔ k ∈ ks := fun k => by
            rw [← hL2]
            constructor
            · intro hk
              obtain ⟨y, hy, rfl⟩ := List.mem_map.mp hk
              exact List.mem_map.mpr ⟨y, sub y (pm.mem_iff.mp hy), rfl⟩
            · intro hk
              obtain ⟨y, hy, rfl⟩ := List.mem_map.mp hk
              obtain ⟨z, hz, e⟩ := List.mem_map.mp (all y hy)
              exact List.mem_map.mpr ⟨z, pm.mem_iff.mpr hz, e⟩
          refine hq _ _ _ (h1 (L'.map (·.2)) nd mem (List.pairwise_map.mpr pw)) ((x1.trans (Ext.upd na)).trans (Ext.upd np)) ((n1.upd na).upd np) (w2.lst np (by rw [List.length_map, sizeLine_eq]; omega) ?_)
          have all2 : ∀ M : List (Addr × List Int), (∀ p ∈ M, p ∈ L1) → DRs X.K r A (upd H1 a (SetTO X.prog X.w a L1)) (M.map fun q => V.ref q.1) ((M.map (·.2)).map fun k => D.tup (k.map D.int)) := fun M => by
            induction M with
            | nil => intro _; exact .nil
            | cons y M ih => intro hM; exact .cons ((hL y (sub y (hM y List.mem_cons_self))).ext ((Ext.upd na).toA w1.ar)) (ih fun z hz => hM z (List.mem_cons_of_mem _ hz))
          exact all2 L' fun p hp => pm.mem_iff.mp hp
    | _ => exact h1.elim
/-! ### len(set(xs)) of ints -/
theorem firstMet_full (ns : List Int) : ∀ i, i ≤ ns.length → (firstMet (fun i => ns.getD i 0) i).length = i → (ns.take i).Nodup
  | 0, _, _ => by simp
  | i + 1, hi, h => by
    have hlt : i < ns.length := hi
    have e : ns.getD i 0 = ns[i] := by simp [List.getD_eq_getElem?_getD, List.getElem?_eq_getElem hlt]
    have hle := firstMet_length_le (fun i => ns.getD i 0) i
    rw [firstMet_succ] at h
    unfold step_dedup at h
    split at h
    · omega
    · rename_i no
      rw [List.length_append, List.length_singleton] at h
      have nd := firstMet_full ns i (Nat.le_of_lt hlt) (by omega)
      rw [firstMet_nodup' ns i (Nat.le_of_lt hlt) nd] at no
      rw [List.take_succ_eq_append_getElem hlt]
      refine List.nodup_append.mpr ⟨nd, by simp, fun x hx y hy => ?_⟩
      have hy' : y = ns[i] := by simpa using hy
      intro hxy
      apply no
      rw [List.any_eq_true]
      exact ⟨x, hx, by rw [e, ← hy', hxy]; simp⟩
where
  firstMet_nodup' (ns : List Int) : ∀ i, i ≤ ns.length → (ns.take i).Nodup → firstMet (fun i => ns.getD i 0) i = ns.take i
  | 0, _, _ => rfl
  | i + 1, hi, hn => by
    have hlt : i < ns.length := hi
    have e : ns.getD i 0 = ns[i] := by simp [List.getD_eq_getElem?_getD, List.getElem?_eq_getElem hlt]
    rw [List.take_succ_eq_append_getElem hlt] at hn ⊢
    obtain ⟨n1, _, n3⟩ := List.nodup_append.mp hn
    rw [firstMet_succ, firstMet_nodup' ns i (Nat.le_of_lt hlt) n1]
    unfold step_dedup
    rw [if_neg, e]
    intro h
    obtain ⟨x, hx, e2⟩ := List.any_eq_true.mp h
    have : x = ns[i] := by rw [← e]; exact beq_iff_eq.mp e2
    exact n3 x hx ns[i] (by simp) this
theorem firstMet_iff (ns : List Int) : (firstMet (fun i => ns.getD i 0) ns.length).length = ns.length ↔ ns.Nodup := by
  constructor
  · intro h
    have := firstMet_full ns ns.length (Nat.le_refl _) h
    rwa [List.take_length] at this
  · intro h
    rw [firstMet_full.firstMet_nodup' ns ns.length (Nat.le_refl _) (by rwa [List.take_length]), List.take_length]
def lsD : D → DP → Prop := fun d P => ∃ ns : List Int, d = .lst (ns.map D.int) ∧ ns.length < 64 ∧ ∀ c : Nat, (c = ns.length ↔ ns.Nodup) → P (.int c)
theorem e_lenSet (hc : X.calm = true) (hg : Gl X "len") (hm : X.mg "len" = none) (hg2 : Gl X "set") (hm2 : X.mg "set" = none) (ha : PE X a (tE X.K E fa))
    (na : starEach [a] X.env = (false, eval a X.env) :: starEach [] X.env := by rfl) : PE X (.Call (.Name "len" p) [.Call (.Name "set" p2) [a] [] q] [] pos) (tE X.K E (fun δ P Z => fa δ (fun d => lsD d P) Z)) := by
  refine ⟨fun pins s σ H Q I h0 => ?_⟩
  obtain ⟨r, A, δ, P, Z, R, h, hq, hz⟩ := h0
  refine Call_ (ld_blt I hg hm PySem.boot_len ?_)
  refine PyProof.Rows.callWith_builtin1 (PyProof.Rows.args_cons ?_ rfl) rfl rfl
  refine Call_ (ld_blt I hg2 hm2 PyProof.Rows.boot_set ?_)
  have st : tE X.K E fa σ H (fun x H1 => ∃ (l : Addr) (ns : List Int), x = V.ref l ∧ H1 l = some (.lst (ns.map V.int)) ∧ ns.length < 64 ∧ ∀ c : Nat, (c = ns.length ↔ ns.Nodup) → Q (.int c) H1) :=
    ⟨r, A, δ, _, Z, R, h, fun d v H1 h3 x1 n1 r1 => by
      obtain ⟨ns, rfl, hl, h3⟩ := h3
      obtain ⟨l, xs, rfl, _, e1, z1, t1⟩ := r1.sqL
      rw [t1.ints] at e1
      exact ⟨l, ns, rfl, e1, hl, fun c hcc => hq _ _ _ (h3 c hcc) x1 n1 (.int _)⟩, hz⟩
  refine PyProof.Rows.callWith_type1 (PyProof.Rows.args_cons (thn (ha.run pins s σ H _ I st) fun v s1 ⟨x, H1, I1, r1, q1⟩ => PyProof.Rows.args_nil ?_) na) na rfl
  obtain ⟨l, ns, rfl, hl, h64, q1⟩ := q1
  cases r1
  obtain ⟨its, rv, pl, hz1⟩ := I1.list (SqL.of hl)
  have hls : its.toArray.size = ns.length := by rw [List.size_toArray, ← rv.length, List.length_map]
  have hle := firstMet_length_le (fun i => ns.getD i 0) ns.length
  refine call_set_list (I1.ok.hd hc) pl.isList (ns := ns) (by simpa using rv.ints) (by unfold scanBound; omega) fun h' tk hS hk => PyProof.Rows.args_nil ?_
  rw [hls] at hS
  obtain ⟨o, es, ep, t, ho, hex, hd, _, _, _, hf, hn⟩ := hS
  have I2 : Inv X pins σ H1 { s1 with heap := h', toks := tk } := I1.kept fun b o e => hk b o (Heap.lt_size e) e
  exact call_len_set ho hex hd hf (by rw [hn]; omega) ⟨.int (firstMet (fun i => ns.getD i 0) ns.length).length, H1, I2.tok _, ⟨_, by rw [hn]⟩, q1 _ (firstMet_iff ns)⟩
end
end L3

namespace L3
open PySem PySem.Spec PyProof.Rows L2
/-! ### sum(t) of a tuple -/
section
variable {X : Cx}
def rSumT (K : PySem.W.Frag) : List V → Hp → VK → Prop := fun vs H Q => ∃ (a : Addr) (ns : List Int), vs = [V.ref a] ∧ SqT K H a (ns.map V.int) ∧ Q (.int ns.sum) H
theorem cr_sumT (hc : X.calm = true) : CallR X (.builtin "sum") (rSumT X.K) := by
  intro pins s σ H vs us Q I r h
  obtain ⟨a, ns, rfl, ht, q⟩ := h
  obtain ⟨its, rv, p, _⟩ := I.tuple ht
  rw [Vals.ref1 r]
  have hi : IntsAre its ns := rv.ints
  obtain ⟨xs, e⟩ := hi.allInts.items
  have hn : numsOf (intItems xs).toList = ns := by rw [← e]; exact hi.numsOf
  rw [nums_intItems] at hn
  have pt : s.heap.IsTuple a (intItems xs) := by rw [← e]; exact p
  have hal : a < s.heap.objs.size := p.lt
  refine call_sum_walkG (wpAny_pyIter_tuple pt ?_)
  refine ⟨_, _, _, _, _, _, numAt xs, rfl, Walks.tuple (A := X.A.in1) (show X.A.in1.handled = none from I.ok.hd hc) s.heap.objs.size a (Nat.ne_of_lt hal) (intItems xs), ⟨⟨_, Heap.get?_push_size _ rfl, rfl, rfl⟩, pt.at fun o e => Heap.get?_push_of_some _ e⟩, fun b hb => ?_, (fun _ _ => intItems_at), fun h' tk t' hk => ?_⟩
  · rw [Heap.size_push]
    rcases List.mem_cons.mp hb with z | z
    · rw [z]; exact Nat.lt_succ_self _
    · rw [List.mem_singleton.mp z]; exact Nat.lt_succ_of_lt hal
  · have e2 : preSum (numAt xs) (intItems xs).size = ns.sum := by
      have : (intItems xs).size = xs.size := by simp [intItems]
      rw [this, preSum_eq, List.take_of_length_le (by simp), hn]
    refine ⟨.int ns.sum, H, I.kept (t' := tk) fun b o z => hk b o (fun hm => ?_) (Heap.get?_push_of_some _ z), ⟨t', by rw [e2]⟩, q⟩
    rw [List.mem_singleton.mp hm] at z
    exact absurd (Heap.lt_size z) (Nat.lt_irrefl _)
def sumAD : List D → DP → Prop := fun ds P => ∃ ns : List Int, (ds = [.lst (ns.map .int)] ∨ ds = [.tup (ns.map .int)]) ∧ P (.int ns.sum)
def rSumA (K : PySem.W.Frag) : List V → Hp → VK → Prop := fun xs H Q => rSum K xs H Q ∨ rSumT K xs H Q
theorem cr_sumA (hc : X.calm = true) : CallR X (.builtin "sum") (rSumA X.K) := (cr_sum hc).or (cr_sumT hc)
theorem cd_sumA {K : PySem.W.Frag} : CallD K (rSumA K) sumAD := fun r A H xs ds P Q w t h q => by
  obtain ⟨ns, rfl | rfl, h⟩ := h
  · obtain ⟨v, rfl, a⟩ := t.one
    obtain ⟨p, xs, rfl, _, e1, z1, t1⟩ := a.sqL
    rw [t1.ints] at e1
    exact .inl ⟨p, ns, rfl, SqL.of e1, q _ _ _ h .refl w.rnd (.int _)⟩
  · obtain ⟨v, rfl, a⟩ := t.one
    obtain ⟨p, xs, rfl, e1, z1, t1⟩ := a.sqT
    rw [t1.ints] at e1
    exact .inr ⟨p, ns, rfl, e1, q _ _ _ h .refl w.rnd (.int _)⟩
/-! ### int(x) -/
def intAD : List D → DP → Prop
  | [.int i], P => P (.int i)
  | [.str a], P => ∃ n, PySem.intText? a = some n ∧ a.length ≤ 640 ∧ P (.int n)
  | _, _ => False
def rIntA : List V → Hp → VK → Prop := fun xs H Q => ((∃ i, xs = [.int i] ∧ Q (.int i) H) ∨ ∃ k, xs = [.bl k] ∧ Q (.int (if k then 1 else 0)) H) ∨ ∃ a n, xs = [.str a] ∧ PySem.intText? a = some n ∧ a.length ≤ 640 ∧ Q (.int n) H
theorem cr_intA : CallR X (.type "int") rIntA := call_int1.or call_int_str
theorem cd_intA {K : PySem.W.Frag} : CallD K rIntA intAD := fun r A H xs ds P Q w t h q => by
  match ds, h with
  | [.int i], h =>
    obtain ⟨v, rfl, a⟩ := t.one
    cases a
    exact .inl (.inl ⟨i, rfl, q _ _ _ h .refl w.rnd (.int _)⟩)
  | [.str z], h =>
    obtain ⟨v, rfl, a⟩ := t.one
    cases a
    obtain ⟨n, h1, h2, h3⟩ := h
    exact .inr ⟨z, n, rfl, h1, h2, q _ _ _ h3 .refl w.rnd (.int _)⟩
/-! ### isinstance(x, T) -/
def D.tyName : D → Option String
  | .non => some "NoneType"
  | .bl _ => some "bool"
  | .int _ => some "int"
  | .str _ => some "str"
  | .lst _ => some "list"
  | .tup _ => some "tuple"
  | .dic => some "dict"
  | .rnd => some "list"
  | .adr _ => none
  | .exc _ _ _ => none
  | .obj _ _ _ => none
theorem DR.tyX {K : PySem.W.Frag} {r : Addr} {A : Addr → Prop} {H : Hp} {v : V} {d : D} {t : String} (h : DR K r A H v d) (rn : RndOk r H) (e : d.tyName = some t) : TyX K H v (.type t) := by
  cases h with
  | non => cases e; exact .base .non
  | bl b => cases e; exact .base (.bl b)
  | int b => cases e; exact .base (.int b)
  | str b => cases e; exact .base (.str b)
  | rnd => cases e; obtain ⟨ns, e1, _⟩ := rn; exact .base (.lst e1)
  | lst n e1 z t => cases e; exact .base (.lst e1)
  | tup n e1 z t => cases e; exact .base (.tup e1)
  | ktup o its n e1 c d z w t => cases e; exact .kTuple e1 c
  | dic n e1 => cases e; exact .base (.dK e1)
  | obj n e1 l t => cases e
  | adr a => cases e
  | exc0 _ _ => cases e
  | exc1 _ _ _ _ _ => cases e
/-- isinstance(x, T), T a built-in class -/
def isTD (T : String) (d : D) (P : DP) : Prop := ∃ t b, d.tyName = some t ∧ kitB t T = some b ∧ P (.bl b)
variable {E : XK} {e : Expr} {fe : DE} {p p2 pos : Pos} {T : String} {x : Str}
theorem e_isT (hg : Gl X "isinstance") (hm : X.mg "isinstance" = none) (hg2 : Gl X x) (hm2 : X.mg x = none) (hv : bootBuiltins x = some (.type T)) (he : PE X e (tE X.K E fe))
    (hn : x ≠ "__name__" := by decide) (hd : (x == ("__debug__" : Str)) = false := by decide)
    (h1 : starEach (e :: [.Name x p2]) X.env = (false, eval e X.env) :: starEach [.Name x p2] X.env := by rfl) (h2 : starEach (.Name x p2 :: []) X.env = (false, eval (.Name x p2) X.env) :: starEach [] X.env := by rfl)
    (hpl : (backTo pos (starEach [.Name x p2] X.env)).any (·.1) = false := by rfl) :
    PE X (.Call (.Name "isinstance" p) [e, .Name x p2] [] pos) (tE X.K E (fun δ P Z => fe δ (fun d => isTD T d P) Z)) :=
  PE.imp (pe_callB call_isi hg hm (by decide +kernel) (pa_cons he (pa_cons (pe_bltn (v := .ty T) hg2 hm2 hv rfl hn hd) pa_nil h2) h1) (by decide) (by decide) h1 hpl) fun σ H Q ⟨r, A, δ, P, Z, R, h, hq, hz⟩ =>
    ⟨r, A, δ, _, Z, R, h, fun d v H1 h3 x1 n1 r1 => by
      obtain ⟨t, b, e1, e2, h4⟩ := h3
      exact ⟨v, .ty T, .type t, .type T, b, rfl, .ty T, r1.tyX n1 e1, kit_ty e2, hq _ _ _ h4 x1 n1 (.bl b)⟩, hz⟩
/-! ### ''.join(xs) -/
def joinD (sep : Str) (d : D) (P : DP) : Prop := ∃ ys : List Str, (d = .lst (ys.map .str)) ∧ (ys.map (·.length)).sum + ys.length * sep.length ≤ 16777216 ∧ P (.str (Txt.join sep ys))
theorem e_join {sep : Str} {j : Nat} {apos : Pos} (he : PE X e (tE X.K E fe)) (hs : starEach [e] X.env = [(false, eval e X.env)] := by rfl) (hbase : attributeBase (.Constant (.str sep) j p) "join" X.env (eval (.Constant (.str sep) j p) X.env) = eval (.Constant (.str sep) j p) X.env := by rfl) (hline : (apos.endLine == pos.line) = true := by rfl) :
    PE X (.Call (.Attribute (.Constant (.str sep) j p) "join" apos) [e] [] pos) (tE X.K E (fun δ P Z => fe δ (fun d => joinD sep d P) Z)) :=
  PE.imp (pe_join pe_str he hs hbase hline) fun σ H Q ⟨r, A, δ, P, Z, R, h, hq, hz⟩ => ⟨⟨sep, rfl⟩, r, A, δ, _, Z, R, h, fun d v H1 h3 x1 n1 r1 => by
    obtain ⟨ys, rfl, h4, h5⟩ := h3
    obtain ⟨p, xs, rfl, _, e1, z1, t1⟩ := r1.sqL
    rw [t1.strs] at e1
    exact ⟨sep, p, ys, rfl, rfl, .inl (SqL.of e1), h4, hq _ _ _ h5 x1 n1 (.str _)⟩, hz⟩
/-! ### f"{x}" -/
/-- a value that {x} takes (an int of some length, a text, None, a bool, the empty tuple) -/
def FmtV (K : PySem.W.Frag) (H : Hp) (v : V) : Prop := (∃ i, v = .int i ∧ i.natAbs.log2 < 1920) ∨ (∃ y, v = .str y ∧ y.length ≤ 1000) ∨ v = .non ∨ (∃ b, v = .bl b) ∨ ∃ a, v = .ref a ∧ SqT K H a []
theorem pe_fmtA {k : Nat} (hr : Room k X.A) {e : Expr} {te : TE} {pos : Pos} (he : PE X e te) : PE X (.FormattedValue e (-1) none pos) (fun σ H Q => te σ H fun x H1 => FmtV X.K H1 x ∧ ∀ m : Str, m.length ≤ 16000000 → Q (.str m) H1) := by
  refine ⟨fun pins s σ H Q I h => ?_⟩
  refine wpAny_FormattedValue_plain (thn (he.run pins s σ H _ I h) fun v s1 ⟨x, H1, I1, r1, f, q⟩ => ?_)
  have hu := hr.units
  rcases f with ⟨i, rfl, hi⟩ | ⟨y, rfl, hy⟩ | rfl | ⟨b, rfl⟩ | ⟨a, rfl, ht⟩
  · obtain ⟨t, rfl⟩ := r1
    have hl : (Str.ofString (toString i)).length ≤ 16000000 := by
      have e := int_text_length_le (k := 1920) (by decide) hi
      rw [PySem.ofString_length]; omega
    exact wpAny_formatField_int hi ⟨.str (toString i), H1, I1.tok _, ⟨_, rfl⟩, q _ hl⟩
  · obtain ⟨t, rfl⟩ := r1
    have hz : y.length ≤ sizeLine := by rw [sizeLine_eq]; omega
    exact wpAny_formatField_str ⟨.str y, H1, I1, ⟨t, rfl⟩, q _ (by omega)⟩ ⟨.str y, H1, I1.tok _, ⟨_, rfl⟩, q _ (by omega)⟩ hz
  · cases r1
    exact wpAny_formatField_none ⟨.str "None", H1, I1.tok _, ⟨_, rfl⟩, q _ (by decide +kernel)⟩
  · cases r1
    exact wpAny_formatField_bool ⟨.str _, H1, I1.tok _, ⟨_, rfl⟩, q _ (by cases b <;> decide +kernel)⟩
  · cases r1
    obtain ⟨its, rv, ⟨o, ho, hcl, n, hd⟩, _⟩ := I1.tuple ht
    cases rv
    exact fmt_tuple (ts := []) (by omega) ho hcl hd .nil (by decide +kernel) fun m u tk hm => ⟨.str m, H1, I1.tok _, ⟨u, rfl⟩, q m (Nat.le_trans hm (by decide +kernel))⟩
end
end L3

namespace L3
open PySem PySem.Spec PyProof.Rows L2
/-! ### own error classes: a base class of one's own that keeps ValueError's __init__, classes over it whose __init__ calls it by the base's name -/
/-- the base class -/
structure BaseE (K : PySem.W.Frag) (mg : Str → Option Value) (x : Str) : Prop where
  ex : ∃ (D : Addr) (mc : Value), mg x = some (.ref D) ∧ PySem.W.readsIn K D mc = true ∧ PySem.W.specialIn K (.ref D) "__getattribute__" = some (some (.builtin "type.__getattribute__")) ∧
    PySem.W.findCls K (.ref D) mc "__init__" = some (.val (.builtin "ValueError.__init__"))
section
variable {X : Cx} {e : Expr} {es : List Expr} {ta : TA} {p p1 p2 pos : Pos} {x : Str}
theorem pe_cinit {pl : Sem Bool} (B : BaseE X.K X.mg x) (hg : Gl X x) (ha : PA X (e :: es) ta)
    (hc : eval (.Call (.Attribute (.Name x p1) "__init__" p2) (e :: es) [] pos) X.env = (do
      let ov ← eval (.Name x p1) X.env
      standAt p2.atName
      let (f, first) ← holding [ov] (getMethod ov "__init__" pl)
      callWith pos f first (backTo pos (starEach (e :: es) X.env)) (backToKw pos (keywordEach [] X.env))) := by rfl) (hdb : (x == ("__debug__" : Str)) = false := by decide)
    (he : starEach (e :: es) X.env = (false, eval e X.env) :: starEach es X.env := by rfl) (hpl : (backTo pos (starEach es X.env)).any (·.1) = false := by rfl) :
    PE X (.Call (.Attribute (.Name x p1) "__init__" p2) (e :: es) [] pos) (tVeI X.K ta) := by
  obtain ⟨D, mc, hm, h1, h2, h3⟩ := B.ex
  refine ⟨fun pins s σ H Q I h => ?_⟩
  refine PySem.W.methodCall_KW (ld_glob I hg hm ?_ hdb) hc
  refine PySem.W.method_cls I.kIn h2 (PySem.W.cls_value I.kIn h1 h3 (by decide +kernel) ?_)
  show wpAny _ _ (callWith pos (Value.builtin "ValueError.__init__") [] (backTo pos (starEach (e :: es) X.env)) []) _ _ _
  refine PyProof.Rows.callWith_method1 (thn (ha.run pos pins _ σ H _ (I.tok _) h) fun us s1 ⟨vs, H1, I1, r1, a, C, ws, ev, hl, T, ea, q⟩ => ?_) he hpl
  subst ev
  cases r1 with
  | @cons _ u0 _ ur ra rw' =>
    obtain rfl : u0 = Value.ref a := ra
    exact oinit_ok T I1 ea (by rw [← Paired.length rw', sizeLine_eq]; omega) fun s' J => ⟨.non, H1, J, rfl, q⟩
/-! C() of a class that stores nothing -/
def tMkO0 (C : Addr) (sp : Sp) : L2.St → Hp → XK → Prop := fun σ H Q => ∀ a, H a = none → sp [.ref a] (upd H a (exo a C none)) (fun v H2 => v = .non ∧ H2 a = some (exo a C none) ∧ Q (.ref C) none (del H2 a)) (fun _ _ _ => False)
theorem mk_end_none {pins : List (Addr × Obj)} {σ : L2.St} {H1 H2 : Hp} {hp hp2 h2 : Heap} {g1 g2 : Array GenState} {d1 d2 : Drawn} {t1 t2 : Nat} {os1 os2 : OsState} {a C : Addr} {Q : XK} (T : Raises X (.ref C)) (I1 : Inv X pins σ H1 ⟨hp, g1, d1, t1, os1⟩)
    (ha : hp.objs.size ≤ a) (k : ∀ b o, hp.get? b = some o → hp2.get? b = some o) (un : Un (frs X.stack) [] (upd H1 a (exo a C none)) H2 hp2 h2) (hok : HOk X.prog X.w H2 h2) (ho : os2 = os1) (hb : AllBare g2)
    (ea : H2 a = some (exo a C none)) (q : Q (.ref C) none (del H2 a)) : MkP X pins σ Q (.ref a) ⟨h2, g2, d2, t2, os2⟩ := by
  obtain ⟨t0, hoe⟩ := exo_at hok ea
  have hn : H1 a = none := I1.hok.fresh ha
  obtain ⟨G, g1', g2'⟩ := restrict h2 fun b => decide (b ≠ a)
  have gk : ∀ b, b ≠ a → G.get? b = h2.get? b := fun b hb => g1' b (decide_eq_true hb)
  have ge : G.get? a = none := g2' a (by simp)
  have nha : ∀ {b : Addr} {o : Obj}, hp.get? b = some o → b ≠ a := fun z => Nat.ne_of_lt (Nat.lt_of_lt_of_le (Heap.lt_size z) ha)
  have up : ∀ {b : Addr}, b ≠ a → H1 b = none → upd H1 a (exo a C none) b = none := fun hb n => by rw [upd_ne hb]; exact n
  have U : Un (frs X.stack) [] H1 (del H2 a) hp G := {
    keep := fun b o z n hf hx => by rw [gk b (nha z)]; exact un.keep b o (k b o z) (up (nha z) n) hf hx
    slot := fun b o z n hf hx => by rw [gk b (nha z)]; exact un.slot b o (k b o z) (up (nha z) n) hf hx
    free := fun b o z n hx => by rw [del_ne (nha z)]; exact un.free b o (k b o z) (up (nha z) n) hx
    there := fun b o z hx => by rw [gk b (nha z)]; exact un.there b o (k b o z) hx
    tups := fun b xs z => by rw [del_ne (ne_of_none z hn)]; exact un.tups b xs (by rw [upd_ne (ne_of_none z hn)]; exact z)
    frzs := fun b o v z => by rw [del_ne (ne_of_none z hn)]; exact un.frzs b o v (by rw [upd_ne (ne_of_none z hn)]; exact z)
    tbls := fun b ps z => by rw [del_ne (ne_of_none z hn)]; exact un.tbls b ps (by rw [upd_ne (ne_of_none z hn)]; exact z) }
  have hok3 : HOk X.prog X.w (del H2 a) G := fun b o z => by
    have hba : b ≠ a := fun e => by rw [e, del_same] at z; cases z
    rw [del_ne hba] at z
    have noa : ∀ {c : Addr}, H2 c = some (.own b) → c ≠ a := fun hc => at_ne ea hc exo_own
    refine (hok b o z).stay (fun c v hc y => ?_) (fun c hc => by rw [del_ne (noa hc)]; exact hc) fun c xs hc => by rw [del_ne (at_ne ea hc exo_tup)]; exact hc
    rw [gk c (by
      rcases hc with hc | hc
      · rw [hc]; exact hba
      · exact noa hc)]
    exact y
  have J : Inv X pins σ (del H2 a) ⟨G, g2, d2, t2, os2⟩ := I1.call' (ch := []) ho U hok3 hb (fun b z => absurd z (by simp))
  refine ⟨a, _, _, ⟨G, g2, d2, t2, os2⟩, _, .ref C, none, rfl, J, fun b o z => ?_, ge, hoe, ⟨rfl, rfl⟩, rfl, rfl, del_same, rfl, hb, T, q⟩
  by_cases hba : b = a
  · rw [hba, ge] at z; cases z
  · exact (gk b hba).symm.trans z
theorem pmk_oex0 {CX : CXT} {C fI : Addr} {k : Nat} {fd : FuncData} {ps : List Str} {sp : Sp} (T : OexC X.K C) (iC : PySem.W.findIn X.K (.ref C) "__init__" = some (some (.ref fI))) (tI : PySem.W.typeIn X.K (.ref fI) = some (.type "function"))
    (F1 : FnOk X.prog X.w X.K X.mg X.base CX k fI fd ps sp) (hr : Room (k + 1) X.A) (hb : Binds X.K fd ps []) (hx : Passes CX X (fun _ _ _ => False)) (hg : Gl X x) (hm : X.mg x = some (.ref C)) (hdb : (x == ("__debug__" : Str)) = false := by decide) :
    PMk X (.Call (.Name x p) [] [] pos) (tMkO0 C sp) := by
  intro pins s σ H Q I h
  obtain ⟨nm, q, N, bs, bm, sn, sub, ab, col, dd, k0, k1, k2, k3, k5, hC, hbm⟩ := T.cls
  refine wpAny_Call_Name_kw (ld_glob I hg hm ?_ hdb)
  refine PySem.W.callWith_K0 I.kIn T.kC ?_
  obtain ⟨hp, g, dr, tk, os⟩ := s
  have hsz : hp.objs.size ≤ hp.objs.size + 1 := Nat.le_succ _
  have hn : H (hp.objs.size + 1) = none := I.hok.fresh hsz
  have hq := h (hp.objs.size + 1) hn
  have kk : ∀ b o, hp.get? b = some o → ((hp.push (PySem.W.kdv_tup [])).push (PySem.HandSPX.excO C hp.objs.size)).get? b = some o := fun b o e => Heap.get?_push_of_some _ (Heap.get?_push_of_some _ e)
  have hget : ((hp.push (PySem.W.kdv_tup [])).push (PySem.HandSPX.excO C hp.objs.size)).get? (hp.objs.size + 1) = some (PySem.HandSPX.excO C hp.objs.size) := by heap_get
  have I2 : Inv X pins σ (upd H (hp.objs.size + 1) (exo (hp.objs.size + 1) C none)) ⟨(hp.push (PySem.W.kdv_tup [])).push (PySem.HandSPX.excO C hp.objs.size), g, dr, tk, os⟩ := I.laid (t' := tk) kk hsz (exo_ok hget)
  have r2 : Vals [V.ref (hp.objs.size + 1)] [Value.ref (hp.objs.size + 1)] := .cons rfl .nil
  have hl : ([Value.ref (hp.objs.size + 1)] ++ ([] : List Value)).length = ps.length := by
    rw [← F1.len _ _ _ _ hq]; rfl
  refine wpAny_call (PySem.HandSPX.call_own F.excBase_ValueError (fun Y => PySem.HandSPX.refsVE_contains Y bm hbm) (I.kIn _ _ hC) (PySem.W.looks_findIn I.kIn iC) (fun self => PySem.W.bind_fn I.kIn self tI) (by show 0 ≤ sizeLine; decide)
    (codeAny_mono (F1.run _ X.stack _ _ ⟨[Value.ref (hp.objs.size + 1)], []⟩ [Value.ref (hp.objs.size + 1)] _ _ (fun _ _ _ => False) (hr.make C [] []) (I2.env0.make C [] []) (by simpa using hb _ [Value.ref (hp.objs.size + 1)] I2.kIn hl) r2 hq) fun r s' hq' => ?_))
  cases r with
  | error er => exact hx pins σ _ _ er s' I2 hq'
  | ok fl =>
    cases fl with
    | ret u =>
      obtain ⟨v, H2, os2, bare2, un2, hok2, rv, ev, ea, q2⟩ := hq'
      subst ev
      obtain ⟨h2, g2, d2, t2, os'⟩ := s'
      exact ⟨rv, mk_end_none (raises_own T.exC T.tyC) I hsz kk un2 hok2 os2 bare2 ea q2⟩
    | next => exact False.elim hq'
    | brk => exact False.elim hq'
    | cont => exact False.elim hq'
end
/-! ### the promises of such __init__s -/
def spI0 (C : Addr) : Sp := fun vs H Q _ => ∃ a, vs = [.ref a] ∧ H a = some (exo a C none) ∧ Q .non H
def spI1 (K : PySem.W.Frag) (C : Addr) (f : Str) : Sp := fun vs H Q _ => ∃ a v, vs = [.ref a, v] ∧ H a = some (exo a C none) ∧ FmtV K H v ∧ ∀ dx, H dx = none → dx ≠ a → Q .non (upd (upd H dx (exd dx [(f, v)])) a (exo a C (some dx)))
/-- an error class of one's own: its name, its field (if any) -/
structure Err (P : Program) (w : World) (K : PySem.W.Frag) (mg : Str → Option Value) (base : Heap) (x : Str) (C : Addr) (f : Option Str) : Prop where
  oex : OexC K C
  m : mg x = some (.ref C)
  ini : ∃ (fI : Addr) (fd : FuncData) (ps : List Str), PySem.W.findIn K (.ref C) "__init__" = some (some (.ref fI)) ∧ PySem.W.typeIn K (.ref fI) = some (.type "function") ∧ Binds K fd ps [] ∧
    match f with
    | none => FnOk P w K mg base (L2.CX P w) 1 fI fd ps (spI0 C)
    | some f => FnOk P w K mg base (L2.CX P w) 1 fI fd ps (spI1 K C f)
/-- values that may stand in an error's text -/
def D.fmt : D → Bool
  | .int i => decide (i.natAbs < 2 ^ 64)
  | .str y => decide (y.length ≤ 1000)
  | .non => true
  | .bl _ => true
  | .tup [] => true
  | _ => false
theorem DR.fmtV {K : PySem.W.Frag} {r : Addr} {A : Addr → Prop} {H : Hp} {v : V} {d : D} (h : DR K r A H v d) (f : d.fmt = true) : FmtV K H v := by
  cases d with
  | non => cases h; exact .inr (.inr (.inl rfl))
  | bl b => cases h; exact .inr (.inr (.inr (.inl ⟨b, rfl⟩)))
  | int i =>
    cases h
    refine .inl ⟨i, rfl, ?_⟩
    have hi : i.natAbs < 2 ^ 64 := of_decide_eq_true f
    by_cases h0 : i.natAbs = 0
    · rw [h0]; decide
    · exact Nat.lt_trans ((Nat.log2_lt h0).mpr hi) (by decide)
  | str y => cases h; exact .inr (.inl ⟨y, rfl, of_decide_eq_true f⟩)
  | tup ds =>
    cases ds with
    | nil =>
      obtain ⟨a, xs, rfl, e, z, t⟩ := h.sqT
      cases t
      exact .inr (.inr (.inr (.inr ⟨a, rfl, e⟩)))
    | cons a b => cases f
  | _ => cases f
section
variable {X : Cx} {E : XK} {e : Expr} {fe : DE} {x : Str} {C : Addr} {p pos pos2 : Pos}
/-- raise X() -/
theorem s_raise0 (hc : X.calm = true) (er : Err X.prog X.w X.K X.mg X.base x C none) (hr : Room 2 X.A) (hg : Gl X x) (tk : Takes X (fun cls d _ H => E cls d H)) (hdb : (x == ("__debug__" : Str)) = false := by decide) :
    PS X (.Raise (some (.Call (.Name x p) [] [] pos)) none pos2) (tS X.K E (fun P δ => P.ex ⟨C, none⟩)) := by
  obtain ⟨fI, fd, ps, h1, h2, h3, h4⟩ := er.ini
  refine PS.imp (ps_raise hc tk (pmk_oex0 er.oex h1 h2 h4 hr h3 (fun _ _ _ _ _ _ _ h => by
    obtain ⟨_, _, _, _, _, _, _, _, _, _, _, _, h⟩ := h
    exact h.elim) hg er.m hdb)) fun D σ H ⟨r, A0, H0, δ, P, R, h, L⟩ => fun a na => ⟨a, rfl, upd_same, rfl, upd_same, ?_⟩
  have e0 : del (upd H a (exo a C none)) a = H := by
    funext b
    by_cases hb : b = a
    · rw [hb, del_same, na]
    · rw [del_ne hb, upd_ne hb]
  rw [e0]
  exact L.ex ⟨C, none⟩ _ _ H h R.ext R.er.rnd ⟨rfl, rfl⟩
/-- raise X(e) -/
theorem s_raise1 {f : Str} (hc : X.calm = true) (er : Err X.prog X.w X.K X.mg X.base x C (some f)) (hr : Room 2 X.A) (hg : Gl X x) (tk : Takes X (fun cls d _ H => E cls d H)) (he : PE X e (tE X.K E fe)) (hdb : (x == ("__debug__" : Str)) = false := by decide)
    (hst : starEach [e] X.env = (false, eval e X.env) :: starEach [] X.env := by rfl) (hpl : (backTo pos (starEach [] X.env)).any (·.1) = false := by rfl) :
    PS X (.Raise (some (.Call (.Name x p) [e] [] pos)) none pos2) (tS X.K E (fun P δ => fe δ (fun d => d.fmt = true ∧ P.ex ⟨C, some (f, d)⟩) P.ex)) := by
  obtain ⟨fI, fd, ps, h1, h2, h3, h4⟩ := er.ini
  refine PS.imp (ps_raise hc tk (pmk_oex (dvs := []) er.oex h1 h2 h4 hr h3 .nil (fun _ _ _ _ _ _ _ h => by
    obtain ⟨_, _, _, _, _, _, _, _, _, _, _, _, h⟩ := h
    exact h.elim) hg er.m (pa_cons he pa_nil hst) hdb hst hpl)) fun D σ H ⟨r, A0, H0, δ, P, R, h, L⟩ => ?_
  refine use_of R L h fun d v H1 h5 x1 n1 r1 => ⟨by show 1 ≤ 1000; decide, fun a na => ?_⟩
  have R1 := R.move x1 n1
  have eq : [V.ref a] ++ ([v] ++ []) = [V.ref a, v] := rfl
  show spI1 X.K C f [V.ref a, v] (upd H1 a (exo a C none)) _ _
  have fv : FmtV X.K (upd H1 a (exo a C none)) v := (r1.ext ((Ext.upd na).toA R1.er.ar)).fmtV h5.1
  refine ⟨a, v, rfl, upd_same, fv, fun dx nd ne => ⟨rfl, dx, [(f, v)], upd_same, by rw [upd_ne ne, upd_same], ?_, ?_⟩⟩
  · rw [upd_ne ne] at nd; exact nd
  · have nd1 : H1 dx = none := by rw [upd_ne ne] at nd; exact nd
    have e0 : upd (del (upd (upd (upd H1 a (exo a C none)) dx (exd dx [(f, v)])) a (exo a C (some dx))) a) dx (.xd [(f, v)]) = upd H1 dx (.xd [(f, v)]) := by
      funext b
      by_cases hbd : b = dx
      · rw [hbd, upd_same, upd_same]
      · rw [upd_ne hbd, upd_ne hbd]
        by_cases hba : b = a
        · rw [hba, del_same, na]
        · rw [del_ne hba, upd_ne hba, upd_ne hbd, upd_ne hba]
    rw [e0]
    have rn2 := n1.upd (o := .xd [(f, v)]) nd1
    refine L.ex ⟨C, some (f, d)⟩ _ _ _ h5.2 (R1.ext.trans (Ext.upd nd1)) rn2 ⟨rfl, dx, v, rfl, upd_same, ?_, ?_⟩
    · intro hA
      cases q : H0 dx with
      | none => exact R.a0 dx hA q
      | some o =>
        by_cases hdr : dx = r
        · obtain ⟨ns, e1, _⟩ := n1
          rw [hdr, e1] at nd1; cases nd1
        · have := R1.ext dx o hdr q
          rw [nd1] at this; cases this
    · exact (r1.ext ((Ext.upd nd1).toA R1.er.ar)).bar fun b o hb _ => .inl hb
end
end L3

namespace L3
open PySem PySem.Spec PyProof.Rows L2
/-! ### instances that never change after their __init__ -/
/-- a property f of the class at C that hands back the attribute g -/
structure Prp (P : Program) (w : World) (K : PySem.W.Frag) (mg : Str → Option Value) (base : Heap) (C : Addr) (f g : Str) : Prop where
  cls : Cls K C
  ex : ∃ (p fg : Addr) (fd : FuncData), PropOf K C f p fg ∧ Binds K fd ["self"] [] ∧ FnOk P w K mg base (L2.CX P w) 1 fg fd ["self"] (getSp C g)
theorem lookup_zip {K : PySem.W.Frag} {r : Addr} {A : Addr → Prop} {H : Hp} {g : Str} {y : D} : ∀ {ns : List Str} {xs : List V} {ds : List D}, DRs K r A H xs ds → (ns.zip ds).lookup g = some y → ∃ v, (ns.zip xs).lookup g = some v ∧ DR K r A H v y
  | [], _, _, _, h => by simp at h
  | n :: ns, _, _, .nil, h => by simp at h
  | n :: ns, _, _, .cons a b, h => by
    rw [List.zip_cons_cons, List.lookup_cons] at h ⊢
    cases e : g == n with
    | true => rw [e] at h; cases h; exact ⟨_, rfl, a⟩
    | false => rw [e] at h; exact lookup_zip b h
section
variable {X : Cx} {E : XK} {e : Expr} {fe : DE} {f g : Str} {C : Addr} {pos : Pos}
theorem e_prop (c : Prp X.prog X.w X.K X.mg X.base C f g) (hr : Room 2 X.A) (he : PE X e (tE X.K E fe)) (hab : attributeBase e f X.env (eval e X.env) = eval e X.env := by rfl) :
    PE X (.Attribute e f pos) (tE X.K E (fun δ P Z => fe δ (fun d => ∃ ns ds y, d = .obj C ns ds ∧ (ns.zip ds).lookup g = some y ∧ P y) Z)) := by
  obtain ⟨p, fg, fd, h1, h2, h3⟩ := c.ex
  refine PE.imp (pe_prop (E := E0) he c.cls h1 h3 hr h2 .nil (fun _ _ _ _ _ _ _ h => by
    obtain ⟨_, _, _, _, _, _, _, _, _, _, _, _, h⟩ := h
    exact h.elim) hab) fun σ H Q ⟨r, A, δ, P, Z, R, h, hq, hz⟩ => ⟨r, A, δ, _, Z, R, h, fun d v H1 h3 x1 n1 r1 => ?_, hz⟩
  obtain ⟨ns, ds, y, rfl, hl, hp⟩ := h3
  cases r1 with
  | @obj a _ dx _ xs _ na e1 l t =>
    obtain ⟨u, hu, ru⟩ := lookup_zip t hl
    exact ⟨a, dx, _, rfl, e1, a, dx, _, u, rfl, e1, hu, hq _ _ _ hp x1 n1 ru⟩
end
/-- Set(cubes, turns): the promise of its __init__; C the class, fs its attributes in the order of the arguments -/
def spMk (K : PySem.W.Frag) (C : Addr) (fs : List Str) (g : List D → Prop → XP → Prop) : Sp := fun vs H Q E => ∃ r A p dx xs ds P Z, vs = .ref p :: xs ∧ H p = some (.ins C dx []) ∧ ¬ A p ∧ Wd r A H ∧ DRs K r A H xs ds ∧ ds.length = fs.length ∧ g ds P Z ∧
  (∀ H', P → (∀ b o, b ≠ r → b ≠ p → H b = some o → H' b = some o) → RndOk r H' → H' p = some (.ins C dx (fs.zip xs)) → Q .non H') ∧
  (∀ x c dd H', Z x → (∀ b o, b ≠ r → b ≠ p → H b = some o → H' b = some o) → RndOk r H' → XR K r A H' c dd x → E c dd H')
structure Mkr (P : Program) (w : World) (K : PySem.W.Frag) (mg : Str → Option Value) (base : Heap) (x : Str) (C : Addr) (k : Nat) (fs : List Str) (dvs : List V) (ds : List D) (g : List D → Prop → XP → Prop) : Prop where
  m : mg x = some (.ref C)
  ex : ∃ (f : Addr) (fd : FuncData) (ps : List Str) (dv : List Value), L2.Mk K C f ∧ FnOk P w K mg base (L2.CX P w) k f fd ps (spMk K C fs g) ∧ Binds K fd ps dv ∧ Vals dvs dv
  dfl : ∀ r A H, DRs K r A H dvs ds
section
variable {X : Cx} {E : XK} {e : Expr} {es : List Expr} {fa : DA} {x : Str} {C : Addr} {pos p : Pos} {k : Nat} {fs : List Str} {dvs : List V} {dfs : List D} {g : List D → Prop → XP → Prop}
theorem e_make (c : Mkr X.prog X.w X.K X.mg X.base x C k fs dvs dfs g) (hr : Room (k + 1) X.A) (hg : Gl X x) (hx : Passes (L2.CX X.prog X.w) X E) (ha : PA X (e :: es) (tA X.K E fa)) (hdb : (x == ("__debug__" : Str)) = false := by decide)
    (he : starEach (e :: es) X.env = (false, eval e X.env) :: starEach es X.env := by rfl) (hpl : (backTo pos (starEach es X.env)).any (·.1) = false := by rfl) :
    PE X (.Call (.Name x p) (e :: es) [] pos) (tE X.K E (fun δ P Z => fa δ (fun ds => (ds ++ dfs).length = fs.length ∧ g (ds ++ dfs) (P (.obj C fs (ds ++ dfs))) Z) Z)) := by
  obtain ⟨f, fd, ps, dv, M, F, hb, hd⟩ := c.ex
  refine PE.imp (pe_make M F hr hg c.m hb hd hx ha hdb he hpl) fun σ H Q ⟨r, A, δ, P, Z, R, h, hq, hz⟩ => ⟨r, A, δ, _, Z, R, h, fun ds vs H1 h3 x1 n1 r1 => ?_, hz⟩
  intro p dx np nd ne
  have w1 := (R.ext x1 n1).wd
  have all := r1.append (c.dfl r A H1)
  have nA : ¬ A p := w1.free np
  have e1 : Ext r H1 (upd (upd H1 dx (.own p)) p (.ins C dx [])) := (Ext.upd nd).trans (Ext.upd (by rw [upd_ne (Ne.symm ne)]; exact np))
  have rn1 : RndOk r (upd (upd H1 dx (.own p)) p (.ins C dx [])) := (n1.upd nd).upd (by rw [upd_ne (Ne.symm ne)]; exact np)
  refine ⟨r, A, p, dx, vs ++ dvs, ds ++ dfs, _, Z, rfl, upd_same, nA, w1.ext e1 rn1, all.ext (e1.toA w1.ar), h3.1, h3.2, fun H' hp keep rn e2 => ⟨rfl, ?_⟩, fun y cc dd H' z keep rn xr => hz y cc dd H' z (fun b o hb q => ?_) rn xr⟩
  · have k1 : Ext r H1 H' := fun b o hb q => keep b o hb (ne_of_none q np) (e1 b o hb q)
    refine hq _ _ _ hp (x1.trans k1) rn (.obj nA e2 ?_ (all.ext (k1.toA w1.ar)))
    rw [all.length, h3.1]
  · have q1 := x1 b o hb q
    exact keep b o hb (ne_of_none q1 np) (e1 b o hb q1)
end
end L3

namespace L3
open PySem PySem.Spec PyProof.Rows L2
section
variable {X : Cx} {E : XK} {a e : Expr} {fa : DE} {pos : Pos}
/-- the name in the i-th slot -/
theorem ev (i : Nat) {x : Str} {pos : Pos} (hN : X.N[i]? = some x := by rfl) (hv : Vis X.env.scope x := by first | exact Or.inl rfl | exact Or.inr (Or.inl rfl) | exact Or.inr (Or.inr rfl)) (hd : (x == ("__debug__" : Str)) = false := by decide)
    (hcd : (x == ("__classdict__" : Str)) = false := by decide) : PE X (.Name x pos) (tE X.K E (fun δ P _ => ∃ d, δ[i]? = some (.val d) ∧ P d)) := e_var hN hv hd hcd
def negD : D → DP → Prop
  | .int i, P => P (.int (-i))
  | _, _ => False
theorem e_neg (ha : PE X a (tE X.K E fa)) : PE X (.UnaryOp .USub a pos) (tE X.K E (fun δ P Z => fa δ (fun d => negD d P) Z)) := PE.imp (pe_un un_neg ha) fun σ H Q ⟨r, A, δ, P, Z, R, h, hq, hz⟩ =>
  ⟨r, A, δ, _, Z, R, h, fun d v H1 h3 x1 n1 r1 => by
    cases d with
    | int i => cases r1; exact ⟨i, rfl, hq _ _ _ h3 x1 n1 (.int _)⟩
    | _ => exact h3.elim, hz⟩
end
/-! ### y = [..] -/
section
variable {X : Cx} {E : XK} {elt tg iter : Expr} {ifs : List Expr} {scope : Scope} {own : List (Str × Nat)} {pos spos : Pos} {fi : DI} {g : DG} {gt : TG} {tt : DT} {te : DE} {i : Nat} {y : Str} {py : Pos}
theorem s_setLc (hc : X.calm = true) (hN : X.N.Nodup) (hy : X.N[i]? = some y) (hyl : X.env.scope.names.lookup y = some .local)
    (hsw : swapsWith (.ListComp elt [⟨tg, iter, ifs, 0⟩] scope pos) (some (.Name y py)) spos.line X.env = pure true) (hi : PI X tg iter (tI X.K E fi)) (ok : BlkOk X.N X.env.scope scope own) (hG : tGc X.K (own.map (·.2)) g gt)
    (hg : ∀ (s : Shared) (H : Hp) (C : Addr) (cl : List (Str × Addr)) (fp : List Addr), PG (X.blk s H scope (compEnvC scope cl C X.env) fp) tg gt) (ht : ∀ (s : Shared) (H : Hp) (C : Addr) (cl : List (Str × Addr)) (fp : List Addr), PTs (X.blk s H scope (compEnvC scope cl C X.env) fp) ifs (tT X.K E0 tt))
    (he : ∀ (s : Shared) (H : Hp) (C : Addr) (cl : List (Str × Addr)) (fp : List Addr), PE (X.blk s H scope (compEnvC scope cl C X.env) fp) elt (tE X.K E0 te)) (hs : ∀ x, foldedSetIterable iter X.env x = pure x := by intro _; rfl) :
    PS X (.Assign [.Name y py] (.ListComp elt [⟨tg, iter, ifs, 0⟩] scope pos) spos) (tS X.K E (fun P δ => fi δ (fun ds => ds.length ≤ sizeLine ∧ lcD g tt te (wipeE δ (own.map (·.2))) ds [] (fun out => P.nx (δ.set i (.val (.lst out))))) P.ex)) :=
  PS.imp (ps_setLc hc hN hy hyl hsw hi ok hg ht he hs) fun Dd σ H ⟨r, A0, H0, δ, P, R, h, L⟩ => lc_of hG σ H _ (use_of (f := fun δ (Pd : DP) Z => fi δ (fun ds => ds.length ≤ sizeLine ∧ lcD g tt te (wipeE δ (own.map (·.2))) ds [] (fun out => Pd (.lst out))) Z) R L (Pd := fun d => P.nx (δ.set i (.val d))) h
    fun d v H' h2 x2 n2 r2 => L.nx _ _ _ h2 ((R.move x2 n2).set r2))
end
/-! ### a, b = e1, e2 -/
section
variable {X : Cx} {E : XK} {i j : Nat} {x y : Str} {a b : Expr} {fs : DA} {px py pt pos : Pos} {kt k2 : Nat} {pt2 : Pos}
theorem s_par (hc : X.calm = true) (hN : X.N.Nodup) (hi : X.N[i]? = some x) (hj : X.N[j]? = some y) (hij : i ≠ j)
    (hx : X.env.scope.names.lookup x = some .local) (hy : X.env.scope.names.lookup y = some .local) (ha : PA X [a, b] (tA X.K E fs))
    (hw : swappedStores [.Tuple [.Name x px, .Name y py] kt pt] (.Tuple [a, b] k2 pt2) X.env = pure (some [x, y]))
    (hs : swapsWithSole [.Tuple [.Name x px, .Name y py] kt pt] (.Tuple [a, b] k2 pt2) pos.line X.env = pure false := by rfl) :
    PS X (.Assign [.Tuple [.Name x px, .Name y py] kt pt] (.Tuple [a, b] k2 pt2) pos) (tS X.K E (fun P δ => fs δ (fun ds => ∃ d e, ds = [d, e] ∧ P.nx ((δ.set i (.val d)).set j (.val e))) P.ex)) :=
  PS.imp (ps_par hc hN hi hj hij hx hy ha hw hs) fun D σ H ⟨r, A0, H0, δ, P, R, h, L⟩ => ⟨r, _, δ, _, P.ex, R.er, h, fun ds vs H1 h2 x1 n1 r1 => by
    obtain ⟨d, e, rfl, h2⟩ := h2
    obtain ⟨v, u, rfl, a1, a2⟩ := r1.two
    have R1 := R.move x1 n1
    exact ⟨v, u, rfl, L.nx _ _ _ h2 ((R1.set a1).set (R1.set_val a1 a2))⟩, fun x c dd H' z e n q => L.ex x c dd H' z (R.ext.trans e) n (q.bar fun b o hb _ => .inl hb)⟩
end
end L3

namespace L3
open PySem PySem.Spec PyProof.Rows L2
/-! ### comprehensions of two clauses -/
def inD2 (g : DG) (tt : DT) (te : DE) (δw : Env) : List D → List D → (List D → Prop) → Prop
  | [], acc, P => P acc
  | d :: ds, acc, P => g d δw fun δ2 => tt δ2 (fun b => if b = true then te δ2 (fun y => acc.length + 1 ≤ sizeLine ∧ inD2 g tt te δw ds (acc ++ [y]) P) XF else inD2 g tt te δw ds acc P) XF
def lc2D (g : DG) (tt : DT) (fi1 : DI) (g1 : DG) (tt1 : DT) (te : DE) (vs1 : List Nat) (δw : Env) : List D → List D → (List D → Prop) → Prop
  | [], acc, P => P acc
  | d :: ds, acc, P => g d δw fun δ2 => tt δ2 (fun b => if b = true then fi1 δ2 (fun es => inD2 g1 tt1 te (wipeE δ2 vs1) es acc fun acc' => lc2D g tt fi1 g1 tt1 te vs1 δw ds acc' P) XF else lc2D g tt fi1 g1 tt1 te vs1 δw ds acc P) XF
/-- the list that a comprehension makes, at work at c -/
structure Acc (K : PySem.W.Frag) (r : Addr) (A : Addr → Prop) (c : Addr) (H1 H : Hp) (acc : List D) : Prop where
  ob : ∃ accV, H c = some (.lst accV) ∧ accV.length ≤ sizeLine ∧ DRs K r (fun b => A b ∨ b = c) H accV acc
  keep : ∀ b o, b ≠ r → b ≠ c → H1 b = some o → H b = some o
  rnd : RndOk r H
section
variable {K : PySem.W.Frag} {r : Addr} {A : Addr → Prop} {c : Addr} {H1 H H' : Hp} {acc : List D} {σ : L2.St} {δ : Env}
theorem Acc.ext (a : Acc K r A c H1 H acc) (ar : A r) (ne : c ≠ r) (e : Ext r H H') (rn : RndOk r H') : Acc K r A c H1 H' acc := by
  obtain ⟨v, h1, h2, h3⟩ := a.ob
  exact ⟨⟨v, e c _ ne h1, h2, h3.ext (e.toA (.inl ar))⟩, fun b o hr hc q => e b o hr (a.keep b o hr hc q), rn⟩
theorem Acc.er (a : Acc K r A c H1 H acc) (R : ER K r A σ H1 δ) (n : H1 c = none) : ER K r (fun b => A b ∨ b = c) σ H δ := by
  obtain ⟨v, h1, h2, h3⟩ := a.ob
  have R2 : ER K r (fun b => A b ∨ b = c) σ (upd H1 c (.lst [])) δ := R.bar n (by rw [upd_same]; simp) fun b o hb q => by rw [upd_ne hb]; exact q
  refine R2.extD (p := c) (.inr rfl) (fun j es q z => ?_) (fun b o hr hb q => ?_) (by rw [h1]; simp) a.rnd
  · obtain ⟨l, xs, e1, _, _, e4, _⟩ := R.own j es q
    rw [e1] at z
    cases z
    rw [n] at e4; cases e4
  · rw [upd_ne hb] at q
    exact a.keep b o hr hb q
theorem Acc.more (a : Acc K r A c H1 H acc) (ne : c ≠ r) {v : V} {y : D} (hy : DR K r (fun b => A b ∨ b = c) H v y) (hz : acc.length + 1 ≤ sizeLine) : ∃ accV, H c = some (.lst accV) ∧ accV.length < sizeLine ∧ Acc K r A c H1 (upd H c (.lst (accV ++ [v]))) (acc ++ [y]) := by
  obtain ⟨w, h1, h2, h3⟩ := a.ob
  have hl := h3.length
  have eD : ExtA (fun b => A b ∨ b = c) H (upd H c (.lst (w ++ [v]))) := fun b o nb q => by
    rw [upd_ne (fun z => nb (.inr z))]; exact q
  refine ⟨w, h1, by omega, ⟨w ++ [v], upd_same, by rw [List.length_append, List.length_singleton]; omega, DRs.append (h3.ext eD) (.cons (hy.ext eD) .nil)⟩, fun b o hr hb q => by rw [upd_ne hb]; exact a.keep b o hr hb q, ?_⟩
  obtain ⟨ns, e1, e2⟩ := a.rnd
  exact ⟨ns, by rw [upd_ne (Ne.symm ne)]; exact e1, e2⟩
end
theorem lc2_of {K : PySem.W.Frag} {E : XK} {fi fi1 : DI} {g g1 : DG} {gt gt1 : TG} {tt tt1 : DT} {te : DE} {vs vs1 : List Nat} (hg : tGc K vs g gt) (hg1 : tGc K vs1 g1 gt1) : ∀ σ H Q,
    tE K E (fun δ P Z => fi δ (fun ds => lc2D g tt fi1 g1 tt1 te vs1 (wipeE δ vs) ds [] (fun out => P (.lst out))) Z) σ H Q →
    tLc2 (tI K E fi) gt (tT K E0 tt) (tI K E0 fi1) gt1 (tT K E0 tt1) (tE K E0 te) vs vs1 σ H Q := fun σ H Q ⟨r, A, δ, P, Z, R, h2, hq, hz⟩ =>
  ⟨r, A, δ, _, Z, R, h2, fun ds J H1 h3 x1 n1 y => by
    intro c nc
    have R1 := R.ext x1 n1
    have ncr : c ≠ r := fun z => by
      obtain ⟨ns, e, _⟩ := n1
      rw [z, e] at nc; cases nc
    have nA : ¬ A c := R1.free nc
    refine ⟨fun i m Hc => m = ds.length - i ∧ i ≤ ds.length ∧ ∃ acc, lc2D g tt fi1 g1 tt1 te vs1 (wipeE δ vs) (ds.drop i) acc (fun out => P (.lst out)) ∧ Acc K r A c H1 Hc acc,
      ⟨ds.length, by simp, Nat.zero_le _, [], h3, ⟨[], upd_same, Nat.zero_le _, .nil⟩, fun b o _ hb e => by rw [upd_ne hb]; exact e, n1.upd nc⟩, ?_⟩
    rintro i m Hc ⟨rfl, hi, acc, h4, a⟩
    have ea : ExtA A H1 Hc := fun b o nb q => a.keep b o (fun z => nb (z ▸ R1.ar)) (ne_of_none q nc) q
    have wa : ∀ b o, (A b ∨ b = c) → H1 b = some o → A b := fun b o hb q => by
      rcases hb with hb | hb
      · exact hb
      · rw [hb, nc] at q; cases q
    have R3 := a.er R1 nc
    obtain ⟨ys, yg⟩ := y i Hc _ ea R3.wd wa
    by_cases hlt : i < ds.length
    · obtain ⟨go, yl⟩ := yg ds[i] (List.getElem?_eq_getElem hlt)
      refine .inr ⟨go, fun H' => ∃ m', m' < ds.length - i ∧ m' = ds.length - (i + 1) ∧ i + 1 ≤ ds.length ∧ ∃ acc, lc2D g tt fi1 g1 tt1 te vs1 (wipeE δ vs) (ds.drop (i + 1)) acc (fun out => P (.lst out)) ∧ Acc K r A c H1 H' acc, fun H' h => h, fun x H' hy => ?_⟩
      obtain ⟨x5, n5, d5⟩ := yl x H' hy
      rw [List.drop_eq_getElem_cons hlt] at h4
      have a5 := a.ext R1.ar ncr x5 n5
      refine hg r _ x ds[i] _ H' _ _ _ ((R3.ext x5 n5).wipe vs) d5 h4 fun δ2 σ2 h6 hw os R6 => ⟨by rw [hw, wipe_wipe], r, _, δ2, _, XF, R6, h6, fun b H3 h7 x7 n7 => ?_, fun x c dd H' z => z.elim⟩
      cases b with
      | false => exact ⟨ds.length - (i + 1), by omega, rfl, by omega, acc, h7, a5.ext R1.ar ncr x7 n7⟩
      | true =>
        refine ⟨r, _, δ2, _, XF, R6.ext x7 n7, h7, fun es J1 H4 h8 x8 n8 y1 => ?_, fun x c dd H' z => z.elim⟩
        have a8 := (a5.ext R1.ar ncr x7 n7).ext R1.ar ncr x8 n8
        have R8 := (R6.ext x7 n7).ext x8 n8
        refine ⟨fun j k H => k = es.length - j ∧ j ≤ es.length ∧ ∃ acc, inD2 g1 tt1 te (wipeE δ2 vs1) (es.drop j) acc (fun acc' => lc2D g tt fi1 g1 tt1 te vs1 (wipeE δ vs) (ds.drop (i + 1)) acc' (fun out => P (.lst out))) ∧ Acc K r A c H1 H acc ∧
          (∀ b o, b ≠ r → b ≠ c → H4 b = some o → H b = some o), ⟨es.length, by simp, Nat.zero_le _, acc, h8, a8, fun _ _ _ _ q => q⟩, ?_⟩
        rintro j k Hj ⟨rfl, hj, acc1, h9, a9, k9⟩
        have ea1 : ExtA (fun b => A b ∨ b = c) H4 Hj := fun b o nb q => k9 b o (fun z => nb (.inl (z ▸ R1.ar))) (fun z => nb (.inr z)) q
        have noc : ∀ (j : Nat) es, δ2[j]? = some (.own es) → σ2[j]? ≠ some (some (.ref c)) := fun j es q z => by
          obtain ⟨q1, q2⟩ := ((OwnSub.wipe σ δ vs).trans os) j es q
          obtain ⟨l, xs, e1, _, _, e4, _⟩ := R1.own j es q1
          rw [q2, e1] at z
          cases z
          rw [nc] at e4; cases e4
        have hc9 : Hj c ≠ none := by obtain ⟨v, e, _⟩ := a9.ob; rw [e]; simp
        have R9 : ER K r (fun b => A b ∨ b = c) σ2 Hj δ2 := R8.extD (p := c) (.inr rfl) noc k9 hc9 a9.rnd
        obtain ⟨ys1, yg1⟩ := y1 j Hj _ ea1 R9.wd (fun b o hb _ => hb)
        by_cases hlt1 : j < es.length
        · obtain ⟨go1, yl1⟩ := yg1 es[j] (List.getElem?_eq_getElem hlt1)
          refine .inr ⟨go1, fun H' => ∃ k', k' < es.length - j ∧ k' = es.length - (j + 1) ∧ j + 1 ≤ es.length ∧ ∃ acc, inD2 g1 tt1 te (wipeE δ2 vs1) (es.drop (j + 1)) acc (fun acc' => lc2D g tt fi1 g1 tt1 te vs1 (wipeE δ vs) (ds.drop (i + 1)) acc' (fun out => P (.lst out))) ∧ Acc K r A c H1 H' acc ∧
            (∀ b o, b ≠ r → b ≠ c → H4 b = some o → H' b = some o), fun H' h => h, fun x H' hy1 => ?_⟩
          obtain ⟨x10, n10, d10⟩ := yl1 x H' hy1
          rw [List.drop_eq_getElem_cons hlt1] at h9
          refine hg1 r _ x es[j] _ H' _ _ _ ((R9.ext x10 n10).wipe vs1) d10 h9 fun δ3 σ3 h11 hw1 _ R11 => ⟨by rw [hw1, wipe_wipe], r, _, δ3, _, XF, R11, h11, fun b H5 h12 x12 n12 => ?_, fun x c dd H' z => z.elim⟩
          have a12 := (a9.ext R1.ar ncr x10 n10).ext R1.ar ncr x12 n12
          have k12 : ∀ b o, b ≠ r → b ≠ c → H4 b = some o → H5 b = some o := fun b o hr hb q => x12 b o hr (x10 b o hr (k9 b o hr hb q))
          cases b with
          | false => exact ⟨es.length - (j + 1), by omega, rfl, by omega, acc1, h12, a12, k12⟩
          | true =>
            refine ⟨r, _, δ3, _, XF, R11.ext x12 n12, h12, fun z v H6 h13 x13 n13 d13 => ?_, fun x c dd H' z => z.elim⟩
            obtain ⟨accV, e1, e2, e3⟩ := (a12.ext R1.ar ncr x13 n13).more ncr d13 h13.1
            exact ⟨accV, e1, e2, es.length - (j + 1), by omega, rfl, by omega, acc1 ++ [z], h13.2, e3, fun b o hr hb q => by rw [upd_ne hb]; exact x13 b o hr (k12 b o hr hb q)⟩
        · have ej : j = es.length := by omega
          rw [List.drop_eq_nil_of_le (by omega)] at h9
          exact .inl ⟨ys1 (by omega), ds.length - (i + 1), by omega, rfl, by omega, acc1, h9, a9⟩
    · have ei : i = ds.length := by omega
      refine .inl ⟨ys (by omega), ?_⟩
      rw [List.drop_eq_nil_of_le (by omega)] at h4
      obtain ⟨accV, e1, e2, e3⟩ := a.ob
      refine hq (.lst acc) _ Hc h4 (fun b o hr q => ?_) a.rnd (.lst nA e1 e2 (e3.bar fun b o hb _ => .inl hb))
      have q1 := x1 b o hr q
      exact a.keep b o hr (ne_of_none q1 nc) q1, hz⟩
section
variable {X : Cx} {E : XK} {elt tg iter tg1 iter1 : Expr} {ifs ifs1 : List Expr} {scope : Scope} {own : List (Str × Nat)} {vs1 : List Nat} {pos spos : Pos} {fi fi1 : DI} {g g1 : DG} {gt gt1 : TG} {tt tt1 : DT} {te : DE} {i : Nat} {y : Str} {py : Pos}
theorem e_lc2 (hc : X.calm = true) (hN : X.N.Nodup) (hi : PI X tg iter (tI X.K E fi)) (ok : BlkOk X.N X.env.scope scope own) (hv : ∀ i ∈ vs1, i ∈ own.map (·.2)) (hG : tGc X.K (own.map (·.2)) g gt) (hG1 : tGc X.K vs1 g1 gt1)
    (hg : ∀ (s : Shared) (H : Hp) (C : Addr) (cl : List (Str × Addr)) (fp : List Addr), PG (X.blk s H scope (compEnvC scope cl C X.env) fp) tg gt) (ht : ∀ (s : Shared) (H : Hp) (C : Addr) (cl : List (Str × Addr)) (fp : List Addr), PTs (X.blk s H scope (compEnvC scope cl C X.env) fp) ifs (tT X.K E0 tt))
    (hi1 : ∀ (s : Shared) (H : Hp) (C : Addr) (cl : List (Str × Addr)) (fp : List Addr), PI (X.blk s H scope (compEnvC scope cl C X.env) fp) tg1 iter1 (tI X.K E0 fi1))
    (hg1 : ∀ (s : Shared) (H : Hp) (C : Addr) (cl : List (Str × Addr)) (fp : List Addr), PG (X.blk s H scope (compEnvC scope cl C X.env) fp) tg1 gt1) (ht1 : ∀ (s : Shared) (H : Hp) (C : Addr) (cl : List (Str × Addr)) (fp : List Addr), PTs (X.blk s H scope (compEnvC scope cl C X.env) fp) ifs1 (tT X.K E0 tt1))
    (he : ∀ (s : Shared) (H : Hp) (C : Addr) (cl : List (Str × Addr)) (fp : List Addr), PE (X.blk s H scope (compEnvC scope cl C X.env) fp) elt (tE X.K E0 te)) (hs : ∀ x, foldedSetIterable iter X.env x = pure x := by intro _; rfl) (hs1 : ∀ env x, foldedSetIterable iter1 env x = pure x := by intro _ _; rfl) :
    PE X (.ListComp elt [⟨tg, iter, ifs, 0⟩, ⟨tg1, iter1, ifs1, 0⟩] scope pos) (tE X.K E (fun δ P Z => fi δ (fun ds => lc2D g tt fi1 g1 tt1 te vs1 (wipeE δ (own.map (·.2))) ds [] (fun out => P (.lst out))) Z)) :=
  PE.imp (pe_lc2 hc hN hi ok hv hg ht hi1 hg1 ht1 he hs hs1) (lc2_of hG hG1)
theorem s_setLc2 (hc : X.calm = true) (hN : X.N.Nodup) (hy : X.N[i]? = some y) (hyl : X.env.scope.names.lookup y = some .local)
    (hsw : swapsWith (.ListComp elt [⟨tg, iter, ifs, 0⟩, ⟨tg1, iter1, ifs1, 0⟩] scope pos) (some (.Name y py)) spos.line X.env = pure true) (hi : PI X tg iter (tI X.K E fi)) (ok : BlkOk X.N X.env.scope scope own) (hv : ∀ i ∈ vs1, i ∈ own.map (·.2)) (hG : tGc X.K (own.map (·.2)) g gt) (hG1 : tGc X.K vs1 g1 gt1)
    (hg : ∀ (s : Shared) (H : Hp) (C : Addr) (cl : List (Str × Addr)) (fp : List Addr), PG (X.blk s H scope (compEnvC scope cl C X.env) fp) tg gt) (ht : ∀ (s : Shared) (H : Hp) (C : Addr) (cl : List (Str × Addr)) (fp : List Addr), PTs (X.blk s H scope (compEnvC scope cl C X.env) fp) ifs (tT X.K E0 tt))
    (hi1 : ∀ (s : Shared) (H : Hp) (C : Addr) (cl : List (Str × Addr)) (fp : List Addr), PI (X.blk s H scope (compEnvC scope cl C X.env) fp) tg1 iter1 (tI X.K E0 fi1))
    (hg1 : ∀ (s : Shared) (H : Hp) (C : Addr) (cl : List (Str × Addr)) (fp : List Addr), PG (X.blk s H scope (compEnvC scope cl C X.env) fp) tg1 gt1) (ht1 : ∀ (s : Shared) (H : Hp) (C : Addr) (cl : List (Str × Addr)) (fp : List Addr), PTs (X.blk s H scope (compEnvC scope cl C X.env) fp) ifs1 (tT X.K E0 tt1))
    (he : ∀ (s : Shared) (H : Hp) (C : Addr) (cl : List (Str × Addr)) (fp : List Addr), PE (X.blk s H scope (compEnvC scope cl C X.env) fp) elt (tE X.K E0 te)) (hs : ∀ x, foldedSetIterable iter X.env x = pure x := by intro _; rfl) (hs1 : ∀ env x, foldedSetIterable iter1 env x = pure x := by intro _ _; rfl) :
    PS X (.Assign [.Name y py] (.ListComp elt [⟨tg, iter, ifs, 0⟩, ⟨tg1, iter1, ifs1, 0⟩] scope pos) spos) (tS X.K E (fun P δ => fi δ (fun ds => lc2D g tt fi1 g1 tt1 te vs1 (wipeE δ (own.map (·.2))) ds [] (fun out => P.nx (δ.set i (.val (.lst out))))) P.ex)) :=
  PS.imp (ps_setLc2 hc hN hy hyl hsw hi ok hv hg ht hi1 hg1 ht1 he hs hs1) fun Dd σ H ⟨r, A0, H0, δ, P, R, h, L⟩ => lc2_of hG hG1 σ H _ (use_of (f := fun δ (Pd : DP) Z => fi δ (fun ds => lc2D g tt fi1 g1 tt1 te vs1 (wipeE δ (own.map (·.2))) ds [] (fun out => Pd (.lst out))) Z) R L (Pd := fun d => P.nx (δ.set i (.val d))) h
    fun d v H' h2 x2 n2 r2 => L.nx _ _ _ h2 ((R.move x2 n2).set r2))
end
end L3

namespace L3
open PySem PySem.Spec PyProof.Rows L2
section
variable {X : Cx} {E : XK} {e : Expr} {fe : DE} {fs : DA} {p p2 pos q : Pos}
def lrD : List D → DP → Prop
  | [.int n], P => 0 ≤ n ∧ n ≤ 1000000 ∧ P (.lst (rngD 0 n.toNat))
  | _, _ => False
theorem rgV_rng {K : PySem.W.Frag} {r : Addr} {A : Addr → Prop} {H : Hp} (n : Int) : DRs K r A H (rgV 0 n) (rngD 0 n.toNat) := by
  unfold rgV rngD
  have e : (n - 0).toNat = n.toNat := by rw [Int.sub_zero]
  rw [e]
  generalize List.range n.toNat = l
  induction l with
  | nil => exact .nil
  | cons a l ih => exact .cons (.int _) ih
theorem e_listRange (hc : X.calm = true) (hg : Gl X "list") (hm : X.mg "list" = none) (hg2 : Gl X "range") (hm2 : X.mg "range" = none)
    (he : PE X e (tE X.K E fe)) (na : starEach [e] X.env = (false, eval e X.env) :: starEach [] X.env := by rfl)
    (nb : starEach [.Call (.Name "range" p2) [e] [] q] X.env = (false, eval (.Call (.Name "range" p2) [e] [] q) X.env) :: starEach [] X.env := by rfl) :
    PE X (.Call (.Name "list" p) [.Call (.Name "range" p2) [e] [] q] [] pos) (tE X.K E (fun δ P Z => fe δ (fun d => lrD [d] P) Z)) := by
  refine PE.imp (pe_listRg hc hg hm (prg_1 hg2 hm2 he na) nb) fun σ H Q ⟨r, A, δ, P, Z, R, h, hq, hz⟩ => ?_
  refine ⟨r, A, δ, fun d => lrD [d] P, Z, R, h, fun d v H1 h3 x1 n1 r1 => ?_, hz⟩
  match d, h3 with
  | .int n, h3 =>
    obtain ⟨b1, b2, h3⟩ : 0 ≤ n ∧ n ≤ 1000000 ∧ P (.lst (rngD 0 n.toNat)) := h3
    cases r1
    have hz : (rgV 0 n).length ≤ sizeLine := by rw [rgV_length, sizeLine_eq]; omega
    exact ⟨n, rfl, RgOk.of_le (by omega) (by omega) (by omega) (by omega), fun q nq => hq _ _ _ h3 (x1.trans (Ext.upd nq)) (n1.upd nq) (((R.ext x1 n1).wd).lst nq hz (rgV_rng n))⟩
end
theorem if_so {c : Bool} {A B : Prop} (hc : c = true) (h : A) : if c = true then A else B := by rw [if_pos hc]; exact h
theorem if_no {c : Bool} {A B : Prop} (hc : c = false) (h : B) : if c = true then A else B := by rw [hc, if_neg Bool.false_ne_true]; exact h
/-! ### the law's own source of draws -/
/-- _law_below(d, n): some k below n -/
def gBelow : DF := fun ds P _ => ∃ n : Int, ds = [.rnd, .int n] ∧ 0 < n ∧ n ≤ 1000000 ∧ ∀ k : Int, 0 ≤ k → k < n → P (.int k)
/-- _law_pick(d, xs): some item -/
def gPick : DF := fun ds P _ => ∃ xs : List D, ds = [.rnd, .lst xs] ∧ xs ≠ [] ∧ xs.length ≤ 1000000 ∧ ∀ x ∈ xs, P x
section
variable {X : Cx} {E : XK} {x : Str} {pos : Pos}
theorem e_gi {n : Int} (h : ∃ t, X.mg x = some (.int n t)) (hg : Gl X x := by rfl) (hd : (x == ("__debug__" : Str)) = false := by decide) : PE X (.Name x pos) (tE X.K E (fun _ P _ => P (.int n))) := by
  obtain ⟨t, h⟩ := h
  exact e_glob (v := .int n) hg h ⟨_, rfl⟩ (fun _ _ _ => .int n) hd
theorem e_gs {z : Str} (h : ∃ t, X.mg x = some (.str z t)) (hg : Gl X x := by rfl) (hd : (x == ("__debug__" : Str)) = false := by decide) : PE X (.Name x pos) (tE X.K E (fun _ P _ => P (.str z))) := by
  obtain ⟨t, h⟩ := h
  exact e_glob (v := .str z) hg h ⟨_, rfl⟩ (fun _ _ _ => .str z) hd
end
end L3

namespace L3
open PySem PySem.Spec PyProof.Rows L2
/-! ### == of data, by data -/
mutual
/-- no source, no instance, no dict; texts that stand -/
def D.lays : D → Bool
  | .lst ds => D.laysAll ds
  | .tup ds => D.laysAll ds
  | .str x => PyData.strOk x
  | .dic => false
  | .rnd => false
  | .adr _ => false
  | .exc _ _ _ => false
  | .obj _ _ _ => false
  | _ => true
def D.laysAll : List D → Bool
  | [] => true
  | d :: ds => D.lays d && D.laysAll ds
end
mutual
def D.dep : D → Nat
  | .lst ds => D.depAll ds + 1
  | .tup ds => D.depAll ds + 1
  | _ => 0
def D.depAll : List D → Nat
  | [] => 0
  | d :: ds => max (D.dep d) (D.depAll ds)
end
mutual
theorem D.py_of : ∀ d : D, d.lays = true → ∃ y, d.py = some y ∧ y.canLay0 = true ∧ y.depth = d.dep
  | .non, _ => ⟨_, rfl, rfl, rfl⟩
  | .bl _, _ => ⟨_, rfl, rfl, rfl⟩
  | .int _, _ => ⟨_, rfl, rfl, rfl⟩
  | .str x, h => ⟨_, rfl, by simpa [PyData.canLay0, D.lays] using h, rfl⟩
  | .lst ds, h => by
    obtain ⟨ys, h1, h2, h3⟩ := D.pys_of ds h
    exact ⟨.list ys, by unfold D.py; rw [h1]; rfl, by simpa [PyData.canLay0] using h2, by simp [PyData.depth, D.dep, h3]⟩
  | .tup ds, h => by
    obtain ⟨ys, h1, h2, h3⟩ := D.pys_of ds h
    exact ⟨.tuple ys, by unfold D.py; rw [h1]; rfl, by simpa [PyData.canLay0] using h2, by simp [PyData.depth, D.dep, h3]⟩
  | .dic, h => by cases h
  | .rnd, h => by cases h
  | .adr _, h => by cases h
  | .exc _ _ _, h => by cases h
  | .obj _ _ _, h => by cases h
theorem D.pys_of : ∀ ds : List D, D.laysAll ds = true → ∃ ys, D.pys ds = some ys ∧ PyData.canLayAll0 ys = true ∧ PyData.depthAll ys = D.depAll ds
  | [], _ => ⟨[], rfl, rfl, rfl⟩
  | d :: ds, h => by
    unfold D.laysAll at h
    rw [Bool.and_eq_true] at h
    obtain ⟨y, h1, h2, h3⟩ := D.py_of d h.1
    obtain ⟨ys, h4, h5, h6⟩ := D.pys_of ds h.2
    exact ⟨y :: ys, by unfold D.pys; rw [h1, h4]; rfl, by simp [PyData.canLayAll0, h2, h5], by simp [PyData.depthAll, D.depAll, h3, h6]⟩
end
theorem D.eqOk_of {d : D} (h : d.lays = true) (k : d.dep ≤ 64) : d.eqOk = true := by
  obtain ⟨y, h1, h2, h3⟩ := D.py_of d h
  unfold D.eqOk
  rw [h1]
  show SeqAt.shaped y = true
  unfold SeqAt.shaped
  rw [h2, h3, decide_eq_true k]
  rfl
mutual
/-- no bool in it -/
def D.nb : D → Bool
  | .lst ds => D.nbAll ds
  | .tup ds => D.nbAll ds
  | .bl _ => false
  | _ => true
def D.nbAll : List D → Bool
  | [] => true
  | d :: ds => D.nb d && D.nbAll ds
end
theorem eqD_py {d e : D} {x y : PyData} (h1 : d.py = some x) (h2 : e.py = some y) : eqD d e = PyData.eqv x y := by unfold eqD; rw [h1, h2]
mutual
theorem eqD_iff : ∀ d e : D, d.lays = true → e.lays = true → d.nb = true → e.nb = true → (eqD d e = true ↔ d = e)
  | .lst ds, e, h1, h2, h3, h4 => by
    obtain ⟨xs, a1, _, _⟩ := D.pys_of ds h1
    cases e with
    | lst es =>
      obtain ⟨ys, b1, _, _⟩ := D.pys_of es h2
      rw [eqD_py (x := .list xs) (y := .list ys) (by unfold D.py; rw [a1]; rfl) (by unfold D.py; rw [b1]; rfl)]
      rw [show PyData.eqv (.list xs) (.list ys) = PyData.eqvAll xs ys from by simp [PyData.eqv]]
      rw [eqDs_iff ds es xs ys h1 h2 h3 h4 a1 b1]
      simp
    | tup es =>
      obtain ⟨ys, b1, _, _⟩ := D.pys_of es h2
      rw [eqD_py (x := .list xs) (y := .tuple ys) (by unfold D.py; rw [a1]; rfl) (by unfold D.py; rw [b1]; rfl)]
      simp [PyData.eqv]
    | non => rw [eqD_py (x := .list xs) (y := .none) (by unfold D.py; rw [a1]; rfl) rfl]; simp [PyData.eqv]
    | int i => rw [eqD_py (x := .list xs) (y := .int i) (by unfold D.py; rw [a1]; rfl) rfl]; simp [PyData.eqv]
    | str i => rw [eqD_py (x := .list xs) (y := .str i) (by unfold D.py; rw [a1]; rfl) rfl]; simp [PyData.eqv]
    | bl b => cases h4
    | _ => cases h2
  | .tup ds, e, h1, h2, h3, h4 => by
    obtain ⟨xs, a1, _, _⟩ := D.pys_of ds h1
    cases e with
    | tup es =>
      obtain ⟨ys, b1, _, _⟩ := D.pys_of es h2
      rw [eqD_py (x := .tuple xs) (y := .tuple ys) (by unfold D.py; rw [a1]; rfl) (by unfold D.py; rw [b1]; rfl)]
      rw [show PyData.eqv (.tuple xs) (.tuple ys) = PyData.eqvAll xs ys from by simp [PyData.eqv]]
      rw [eqDs_iff ds es xs ys h1 h2 h3 h4 a1 b1]
      simp
    | lst es =>
      obtain ⟨ys, b1, _, _⟩ := D.pys_of es h2
      rw [eqD_py (x := .tuple xs) (y := .list ys) (by unfold D.py; rw [a1]; rfl) (by unfold D.py; rw [b1]; rfl)]
      simp [PyData.eqv]
    | non => rw [eqD_py (x := .tuple xs) (y := .none) (by unfold D.py; rw [a1]; rfl) rfl]; simp [PyData.eqv]
    | int i => rw [eqD_py (x := .tuple xs) (y := .int i) (by unfold D.py; rw [a1]; rfl) rfl]; simp [PyData.eqv]
    | str i => rw [eqD_py (x := .tuple xs) (y := .str i) (by unfold D.py; rw [a1]; rfl) rfl]; simp [PyData.eqv]
    | bl b => cases h4
    | _ => cases h2
  | .non, e, h1, h2, h3, h4 => by
    obtain ⟨y, b1, _, _⟩ := D.py_of e h2
    rw [eqD_py (x := .none) rfl b1]
    cases e <;> first
      | (exfalso; simp [D.lays] at h2; done)
      | (exfalso; simp [D.nb] at h4; done)
      | (unfold D.py at b1; cases b1; simp [PyData.eqv]; done)
      | (unfold D.py at b1; obtain ⟨ys, _, rfl⟩ := Option.map_eq_some_iff.mp b1; simp [PyData.eqv])
  | .int i, e, h1, h2, h3, h4 => by
    obtain ⟨y, b1, _, _⟩ := D.py_of e h2
    rw [eqD_py (x := .int i) rfl b1]
    cases e <;> first
      | (exfalso; simp [D.lays] at h2; done)
      | (exfalso; simp [D.nb] at h4; done)
      | (unfold D.py at b1; cases b1; simp [PyData.eqv]; done)
      | (unfold D.py at b1; obtain ⟨ys, _, rfl⟩ := Option.map_eq_some_iff.mp b1; simp [PyData.eqv])
  | .str i, e, h1, h2, h3, h4 => by
    obtain ⟨y, b1, _, _⟩ := D.py_of e h2
    rw [eqD_py (x := .str i) rfl b1]
    cases e <;> first
      | (exfalso; simp [D.lays] at h2; done)
      | (exfalso; simp [D.nb] at h4; done)
      | (unfold D.py at b1; cases b1; simp [PyData.eqv]; done)
      | (unfold D.py at b1; obtain ⟨ys, _, rfl⟩ := Option.map_eq_some_iff.mp b1; simp [PyData.eqv])
  | .bl _, _, _, _, h, _ => by cases h
  | .dic, _, h, _, _, _ => by cases h
  | .rnd, _, h, _, _, _ => by cases h
  | .adr _, _, h, _, _, _ => by cases h
  | .exc _ _ _, _, h, _, _, _ => by cases h
  | .obj _ _ _, _, h, _, _, _ => by cases h
theorem eqDs_iff : ∀ (ds es : List D) (xs ys : List PyData), D.laysAll ds = true → D.laysAll es = true → D.nbAll ds = true → D.nbAll es = true → D.pys ds = some xs → D.pys es = some ys → (PyData.eqvAll xs ys = true ↔ ds = es)
  | [], [], _, _, _, _, _, _, a, b => by cases a; cases b; simp [PyData.eqvAll]
  | [], e :: es, xs, ys, _, h2, _, _, a, b => by
    cases a
    unfold D.laysAll at h2
    rw [Bool.and_eq_true] at h2
    obtain ⟨y, b1, _, _⟩ := D.py_of e h2.1
    obtain ⟨yr, b2, _, _⟩ := D.pys_of es h2.2
    unfold D.pys at b
    rw [b1, b2] at b
    cases b
    simp [PyData.eqvAll]
  | d :: ds, [], xs, ys, h1, _, _, _, a, b => by
    cases b
    unfold D.laysAll at h1
    rw [Bool.and_eq_true] at h1
    obtain ⟨y, b1, _, _⟩ := D.py_of d h1.1
    obtain ⟨yr, b2, _, _⟩ := D.pys_of ds h1.2
    unfold D.pys at a
    rw [b1, b2] at a
    cases a
    simp [PyData.eqvAll]
  | d :: ds, e :: es, xs, ys, h1, h2, h3, h4, a, b => by
    unfold D.laysAll at h1 h2
    unfold D.nbAll at h3 h4
    rw [Bool.and_eq_true] at h1 h2 h3 h4
    obtain ⟨x, a1, _, _⟩ := D.py_of d h1.1
    obtain ⟨xr, a2, _, _⟩ := D.pys_of ds h1.2
    obtain ⟨y, b1, _, _⟩ := D.py_of e h2.1
    obtain ⟨yr, b2, _, _⟩ := D.pys_of es h2.2
    unfold D.pys at a b
    rw [a1, a2] at a
    rw [b1, b2] at b
    cases a; cases b
    have e1 := eqD_iff d e h1.1 h2.1 h3.1 h4.1
    rw [eqD_py a1 b1] at e1
    have e2 := eqDs_iff ds es xr yr h1.2 h2.2 h3.2 h4.2 a2 b2
    simp [PyData.eqvAll, e1, e2]
end
/-- == of data that say no bool: for a goal «eqOk, eqOk, P of the answer» -/
theorem eq_D {d e : D} {P : DP} (h1 : d.lays = true) (h2 : e.lays = true) (k1 : d.dep ≤ 64) (k2 : e.dep ≤ 64) (n1 : d.nb = true) (n2 : e.nb = true) {b : Bool} (hb : b = true ↔ d = e) (h : P (.bl b)) : d.eqOk = true ∧ e.eqOk = true ∧ P (.bl (eqD d e)) := by
  refine ⟨D.eqOk_of h1 k1, D.eqOk_of h2 k2, ?_⟩
  have : eqD d e = b := by
    rw [Bool.eq_iff_iff, eqD_iff d e h1 h2 n1 n2, hb]
  rw [this]; exact h
theorem ne_D {d e : D} {P : DP} (h1 : d.lays = true) (h2 : e.lays = true) (k1 : d.dep ≤ 64) (k2 : e.dep ≤ 64) (n1 : d.nb = true) (n2 : e.nb = true) {b : Bool} (hb : b = true ↔ d ≠ e) (h : P (.bl b)) : d.eqOk = true ∧ e.eqOk = true ∧ P (.bl (!eqD d e)) := by
  refine ⟨D.eqOk_of h1 k1, D.eqOk_of h2 k2, ?_⟩
  have : (!eqD d e) = b := by
    rw [Bool.eq_iff_iff, hb, Bool.not_eq_true', ← Bool.not_eq_true, eqD_iff d e h1 h2 n1 n2]
  rw [this]; exact h
/-! lists of one kind -/
theorem lays_all {α : Type} {f : α → D} : ∀ {xs : List α}, (∀ x ∈ xs, (f x).lays = true) → D.laysAll (xs.map f) = true
  | [], _ => rfl
  | x :: xs, h => by
    rw [List.map_cons]
    unfold D.laysAll
    rw [h x List.mem_cons_self, lays_all fun y hy => h y (List.mem_cons_of_mem _ hy)]
    rfl
theorem nb_all {α : Type} {f : α → D} : ∀ {xs : List α}, (∀ x ∈ xs, (f x).nb = true) → D.nbAll (xs.map f) = true
  | [], _ => rfl
  | x :: xs, h => by
    rw [List.map_cons]
    unfold D.nbAll
    rw [h x List.mem_cons_self, nb_all fun y hy => h y (List.mem_cons_of_mem _ hy)]
    rfl
theorem dep_all {α : Type} {f : α → D} {k : Nat} : ∀ {xs : List α}, (∀ x ∈ xs, (f x).dep ≤ k) → D.depAll (xs.map f) ≤ k
  | [], _ => Nat.zero_le _
  | x :: xs, h => by
    rw [List.map_cons]
    unfold D.depAll
    exact Nat.max_le.mpr ⟨h x List.mem_cons_self, dep_all fun y hy => h y (List.mem_cons_of_mem _ hy)⟩
/-- data that == is asked of freely: k deep at most -/
structure D.Eqs (k : Nat) (d : D) : Prop where
  lays : d.lays = true
  dep : d.dep ≤ k
  nb : d.nb = true
theorem Eqs.int {k : Nat} {i : Int} : D.Eqs k (.int i) := ⟨rfl, Nat.zero_le _, rfl⟩
theorem Eqs.non {k : Nat} : D.Eqs k .non := ⟨rfl, Nat.zero_le _, rfl⟩
theorem Eqs.tup {α : Type} {f : α → D} {k : Nat} {xs : List α} (h : ∀ x ∈ xs, D.Eqs k (f x)) : D.Eqs (k + 1) (.tup (xs.map f)) :=
  ⟨lays_all fun x hx => (h x hx).lays, Nat.succ_le_succ (dep_all fun x hx => (h x hx).dep), nb_all fun x hx => (h x hx).nb⟩
theorem Eqs.lst {α : Type} {f : α → D} {k : Nat} {xs : List α} (h : ∀ x ∈ xs, D.Eqs k (f x)) : D.Eqs (k + 1) (.lst (xs.map f)) :=
  ⟨lays_all fun x hx => (h x hx).lays, Nat.succ_le_succ (dep_all fun x hx => (h x hx).dep), nb_all fun x hx => (h x hx).nb⟩
theorem Eqs.mono {k j : Nat} {d : D} (h : D.Eqs k d) (hk : k ≤ j) : D.Eqs j d := ⟨h.lays, Nat.le_trans h.dep hk, h.nb⟩
theorem eq_E {d e : D} {P : DP} {k j : Nat} (h1 : D.Eqs k d) (h2 : D.Eqs j e) {b : Bool} (hb : b = true ↔ d = e) (h : P (.bl b)) (hk : k ≤ 64 := by decide) (hj : j ≤ 64 := by decide) : d.eqOk = true ∧ e.eqOk = true ∧ P (.bl (eqD d e)) :=
  eq_D h1.lays h2.lays (Nat.le_trans h1.dep hk) (Nat.le_trans h2.dep hj) h1.nb h2.nb hb h
theorem ne_E {d e : D} {P : DP} {k j : Nat} (h1 : D.Eqs k d) (h2 : D.Eqs j e) {b : Bool} (hb : b = true ↔ d ≠ e) (h : P (.bl b)) (hk : k ≤ 64 := by decide) (hj : j ≤ 64 := by decide) : d.eqOk = true ∧ e.eqOk = true ∧ P (.bl (!eqD d e)) :=
  ne_D h1.lays h2.lays (Nat.le_trans h1.dep hk) (Nat.le_trans h2.dep hj) h1.nb h2.nb hb h
/-- ints -/
abbrev intsT (ns : List Int) : D := .tup (ns.map D.int)
abbrev intsL (ns : List Int) : D := .lst (ns.map D.int)
theorem Eqs.ints (ns : List Int) : D.Eqs 1 (intsT ns) := Eqs.tup fun _ _ => Eqs.int
theorem Eqs.intsL (ns : List Int) : D.Eqs 1 (intsL ns) := Eqs.lst fun _ _ => Eqs.int
theorem int_inj {α : Type} {f : α → D} (hf : ∀ a b, f a = f b → a = b) : ∀ {xs ys : List α}, xs.map f = ys.map f → xs = ys
  | [], [], _ => rfl
  | [], _ :: _, h => by cases h
  | _ :: _, [], h => by cases h
  | x :: xs, y :: ys, h => by
    rw [List.map_cons, List.map_cons] at h
    injection h with h1 h2
    rw [hf _ _ h1, int_inj hf h2]
theorem intsT_inj {a b : List Int} : intsT a = intsT b ↔ a = b := ⟨fun h => by
  injection h with h
  exact int_inj (fun a b e => by injection e) h, fun h => by rw [h]⟩
/-! comprehensions that only look: the list made is told at once -/
/-- every item kept or not by k, made into f -/
theorem lcD_of {g : DG} {tt : DT} {te : DE} {δw : Env} {k : D → Bool} {f : D → D} {Q : List D → Prop} : ∀ (ds acc : List D), (∀ d ∈ ds, ∀ (R : D → Prop) (S : Prop), (if k d = true then R (f d) else S) → g d δw fun δ2 => tt δ2 (fun b => if b = true then te δ2 R XF else S) XF) →
    Q (acc ++ (ds.filter k).map f) → lcD g tt te δw ds acc Q
  | [], acc, _, q => by
    rw [List.filter_nil, List.map_nil, List.append_nil] at q
    exact q
  | d :: ds, acc, h, q => by
    unfold lcD
    refine h d List.mem_cons_self (fun y => lcD g tt te δw ds (acc ++ [y]) Q) _ ?_
    cases hk : k d with
    | true =>
      rw [if_pos rfl]
      refine lcD_of ds (acc ++ [f d]) (fun x hx => h x (List.mem_cons_of_mem _ hx)) ?_
      rw [List.filter_cons, hk] at q
      rw [List.append_assoc]
      exact q
    | false =>
      rw [if_neg Bool.false_ne_true]
      refine lcD_of ds acc (fun x hx => h x (List.mem_cons_of_mem _ hx)) ?_
      rw [List.filter_cons, hk] at q
      exact q
/-- .. by a relation: draws and all -/
theorem lcD_rel {g : DG} {tt : DT} {te : DE} {δw : Env} {Q : List D → Prop} (I : List D → List D → Prop) : ∀ (ds acc : List D), I ds acc → (∀ d ds acc, I (d :: ds) acc → ∀ (R : D → Prop) (S : Prop), (∀ y, I ds (acc ++ [y]) → R y) → (I ds acc → S) → g d δw fun δ2 => tt δ2 (fun b => if b = true then te δ2 R XF else S) XF) →
    (∀ acc, I [] acc → Q acc) → lcD g tt te δw ds acc Q
  | [], acc, h0, _, hq => hq acc h0
  | d :: ds, acc, h0, hs, hq => by
    unfold lcD
    exact hs d ds acc h0 (fun y => lcD g tt te δw ds (acc ++ [y]) Q) _ (fun y hy => lcD_rel I ds (acc ++ [y]) hy hs hq) fun hy => lcD_rel I ds acc hy hs hq
/-- a for by an invariant -/
theorem forD_inv {g : DG} {body : DS} {P : DEnds} (I : List D → Env → Prop) : ∀ (ds : List D) (δ : Env), I ds δ → (∀ d ds δ, I (d :: ds) δ → ∀ N : Env → Prop, (∀ δ', I ds δ' → N δ') → g d δ fun δ1 => body { P with nx := N, ct := N, bk := P.nx } δ1) → (∀ δ, I [] δ → P.nx δ) → forD g body P ds δ
  | [], δ, h0, _, hq => hq δ h0
  | d :: ds, δ, h0, hs, hq => by
    unfold forD
    exact hs d ds δ h0 (fun δ2 => forD g body P ds δ2) fun δ' h => forD_inv I ds δ' h hs hq
end L3

namespace L3
open PySem PySem.Spec PyProof.Rows L2
/-! ### try: a body that is a call, or an if over calls; except clauses by classes -/
/-- an expression's reading, where what becomes of an exception hangs on the slots -/
abbrev tW (K : PySem.W.Frag) (W : WX) (f : DE) : TE := fun σ H Q => tE K (fun c d H' => W c d σ H') f σ H Q
section
variable {X : Cx} {W : WX} {e : Expr} {es : List Expr} {fe : DE} {fs : DA} {x : Str} {p pos : Pos}
theorem y_any (h : ∀ E, PE X e (tE X.K E fe)) : PE X e (tW X.K W fe) := ⟨fun pins s σ H Q I q => (h _).run pins s σ H Q I q⟩
theorem y_args (h : ∀ E, PA X es (tA X.K E fs)) : PA X es (fun σ H Q => tA X.K (fun c d H' => W c d σ H') fs σ H Q) := ⟨fun pos pins s σ H Q I q => (h _).run pos pins s σ H Q I q⟩
theorem y_call {k n : Nat} {g : DF} (c : Cal X.prog X.w X.K X.mg X.base x k n g) (hr : Room k X.A) (hg : Gl X x) (tk : Takes X W) (ha : ∀ E, PA X (e :: es) (tA X.K E fs)) (hdb : (x == ("__debug__" : Str)) = false := by decide)
    (he : starEach (e :: es) X.env = (false, eval e X.env) :: starEach es X.env := by rfl) (hpl : (backTo pos (starEach es X.env)).any (·.1) = false := by rfl) :
    PE X (.Call (.Name x p) (e :: es) [] pos) (tW X.K W (fun δ P Z => fs δ (fun ds => ds.length = n ∧ g ds P Z) Z)) := by
  obtain ⟨f, fd, ps, F, m, kp, b⟩ := c.ex
  refine PE.imp (pe_callS (E := WE W) F hr hg m kp b (fun σ => passAt tk σ) (y_args (W := W) ha) hdb he hpl) fun σ H Q ⟨r, A, δ, P, Z, R, h, hq, hz⟩ => ?_
  refine ⟨r, A, δ, _, Z, R, h, fun ds vs H1 h3 x1 n1 r1 => ?_, hz⟩
  exact ⟨r, A, ds, P, Z, (R.ext x1 n1).wd, r1, h3.1, h3.2, fun d v H2 h4 x2 n2 r2 => hq d v H2 h4 (x1.trans x2) n2 r2, fun y c dd H2 q x2 n2 xr => hz y c dd H2 q (x1.trans x2) n2 xr⟩
end
/-- a body of try: its reading is an expression's, then it goes on -/
def tB (K : PySem.W.Frag) (W : WX) (f : DE) : TS := fun D σ H => tW K W f σ H fun _ H1 => D.nx σ H1
section
variable {X : Cx} {W : WX} {e t : Expr} {st : Stmt} {b1 b2 : List Stmt} {fe f1 f2 : DE} {ft : DT} {pos : Pos}
theorem b_expr (he : PE X e (tW X.K W fe)) (hs : swapsWith e none pos.line X.env = pure false := by rfl) : PS X (.Expr e pos) (tB X.K W fe) := ps_expr he hs
theorem b_one (h : PS X st (tB X.K W fe)) : PSs X [st] (tB X.K W fe) := pss_one h
theorem b_nil : PSs X [] (tB X.K W (fun _ P _ => P .non)) := PSs.imp pss_nil fun D σ H ⟨r, A, δ, P, Z, R, h, hq, hz⟩ => hq .non .non H h .refl R.rnd .non
theorem b_pass : PS X (.Pass pos) (tB X.K W (fun _ P _ => P .non)) := PS.imp ps_pass fun D σ H ⟨r, A, δ, P, Z, R, h, hq, hz⟩ => hq .non .non H h .refl R.rnd .non
theorem b_if (ht : ∀ E, PT X t (tT X.K E ft)) (h1 : PSs X b1 (tB X.K W f1)) (h2 : PSs X b2 (tB X.K W f2)) :
    PS X (.If t b1 b2 pos) (tB X.K W (fun δ P Z => ft δ (fun b => if b = true then f1 δ P Z else f2 δ P Z) Z)) := by
  refine PS.imp (ps_if (tc := fun σ H Q => tT X.K (fun c d H' => W c d σ H') ft σ H Q) ⟨fun pins s σ H Q I q => (ht _).run pins s σ H Q I q⟩ h1 h2) fun D σ H ⟨r, A, δ, P, Z, R, h, hq, hz⟩ => ?_
  refine ⟨r, A, δ, _, Z, R, h, fun b H1 h3 x1 n1 => ?_, hz⟩
  have go : ∀ f : DE, f δ P Z → tB X.K W f D σ H1 := fun f h4 => ⟨r, A, δ, P, Z, R.ext x1 n1, h4, fun d v H2 h5 x2 n2 r2 => hq d v H2 h5 (x1.trans x2) n2 r2, fun y c dd H2 q x2 n2 xr => hz y c dd H2 q (x1.trans x2) n2 xr⟩
  cases b with
  | true => exact go f1 h3
  | false => exact go f2 h3
end
/-- what the clauses make of an exception x, one behind the other -/
def tryD (K : PySem.W.Frag) : List (Addr × DS) → DEnds → Env → Ex → Prop
  | [], P, _, x => P.ex x
  | (c, f) :: l, P, δ, x => ∃ b, PySem.W.exmOne K (.ref x.cls) (.ref c) = some b ∧ if b = true then f P δ else tryD K l P δ x
inductive HdD (X : Cx) (E : XK) : List ExceptHandler → List (Addr × DS) → Prop
  | nil : HdD X E [] []
  | cons {x : Str} {C : Addr} {f : DS} {b₀ : Stmt} {suite : List Stmt} {np pos' : Pos} {hds : List ExceptHandler} {l : List (Addr × DS)} (hc : Names X x (.ref C)) (hsu : ∀ (a : Addr) (pn : List (Addr × Obj)), PSs (X.suite a pn) (b₀ :: suite) (tS X.K E f)) (r : HdD X E hds l) :
      HdD X E (.ExceptHandler (some (.Name x np)) none (b₀ :: suite) pos' :: hds) ((C, f) :: l)
def hdT (K : PySem.W.Frag) (E : XK) (l : List (Addr × DS)) : List (Value × (Addr → Value → Option Addr → TS)) := l.map fun p => (.ref p.1, fun _ _ _ => tS K E p.2)
theorem HdD.ok {X : Cx} {E : XK} {hds : List ExceptHandler} {l : List (Addr × DS)} (h : HdD X E hds l) : HdsOk X hds (hdT X.K E l) := by
  induction h with
  | nil => exact .nil
  | cons hc hsu _ ih => exact .cons hc (fun a oe cls d pn _ _ => hsu a _) ih
theorem many_of {K : PySem.W.Frag} {E : XK} {r : Addr} {A0 : Addr → Prop} {H0 H H' : Hp} {σ : L2.St} {δ : Env} {P : DEnds} {Dd : Ends} {c : Value} {dd : Option Addr} {y : Ex} (R : SR K r A0 H0 σ H δ) (L : Lands K E r A0 H0 P Dd) (x1 : Ext r H H') (n1 : RndOk r H') (xr : XR K r (Av A0 r σ δ) H' c dd y) :
    ∀ l : List (Addr × DS), tryD K l P δ y → wMany K (fun cls d _ H => E cls d H) Dd (hdT K E l) c dd σ H'
  | [], z => L.ex y c dd H' z (R.ext.trans x1) n1 (xr.bar fun b o hb _ => .inl hb)
  | (C, f) :: l, ⟨b, e, z⟩ => ⟨b, by rw [xr.1]; exact e, fun h a _ => ⟨r, A0, H0, δ, P, R.move x1 n1, by rw [if_pos h] at z; exact z, L⟩, fun h => many_of R L x1 n1 xr l (by rw [h, if_neg Bool.false_ne_true] at z; exact z)⟩
theorem s_try {X : Cx} {E : XK} {body : List Stmt} {h₀ : ExceptHandler} {hds : List ExceptHandler} {l : List (Addr × DS)} {pos : Pos} {fb : DE} (hs : X.stack = X.env :: X.outer) (hf : X.env.frame = some X.env.locals) (tk : Takes X (fun cls d _ H => E cls d H))
    (hb : ∀ (W : WX) (pn : List (Addr × Obj)) (xe : Value → Shared → Prop), Takes (X.tr pn xe) W → PSs (X.tr pn xe) body (tB X.K W fb)) (hh : HdD X E (h₀ :: hds) l) :
    PS X (.Try body (h₀ :: hds) [] [] pos) (tS X.K E (fun P δ => fb δ (fun _ => P.nx δ) (fun y => tryD X.K l P δ y))) :=
  PS.imp (ps_try_many hs hf tk (fun W pn xe t _ => hb W pn xe t) hh.ok) fun D σ H ⟨r, A0, H0, δ, P, R, h, L⟩ =>
    ⟨r, _, δ, fun _ => P.nx δ, fun y => tryD X.K l P δ y, R.er, h, fun d v H' hn x1 n1 _ => L.nx δ σ H' hn (R.move x1 n1), fun y c dd H' z x1 n1 xr => many_of R L x1 n1 xr l z⟩
/-- a slot is let go -/
theorem SR.gone {K : PySem.W.Frag} {r : Addr} {A0 : Addr → Prop} {H0 H : Hp} {σ : L2.St} {δ : Env} (h : SR K r A0 H0 σ H δ) (i : Nat) (w : Option V) : SR K r A0 H0 (σ.set i w) H (δ.set i .emp) := by
  have look : ∀ (j : Nat) y, (δ.set i .emp)[j]? = some y → y = .emp ∨ (δ[j]? = some y ∧ (σ.set i w)[j]? = σ[j]?) := fun j y q => by
    by_cases e : i = j
    · subst e
      rw [List.getElem?_set_self'] at q
      cases hd : δ[i]? with
      | none => rw [hd] at q; cases q
      | some z => rw [hd] at q; cases q; exact .inl rfl
    · rw [List.getElem?_set_ne e] at q
      exact .inr ⟨q, List.getElem?_set_ne e⟩
  refine SR.of (h.er.weak (by rw [List.length_set, List.length_set]; exact h.er.len) look) (fun b hb => .inl hb) h.ext (fun j ds l q1 q2 => ?_) h.a0
  rcases look j _ q1 with q | ⟨q, e⟩
  · cases q
  · rw [e] at q2
    exact h.fresh j ds l q q2
/-- .. and set to anything -/
theorem av_set {A0 : Addr → Prop} {r : Addr} {σ : L2.St} {δ : Env} {i : Nat} {w : Option V} {b : Addr} (hb : Av A0 r (σ.set i w) (δ.set i .emp) b) : Av A0 r σ δ b := by
  rcases hb with hb | hb | ⟨j, ds, q1, q2⟩
  · exact .inl hb
  · exact .inr (.inl hb)
  · by_cases e : i = j
    · subst e
      rw [List.getElem?_set_self'] at q1
      cases hd : δ[i]? with
      | none => rw [hd] at q1; cases q1
      | some z => rw [hd] at q1; cases q1
    · rw [List.getElem?_set_ne e] at q1 q2
      exact .inr (.inr ⟨j, ds, q1, q2⟩)
/-- except C as n: own.append(n.f) -/
def tryA (K : PySem.W.Frag) (C : Addr) (f : Str) (i j : Nat) (P : DEnds) (δ : Env) (y : Ex) : Prop := ∃ b, PySem.W.exmOne K (.ref y.cls) (.ref C) = some b ∧
  if b = true then y.cls = C ∧ i < δ.length ∧ ∃ ds d, δ[j]? = some (.own ds) ∧ y.fs = some (f, d) ∧ ds.length + 1 ≤ sizeLine ∧ P.nx ((δ.set i .emp).set j (.own (ds ++ [d]))) else P.ex y
theorem s_try_app {X : Cx} {E : XK} {body : List Stmt} {pos pos' np lp np2 ap fp cp ep : Pos} {fb : DE} {x n l f : Str} {C : Addr} {i j : Nat} (hs : X.stack = X.env :: X.outer) (hf : X.env.frame = some X.env.locals) (tk : Takes X (fun cls d _ H => E cls d H)) (hN : X.N.Nodup)
    (hi : X.N[i]? = some n) (hln : X.env.kindOf n = some .local) (hvn : Vis X.env.scope n) (hj : X.N[j]? = some l) (hvl : Vis X.env.scope l) (hij : i ≠ j) (hc : Names X x (.ref C)) (T : XfC X.K C) (hno : PySem.W.findIn X.K (.ref C) f = some none)
    (hb : ∀ (W : WX) (pn : List (Addr × Obj)) (xe : Value → Shared → Prop), Takes (X.tr pn xe) W → PSs (X.tr pn xe) body (tB X.K W fb))
    (hd : (l == ("__debug__" : Str)) = false := by decide) (hcd : (l == ("__classdict__" : Str)) = false := by decide) (hd2 : (n == ("__debug__" : Str)) = false := by decide) (hcd2 : (n == ("__classdict__" : Str)) = false := by decide)
    (ha : attributeBase (.Name n np2) f X.env (eval (.Name n np2) X.env) = eval (.Name n np2) X.env := by rfl)
    (hs1 : starEach [.Attribute (.Name n np2) f fp] X.env = (false, eval (.Attribute (.Name n np2) f fp) X.env) :: starEach [] X.env := by rfl)
    (hbase : attributeBase (.Name l lp) "append" X.env (eval (.Name l lp) X.env) = eval (.Name l lp) X.env := by rfl)
    (hfew : ((backTo cp (starEach [.Attribute (.Name n np2) f fp] X.env)).all (fun x => !x.1) && (backToKw cp (keywordEach [] X.env)).all (fun x => x.1.isSome)
      && decide ([Expr.Attribute (.Name n np2) f fp].length + ([] : List Keyword).length + (if ([] : List Keyword).isEmpty then 0 else 1) < 30)) = true := by rfl)
    (hline : (ap.endLine == cp.line) = true := by rfl) (hplain : (backTo cp (starEach [] X.env)).any (·.1) = false := by rfl)
    (hsw : swapsWith (.Call (.Attribute (.Name l lp) "append" ap) [.Attribute (.Name n np2) f fp] [] cp) none ep.line X.env = pure false := by rfl) :
    PS X (.Try body [.ExceptHandler (some (.Name x np)) (some n) [.Expr (.Call (.Attribute (.Name l lp) "append" ap) [.Attribute (.Name n np2) f fp] [] cp) ep] pos'] [] [] pos)
      (tS X.K E (fun P δ => fb δ (fun _ => P.nx δ) (fun y => tryA X.K C f i j P δ y))) := by
  refine PS.imp (ps_try_as (i := i) (tb := fun W => tB X.K W fb) (Wout := fun cls d _ H => E cls d H) (ts := fun a cls d => tDrop (tBM X.K "list" rAppend (tVar j) (tCons (tXf a cls d C f (tVar i)) tNil))) hs hf hN hi hln hc tk (fun W pn xe t _ => hb W pn xe t) fun a oe cls d pn hz hfs =>
    pss_one (ps_expr (pe_bm PySem.F.plainAttrs_list PySem.F.slot_list_append PySem.F.type_list_append mt_append (pe_var (X := X.suite a ((a, oe) :: pn)) hj hvl hd hcd) (pa_cons (pe_xf T hno hz hfs (pe_var hi hvn hd2 hcd2) ha) pa_nil hs1) hbase hfew hline hs1 hplain) hsw)) fun Dd σ H ⟨r, A0, H0, δ, P, R, h, L⟩ => ?_
  refine ⟨r, _, δ, fun _ => P.nx δ, fun y => tryA X.K C f i j P δ y, R.er, h, fun d v H' hn x1 n1 _ => L.nx δ σ H' hn (R.move x1 n1), fun y c dd H' z x1 n1 xr => ?_⟩
  obtain ⟨b, e, z⟩ := z
  refine ⟨b, by rw [xr.1]; exact e, fun hb1 a na => ?_, fun hb2 => ?_⟩
  · rw [if_pos hb1] at z
    obtain ⟨hC, hil, ds, d, q1, q2, q3, q4⟩ := z
    have R1 := R.move x1 n1
    obtain ⟨l0, xs, e1, e2, e3, e4, e5, e6⟩ := R1.er.own j ds q1
    obtain ⟨ec, xf⟩ := xr
    rw [q2] at xf
    obtain ⟨ad, v, ed, ex, nAd, rv⟩ := xf
    have il : i < σ.length := by rw [← R.er.len]; exact hil
    have zl := e6.length
    have s1 : (σ.set i (some (.ref a)))[j]? = some (some (.ref l0)) := by rw [List.getElem?_set_ne hij]; exact e1
    have s2 : (σ.set i (some (.ref a)))[i]? = some (some (.ref a)) := by rw [List.getElem?_set_self il]
    refine ⟨.ref l0, s1, .inl ⟨rfl, xs, SqL.of e4⟩, .ref a, s2, rfl, by rw [ec, hC], ad, _, v, ed, ex, by simp, l0, xs, v, rfl, rfl, e4, by omega, ?_⟩
    show Dd.nx ((σ.set i (some (.ref a))).set i none) _
    rw [List.set_set]
    refine L.nx _ _ _ q4 ((R1.gone i none).grow (by rw [List.getElem?_set_ne hij]; exact q1) (by rw [List.getElem?_set_ne hij]; exact e1) e4 (e6.bar fun b o hb _ => av_set hb) (rv.bar fun b o hb _ => av_set hb) (by omega) e3)
  · rw [if_neg (by rw [hb2]; exact Bool.false_ne_true)] at z
    exact L.ex y c dd H' z (R.ext.trans x1) n1 (xr.bar fun b o hb _ => .inl hb)
end L3

namespace L3
open PySem PySem.Spec PyProof.Rows L2
/-! ### an own ==, an own len -/
section
variable {X : Cx} {CX : CXT} {C f : Addr} {fd : FuncData} {ps : List Str} {sp : Sp} {k : Nat} {E : XK}
/-- what x == y asks of an own __eq__ that answers a bool -/
def rOwnEq (K : PySem.W.Frag) (C : Addr) (sp : Sp) (E : XK) : R2 := fun x y H Q => ∃ a dx fs t, x = .ref a ∧ H a = some (.ins C dx fs) ∧ TyX K H y t ∧ PySem.W.notFirst K C t = true ∧ sp [x, y] H (fun v H' => (∃ b, v = .bl b) ∧ Q v H') E
theorem op_ownEq (F : FnOk X.prog X.w X.K X.mg X.base CX k f fd ps sp) (hr : Room k X.A) (hs : PySem.W.findIn X.K (.ref C) "__eq__" = some (some (.ref f))) (hf : PySem.W.isFn X.K (.ref f) = true) (hb : Binds X.K fd ps []) (hx : Passes CX X E) :
    OpR X (compareOp .Eq) (rOwnEq X.K C sp E) := by
  rintro pins s σ H x y v u Q I rx ry ⟨a, dx, fs, t, rfl, ha, ty, nf, h⟩
  cases rx
  obtain ⟨mA, J, _⟩ := ins_get I.hok ha
  obtain ⟨od, J, _⟩ := J.look
  obtain ⟨m, fr⟩ := I.fr
  obtain ⟨P, kx, pp, _⟩ := kit_of I ry ty
  show wpAny (model X.prog X.w) X.A (richCompare .Eq (.ref a) u) _ _ _
  refine PySem.W.cmp_K (op := .Eq) (tb := t) hr.units0 fr I.ok.mod.kin J (kx.ty _ _ I.kIn pp) nf hs hf ?_
  refine wpAny_mono (run_fn (vs := [.ref a, y]) F hr hb .nil hx I (.cons rfl (.cons ry .nil)) h) (fun r s' z => ?_) fun _ _ z => z
  obtain ⟨w, H', I', rw', ⟨b, rfl⟩, q⟩ := z
  cases rw'
  exact ⟨.bl b, H', I', rfl, q⟩
/-- len(x) of an own __len__ -/
def rOwnLen (C : Addr) (sp : Sp) (E : XK) : List V → Hp → VK → Prop := fun xs H Q => ∃ a dx fs, xs = [.ref a] ∧ H a = some (.ins C dx fs) ∧ sp [.ref a] H (fun v H' => (∃ n : Int, v = .int n ∧ 0 ≤ n ∧ n < 2 ^ 63) ∧ Q v H') E
theorem call_ownLen (F : FnOk X.prog X.w X.K X.mg X.base CX k f fd ps sp) (hr : Room (k + 1) X.A) (hs : PySem.W.findIn X.K (.ref C) "__len__" = some (some (.ref f))) (hf : PySem.W.isFn X.K (.ref f) = true) (hb : Binds X.K fd ps []) (hx : Passes CX X E) :
    CallR X (.builtin "len") (rOwnLen C sp E) := by
  rintro pins s σ H xs us Q I r ⟨a, dx, fs, rfl, ha, h⟩
  obtain ⟨mA, J, _⟩ := ins_get I.hok ha
  obtain ⟨od, J, _⟩ := J.look
  obtain ⟨m, fr⟩ := I.fr
  obtain rfl : us = [Value.ref a] := by
    cases r with
    | cons r1 r2 => cases r2; cases r1; rfl
  refine PySem.W.len_K fr I.ok.mod.kin J hs hf ?_
  have hl := F.len _ _ _ _ h
  have bd := hb s [.ref a] I.kIn (by simpa using hl)
  rw [List.append_nil] at bd
  refine wpAny_call (codeAny_mono (F.run X.A.in1 X.stack s H ⟨[.ref a], []⟩ [.ref a] [.ref a] _ E hr.in1 I.env0.in1 bd r h) fun w s' hq => ?_)
  match w, hq with
  | .error e, hq => exact hx pins σ H s e s' I hq
  | .ok .next, hq => exact False.elim hq
  | .ok .brk, hq => exact False.elim hq
  | .ok .cont, hq => exact False.elim hq
  | .ok (.ret u), hq =>
    obtain ⟨z, H', I', rz, ⟨n, rfl, h0, h1⟩, q⟩ := I.after hq
    obtain ⟨t, rfl⟩ := rz
    exact ⟨⟨h0, h1⟩, .int n, H', I'.tok _, ⟨_, rfl⟩, q⟩
end
end L3

namespace L3
open PySem PySem.Spec PyProof.Rows L2
/-! ### except clauses, some with a name and some without one -/
abbrev Suite := Addr → Value → Option Addr → TS
/-- behind a suite its name is gone -/
def letGo (i : Nat) (Dd : Ends) : Ends where
  nx := fun σ H => Dd.nx (σ.set i none) H
  rt := Dd.rt
  bk := fun σ H => Dd.bk (σ.set i none) H
  ct := fun σ H => Dd.ct (σ.set i none) H
def wMix (K : PySem.W.Frag) (Wout : WX) (Dd : Ends) : List (Value × Option Nat × Suite) → WX
  | [] => Wout
  | (c, none, ts) :: l => fun cls d σ H => ∃ b, PySem.W.exmOne K cls c = some b ∧ (b = true → ∀ a, H a = none → ts a cls d Dd σ H) ∧ (b = false → wMix K Wout Dd l cls d σ H)
  | (c, some i, ts) :: l => fun cls d σ H => ∃ b, PySem.W.exmOne K cls c = some b ∧ (b = true → ∀ a, H a = none → ts a cls d (letGo i Dd) (σ.set i (some (.ref a))) H) ∧ (b = false → wMix K Wout Dd l cls d σ H)
def SuOk (X : Cx) (b₀ : Stmt) (sts : List Stmt) (ts : Suite) : Prop := ∀ (a : Addr) (oe : Obj) (cls : Value) (d : Option Addr) (pn : List (Addr × Obj)), Zc cls d oe → (∃ vs, oe.data = .fields vs) → PSs (X.suite a ((a, oe) :: pn)) (b₀ :: sts) (ts a cls d)
inductive MixOk (X : Cx) : List ExceptHandler → List (Value × Option Nat × Suite) → Prop
  | nil : MixOk X [] []
  | bare {x : Str} {c : Value} {ts : Suite} {b₀ : Stmt} {sts : List Stmt} {p1 p2 : Pos} {hds : List ExceptHandler} {l : List (Value × Option Nat × Suite)} (hc : Names X x c) (su : SuOk X b₀ sts ts) (r : MixOk X hds l) :
      MixOk X (.ExceptHandler (some (.Name x p1)) none (b₀ :: sts) p2 :: hds) ((c, none, ts) :: l)
  | named {x n : Str} {i : Nat} {c : Value} {ts : Suite} {b₀ : Stmt} {sts : List Stmt} {p1 p2 : Pos} {hds : List ExceptHandler} {l : List (Value × Option Nat × Suite)} (hi : X.N[i]? = some n) (hk : X.env.kindOf n = some .local) (hc : Names X x c) (su : SuOk X b₀ sts ts) (r : MixOk X hds l) :
      MixOk X (.ExceptHandler (some (.Name x p1)) (some n) (b₀ :: sts) p2 :: hds) ((c, some i, ts) :: l)
theorem ps_try_mix {X : Cx} {body : List Stmt} {h₀ : ExceptHandler} {hds : List ExceptHandler} {l : List (Value × Option Nat × Suite)} {pos : Pos} {tb : WX → TS} {Wout : WX} (hs : X.stack = X.env :: X.outer) (hf : X.env.frame = some X.env.locals) (hN : X.N.Nodup) (tk : Takes X Wout)
    (hb : ∀ (W : WX) (pn : List (Addr × Obj)) (xe : Value → Shared → Prop), Takes (X.tr pn xe) W → PassesOwn (model X.prog X.w) X.A X.env xe → PSs (X.tr pn xe) body (tb W)) (hh : MixOk X (h₀ :: hds) l) :
    PS X (.Try body (h₀ :: hds) [] [] pos) (fun Dd σ H => tb (wMix X.K Wout Dd l) Dd σ H) := by
  refine ⟨fun pins s σ H Dd I h => wpAny_Try_except ?_⟩
  have ok := I.ok
  have allFr : X.A.frames = some (X.env :: X.outer) := ok.frames.trans (congrArg some hs)
  refine wpAny_mono ((hb (wMix X.K Wout Dd l) (X.pn ++ pins) (fun e q1 => wpAny (model X.prog X.w) X.A (noteFrame e X.env) (fun _ q2 => wpAny (model X.prog X.w) X.A (setFlight e none) (fun _ q3 => wpAny (model X.prog X.w) X.A (handleBy e X.env (h₀ :: hds)) (SP X pins Dd) X.xe q3) X.xe q2) X.xe q1) (fun u sx xx => ?_) PassesOwn.looking).run [] s σ H Dd (I.toTry _) h) (fun fl s1 done => ?_) fun _ _ z => z
  · obtain ⟨a, B, sI, pins', σx, Hx, cls, d, rfl, Jt, nb, up, sky, na, os, ag, wish⟩ := xx
    have J : Inv X pins σx Hx sI := Jt.ofTry ok
    show wpAny (model X.prog X.w) X.A (noteFrame (.ref a) X.env) _ _ _
    refine Sky.land Zc.steady allFr hf (by rw [← hs]; exact sky) fun hA flA upA => ?_
    have landed : ∀ {hp : Heap}, _ → _ → Inv X pins σx Hx { sx with heap := hp } := fun {hp} g1 g2 => J.landed nb g1 g2 os ag
    have JA := landed flA.1 (up.trans upA)
    obtain ⟨oA, vA, atA, zA, fA⟩ := flA.there
    have off : a ∉ frs (X.env :: X.outer) := fun m => by
      obtain ⟨_, o2, e2, no⟩ := flA.2.2.1.mem m
      cases atA.symm.trans e2
      exact no _ fA
    have offL : a ≠ X.env.locals := fun z => off (List.mem_filterMap.mpr ⟨X.env, List.mem_cons_self, hf.trans (congrArg some z.symm)⟩)
    have offF : a ∉ X.fs := fun m => let ⟨e, m2, q⟩ := List.mem_filterMap.mp m
      off (List.mem_filterMap.mpr ⟨e, List.mem_cons_of_mem _ m2, q⟩)
    have inS := JA.suite atA fA na offL offF
    have kind : PySem.W.Looks (model X.prog X.w) hA (typeOf (.ref a)) cls := fun _ _ _ _ k q => wpAny_typeOf_ref (k _ _ atA) (zA.1 ▸ q)
    have ask : ∀ {x : Str} {c : Value} {p1 : Pos}, Names X x c → ∀ {Q : Value → Shared → Prop} {E : Value → Shared → Prop}, Q c { sx with heap := hA } → wpAny (model X.prog X.w) (X.A.mark (some (.ref a))) (eval (.Name x p1) X.env) Q E { sx with heap := hA } := @fun x c p1 hc Q E q => by
      obtain ⟨hg, hdb, hm | ⟨hm, hv, hn⟩⟩ := hc
      · exact ld_glob (X := X.suite a ((a, oA) :: (X.pn ++ pins))) inS hg hm q hdb
      · exact ld_blt (X := X.suite a ((a, oA) :: (X.pn ++ pins))) inS hg hm hv q hn hdb
    have go : ∀ {hds' : List ExceptHandler} {l' : List (Value × Option Nat × Suite)}, MixOk X hds' l' → wMix X.K Wout Dd l' cls d σx Hx → wpAny (model X.prog X.w) X.A (handleBy (.ref a) X.env hds') (SP X pins Dd) X.xe { sx with heap := hA } := by
      intro hds' l' mx
      induction mx with
      | nil =>
        intro out
        obtain ⟨_, _, _, ob, vs, T, oT, ts', a1, a2, a3, a4, a5⟩ := id flA
        have last : wpAny (model X.prog X.w) X.A (setFlight (.ref a) X.env.frame) (fun _ s4 => wpAny (model X.prog X.w) X.A (throw (.ref a) : Sem Flow) (SP X pins Dd) X.xe s4) X.xe { sx with heap := hA } := by
          rw [hf]
          exact HandSPX.setFlight_upZ flA fun hB skyB upB => wpAny_throw (tk _ _ ⟨a, B, sI, pins, σx, Hx, cls, d, rfl, J, nb, (up.trans upA).trans upB, .inr (.inr (hs ▸ skyB)), na, os, ag, out⟩)
        refine wpAny_handleBy_nil ?_
        unfold PySem.passOn
        refine wpAny_bind (wpAny_field a1 a3 a4 ?_)
        rw [if_neg (show ¬ ((Value.ref T == Value.none) = true) from by simp)]
        first
          | exact wpAny_bind (wpAny_pure (wpAny_bind last))
          | exact wpAny_bind last
      | bare hc su r ih =>
        rintro ⟨b, e, yes, no⟩
        refine wpAny_handleBy_cons (codeAny_handlers_test ?_) (by intro q; cases q)
        refine ask hc ((PySem.W.exm_one (M := model X.prog X.w) JA.kIn kind e).here ?_)
        cases b with
        | false => exact ih (no rfl)
        | true =>
          refine codeAny_handlers_suite (HandSPX.lands_againZ flA fun hB flB upB => ?_)
          obtain ⟨oB, vB, atB, zB, fB⟩ := flB.there
          have inB := (landed flB.1 ((up.trans upA).trans upB)).suite atB fB na offL offF
          refine wpAny_mono ((su a oB cls d (X.pn ++ pins) zB ⟨_, fB⟩).run [] _ _ Hx _ inB (yes rfl a na)) (fun fl s6 z => ?_) (fun _ _ z => False.elim z)
          cases fl with
          | ret u => exact let ⟨v6, σ6, H6, S6, r6, q6⟩ := z; ⟨_, _, _, S6.unsuite ok, r6, q6⟩
          | next => exact let ⟨σ6, H6, S6, q6⟩ := z; ⟨_, _, S6.unsuite ok, q6⟩
          | brk => exact let ⟨σ6, H6, S6, q6⟩ := z; ⟨_, _, S6.unsuite ok, q6⟩
          | cont => exact let ⟨σ6, H6, S6, q6⟩ := z; ⟨_, _, S6.unsuite ok, q6⟩
      | @named x n i c ts b₀ sts p1 p2 hds2 l2 hi hk hc su r ih =>
        rintro ⟨b, e, yes, no⟩
        refine wpAny_handleBy_cons (codeAny_handlers_test ?_) (by intro q; cases q)
        refine ask hc ((PySem.W.exm_one (M := model X.prog X.w) JA.kIn kind e).here ?_)
        cases b with
        | false => exact ih (no rfl)
        | true =>
          refine codeAny_handlers_suite_as (HandSPX.lands_againZ flA fun hB flB upB => ?_)
          obtain ⟨oB, vB, atB, zB, fB⟩ := flB.there
          have inB := (landed flB.1 ((up.trans upA).trans upB)).suite atB fB na offL offF
          refine store_ok (X := X.suite a ((a, oB) :: (X.pn ++ pins))) (v := .ref a) inB hN hi (.inl hk) rfl (fun s5 in5 => ?_) (.inr hk)
          refine wpAny_mono ((su a oB cls d (X.pn ++ pins) zB ⟨_, fB⟩).run [] s5 _ Hx _ in5 (yes rfl a na)) (fun fl s6 z => ?_) (fun _ _ z => False.elim z)
          cases fl with
          | ret u => exact let ⟨v6, σ6, H6, S6, r6, q6⟩ := z; gone_ok (S6.unsuite ok) hN hi hk fun s7 J7 => ⟨_, _, _, J7, r6, q6⟩
          | next => exact let ⟨σ6, H6, S6, q6⟩ := z; gone_ok (S6.unsuite ok) hN hi hk fun s7 J7 => ⟨_, _, J7, q6⟩
          | brk => exact let ⟨σ6, H6, S6, q6⟩ := z; gone_ok (S6.unsuite ok) hN hi hk fun s7 J7 => ⟨_, _, J7, q6⟩
          | cont => exact let ⟨σ6, H6, S6, q6⟩ := z; gone_ok (S6.unsuite ok) hN hi hk fun s7 J7 => ⟨_, _, J7, q6⟩
    exact go hh wish
  · cases fl with
    | next => exact let ⟨σ2, H2, J2, q⟩ := done; wpAny_execs_nil ⟨σ2, H2, J2.ofTry ok, q⟩
    | brk => exact let ⟨σ2, H2, J2, q⟩ := done; ⟨σ2, H2, J2.ofTry ok, q⟩
    | cont => exact let ⟨σ2, H2, J2, q⟩ := done; ⟨σ2, H2, J2.ofTry ok, q⟩
    | ret u => exact let ⟨v2, σ2, H2, J2, r2, q⟩ := done; ⟨v2, σ2, H2, J2.ofTry ok, r2, q⟩
/-! by data: clauses whose suites are statements, and such that put the exception's field behind an own list -/
/-- one clause: its class, and what is done -/
inductive Cl where
  | sts (f : DS)
  | app (f : Str) (i j : Nat)
  | asg (f : Str) (i j : Nat) (t : Bool)
/-- what is stored: the field, or a tuple of it alone -/
def fldD : Bool → D → D
  | false, d => d
  | true, d => .tup [d]
/-- what the classes' order answers -/
abbrev exQ (K : PySem.W.Frag) : Addr → Addr → Bool → Prop := fun a c b => PySem.W.exmOne K (.ref a) (.ref c) = some b
def mixD (Q : Addr → Addr → Bool → Prop) : List (Addr × Cl) → DEnds → Env → Ex → Prop
  | [], P, _, y => P.ex y
  | (c, .sts f) :: l, P, δ, y => ∃ b, Q y.cls c b ∧ if b = true then f P δ else mixD Q l P δ y
  | (c, .app f i j) :: l, P, δ, y => ∃ b, Q y.cls c b ∧
      if b = true then y.cls = c ∧ i < δ.length ∧ i ≠ j ∧ ∃ ds d, δ[j]? = some (.own ds) ∧ y.fs = some (f, d) ∧ ds.length + 1 ≤ sizeLine ∧ P.nx ((δ.set i .emp).set j (.own (ds ++ [d]))) else mixD Q l P δ y
  | (c, .asg f i j t) :: l, P, δ, y => ∃ b, Q y.cls c b ∧
      if b = true then y.cls = c ∧ i < δ.length ∧ i ≠ j ∧ ∃ d, y.fs = some (f, d) ∧ P.nx ((δ.set i .emp).set j (.val (fldD t d))) else mixD Q l P δ y
def asgT (K : PySem.W.Frag) (C : Addr) (f : Str) (i j : Nat) : Bool → Suite
  | false => fun a cls d => tAsg (tXf a cls d C f (tVar i)) (gName j)
  | true => fun a cls d => tAsg (tTup (tCons (tXf a cls d C f (tVar i)) tNil)) (gName j)
def appT (K : PySem.W.Frag) (C : Addr) (f : Str) (i j : Nat) : Suite := fun a cls d => tDrop (tBM K "list" rAppend (tVar j) (tCons (tXf a cls d C f (tVar i)) tNil))
def mixT (K : PySem.W.Frag) (E : XK) : List (Addr × Cl) → List (Value × Option Nat × Suite)
  | [] => []
  | (c, .sts f) :: l => (.ref c, none, fun _ _ _ => tS K E f) :: mixT K E l
  | (c, .app f i j) :: l => (.ref c, some i, appT K c f i j) :: mixT K E l
  | (c, .asg f i j t) :: l => (.ref c, some i, asgT K c f i j t) :: mixT K E l
theorem mix_of {K : PySem.W.Frag} {E : XK} {r : Addr} {A0 : Addr → Prop} {H0 H H' : Hp} {σ : L2.St} {δ : Env} {P : DEnds} {Dd : Ends} {c : Value} {dd : Option Addr} {y : Ex} (R : SR K r A0 H0 σ H δ) (L : Lands K E r A0 H0 P Dd) (x1 : Ext r H H') (n1 : RndOk r H') (xr : XR K r (Av A0 r σ δ) H' c dd y) {Qx : Addr → Addr → Bool → Prop} (hQ : ∀ a c b, Qx a c b → PySem.W.exmOne K (.ref a) (.ref c) = some b) :
    ∀ l : List (Addr × Cl), mixD Qx l P δ y → wMix K (fun cls d _ H => E cls d H) Dd (mixT K E l) c dd σ H'
  | [], z => L.ex y c dd H' z (R.ext.trans x1) n1 (xr.bar fun b o hb _ => .inl hb)
  | (C, .sts f) :: l, ⟨b, e, z⟩ => ⟨b, by rw [xr.1]; exact hQ _ _ _ e, fun h a _ => ⟨r, A0, H0, δ, P, R.move x1 n1, by rw [if_pos h] at z; exact z, L⟩, fun h => mix_of R L x1 n1 xr hQ l (by rw [h, if_neg Bool.false_ne_true] at z; exact z)⟩
  | (C, .app f i j) :: l, ⟨b, e, z⟩ => by
    refine ⟨b, by rw [xr.1]; exact hQ _ _ _ e, fun h a na => ?_, fun h => mix_of R L x1 n1 xr hQ l (by rw [h, if_neg Bool.false_ne_true] at z; exact z)⟩
    rw [if_pos h] at z
    obtain ⟨hC, hil, hij, ds, d, q1, q2, q3, q4⟩ := z
    have R1 := R.move x1 n1
    obtain ⟨l0, xs, e1, e2, e3, e4, e5, e6⟩ := R1.er.own j ds q1
    obtain ⟨ec, xf⟩ := xr
    rw [q2] at xf
    obtain ⟨ad, v, ed, ex, nAd, rv⟩ := xf
    have il : i < σ.length := by rw [← R.er.len]; exact hil
    have zl := e6.length
    have s1 : (σ.set i (some (.ref a)))[j]? = some (some (.ref l0)) := by rw [List.getElem?_set_ne hij]; exact e1
    have s2 : (σ.set i (some (.ref a)))[i]? = some (some (.ref a)) := by rw [List.getElem?_set_self il]
    refine ⟨.ref l0, s1, .inl ⟨rfl, xs, SqL.of e4⟩, .ref a, s2, rfl, by rw [ec, hC], ad, _, v, ed, ex, by simp, l0, xs, v, rfl, rfl, e4, by omega, ?_⟩
    show Dd.nx ((σ.set i (some (.ref a))).set i none) _
    rw [List.set_set]
    exact L.nx _ _ _ q4 ((R1.gone i none).grow (by rw [List.getElem?_set_ne hij]; exact q1) (by rw [List.getElem?_set_ne hij]; exact e1) e4 (e6.bar fun b o hb _ => av_set hb) (rv.bar fun b o hb _ => av_set hb) (by omega) e3)
  | (C, .asg f i j t) :: l, ⟨b, e, z⟩ => by
    refine ⟨b, by rw [xr.1]; exact hQ _ _ _ e, fun h a na => ?_, fun h => mix_of R L x1 n1 xr hQ l (by rw [h, if_neg Bool.false_ne_true] at z; exact z)⟩
    rw [if_pos h] at z
    obtain ⟨hC, hil, hij, d, q2, q4⟩ := z
    have R1 := R.move x1 n1
    obtain ⟨ec, xf⟩ := xr
    rw [q2] at xf
    obtain ⟨ad, v, ed, ex, nAd, rv⟩ := xf
    have il : i < σ.length := by rw [← R.er.len]; exact hil
    have s2 : (σ.set i (some (.ref a)))[i]? = some (some (.ref a)) := by rw [List.getElem?_set_self il]
    have R2 : SR K r A0 H0 (σ.set i none) H' (δ.set i .emp) := R1.gone i none
    have rv2 : DR K r (Av A0 r (σ.set i none) (δ.set i .emp)) H' v d := rv.bar fun b o hb _ => av_set hb
    have done : ∀ (u : V) (H3 : Hp), Ext r H' H3 → RndOk r H3 → DR K r (Av A0 r (σ.set i none) (δ.set i .emp)) H3 u (fldD t d) → Dd.nx (((σ.set i (some (.ref a))).set j (some u)).set i none) H3 := fun u H3 x3 n3 ru => by
      rw [List.set_comm _ _ (Ne.symm hij), List.set_set]
      exact L.nx _ _ _ q4 ((R2.move x3 n3).set ru)
    cases t with
    | false => exact ⟨.ref a, s2, rfl, by rw [ec, hC], ad, _, v, ed, ex, by simp, done v H' .refl n1 rv2⟩
    | true =>
      refine ⟨.ref a, s2, rfl, by rw [ec, hC], ad, _, v, ed, ex, by simp, by show 1 ≤ sizeLine; decide, fun p np => done (.ref p) _ (Ext.upd np) (n1.upd np) ?_⟩
      exact R2.er.wd.tup np (by show 1 ≤ sizeLine; decide) (.cons rv2 .nil)
inductive MixD (X : Cx) (E : XK) : List ExceptHandler → List (Addr × Cl) → Prop
  | nil : MixD X E [] []
  | sts {x : Str} {C : Addr} {f : DS} {b₀ : Stmt} {suite : List Stmt} {p1 p2 : Pos} {hds : List ExceptHandler} {l : List (Addr × Cl)} (hc : Names X x (.ref C)) (su : ∀ (a : Addr) (pn : List (Addr × Obj)), PSs (X.suite a pn) (b₀ :: suite) (tS X.K E f)) (r : MixD X E hds l) :
      MixD X E (.ExceptHandler (some (.Name x p1)) none (b₀ :: suite) p2 :: hds) ((C, .sts f) :: l)
  | app {x n : Str} {C : Addr} {f : Str} {i j : Nat} {st : Stmt} {p1 p2 : Pos} {hds : List ExceptHandler} {l : List (Addr × Cl)} (hi : X.N[i]? = some n) (hk : X.env.kindOf n = some .local) (hc : Names X x (.ref C))
      (su : ∀ (a : Addr) (oe : Obj) (cls : Value) (d : Option Addr) (pn : List (Addr × Obj)), Zc cls d oe → (∃ vs, oe.data = .fields vs) → PS (X.suite a ((a, oe) :: pn)) st (appT X.K C f i j a cls d)) (r : MixD X E hds l) :
      MixD X E (.ExceptHandler (some (.Name x p1)) (some n) [st] p2 :: hds) ((C, .app f i j) :: l)
  | asg {x n : Str} {C : Addr} {f : Str} {i j : Nat} {t : Bool} {st : Stmt} {p1 p2 : Pos} {hds : List ExceptHandler} {l : List (Addr × Cl)} (hi : X.N[i]? = some n) (hk : X.env.kindOf n = some .local) (hc : Names X x (.ref C))
      (su : ∀ (a : Addr) (oe : Obj) (cls : Value) (d : Option Addr) (pn : List (Addr × Obj)), Zc cls d oe → (∃ vs, oe.data = .fields vs) → PS (X.suite a ((a, oe) :: pn)) st (asgT X.K C f i j t a cls d)) (r : MixD X E hds l) :
      MixD X E (.ExceptHandler (some (.Name x p1)) (some n) [st] p2 :: hds) ((C, .asg f i j t) :: l)
theorem MixD.ok {X : Cx} {E : XK} {hds : List ExceptHandler} {l : List (Addr × Cl)} (h : MixD X E hds l) : MixOk X hds (mixT X.K E l) := by
  induction h with
  | nil => exact .nil
  | sts hc su _ ih => exact .bare hc (fun a oe cls d pn _ _ => su a _) ih
  | app hi hk hc su _ ih => exact .named hi hk hc (fun a oe cls d pn hz hf => pss_one (su a oe cls d pn hz hf)) ih
  | asg hi hk hc su _ ih => exact .named hi hk hc (fun a oe cls d pn hz hf => pss_one (su a oe cls d pn hz hf)) ih
/-- x = n.f in a suite, x = (n.f,) -/
theorem ps_asgX {X : Cx} {lp np2 fp ep : Pos} {n l f : Str} {C : Addr} {i j : Nat} (hN : X.N.Nodup) (hi : X.N[i]? = some n) (hvn : Vis X.env.scope n) (hj : X.N[j]? = some l) (hl : Loc X.env.scope l) (T : XfC X.K C) (hno : PySem.W.findIn X.K (.ref C) f = some none)
    (hff : X.fn l = true ∨ X.env.scope.names.lookup l = some .local := by first | exact .inl rfl | exact .inr rfl | assumption)
    (hd2 : (n == ("__debug__" : Str)) = false := by decide) (hcd2 : (n == ("__classdict__" : Str)) = false := by decide)
    (ha : attributeBase (.Name n np2) f X.env (eval (.Name n np2) X.env) = eval (.Name n np2) X.env := by rfl)
    (hs : swapsWithSole [.Name l lp] (.Attribute (.Name n np2) f fp) ep.line X.env = pure false := by rfl) (hw : swappedStores [.Name l lp] (.Attribute (.Name n np2) f fp) X.env = pure none := by rfl)
    (h1 : (assignEach [.Name l lp] X.env).map (·.2) = [assign (.Name l lp) X.env] := by rfl) :
    ∀ (a : Addr) (oe : Obj) (cls : Value) (d : Option Addr) (pn : List (Addr × Obj)), Zc cls d oe → (∃ vs, oe.data = .fields vs) →
      PS (X.suite a ((a, oe) :: pn)) (.Assign [.Name l lp] (.Attribute (.Name n np2) f fp) ep) (asgT X.K C f i j false a cls d) := fun a oe cls d pn hz hfs =>
  ps_asg (pe_xf T hno hz hfs (pe_var hi hvn hd2 hcd2) ha) (pg_name (X := X.suite a ((a, oe) :: pn)) hN hj hl hff) hs hw h1
theorem ps_asgX1 {X : Cx} {lp np2 fp tp ep : Pos} {kt : Nat} {n l f : Str} {C : Addr} {i j : Nat} (hN : X.N.Nodup) (hi : X.N[i]? = some n) (hvn : Vis X.env.scope n) (hj : X.N[j]? = some l) (hl : Loc X.env.scope l) (T : XfC X.K C) (hno : PySem.W.findIn X.K (.ref C) f = some none)
    (hff : X.fn l = true ∨ X.env.scope.names.lookup l = some .local := by first | exact .inl rfl | exact .inr rfl | assumption)
    (hd2 : (n == ("__debug__" : Str)) = false := by decide) (hcd2 : (n == ("__classdict__" : Str)) = false := by decide)
    (ha : attributeBase (.Name n np2) f X.env (eval (.Name n np2) X.env) = eval (.Name n np2) X.env := by rfl)
    (hs1 : starEach [.Attribute (.Name n np2) f fp] X.env = (false, eval (.Attribute (.Name n np2) f fp) X.env) :: starEach [] X.env := by rfl)
    (hs : swapsWithSole [.Name l lp] (.Tuple [.Attribute (.Name n np2) f fp] kt tp) ep.line X.env = pure false := by rfl) (hw : swappedStores [.Name l lp] (.Tuple [.Attribute (.Name n np2) f fp] kt tp) X.env = pure none := by rfl)
    (h1 : (assignEach [.Name l lp] X.env).map (·.2) = [assign (.Name l lp) X.env] := by rfl) :
    ∀ (a : Addr) (oe : Obj) (cls : Value) (d : Option Addr) (pn : List (Addr × Obj)), Zc cls d oe → (∃ vs, oe.data = .fields vs) →
      PS (X.suite a ((a, oe) :: pn)) (.Assign [.Name l lp] (.Tuple [.Attribute (.Name n np2) f fp] kt tp) ep) (asgT X.K C f i j true a cls d) := fun a oe cls d pn hz hfs =>
  ps_asg (pe_tup (pa_cons (pe_xf T hno hz hfs (pe_var hi hvn hd2 hcd2) ha) pa_nil hs1)) (pg_name (X := X.suite a ((a, oe) :: pn)) hN hj hl hff) hs hw h1
/-- own.append(n.f) in a suite -/
theorem ps_app {X : Cx} {lp np2 ap fp cp ep : Pos} {n l f : Str} {C : Addr} {i j : Nat} (hi : X.N[i]? = some n) (hvn : Vis X.env.scope n) (hj : X.N[j]? = some l) (hvl : Vis X.env.scope l) (T : XfC X.K C) (hno : PySem.W.findIn X.K (.ref C) f = some none)
    (hd : (l == ("__debug__" : Str)) = false := by decide) (hcd : (l == ("__classdict__" : Str)) = false := by decide) (hd2 : (n == ("__debug__" : Str)) = false := by decide) (hcd2 : (n == ("__classdict__" : Str)) = false := by decide)
    (ha : attributeBase (.Name n np2) f X.env (eval (.Name n np2) X.env) = eval (.Name n np2) X.env := by rfl)
    (hs1 : starEach [.Attribute (.Name n np2) f fp] X.env = (false, eval (.Attribute (.Name n np2) f fp) X.env) :: starEach [] X.env := by rfl)
    (hbase : attributeBase (.Name l lp) "append" X.env (eval (.Name l lp) X.env) = eval (.Name l lp) X.env := by rfl)
    (hfew : ((backTo cp (starEach [.Attribute (.Name n np2) f fp] X.env)).all (fun x => !x.1) && (backToKw cp (keywordEach [] X.env)).all (fun x => x.1.isSome)
      && decide ([Expr.Attribute (.Name n np2) f fp].length + ([] : List Keyword).length + (if ([] : List Keyword).isEmpty then 0 else 1) < 30)) = true := by rfl)
    (hline : (ap.endLine == cp.line) = true := by rfl) (hplain : (backTo cp (starEach [] X.env)).any (·.1) = false := by rfl)
    (hsw : swapsWith (.Call (.Attribute (.Name l lp) "append" ap) [.Attribute (.Name n np2) f fp] [] cp) none ep.line X.env = pure false := by rfl) :
    ∀ (a : Addr) (oe : Obj) (cls : Value) (d : Option Addr) (pn : List (Addr × Obj)), Zc cls d oe → (∃ vs, oe.data = .fields vs) →
      PS (X.suite a ((a, oe) :: pn)) (.Expr (.Call (.Attribute (.Name l lp) "append" ap) [.Attribute (.Name n np2) f fp] [] cp) ep) (appT X.K C f i j a cls d) := fun a oe cls d pn hz hfs =>
  ps_expr (pe_bm PySem.F.plainAttrs_list PySem.F.slot_list_append PySem.F.type_list_append mt_append (pe_var (X := X.suite a ((a, oe) :: pn)) hj hvl hd hcd) (pa_cons (pe_xf T hno hz hfs (pe_var hi hvn hd2 hcd2) ha) pa_nil hs1) hbase hfew hline hs1 hplain) hsw
theorem s_tryM {X : Cx} {E : XK} {body : List Stmt} {h₀ : ExceptHandler} {hds : List ExceptHandler} {l : List (Addr × Cl)} {pos : Pos} {fb : DE} {Q : Addr → Addr → Bool → Prop} (hQ : ∀ a c b, Q a c b → PySem.W.exmOne X.K (.ref a) (.ref c) = some b) (hs : X.stack = X.env :: X.outer) (hf : X.env.frame = some X.env.locals) (hN : X.N.Nodup) (tk : Takes X (fun cls d _ H => E cls d H))
    (hb : ∀ (W : WX) (pn : List (Addr × Obj)) (xe : Value → Shared → Prop), Takes (X.tr pn xe) W → PSs (X.tr pn xe) body (tB X.K W fb)) (hh : MixD X E (h₀ :: hds) l) :
    PS X (.Try body (h₀ :: hds) [] [] pos) (tS X.K E (fun P δ => fb δ (fun _ => P.nx δ) (fun y => mixD Q l P δ y))) :=
  PS.imp (ps_try_mix hs hf hN tk (fun W pn xe t _ => hb W pn xe t) hh.ok) fun Dd σ H ⟨r, A0, H0, δ, P, R, h, L⟩ =>
    ⟨r, _, δ, fun _ => P.nx δ, fun y => mixD Q l P δ y, R.er, h, fun d v H' hn x1 n1 _ => L.nx δ σ H' hn (R.move x1 n1), fun y c dd H' z x1 n1 xr => mix_of R L x1 n1 xr hQ l z⟩
end L3

namespace L3
open PySem PySem.Spec PyProof.Rows L2
/-! ### instances of an own class by data: fields, isinstance, ==, len -/
def D.isObj : D → Bool
  | .obj _ _ _ => true
  | _ => false
abbrev kindsD : List String := ["NoneType", "bool", "int", "str", "list", "tuple", "dict"]
/-- what is known of the class at C -/
structure OwnC (K : PySem.W.Frag) (C : Addr) : Prop where
  cls : Cls K C
  ha : PySem.W.findIn K (.ref C) "__class__" = some (some (.builtin "object.__class__"))
  hn : PySem.W.specialIn K (.builtin "object.__class__") "__get__" = some (some (.builtin "getset_descriptor.__get__"))
  htk : PySem.W.takesIn K (.builtin "object.__class__") = some true
  hm : PySem.W.mroIn K C (.type "object") = some true
  kit : PySem.W.kitOne K (.ref C) (.ref C) = some true
  kitT : ∀ t ∈ kindsD, PySem.W.kitOne K (.type t) (.ref C) = some false
  sub : ∀ t ∈ kindsD, PySem.W.subIn K (.type t) (.ref C) = some false
/-- a value with a kind, or an instance of the class at C -/
def D.known (C : Addr) (d : D) : Prop := (∃ t, d.tyName = some t) ∨ ∃ ns ds, d = .obj C ns ds
theorem tyName_mem {d : D} {t : String} (h : d.tyName = some t) : t ∈ kindsD := by
  cases d <;> cases h <;> decide
theorem DR.tyC {K : PySem.W.Frag} {r : Addr} {A : Addr → Prop} {H : Hp} {v : V} {d : D} {C : Addr} (O : OwnC K C) (h : DR K r A H v d) (rn : RndOk r H) (k : d.known C) : ∃ t, TyX K H v t ∧ PySem.W.notFirst K C t = true ∧ PySem.W.kitOne K t (.ref C) = some d.isObj := by
  rcases k with ⟨t, e⟩ | ⟨ns, ds, rfl⟩
  · have m := tyName_mem e
    refine ⟨.type t, h.tyX rn e, ?_, ?_⟩
    · unfold PySem.W.notFirst
      rw [O.sub t m]
      simp
    · rw [O.kitT t m]
      cases d <;> first | rfl | cases e
  · cases h with
    | obj n e1 l t =>
      refine ⟨.ref C, .base (.ins e1 O.cls O.ha O.hn O.htk O.hm), ?_, O.kit⟩
      unfold PySem.W.notFirst
      simp
section
variable {X : Cx} {E : XK} {e : Expr} {es : List Expr} {fe : DE} {fa : DA} {f g x : Str} {C : Addr} {p p2 pos : Pos}
theorem e_fld (cl : Cls X.K C) (nt : NoAttr X.K C g) (he : PE X e (tE X.K E fe)) (hab : attributeBase e g X.env (eval e X.env) = eval e X.env := by rfl) :
    PE X (.Attribute e g pos) (tE X.K E (fun δ P Z => fe δ (fun d => ∃ ns ds y, d = .obj C ns ds ∧ (ns.zip ds).lookup g = some y ∧ P y) Z)) :=
  PE.imp (pe_fld he hab) fun σ H Q ⟨r, A, δ, P, Z, R, h, hq, hz⟩ => ⟨r, A, δ, _, Z, R, h, fun d v H1 h3 x1 n1 r1 => by
    obtain ⟨ns, ds, y, rfl, hl, hp⟩ := h3
    cases r1 with
    | @obj a _ dx _ xs _ na e1 l t =>
      obtain ⟨u, hu, ru⟩ := lookup_zip t hl
      exact ⟨a, C, dx, _, u, rfl, e1, cl, nt, hu, hq _ _ _ hp x1 n1 ru⟩, hz⟩
theorem e_isC (O : OwnC X.K C) (hg : Gl X "isinstance") (hm : X.mg "isinstance" = none) (hg2 : Gl X x) (hm2 : X.mg x = some (.ref C)) (he : PE X e (tE X.K E fe)) (hd : (x == ("__debug__" : Str)) = false := by decide)
    (h1 : starEach (e :: [.Name x p2]) X.env = (false, eval e X.env) :: starEach [.Name x p2] X.env := by rfl) (h2 : starEach (.Name x p2 :: []) X.env = (false, eval (.Name x p2) X.env) :: starEach [] X.env := by rfl)
    (hpl : (backTo pos (starEach [.Name x p2] X.env)).any (·.1) = false := by rfl) :
    PE X (.Call (.Name "isinstance" p) [e, .Name x p2] [] pos) (tE X.K E (fun δ P Z => fe δ (fun d => d.known C ∧ P (.bl d.isObj)) Z)) :=
  PE.imp (pe_callB call_isi hg hm (by decide +kernel) (pa_cons he (pa_cons (pe_glob (v := .ref C) hg2 hm2 rfl hd) pa_nil h2) h1) (by decide) (by decide) h1 hpl) fun σ H Q ⟨r, A, δ, P, Z, R, h, hq, hz⟩ =>
    ⟨r, A, δ, _, Z, R, h, fun d v H1 h3 x1 n1 r1 => by
      obtain ⟨t, ty, _, kt⟩ := r1.tyC O n1 h3.1
      exact ⟨v, .ref C, t, .ref C, _, rfl, .own C, ty, kt, hq _ _ _ h3.2 x1 n1 (.bl _)⟩, hz⟩
end
/-- == of an own class, by data: g its promise -/
def ownEqD (C : Addr) (g : DF) : D → D → DP → Prop := fun d e P => (∃ ns ds, d = .obj C ns ds) ∧ e.known C ∧ g [d, e] (fun v => (∃ b, v = .bl b) ∧ P v) XF
theorem od_ownEq {K : PySem.W.Frag} {C : Addr} {g : DF} (O : OwnC K C) : OpD K (rOwnEq K C (spD K 2 g) E0) (ownEqD C g) := fun r A H x y d e P Q w hx hy ⟨⟨ns, ds, hd⟩, hk, hg⟩ q => by
  subst hd
  obtain ⟨t, ty, nf, _⟩ := hy.tyC O w.rnd hk
  have hx' := hx
  cases hx with
  | @obj a _ dx _ xs _ na e1 l t2 =>
    refine ⟨a, dx, _, t, rfl, e1, ty, nf, r, A, [.obj C ns ds, e], _, XF, w, .cons hx' (.cons hy .nil), rfl, hg, fun v u H' ⟨⟨b, hb⟩, hp⟩ x1 n1 r1 => ?_, fun _ _ _ _ z => z.elim⟩
    subst hb
    cases r1
    exact ⟨⟨b, rfl⟩, q _ _ _ hp x1 n1 (.bl b)⟩
/-- len of an own class, by data -/
def ownLenD (C : Addr) (g : DF) : List D → DP → Prop := fun ds P => ∃ ns es, ds = [.obj C ns es] ∧ g ds (fun v => (∃ n : Int, v = .int n ∧ 0 ≤ n ∧ n < 2 ^ 63) ∧ P v) XF
theorem cd_ownLen {K : PySem.W.Frag} {C : Addr} {g : DF} : CallD K (rOwnLen C (spD K 1 g) E0) (ownLenD C g) := fun r A H xs ds P Q w t ⟨ns, es, hd, hg⟩ q => by
  subst hd
  obtain ⟨v, rfl, hx⟩ := t.one
  have hx' := hx
  cases hx with
  | @obj a _ dx _ ys _ na e1 l t2 =>
    refine ⟨a, dx, _, rfl, e1, r, A, [.obj C ns es], _, XF, w, .cons hx' .nil, rfl, hg, fun v u H' ⟨⟨n, hn, h0, h1⟩, hp⟩ x1 n1 r1 => ?_, fun _ _ _ _ z => z.elim⟩
    subst hn
    cases r1
    exact ⟨⟨n, rfl, h0, h1⟩, q _ _ _ hp x1 n1 (.int n)⟩
end L3

namespace L3
open PySem PySem.Spec PyProof.Rows L2
/-! ### C(e, ..) in a body of try -/
section
variable {X : Cx} {W : WX} {C f : Addr} {fd : FuncData} {ps : List Str} {sp : Sp} {k : Nat} {dvs : List V} {ds : List Value}
theorem run_makeW {pins : List (Addr × Obj)} {σ : L2.St} {H : Hp} {s : Shared} {Q : VK} {us : List Value} {vs : List V} (M : L2.Mk X.K C f) (F : FnOk X.prog X.w X.K X.mg X.base (L2.CX X.prog X.w) k f fd ps sp) (hr : Room (k + 1) X.A) (hb : Binds X.K fd ps ds) (hd : Vals dvs ds) (tk : Takes X W)
    (I : Inv X pins σ H s) (r : Vals vs us) (h : ∀ x dx, H x = none → H dx = none → dx ≠ x → sp (.ref x :: (vs ++ dvs)) (upd (upd H dx (.own x)) x (.ins C dx [])) (fun v H2 => v = .non ∧ Q (.ref x) H2) (WE W σ)) :
    wpAny (model X.prog X.w) X.A (call (.ref C) us) (EP X pins σ Q) X.xe s := by
  have n0 : H s.heap.objs.size = none := I.hok.fresh (Nat.le_refl _)
  have n1 : H (s.heap.objs.size + 1) = none := I.hok.fresh (Nat.le_succ _)
  have hq := h _ _ n1 n0 (Nat.ne_of_lt (Nat.lt_succ_self _))
  have Im := Inv.made (C := C) I
  have all : Vals (V.ref (s.heap.objs.size + 1) :: (vs ++ dvs)) (Value.ref (s.heap.objs.size + 1) :: (us ++ ds)) := .cons rfl (r.append hd)
  have len : (Value.ref (s.heap.objs.size + 1) :: us ++ ds).length = ps.length := (F.len _ _ _ _ hq ▸ all.length).symm
  refine wpAny_call (make_map (f := f) I.kIn M.makes M.init (beq_iff_eq.mp M.fn) (codeAny_mono (F.run _ X.stack _ _ ⟨Value.ref (s.heap.objs.size + 1) :: us, []⟩ (Value.ref (s.heap.objs.size + 1) :: (us ++ ds)) _ _ (WE W σ) (hr.make C us []) (Im.env0.make C us []) (hb _ (Value.ref (s.heap.objs.size + 1) :: us) Im.kIn len) all hq) fun w s' z => ?_))
  match w, z with
  | .error e, z => exact passAt tk σ pins _ _ e s' Im z
  | .ok .next, z => exact False.elim z
  | .ok .brk, z => exact False.elim z
  | .ok .cont, z => exact False.elim z
  | .ok (.ret u), z =>
    obtain ⟨v, H', I3, rv, rfl, q3⟩ := Im.after z
    exact ⟨rv, .ref (s.heap.objs.size + 1), H', I3, rfl, q3⟩
end
section
variable {X : Cx} {W : WX} {e : Expr} {es : List Expr} {fa : DA} {x : Str} {C : Addr} {pos p : Pos} {k : Nat} {fs : List Str} {dvs : List V} {dfs : List D} {g : List D → Prop → XP → Prop}
theorem y_make (c : Mkr X.prog X.w X.K X.mg X.base x C k fs dvs dfs g) (hr : Room (k + 1) X.A) (hg : Gl X x) (tk : Takes X W) (ha : ∀ E, PA X (e :: es) (tA X.K E fa)) (hdb : (x == ("__debug__" : Str)) = false := by decide)
    (he : starEach (e :: es) X.env = (false, eval e X.env) :: starEach es X.env := by rfl) (hpl : (backTo pos (starEach es X.env)).any (·.1) = false := by rfl) :
    PE X (.Call (.Name x p) (e :: es) [] pos) (tW X.K W (fun δ P Z => fa δ (fun ds => (ds ++ dfs).length = fs.length ∧ g (ds ++ dfs) (P (.obj C fs (ds ++ dfs))) Z) Z)) := by
  obtain ⟨f, fd, ps, dv, M, F, hb, hd⟩ := c.ex
  refine ⟨fun pins s σ H Q I ⟨r, A, δ, P, Z, R, h, hq, hz⟩ => ?_⟩
  refine wpAny_Call_Name_kw (ld_glob I hg c.m ?_ hdb)
  refine PySem.W.callWith_K (h₀ := X.base) I.ok.mod.kin M.kp (thn ((ha (fun c d H' => W c d σ H')).run pos pins s σ H (fun vs H1 => ∃ ds, Ext r H H1 ∧ RndOk r H1 ∧ DRs X.K r A H1 vs ds ∧ (ds ++ dfs).length = fs.length ∧ g (ds ++ dfs) (P (.obj C fs (ds ++ dfs))) Z) I ⟨r, A, δ, _, Z, R, h, fun ds vs H1 h3 x1 n1 r1 => ⟨ds, x1, n1, r1, h3⟩, hz⟩) fun us s1 ⟨vs, H1, I1, ru, ds, x1, n1, r1, h3⟩ => ⟨I1.kIn, ?_⟩) he hpl
  refine run_makeW M F hr hb hd tk I1 ru fun o dx no nd ne => ?_
  have w1 := (R.ext x1 n1).wd
  have all := r1.append (c.dfl r A H1)
  have nA : ¬ A o := w1.free no
  have e1 : Ext r H1 (upd (upd H1 dx (.own o)) o (.ins C dx [])) := (Ext.upd nd).trans (Ext.upd (by rw [upd_ne (Ne.symm ne)]; exact no))
  have rn1 : RndOk r (upd (upd H1 dx (.own o)) o (.ins C dx [])) := (n1.upd nd).upd (by rw [upd_ne (Ne.symm ne)]; exact no)
  refine ⟨r, A, o, dx, vs ++ dvs, ds ++ dfs, _, Z, rfl, upd_same, nA, w1.ext e1 rn1, all.ext (e1.toA w1.ar), h3.1, h3.2, fun H' hp kp rn e2 => ⟨rfl, ?_⟩, fun y cc dd H' z kp rn xr => hz y cc dd H' z (fun b o2 hb2 q => ?_) rn xr⟩
  · have k1 : Ext r H1 H' := fun b o2 hb2 q => kp b o2 hb2 (ne_of_none q no) (e1 b o2 hb2 q)
    exact hq _ _ _ hp (x1.trans k1) rn (.obj nA e2 (by rw [all.length, h3.1]) (all.ext (k1.toA w1.ar)))
  · have q1 := x1 b o2 hb2 q
    exact kp b o2 hb2 (ne_of_none q1 no) (e1 b o2 hb2 q1)
end
end L3

namespace L3
open PySem PySem.Spec PyProof.Rows L2
/-! ### tuple * 0, tuple * 1 -/
theorem mul_one {l n : Nat} {xs : Array Value} {dc : Option Addr} {so : Array (Option Value)} {u : Tok} :
    Meets (Builtin.«tuple.__mul__» ⟨[.ref l, .int 1 u], []⟩) (fun _ R s => s.heap.get? l = some { cls := .type "tuple", dict := dc, data := .seq xs n, slots := so } ∧ R (.ok (.ret (.ref l))) s) :=
  .of_wp fun prog w A R ⟨hp, gs, dr, tk, os⟩ ⟨at_, want⟩ => by
    have f1 := AutoSeq1.idx_int
    wp_walk using wpAny_loadPart' at_
    exact ⟨_, rfl, want⟩
theorem mul_zero {l n : Nat} {xs : Array Value} {dc : Option Addr} {so : Array (Option Value)} {u : Tok} (hx : xs.isEmpty = false) :
    Meets (Builtin.«tuple.__mul__» ⟨[.ref l, .int 0 u], []⟩) (fun _ R s => s.heap.get? l = some { cls := .type "tuple", dict := dc, data := .seq xs n, slots := so } ∧ R (.ok (.ret (.ref s.heap.objs.size))) { s with heap := s.heap.push { cls := Value.type "tuple", data := Data.seq #[] } }) :=
  .of_wp fun prog w A R ⟨hp, gs, dr, tk, os⟩ ⟨at_, want⟩ => by
    have f1 := AutoSeq1.idx_int
    have e1 : (xs.isEmpty || (0 : Int) == 1) = false := by rw [hx]; rfl
    wp_walk using wpAny_loadPart' at_
    repeat (first
      | (refine wpAny_ite_false (decide_eq_false (by rw [e1]; exact Bool.false_ne_true)) ?_; wp_walk using wpAny_loadPart' at_))
    exact ⟨_, rfl, want⟩
def rRep1 (K : PySem.W.Frag) : R2 := fun x y H Q => ∃ l xs, x = .ref l ∧ y = .int 1 ∧ SqT K H l xs ∧ Q (.ref l) H
def rRep0 (K : PySem.W.Frag) : R2 := fun x y H Q => ∃ l xs, x = .ref l ∧ y = .int 0 ∧ SqT K H l xs ∧ xs ≠ [] ∧ ∀ p, H p = none → Q (.ref p) (upd H p (.tup []))
section
variable {X : Cx}
theorem op_rep1 : OpR X (binaryOp .Mult) (rRep1 X.K) := by
  rintro pins s σ H x y v u Q I rx ry ⟨l, xs, rfl, rfl, hT, q⟩
  cases rx
  obtain ⟨t, rfl⟩ := ry
  obtain ⟨its, rv, ⟨⟨cl, dd, da, so⟩, ho, e1, n, e2⟩, _⟩ := I.tuple hT
  cases (show cl = .type "tuple" from e1); cases (show da = .seq its.toArray n from e2)
  exact wpAny_binaryOp_repeat_ref (T := "tuple") (U := "int") (by decide) ⟨_, ho, rfl⟩ (fun s2 => typeIs_int s2 1 t) noFill_tuple_mul F.fills_int_mul F.slot_int_rmul repeat_tuple F.slot_int_index.lookup
    (call_meets F.slot_int_rmul (typeIs_int s 1 t) F.entry_int_rmul (F.args_int_rmul_2 _ _) (int_rmul_tuple 1 t l its.toArray n dd so) ⟨ho, rfl, ⟨_, ho, rfl⟩, call_meets F.slot_tuple_mul ⟨_, ho, rfl⟩ F.entry_tuple_mul (F.args_tuple_mul_2 _ _) mul_one ⟨ho, .ref l, H, I, rfl, q⟩⟩)
theorem op_rep0 : OpR X (binaryOp .Mult) (rRep0 X.K) := by
  rintro pins s σ H x y v u Q I rx ry ⟨l, xs, rfl, rfl, hT, hne, q⟩
  cases rx
  obtain ⟨t, rfl⟩ := ry
  obtain ⟨its, rv, ⟨⟨cl, dd, da, so⟩, ho, e1, n, e2⟩, _⟩ := I.tuple hT
  cases (show cl = .type "tuple" from e1); cases (show da = .seq its.toArray n from e2)
  have full : its.toArray.isEmpty = false := by
    cases rv with
    | nil => exact absurd rfl hne
    | cons _ _ => rfl
  refine wpAny_binaryOp_repeat_ref (T := "tuple") (U := "int") (by decide) ⟨_, ho, rfl⟩ (fun s2 => typeIs_int s2 0 t) noFill_tuple_mul F.fills_int_mul F.slot_int_rmul repeat_tuple F.slot_int_index.lookup
    (call_meets F.slot_int_rmul (typeIs_int s 0 t) F.entry_int_rmul (F.args_int_rmul_2 _ _) (int_rmul_tuple 0 t l its.toArray n dd so) ⟨ho, rfl, ⟨_, ho, rfl⟩, call_meets F.slot_tuple_mul ⟨_, ho, rfl⟩ F.entry_tuple_mul (F.args_tuple_mul_2 _ _) (mul_zero full) ⟨ho, ?_⟩⟩)
  exact ⟨.ref s.heap.objs.size, _, I.laid (t' := s.toks) (o := .tup []) (fun b ob z => Heap.get?_push_of_some _ z) (Nat.le_refl _) ⟨Nat.zero_le _, [], .nil, IsTup.new _ _⟩, rfl, q _ (I.hok.fresh (Nat.le_refl _))⟩
def rRepA (K : PySem.W.Frag) : R2 := fun x y H Q => (rRep0 K x y H Q ∨ rRep1 K x y H Q) ∨ rRepT K x y H Q
theorem op_repA : OpR X (binaryOp .Mult) (rRepA X.K) := fun pins s σ H x y v u Q I rx ry h => by
  rcases h with (h | h) | h
  · exact op_rep0 pins s σ H x y v u Q I rx ry h
  · exact op_rep1 pins s σ H x y v u Q I rx ry h
  · exact op_repT pins s σ H x y v u Q I rx ry h
end
def repD : D → D → DP → Prop
  | .tup ds, .int k, P => ds ≠ [] ∧ 0 ≤ k ∧ k ≤ 1000 ∧ ds.length ≤ 1000 ∧ P (.tup (List.replicate k.toNat ds).flatten)
  | _, _, _ => False
theorem DRs.rep {K : PySem.W.Frag} {r : Addr} {A : Addr → Prop} {H : Hp} {xs : List V} {ds : List D} (t : DRs K r A H xs ds) : ∀ n : Nat, DRs K r A H (List.replicate n xs).flatten (List.replicate n ds).flatten
  | 0 => .nil
  | n + 1 => by
    rw [List.replicate_succ, List.replicate_succ, List.flatten_cons, List.flatten_cons]
    exact t.append (t.rep n)
theorem od_rep {K : PySem.W.Frag} : OpD K (rRepA K) repD := fun r A H x y d e P Q w hx hy h q => by
  match d, e, h with
  | .tup ds, .int k, h =>
    obtain ⟨h1, h2, h3, h4, h5⟩ : ds ≠ [] ∧ 0 ≤ k ∧ k ≤ 1000 ∧ ds.length ≤ 1000 ∧ P (.tup (List.replicate k.toNat ds).flatten) := h
    cases hy
    have hx' := hx
    obtain ⟨a, xs, rfl, sq, zl, t⟩ := hx.sqT
    have ne : xs ≠ [] := fun z => h1 (by rw [z] at t; cases t; rfl)
    have len := t.length
    by_cases k0 : k = 0
    · subst k0
      refine .inl (.inl ⟨a, xs, rfl, rfl, sq, ne, fun p np => q _ _ _ h5 (Ext.upd np) (w.rnd.upd np) ?_⟩)
      exact w.tup np (Nat.zero_le _) .nil
    · by_cases k1 : k = 1
      · subst k1
        refine .inl (.inr ⟨a, xs, rfl, rfl, sq, q _ _ _ h5 .refl w.rnd ?_⟩)
        rw [show (List.replicate (1 : Int).toNat ds).flatten = ds from by show (ds ++ []) = ds; rw [List.append_nil]]
        exact hx'
      · refine .inr ⟨a, k, xs, rfl, rfl, sq, ne, by omega, h3, by omega, fun p np => q _ _ _ h5 (Ext.upd np) (w.rnd.upd np) ?_⟩
        refine w.tup np ?_ (t.rep _)
        rw [PyProof.Rows.lm_len_rep_flat, sizeLine_eq]
        have : k.toNat * xs.length ≤ 1000 * 1000 := Nat.mul_le_mul (by omega) (by omega)
        omega
end L3
namespace L3
open PySem PySem.Spec PyProof.Rows L2
/-- a method of the class at C: its promise by data -/
structure OwnM (P : Program) (w : World) (K : PySem.W.Frag) (mg : Str → Option Value) (base : Heap) (C : Addr) (m : Str) (k n : Nat) (g : DF) : Prop where
  ex : ∃ (f : Addr) (fd : FuncData) (ps : List Str), FnOk P w K mg base (L2.CX P w) k f fd ps (spD K n g) ∧ PySem.W.findIn K (.ref C) m = some (some (.ref f)) ∧ PySem.W.isFn K (.ref f) = true ∧ Binds K fd ps []
section
variable {X : Cx} {E : XK} {C : Addr} {k : Nat} {g : DF} {es : List Expr} {e : Expr} {fs : DA} {p pos : Pos}
theorem op_own (c : OwnM X.prog X.w X.K X.mg X.base C "__eq__" k 2 g) (hr : Room k X.A) : OpR X (compareOp .Eq) (rOwnEq X.K C (spD X.K 2 g) E0) := by
  obtain ⟨f, fd, ps, F, h1, h2, h3⟩ := c.ex
  exact op_ownEq F hr h1 h2 h3 pass0
theorem e_lenO (c : OwnM X.prog X.w X.K X.mg X.base C "__len__" k 1 g) (hr : Room (k + 1) X.A) (hg : Gl X "len") (hm : X.mg "len" = none) (ha : PA X (e :: es) (tA X.K E fs))
    (he : starEach (e :: es) X.env = (false, eval e X.env) :: starEach es X.env := by rfl) (hpl : (backTo pos (starEach es X.env)).any (·.1) = false := by rfl) :
    PE X (.Call (.Name "len" p) (e :: es) [] pos) (tE X.K E (fun δ P Z => fs δ (fun ds => ownLenD C g ds P) Z)) := by
  obtain ⟨f, fd, ps, F, h1, h2, h3⟩ := c.ex
  exact e_callB (call_ownLen F hr h1 h2 h3 pass0) cd_ownLen hg hm (by decide +kernel) ha (by decide) (by decide) he hpl
end
end L3
namespace L3
open PySem PySem.Spec PyProof.Rows L2
section
variable {X : Cx} {E : XK} {e tg : Expr} {fe : DE} {g : DG} {gt : TG} {pos : Pos}
/-- a target of several names, the value a tuple -/
theorem s_asg (he : PE X e (tE X.K E fe)) (hG : tGs X.K g gt) (hg : PG X tg gt) (hs : swapsWithSole [tg] e pos.line X.env = pure false := by rfl) (hw : swappedStores [tg] e X.env = pure none := by rfl)
    (h1 : (assignEach [tg] X.env).map (·.2) = [assign tg X.env] := by rfl) :
    PS X (.Assign [tg] e pos) (tS X.K E (fun P δ => fe δ (fun d => g d δ P.nx) P.ex)) := PS.imp (ps_asg he hg hs hw h1) fun D σ H ⟨r, A0, H0, δ, P, R, h, L⟩ =>
  use_of R L h fun d v H' h2 x2 n2 r2 => hG r A0 H0 v d σ H' δ P.nx D.nx (R.move x2 n2) r2 h2 fun δ' σ' q R' => L.nx _ _ _ q R'
end
end L3

/-! Set comprehensions by clauses: one rule for a clause's loop, whatever is done within it. -/
namespace L3
open PySem PySem.Spec PyProof.Rows L2
/-- a clause's turn; within: what is done with what follows it -/
def turnC (C : Expr) (k : Nat) (tg iter : Expr) (ifs : List Expr) (within : Sem Fin → Sem Fin) (it acc : Value) (env : PySem.Env) : Sem Fin := do
  standAt iter.pos
  let r ← pyNext it
  match r with
  | none => pure (.done .next)
  | some v =>
    letOwnedTupleGo tg it v
    assign tg env v
    let ok ← forIn ifs true fun c r => if r = true then do let ok ← isTrue c env (eval c env); pure (ForInStep.yield ok) else pure (ForInStep.yield r)
    if ok = true then within (again (.compLoop C k it acc env)) else again (.compLoop C k it acc env)
def addIn (elt : Expr) (acc : Value) (env : PySem.Env) (K : Sem Fin) : Sem Fin := (do
  let v ← eval elt env
  standAt elt.pos
  let _ ← call (.builtin "set.add") [acc, v]
  pure PUnit.unit) >>= fun _ => K
def nextIn (C iter1 : Expr) (acc : Value) (env : PySem.Env) (K : Sem Fin) : Sem Fin := do
  let x ← eval iter1 env
  standAt iter1.pos
  let x ← foldedSetIterable iter1 env x
  let i ← holding [x] (pyIter x)
  let _ ← runOwn (.compStart C 1 i acc env) env
  K
theorem turn_one (elt t i : Expr) (ifs : List Expr) (sc : Scope) (pos : Pos) (it acc : Value) (env : PySem.Env) :
    compTurn (.SetComp elt [⟨t, i, ifs, 0⟩] sc pos) 0 it acc env = turnC (.SetComp elt [⟨t, i, ifs, 0⟩] sc pos) 0 t i ifs (addIn elt acc env) it acc env := by rfl
theorem turn_fst (elt t i t1 i1 : Expr) (ifs ifs1 : List Expr) (sc : Scope) (pos : Pos) (it acc : Value) (env : PySem.Env) :
    compTurn (.SetComp elt [⟨t, i, ifs, 0⟩, ⟨t1, i1, ifs1, 0⟩] sc pos) 0 it acc env = turnC (.SetComp elt [⟨t, i, ifs, 0⟩, ⟨t1, i1, ifs1, 0⟩] sc pos) 0 t i ifs (nextIn (.SetComp elt [⟨t, i, ifs, 0⟩, ⟨t1, i1, ifs1, 0⟩] sc pos) i1 acc env) it acc env := by rfl
theorem turn_snd (elt t i t1 i1 : Expr) (ifs ifs1 : List Expr) (sc : Scope) (pos : Pos) (it acc : Value) (env : PySem.Env) :
    compTurn (.SetComp elt [⟨t, i, ifs, 0⟩, ⟨t1, i1, ifs1, 0⟩] sc pos) 1 it acc env = turnC (.SetComp elt [⟨t, i, ifs, 0⟩, ⟨t1, i1, ifs1, 0⟩] sc pos) 1 t1 i1 ifs1 (addIn elt acc env) it acc env := by rfl

abbrev Nay : Value → Shared → Prop := fun _ _ => False
theorem on {α : Type} {B : Cx} (q : ∀ v s, ¬ B.xe v s) {m : Sem α} {Q Q' : α → Shared → Prop} {M : Model} {A : Around} {E : Value → Shared → Prop} {s : Shared} (h : wpAny M A m Q B.xe s) (k : ∀ a s, Q a s → Q' a s) : wpAny M A m Q' E s :=
  wpAny_mono h k fun v s z => (q v s z).elim
section
variable {prog : Program} {w : World} {A : Around} {R : Result → Shared → Prop} {env : PySem.Env} {C tg iter : Expr} {k : Nat} {ifs : List Expr} {it acc : Value} {within : Sem Fin → Sem Fin}
theorem loop_c (hC : ∃ elt gens sc pos, C = .SetComp elt gens sc pos) (hT : compTurn C k it acc env = turnC C k tg iter ifs within it acc env) (J : Nat → Shared → Prop) (turn : ∀ n s, J n s → wpAny (model prog w) A (pyNext it) (fun r s1 => match r with
      | none => R (.ok .next) s1
      | some v => wpAny (model prog w) A (letOwnedTupleGo tg it v) (fun _ s2 => wpAny (model prog w) A (assign tg env v) (fun _ s3 =>
          wpAny (model prog w) A (forIn ifs true fun c r => if r = true then do let ok ← isTrue c env (eval c env); pure (ForInStep.yield ok) else pure (ForInStep.yield r)) (fun ok s4 =>
            if ok = true then ∀ (K : Sem Fin) (Q : Fin → Shared → Prop) (E : Value → Shared → Prop), (∀ s', (∃ m, m < n ∧ J m s') → wpAny (model prog w) A K Q E s') → wpAny (model prog w) A (within K) Q E s4
            else ∃ m, m < n ∧ J m s4) Nay s3) Nay s2) Nay s1) Nay s) (n : Nat) (s : Shared) (h : J n s) : codeAny (model prog w) A (.compLoop C k it acc env) R s := by
  obtain ⟨_, _, _, _, rfl⟩ := hC
  refine codeAny_loop rfl J (fun n s j => ?_) n h
  show wpAny _ A ((compTurn _ k it acc env).onRaise (fun x => do noteFrame x env; theTreesLotGoes x)) _ _ s
  rw [hT]
  unfold turnC
  refine wpAny_noted (wpAny_bind (wpAny_standAt (wpAny_bind (thnF (turn n s j) fun r s1 h1 => ?_))))
  cases r with
  | some v =>
    refine wpAny_bind (thnF h1 fun _ s2 h2 => wpAny_bind (thnF h2 fun _ s3 h3 => wpAny_bind (thnF h3 fun ok s4 h4 => ?_)))
    cases ok with
    | true => exact h4 _ _ _ fun s' q => wpAny_pure ⟨rfl, q⟩
    | false => exact wpAny_pure ⟨rfl, h4⟩
  | none => exact wpAny_pure h1
end
/-- what a clause does within, told from the slots σ on; vs: the slots that it leaves unknown -/
def Within (B : Cx) (m : Sem Fin → Sem Fin) (vs : List Nat) (t : L2.St → Hp → (Hp → Prop) → Prop) : Prop :=
  ∀ (pins : List (Addr × Obj)) (s : Shared) (σ : L2.St) (H : Hp) (N : Hp → Prop) (K : Sem Fin) (Q : Fin → Shared → Prop) (E : Value → Shared → Prop), Inv B pins σ H s → t σ H N →
    (∀ s' H', Inv B pins (wipe σ vs) H' s' → N H' → wpAny (model B.prog B.w) B.A K Q E s') → wpAny (model B.prog B.w) B.A (m K) Q E s
/-- what is asked of a clause's loop -/
def LoopAsk (J : It) (g : TG) (tt : TT) (ti : L2.St → Hp → (Hp → Prop) → Prop) (vs : List Nat) (σ : L2.St) (H1 : Hp) (F : Hp → Prop) : Prop := ∃ W : Nat → Nat → Hp → Prop, (∃ m, W 0 m H1) ∧ ∀ i m H, W i m H →
  (J.stop i H ∧ F H) ∨ (J.go i H ∧ ∃ Nx : Hp → Prop, (∀ H', Nx H' → ∃ m', m' < m ∧ W (i + 1) m' H') ∧ ∀ x H', J.yld i H x H' → g x (wipe σ vs) H' fun σ2 H2 => wipe σ2 vs = wipe σ vs ∧ tt σ2 H2 fun b H3 => if b = true then ti σ2 H3 Nx else Nx H3)
section
variable {B : Cx} {C tg iter elt : Expr} {k : Nat} {ifs : List Expr} {acc : Value} {m : Sem Fin → Sem Fin} {vs vs' : List Nat} {g : TG} {tt : TT} {te : TE} {ti : L2.St → Hp → (Hp → Prop) → Prop}
theorem clause {J : It} {pins : List (Addr × Obj)} {σ : L2.St} {H1 : Hp} {s : Shared} {F : Hp → Prop} {it : Addr} {fp : List Addr} {tn : Nat → Heap → Prop} (hC : ∃ elt gens sc pos, C = .SetComp elt gens sc pos) (hc : B.calm = true) (q : ∀ v s, ¬ B.xe v s) (hT : compTurn C k (.ref it) acc B.env = turnC C k tg iter ifs m (.ref it) acc B.env)
    (pg : PG B tg g) (pt : PTs B ifs tt) (pw : Within B m vs' ti) (hv : ∀ i ∈ vs', i ∈ vs) (T : Turn B.prog B.w B.K tg J fp it tn) (stat : ∀ H' s', Inv B pins (wipe σ vs) H' s' → (∀ b ∈ fp, H' b = none) → ∀ b ∈ fp, FpOk B pins H' b)
    (I : Inv B pins (wipe σ vs) H1 s) (st : tn 0 s.heap) (n1 : ∀ b ∈ fp, H1 b = none) (h : LoopAsk J g tt ti vs σ H1 F) :
    codeAny (model B.prog B.w) B.A (.compLoop C k (.ref it) acc B.env) (fun r s' => match r with
      | .ok f => f = .next ∧ ∃ H', Inv B pins (wipe σ vs) H' s' ∧ F H'
      | .error _ => False) s := by
  obtain ⟨W, ⟨m0, w0⟩, turn⟩ := h
  refine loop_c hC hT (fun n s' => ∃ i H', Inv B pins (wipe σ vs) H' s' ∧ tn i s'.heap ∧ (∀ b ∈ fp, H' b = none) ∧ W i n H') ?_ m0 s ⟨0, H1, I, st, n1, w0⟩
  rintro n s5 ⟨i, H5, I5, st5, n5, w5⟩
  rcases turn i n H5 w5 with ⟨stop, f⟩ | ⟨go, Nx, hNx, step⟩
  · refine thnF (T.done B rfl rfl rfl hc i pins s5 _ H5 Nay I5 (stat _ _ I5 n5) st5 stop) fun r s6 ⟨hr, I6⟩ => ?_
    subst hr
    exact ⟨rfl, H5, I6, f⟩
  · refine thnF (T.item B rfl rfl rfl hc i pins s5 _ H5 Nay I5 (stat _ _ I5 n5) st5 go) fun r s6 ⟨u, hr, h6⟩ => ?_
    subst hr
    refine thnF h6 fun _ s7 ⟨x, H7, I7, r7, y7, st7, n7⟩ => ?_
    refine on q (pg.run _ s7 _ H7 x u _ (I7.pinned (stat _ _ I7 n7) (T.obj _ _ st7)) r7 (step x H7 y7)) fun _ s8 ⟨σ8, H8, I8, e8, q8⟩ => ?_
    refine on q (pt.run _ s8 σ8 H8 _ I8 q8) fun b s9 ⟨H9, I9, q9⟩ => ?_
    have back : ∀ {σ' : L2.St} {s' : Shared} {H' : Hp}, Inv B (pins ++ pinsAt fp s7.heap) σ' H' s' → (wipe σ vs).length = σ'.length → (∀ (j : Nat) v, (wipe σ vs)[j]? = some (some v) → σ'[j]? = some (some v)) → Nx H' →
        ∃ n', n' < n ∧ ∃ i H', Inv B pins (wipe σ vs) H' s' ∧ tn i s'.heap ∧ (∀ b ∈ fp, H' b = none) ∧ W i n' H' := fun {σ' s' H'} I' hl hk nx => by
      obtain ⟨n', lt, w'⟩ := hNx H' nx
      have pinned : ∀ b ∈ fp, ∀ o, s7.heap.get? b = some o → s'.heap.get? b = some o ∧ H' b = none := fun b hb o e => by
        have z := I'.pin (b, o) (List.mem_append_right _ (List.mem_append_right _ (mem_pinsAt hb e)))
        exact ⟨z.1, z.2.1⟩
      refine ⟨n', lt, i + 1, H', I'.unpinned.weak hl hk, T.keep _ _ _ st7 fun b hb o e => (pinned b hb o e).1, fun b hb => ?_, w'⟩
      obtain ⟨o, e, _⟩ := T.obj _ _ st7 b hb
      exact (pinned b hb o e).2
    have len8 : (wipe σ vs).length = σ8.length := by rw [← e8, wipe_length]
    have old8 : ∀ (j : Nat) v, (wipe σ vs)[j]? = some (some v) → σ8[j]? = some (some v) ∧ j ∉ vs := fun j v e => by
      rw [← e8] at e
      exact wipe_some e
    cases b with
    | false => exact back I9 len8 (fun j v e => (old8 j v e).1) q9
    | true =>
      intro K Q E hK
      refine pw _ s9 σ8 H9 Nx K Q E I9 q9 fun s' H' I' nx => hK s' (back I' (len8.trans (wipe_length _ _).symm) (fun j v e => ?_) nx)
      obtain ⟨e1, e2⟩ := old8 j v e
      rw [wipe_out fun z => e2 (hv j z)]
      exact e1
/-- an int goes into the set -/
def tPut (w : World) (D : Addr) (te : TE) : L2.St → Hp → (Hp → Prop) → Prop := fun σ H N => te σ H fun y H7 => ∃ (k : Int) (S : Int → Bool) (n : Nat), y = .int k ∧ H7 D = some (SetO w D S n) ∧ n + 1 < scanBound ∧ N (upd H7 D (SetO w D (fun j => S j || decide (j = k)) (if S k = true then n else n + 1)))
theorem within_put {D : Addr} (q : ∀ v s, ¬ B.xe v s) (pe : PE B elt te) : Within B (addIn elt (.ref D) B.env) [] (tPut B.w D te) := by
  intro pins s σ H N K Q E I h hK
  unfold addIn
  refine wpAny_bind (wpAny_bind (on q (pe.run pins s σ H _ I h) fun v s1 ⟨y, H1, I1, r1, k, S, n, e, hD, room, nx⟩ => wpAny_bind (wpAny_standAt (wpAny_bind ?_))))
  subst e
  exact on q (mt_sadd pins s1 σ H1 (.ref D) [.int k] (.ref D) [v] (fun _ H' => N H') I1 rfl (.cons r1 .nil) ⟨D, k, S, n, rfl, rfl, hD, room, nx⟩) fun _ s2 ⟨_, H2, I2, _, n2⟩ => wpAny_pure (hK s2 H2 I2 n2)
end
section
variable {prog : Program} {w : World} {A : Around} {R : Result → Shared → Prop} {s : Shared} {env : PySem.Env} {elt t i t1 i1 : Expr} {ifs ifs1 : List Expr} {sc : Scope} {pos : Pos} {it acc : Value}
theorem start_two (h0 : codeAny (model prog w) A (.compLoop (.SetComp elt [⟨t, i, ifs, 0⟩, ⟨t1, i1, ifs1, 0⟩] sc pos) 1 it acc env) R s)
    (h : wpAny (model prog w) A (pyIter it) (fun it' s' => codeAny (model prog w) A (.compLoop (.SetComp elt [⟨t, i, ifs, 0⟩, ⟨t1, i1, ifs1, 0⟩] sc pos) 1 it' acc env) R s') Nay s) :
    codeAny (model prog w) A (.compStart (.SetComp elt [⟨t, i, ifs, 0⟩, ⟨t1, i1, ifs1, 0⟩] sc pos) 1 it acc env) R s := by
  refine codeAny_of_tree ?_
  show wpAny _ _ ((compStart (.SetComp elt [⟨t, i, ifs, 0⟩, ⟨t1, i1, ifs1, 0⟩] sc pos) 1 it acc env).onRaise (fun x => do noteFrame x env; standAt theWindowsPlace)) _ _ s
  refine wpAny_notedAt ?_
  unfold compStart
  show wpAny _ _ (ask >>= _) _ _ s
  refine wpAny_bind (wpAny_askSetting (wpAny_ite ?_))
  split
  · first
      | exact wpAny_pure ⟨rfl, h0⟩
      | exact wpAny_bind (wpAny_pure (wpAny_pure ⟨rfl, h0⟩))
  · have z := fun E => thnF (E := E) h fun it' s' z => wpAny_pure (M := model prog w) (A := A) (E := E) (s := s') (Q := fun fin s' => match fin with
      | .done f => R (.ok f) s'
      | .again c' => c'.quiet = true ∧ codeAny (model prog w) A c' R s') (a := Fin.again (.compLoop (.SetComp elt [⟨t, i, ifs, 0⟩, ⟨t1, i1, ifs1, 0⟩] sc pos) 1 it' acc env)) ⟨rfl, z⟩
    exact wpAny_bind (wpAny_rule (wpAny_bind (wpAny_standAt (wpAny_bind (z _)))))
end
section
variable {B : Cx} {elt tg iter tg1 iter1 : Expr} {ifs ifs1 : List Expr} {sc : Scope} {pos : Pos} {acc : Value} {m : Sem Fin → Sem Fin} {vs vs' : List Nat} {g1 : TG} {tt1 : TT} {wi1 : TI} {ti : L2.St → Hp → (Hp → Prop) → Prop}
/-- the second clause, within the first -/
theorem within_next (hc : B.calm = true) (q : ∀ v s, ¬ B.xe v s) (pi : PI B tg1 iter1 wi1) (pg : PG B tg1 g1) (pt : PTs B ifs1 tt1) (hs1 : ∀ env x, foldedSetIterable iter1 env x = pure x)
    (pw : Within B (addIn elt acc B.env) vs' ti) (hv : ∀ i ∈ vs', i ∈ vs) :
    Within B (nextIn (.SetComp elt [⟨tg, iter, ifs, 0⟩, ⟨tg1, iter1, ifs1, 0⟩] sc pos) iter1 acc B.env) vs (fun σ H N => wi1 σ H fun J1 H4 => LoopAsk J1 g1 tt1 ti vs σ H4 N) := by
  intro pins s σ H N K Q E I h hK
  unfold nextIn
  refine wpAny_bind (on q (pi.run pins s σ H _ I h) fun xv s1 hx => wpAny_bind (wpAny_standAt (wpAny_bind (wpAny_of_eq (hs1 _ _) (wpAny_bind (wpAny_holding (on q hx fun itv s2 h2 => ?_)))))))
  obtain ⟨it, fp, tn, J, H2, e, I2, T, st2, f2, ask⟩ := h2
  subst e
  have lp := clause (C := .SetComp elt [⟨tg, iter, ifs, 0⟩, ⟨tg1, iter1, ifs1, 0⟩] sc pos) (k := 1) ⟨_, _, _, _, rfl⟩ hc q (turn_snd ..) pg pt pw hv T (fun H' s' _ hn b hb => ⟨hn b hb, (f2 b hb).2⟩) (I2.weak (wipe_length _ _) fun j v e => (wipe_some e).1) st2 (fun b hb => (f2 b hb).1) ask
  refine wpAny_bind (wpAny_runOwn ?_)
  rw [Around.mark_none]
  refine codeAny_mono (start_two lp (T.self B.A 0 _ _ _ st2 lp)) fun r s' hr => ?_
  cases r with
  | ok f =>
    obtain ⟨_, H', I', nx⟩ := hr
    exact hK s' H' I' nx
  | error e => exact hr.elim
end
section
variable {X : Cx} {elt tg iter tg1 iter1 : Expr} {ifs ifs1 : List Expr} {scope : Scope} {own : List (Str × Nat)} {vs1 : List Nat} {pos : Pos} {wi wi1 : TI} {g g1 : TG} {tt tt1 : TT} {te : TE}
/-- for all blocks of X -/
abbrev Blks (X : Cx) (scope : Scope) (p : Cx → Prop) : Prop := ∀ (s : Shared) (H : Hp) (C : Addr) (cl : List (Str × Addr)) (fp : List Addr), p (X.blk s H scope (compEnvC scope cl C X.env) fp)
/-- the new set, and what the first clause's loop asks -/
def tSetc (w : World) (wi : TI) (g : TG) (tt : TT) (ti : Addr → L2.St → Hp → (Hp → Prop) → Prop) (vs : List Nat) : TE := fun σ H Q => wi σ H fun J H1 => ∀ D, H1 D = none → LoopAsk J g tt (ti D) vs σ (upd H1 D (SetO w D (fun _ => false) 0)) fun H' => Q (.ref D) H'
theorem set_any {gs : List Comprehension} {ti : Addr → L2.St → Hp → (Hp → Prop) → Prop} {vs' : List Nat} {mk : Value → PySem.Env → Sem Fin → Sem Fin} (hc : X.calm = true) (hN : X.N.Nodup) (hi : PI X tg iter wi) (ok : BlkOk X.N X.env.scope scope own)
    (hg : Blks X scope fun B => PG B tg g) (ht : Blks X scope fun B => PTs B ifs tt) (hs : ∀ x, foldedSetIterable iter X.env x = pure x) (hv : ∀ i ∈ vs', i ∈ own.map (·.2))
    (hw : Blks X scope fun B => ∀ D, Within B (mk (.ref D) B.env) vs' (ti D))
    (hT : ∀ it acc env, compTurn (.SetComp elt (⟨tg, iter, ifs, 0⟩ :: gs) scope pos) 0 it acc env = turnC (.SetComp elt (⟨tg, iter, ifs, 0⟩ :: gs) scope pos) 0 tg iter ifs (mk acc env) it acc env) :
    PE X (.SetComp elt (⟨tg, iter, ifs, 0⟩ :: gs) scope pos) (tSetc X.w wi g tt ti (own.map (·.2))) := by
  refine ⟨fun pins s σ H Q I h => ?_⟩
  rw [PpSet.eval_SetComp]
  have clo : ∀ y ∈ scope.names, y.2 = .free → ∃ c, X.env.cells.lookup y.1 = some c := fun y hy e => (ok.free y hy e).elim (fun k => I.ok.has _ (.inl k)) fun k => I.ok.has _ (.inr k)
  refine wpAny_comprehension_free (use := none) rfl hs (closure_ok clo) ok.kind (fun y hy e => by rw [ok.uniq y hy, e]) (thn (hi.run pins s σ H _ I h) fun xv s1 hx => thn hx fun itv s2 h2 => ?_)
  obtain ⟨it, fp, tn, J, H2, e, I2, T, st2, f2, q⟩ := h2
  subst e
  refine PpSet.newSet_ok (newEnv_comp ?_)
  have nD : H2 s2.heap.objs.size = none := I2.hok.fresh (Nat.le_refl _)
  have ask := q _ nD
  generalize hp : s2.heap.push { cls := .type "set", dict := none, data := .set #[] 0 (.fresh 0 0 (!X.w.params.followText "set-order")) } = h3
  have kp : ∀ b o, s2.heap.get? b = some o → h3.get? b = some o := fun b o e => by rw [← hp]; exact Heap.get?_push_of_some _ e
  have hz : h3.objs.size = s2.heap.objs.size + 1 := by rw [← hp, Heap.size_push]
  have new : ObjOk X.prog X.w (upd H2 s2.heap.objs.size (SetO X.w s2.heap.objs.size (fun _ => false) 0)) h3 s2.heap.objs.size (SetO X.w s2.heap.objs.size (fun _ => false) 0) := by rw [← hp]; exact setO_new (setR_fresh X.w)
  have I3 : Inv X pins σ _ { s2 with heap := h3, toks := s2.toks } := I2.laid kp (Nat.le_refl _) new
  clear new hp
  have lt2 : ∀ b ∈ fp, b < s2.heap.objs.size := fun b hb => by
    obtain ⟨o, e, _⟩ := T.obj _ _ st2 b hb
    exact Heap.lt_size e
  have f3 : ∀ b ∈ fp, FpOk X pins (upd H2 s2.heap.objs.size (SetO X.w s2.heap.objs.size (fun _ => false) 0)) b ∧ b < h3.objs.size := fun b hb =>
    ⟨⟨by rw [upd_ne (Nat.ne_of_lt (lt2 b hb))]; exact (f2 b hb).1, (f2 b hb).2⟩, by rw [hz]; exact Nat.lt_succ_of_lt (lt2 b hb)⟩
  have I4 := block_start I3 ok hN f3
  have j1 := hg ⟨h3, s2.gens, s2.drawn, s2.toks, s2.os⟩ (upd H2 s2.heap.objs.size (SetO X.w s2.heap.objs.size (fun _ => false) 0)) h3.objs.size (cellsFrom (h3.objs.size + 1) scope.names (cloFrom X.env.cells scope.names [])) fp
  have j2 := ht ⟨h3, s2.gens, s2.drawn, s2.toks, s2.os⟩ (upd H2 s2.heap.objs.size (SetO X.w s2.heap.objs.size (fun _ => false) 0)) h3.objs.size (cellsFrom (h3.objs.size + 1) scope.names (cloFrom X.env.cells scope.names [])) fp
  have j3 := hw ⟨h3, s2.gens, s2.drawn, s2.toks, s2.os⟩ (upd H2 s2.heap.objs.size (SetO X.w s2.heap.objs.size (fun _ => false) 0)) h3.objs.size (cellsFrom (h3.objs.size + 1) scope.names (cloFrom X.env.cells scope.names [])) fp
  have eL : (compEnvC scope (cellsFrom (h3.objs.size + 1) scope.names (cloFrom X.env.cells scope.names [])) h3.objs.size X.env).locals = h3.objs.size := rfl
  change L2.Inv (X.blk ⟨h3, s2.gens, s2.drawn, s2.toks, s2.os⟩ _ scope (compEnvC scope (cellsFrom (h3.objs.size + 1) scope.names (cloFrom X.env.cells scope.names [])) h3.objs.size X.env) fp) [] _ _ ⟨pushCells (h3.push ⟨.type "dict", _, .dict #[], _⟩) scope.names, s2.gens, s2.drawn, s2.toks, s2.os⟩ at I4
  show codeAny (model X.prog X.w) X.A (.compStart (.SetComp elt (⟨tg, iter, ifs, 0⟩ :: gs) scope pos) 0 (.ref it) (.ref s2.heap.objs.size) (compEnvC scope (cellsFrom (h3.objs.size + 1) scope.names (cloFrom X.env.cells scope.names [])) h3.objs.size X.env)) (compPost (model X.prog X.w) X.A X.xe none _ (.ref s2.heap.objs.size) h3.objs.size) ⟨pushCells (h3.push ⟨.type "dict", _, .dict #[], _⟩) scope.names, s2.gens, s2.drawn, s2.toks, s2.os⟩
  have st4 : tn 0 (pushCells (h3.push { cls := .type "dict", data := .dict #[] }) scope.names) := T.keep _ _ _ st2 fun b _ o e => pushCells_keeps _ _ _ _ (Heap.get?_push_of_some _ (kp b o e))
  generalize hce : compEnvC scope (cellsFrom (h3.objs.size + 1) scope.names (cloFrom X.env.cells scope.names [])) h3.objs.size X.env = ce at *
  generalize hH : upd H2 s2.heap.objs.size (SetO X.w s2.heap.objs.size (fun _ => false) 0) = H3 at *
  have lp := clause (B := X.blk ⟨h3, s2.gens, s2.drawn, s2.toks, s2.os⟩ H3 scope ce fp) (C := .SetComp elt (⟨tg, iter, ifs, 0⟩ :: gs) scope pos) (k := 0) (acc := .ref s2.heap.objs.size) ⟨_, _, _, _, rfl⟩ hc (fun _ _ z => z) (hT _ _ _) j1 j2 (j3 _) hv T
    (fun H' s' I' hn b hb => ⟨hn b hb, (I'.ok.exf b hb).1, I'.ok.exfs b hb, .inl hb, fun x c e => (I'.ok.exf b hb).2 x c e, fun p hp => absurd (show p ∈ ([] : List (Addr × Obj)) ++ [] from hp) (by simp)⟩) I4 st4 (fun b hb => (f3 b hb).1.1) ask
  refine codeAny_mono (PpSet.codeAny_compStart_set lp (T.self X.A 0 _ _ _ st4 lp)) fun r s6 hr => ?_
  cases r with
  | error e => exact hr.elim
  | ok f =>
    obtain ⟨rfl, H6, I6, q6⟩ := hr
    have I7 : Inv X pins σ H6 s6 := I3.call' (ch := fp) I6.os I6.base I6.hok I6.bare fun b hb => ⟨(f3 b hb).1.2.2.2.1, (f3 b hb).1.2.1, (f3 b hb).1.2.2.2.2.1, (f3 b hb).1.2.2.2.2.2⟩
    have nC : H6 h3.objs.size = none := by rw [← eL]; exact I6.free
    obtain ⟨ms, hn, _⟩ := I6.loc
    have hn : s6.heap.Ns ce.locals ms := hn
    rw [eL] at hn
    refine ⟨ms, hn, fun h'' sb => ?_⟩
    obtain ⟨f0, f1, f2, f3, f4, f5⟩ := I3.fpOk (H' := H6) (Nat.le_refl _) nC
    exact ⟨.ref s2.heap.objs.size, H6, I7.turned (t' := s6.toks) (fun b o hb e => (sb.2 b hb).trans e) f0 f1 f3 f4 f5, rfl, q6⟩
end
section
variable {X : Cx} {elt tg iter tg1 iter1 : Expr} {ifs ifs1 : List Expr} {scope : Scope} {own : List (Str × Nat)} {vs1 : List Nat} {pos : Pos} {wi wi1 : TI} {g g1 : TG} {tt tt1 : TT} {te : TE}
theorem pe_set1 (hc : X.calm = true) (hN : X.N.Nodup) (hi : PI X tg iter wi) (ok : BlkOk X.N X.env.scope scope own) (hg : Blks X scope fun B => PG B tg g) (ht : Blks X scope fun B => PTs B ifs tt) (he : Blks X scope fun B => PE B elt te) (hs : ∀ x, foldedSetIterable iter X.env x = pure x) :
    PE X (.SetComp elt [⟨tg, iter, ifs, 0⟩] scope pos) (tSetc X.w wi g tt (fun D => tPut X.w D te) (own.map (·.2))) :=
  set_any (gs := []) (vs' := []) (mk := addIn elt) hc hN hi ok hg ht hs (fun _ h => nomatch h) (fun s H C cl fp D => within_put (fun _ _ z => z) (he s H C cl fp)) fun it acc env => turn_one ..
theorem pe_set2 (hc : X.calm = true) (hN : X.N.Nodup) (hi : PI X tg iter wi) (ok : BlkOk X.N X.env.scope scope own) (hv : ∀ i ∈ vs1, i ∈ own.map (·.2)) (hg : Blks X scope fun B => PG B tg g) (ht : Blks X scope fun B => PTs B ifs tt)
    (hi1 : Blks X scope fun B => PI B tg1 iter1 wi1) (hg1 : Blks X scope fun B => PG B tg1 g1) (ht1 : Blks X scope fun B => PTs B ifs1 tt1) (he : Blks X scope fun B => PE B elt te) (hs : ∀ x, foldedSetIterable iter X.env x = pure x) (hs1 : ∀ env x, foldedSetIterable iter1 env x = pure x) :
    PE X (.SetComp elt [⟨tg, iter, ifs, 0⟩, ⟨tg1, iter1, ifs1, 0⟩] scope pos) (tSetc X.w wi g tt (fun D σ H N => wi1 σ H fun J1 H4 => LoopAsk J1 g1 tt1 (tPut X.w D te) vs1 σ H4 N) (own.map (·.2))) :=
  set_any (gs := [⟨tg1, iter1, ifs1, 0⟩]) (vs' := vs1) (mk := nextIn (.SetComp elt [⟨tg, iter, ifs, 0⟩, ⟨tg1, iter1, ifs1, 0⟩] scope pos) iter1) hc hN hi ok hg ht hs hv
    (fun s H C cl fp D => within_next (B := X.blk s H scope (compEnvC scope cl C X.env) fp) hc (fun _ _ z => z) (hi1 s H C cl fp) (hg1 s H C cl fp) (ht1 s H C cl fp) hs1 (within_put (B := X.blk s H scope (compEnvC scope cl C X.env) fp) (fun _ _ z => z) (he s H C cl fp)) (fun _ h => nomatch h)) fun it acc env => turn_fst ..
end
/-! ### sorted({..}) by data -/
def inS (g : DG) (tt : DT) (te : DE) (δw : Env) : List D → List D → (List D → Prop) → Prop
  | [], acc, P => P acc
  | d :: ds, acc, P => g d δw fun δ2 => tt δ2 (fun b => if b = true then te δ2 (fun y => (∃ k, y = .int k) ∧ acc.length + 1 < 4096 ∧ inS g tt te δw ds (acc ++ [y]) P) XF else inS g tt te δw ds acc P) XF
def sc2D (g : DG) (tt : DT) (fi1 : DI) (g1 : DG) (tt1 : DT) (te : DE) (vs1 : List Nat) (δw : Env) : List D → List D → (List D → Prop) → Prop
  | [], acc, P => P acc
  | d :: ds, acc, P => g d δw fun δ2 => tt δ2 (fun b => if b = true then fi1 δ2 (fun es => inS g1 tt1 te (wipeE δ2 vs1) es acc fun acc' => sc2D g tt fi1 g1 tt1 te vs1 δw ds acc' P) XF else sc2D g tt fi1 g1 tt1 te vs1 δw ds acc P) XF
/-- the ints that were put, each once, ascending -/
def finS (acc : List D) (P : DP) : Prop := ∃ ks : List Int, acc = ks.map D.int ∧ (∀ ms : List Int, ms.Nodup → (∀ k, k ∈ ms ↔ k ∈ ks) → ms.length < 64) ∧ ∀ ms : List Int, ms.Pairwise (· < ·) → (∀ k, k ∈ ms ↔ k ∈ ks) → P (.lst (ms.map D.int))
structure AccS (w : World) (K : PySem.W.Frag) (r : Addr) (A : Addr → Prop) (c : Addr) (H1 H : Hp) (acc : List D) : Prop where
  ob : ∃ (ks ms : List Int) (S : Int → Bool), acc = ks.map D.int ∧ H c = some (SetO w c S ms.length) ∧ (∀ k, S k = true ↔ k ∈ ks) ∧ ms.Nodup ∧ (∀ k, k ∈ ms ↔ k ∈ ks) ∧ ms.length ≤ ks.length
  keep : ∀ b o, b ≠ r → b ≠ c → H1 b = some o → H b = some o
  rnd : RndOk r H
section
variable {w : World} {K : PySem.W.Frag} {r : Addr} {A : Addr → Prop} {c : Addr} {H1 H H' : Hp} {acc : List D} {σ : L2.St} {δ : Env}
theorem AccS.ext (a : AccS w K r A c H1 H acc) (ne : c ≠ r) (e : Ext r H H') (rn : RndOk r H') : AccS w K r A c H1 H' acc := by
  obtain ⟨ks, ms, S, h1, h2, h3⟩ := a.ob
  exact ⟨⟨ks, ms, S, h1, e c _ ne h2, h3⟩, fun b o hr hc q => e b o hr (a.keep b o hr hc q), rn⟩
theorem AccS.er (a : AccS w K r A c H1 H acc) (R : ER K r A σ H1 δ) (n : H1 c = none) : ER K r (fun b => A b ∨ b = c) σ H δ := by
  obtain ⟨ks, ms, S, h1, h2, h3⟩ := a.ob
  have R2 : ER K r (fun b => A b ∨ b = c) σ (upd H1 c (.lst [])) δ := R.bar n (by rw [upd_same]; simp) fun b o hb q => by rw [upd_ne hb]; exact q
  refine R2.extD (p := c) (.inr rfl) (fun j es q z => ?_) (fun b o hr hb q => ?_) (by rw [h2]; simp) a.rnd
  · obtain ⟨l, xs, e1, _, _, e4, _⟩ := R.own j es q
    rw [e1] at z
    cases z
    rw [n] at e4; cases e4
  · rw [upd_ne hb] at q
    exact a.keep b o hr hb q
theorem AccS.more (a : AccS w K r A c H1 H acc) (ne : c ≠ r) {k : Int} (hz : acc.length + 1 < 4096) : ∃ (S : Int → Bool) (n : Nat), H c = some (SetO w c S n) ∧ n + 1 < scanBound ∧ AccS w K r A c H1 (upd H c (SetO w c (fun j => S j || decide (j = k)) (if S k = true then n else n + 1))) (acc ++ [.int k]) := by
  obtain ⟨ks, ms, S, h1, h2, h3, h4, h5, h6⟩ := a.ob
  have hl : acc.length = ks.length := by rw [h1, List.length_map]
  refine ⟨S, ms.length, h2, by show ms.length + 1 < 4096; omega, ?_, fun b o hr hb q => by rw [upd_ne hb]; exact a.keep b o hr hb q, ?_⟩
  · have hS : ∀ j, (S j || decide (j = k)) = true ↔ j ∈ ks ++ [k] := fun j => by
      rw [Bool.or_eq_true, decide_eq_true_eq, h3, List.mem_append, List.mem_singleton]
    by_cases hk : S k = true
    · have hin := (h3 k).mp hk
      refine ⟨ks ++ [k], ms, _, by rw [h1, List.map_append]; rfl, by rw [if_pos hk]; exact upd_same, hS, h4, fun j => ?_, by rw [List.length_append]; omega⟩
      rw [h5, List.mem_append, List.mem_singleton]
      exact ⟨.inl, fun z => z.elim id fun e => e ▸ hin⟩
    · have hin : k ∉ ms := fun z => hk ((h3 k).mpr ((h5 k).mp z))
      refine ⟨ks ++ [k], ms ++ [k], _, by rw [h1, List.map_append]; rfl, by rw [if_neg hk, List.length_append, List.length_singleton]; exact upd_same, hS, ?_, fun j => ?_, by rw [List.length_append, List.length_append, List.length_singleton]; omega⟩
      · rw [List.nodup_append]
        exact ⟨h4, (by simp), fun a ha b hb e => hin (by rw [List.mem_singleton.mp hb] at e; exact e ▸ ha)⟩
      · rw [List.mem_append, List.mem_append, h5]
  · obtain ⟨ns, e1, e2⟩ := a.rnd
    exact ⟨ns, by rw [upd_ne (Ne.symm ne)]; exact e1, e2⟩
end
section
variable {K : PySem.W.Frag} {E : XK} {fi fi1 : DI} {g g1 : DG} {gt gt1 : TG} {tt tt1 : DT} {te : DE} {vs vs1 : List Nat} {w : World}
theorem int_inj0 : ∀ {xs ys : List Int}, xs.map D.int = ys.map D.int → xs = ys
  | [], [], _ => rfl
  | x :: xs, y :: ys, h => by
    rw [List.map_cons, List.map_cons] at h
    injection h with h1 h2
    injection h1 with h1
    rw [h1, int_inj0 h2]
theorem fin_set {r c : Addr} {A : Addr → Prop} {H H1 Hc : Hp} {σ : L2.St} {δ : Env} {acc : List D} {P : DP} {Q : VK} (R : ER K r A σ H1 δ) (nc : H1 c = none) (x1 : Ext r H H1) (a : AccS w K r A c H1 Hc acc) (h : finS acc P)
    (hq : ∀ d v H', P d → Ext r H H' → RndOk r H' → DR K r A H' v d → Q v H') : rSortedSet w [.ref c] Hc Q := by
  obtain ⟨ks, h1, h2, h3⟩ := h
  obtain ⟨ks', ms, S, e1, e2, e3, e4, e5, _⟩ := a.ob
  have ek : ks' = ks := by
    rw [h1] at e1
    exact (int_inj0 e1).symm
  subst ek
  refine ⟨c, S, ms.length, rfl, e2, h2 ms e4 e5, fun ns p pw hm hl np => ?_⟩
  have R2 := a.er R nc
  have nA : ¬ A p := fun z => R2.free np (.inl z)
  refine hq _ _ _ (h3 ns pw fun k => (hm k).trans (e3 k)) (fun b o hr q => ?_) (a.rnd.upd np) (.lst nA upd_same (by rw [List.length_map, hl, sizeLine_eq]; have := h2 ms e4 e5; omega) DRs.of_ints)
  have q1 := x1 b o hr q
  have q2 := a.keep b o hr (ne_of_none q1 nc) q1
  rw [upd_ne (ne_of_none q2 np)]
  exact q2
theorem sc2_of (hg : tGc K vs g gt) (hg1 : tGc K vs1 g1 gt1) : ∀ σ H Q, tE K E (fun δ P Z => fi δ (fun ds => sc2D g tt fi1 g1 tt1 te vs1 (wipeE δ vs) ds [] (fun acc => finS acc P)) Z) σ H Q →
    tSetc w (tI K E fi) gt (tT K E0 tt) (fun c σ H N => tI K E0 fi1 σ H fun J1 H4 => LoopAsk J1 gt1 (tT K E0 tt1) (tPut w c (tE K E0 te)) vs1 σ H4 N) vs σ H (fun x H1 => rSortedSet w [x] H1 Q) := fun σ H Q ⟨r, A, δ, P, Z, R, h2, hq, hz⟩ =>
  ⟨r, A, δ, _, Z, R, h2, fun ds J H1 h3 x1 n1 y => by
    intro c nc
    have R1 := R.ext x1 n1
    have ncr : c ≠ r := fun z => by
      obtain ⟨ns, e, _⟩ := n1
      rw [z, e] at nc; cases nc
    refine ⟨fun i m Hc => m = ds.length - i ∧ i ≤ ds.length ∧ ∃ acc, sc2D g tt fi1 g1 tt1 te vs1 (wipeE δ vs) (ds.drop i) acc (fun acc => finS acc P) ∧ AccS w K r A c H1 Hc acc,
      ⟨ds.length, by simp, Nat.zero_le _, [], h3, ⟨[], [], _, rfl, upd_same, by simp, .nil, by simp, Nat.le_refl _⟩, fun b o _ hb e => by rw [upd_ne hb]; exact e, n1.upd nc⟩, ?_⟩
    rintro i m Hc ⟨rfl, hi, acc, h4, a⟩
    have ea : ExtA A H1 Hc := fun b o nb q => a.keep b o (fun z => nb (z ▸ R1.ar)) (ne_of_none q nc) q
    have wa : ∀ b o, (A b ∨ b = c) → H1 b = some o → A b := fun b o hb q => hb.elim id fun hb => by rw [hb, nc] at q; cases q
    have R3 := a.er R1 nc
    obtain ⟨ys, yg⟩ := y i Hc _ ea R3.wd wa
    by_cases hlt : i < ds.length
    · obtain ⟨go, yl⟩ := yg ds[i] (List.getElem?_eq_getElem hlt)
      refine .inr ⟨go, fun H' => ∃ m', m' < ds.length - i ∧ m' = ds.length - (i + 1) ∧ i + 1 ≤ ds.length ∧ ∃ acc, sc2D g tt fi1 g1 tt1 te vs1 (wipeE δ vs) (ds.drop (i + 1)) acc (fun acc => finS acc P) ∧ AccS w K r A c H1 H' acc, fun H' h => h, fun x H' hy => ?_⟩
      obtain ⟨x5, n5, d5⟩ := yl x H' hy
      rw [List.drop_eq_getElem_cons hlt] at h4
      have a5 := a.ext ncr x5 n5
      refine hg r _ x ds[i] _ H' _ _ _ ((R3.ext x5 n5).wipe vs) d5 h4 fun δ2 σ2 h6 hw os R6 => ⟨by rw [hw, wipe_wipe], r, _, δ2, _, XF, R6, h6, fun b H3 h7 x7 n7 => ?_, fun x c dd H' z => z.elim⟩
      cases b with
      | false => exact ⟨ds.length - (i + 1), by omega, rfl, by omega, acc, h7, a5.ext ncr x7 n7⟩
      | true =>
        refine ⟨r, _, δ2, _, XF, R6.ext x7 n7, h7, fun es J1 H4 h8 x8 n8 y1 => ?_, fun x c dd H' z => z.elim⟩
        have a8 := (a5.ext ncr x7 n7).ext ncr x8 n8
        have R8 := (R6.ext x7 n7).ext x8 n8
        refine ⟨fun j k H => k = es.length - j ∧ j ≤ es.length ∧ ∃ acc, inS g1 tt1 te (wipeE δ2 vs1) (es.drop j) acc (fun acc' => sc2D g tt fi1 g1 tt1 te vs1 (wipeE δ vs) (ds.drop (i + 1)) acc' (fun acc => finS acc P)) ∧ AccS w K r A c H1 H acc ∧
          (∀ b o, b ≠ r → b ≠ c → H4 b = some o → H b = some o), ⟨es.length, by simp, Nat.zero_le _, acc, h8, a8, fun _ _ _ _ q => q⟩, ?_⟩
        rintro j k Hj ⟨rfl, hj, acc1, h9, a9, k9⟩
        have ea1 : ExtA (fun b => A b ∨ b = c) H4 Hj := fun b o nb q => k9 b o (fun z => nb (.inl (z ▸ R1.ar))) (fun z => nb (.inr z)) q
        have noc : ∀ (j : Nat) es, δ2[j]? = some (.own es) → σ2[j]? ≠ some (some (.ref c)) := fun j es q z => by
          obtain ⟨q1, q2⟩ := ((OwnSub.wipe σ δ vs).trans os) j es q
          obtain ⟨l, xs, e1, _, _, e4, _⟩ := R1.own j es q1
          rw [q2, e1] at z
          cases z
          rw [nc] at e4; cases e4
        have hc9 : Hj c ≠ none := by obtain ⟨_, _, _, _, e, _⟩ := a9.ob; rw [e]; simp
        have R9 : ER K r (fun b => A b ∨ b = c) σ2 Hj δ2 := R8.extD (p := c) (.inr rfl) noc k9 hc9 a9.rnd
        obtain ⟨ys1, yg1⟩ := y1 j Hj _ ea1 R9.wd (fun b o hb _ => hb)
        by_cases hlt1 : j < es.length
        · obtain ⟨go1, yl1⟩ := yg1 es[j] (List.getElem?_eq_getElem hlt1)
          refine .inr ⟨go1, fun H' => ∃ k', k' < es.length - j ∧ k' = es.length - (j + 1) ∧ j + 1 ≤ es.length ∧ ∃ acc, inS g1 tt1 te (wipeE δ2 vs1) (es.drop (j + 1)) acc (fun acc' => sc2D g tt fi1 g1 tt1 te vs1 (wipeE δ vs) (ds.drop (i + 1)) acc' (fun acc => finS acc P)) ∧ AccS w K r A c H1 H' acc ∧
            (∀ b o, b ≠ r → b ≠ c → H4 b = some o → H' b = some o), fun H' h => h, fun x H' hy1 => ?_⟩
          obtain ⟨x10, n10, d10⟩ := yl1 x H' hy1
          rw [List.drop_eq_getElem_cons hlt1] at h9
          refine hg1 r _ x es[j] _ H' _ _ _ ((R9.ext x10 n10).wipe vs1) d10 h9 fun δ3 σ3 h11 hw1 _ R11 => ⟨by rw [hw1, wipe_wipe], r, _, δ3, _, XF, R11, h11, fun b H5 h12 x12 n12 => ?_, fun x c dd H' z => z.elim⟩
          have a12 := (a9.ext ncr x10 n10).ext ncr x12 n12
          have k12 : ∀ b o, b ≠ r → b ≠ c → H4 b = some o → H5 b = some o := fun b o hr hb q => x12 b o hr (x10 b o hr (k9 b o hr hb q))
          cases b with
          | false => exact ⟨es.length - (j + 1), by omega, rfl, by omega, acc1, h12, a12, k12⟩
          | true =>
            refine ⟨r, _, δ3, _, XF, R11.ext x12 n12, h12, fun z v H6 h13 x13 n13 d13 => ?_, fun x c dd H' z => z.elim⟩
            obtain ⟨⟨kk, rfl⟩, hz, h13⟩ := h13
            cases d13
            obtain ⟨S, n, e1, e2, e3⟩ := (a12.ext ncr x13 n13).more ncr (k := kk) hz
            exact ⟨kk, S, n, rfl, e1, e2, es.length - (j + 1), by omega, rfl, by omega, acc1 ++ [.int kk], h13, e3, fun b o hr hb q => by rw [upd_ne hb]; exact x13 b o hr (k12 b o hr hb q)⟩
        · have ej : j = es.length := by omega
          rw [List.drop_eq_nil_of_le (by omega)] at h9
          exact .inl ⟨ys1 (by omega), ds.length - (i + 1), by omega, rfl, by omega, acc1, h9, a9⟩
    · have ei : i = ds.length := by omega
      refine .inl ⟨ys (by omega), ?_⟩
      rw [List.drop_eq_nil_of_le (by omega)] at h4
      exact fin_set R1 nc x1 a h4 hq, hz⟩
end
section
variable {X : Cx} {E : XK} {elt tg iter tg1 iter1 : Expr} {ifs ifs1 : List Expr} {scope : Scope} {own : List (Str × Nat)} {vs1 : List Nat} {pos spos p : Pos} {fi fi1 : DI} {g g1 : DG} {gt gt1 : TG} {tt tt1 : DT} {te : DE}
theorem e_sortedSc2 (hc : X.calm = true) (hN : X.N.Nodup) (hgs : Gl X "sorted") (hm : X.mg "sorted" = none) (hi : PI X tg iter (tI X.K E fi)) (ok : BlkOk X.N X.env.scope scope own) (hv : ∀ i ∈ vs1, i ∈ own.map (·.2)) (hG : tGc X.K (own.map (·.2)) g gt) (hG1 : tGc X.K vs1 g1 gt1)
    (hg : Blks X scope fun B => PG B tg gt) (ht : Blks X scope fun B => PTs B ifs (tT X.K E0 tt)) (hi1 : Blks X scope fun B => PI B tg1 iter1 (tI X.K E0 fi1)) (hg1 : Blks X scope fun B => PG B tg1 gt1) (ht1 : Blks X scope fun B => PTs B ifs1 (tT X.K E0 tt1))
    (he : Blks X scope fun B => PE B elt (tE X.K E0 te)) (hs : ∀ x, foldedSetIterable iter X.env x = pure x := by intro _; rfl) (hs1 : ∀ env x, foldedSetIterable iter1 env x = pure x := by intro _ _; rfl)
    (nb : starEach [.SetComp elt [⟨tg, iter, ifs, 0⟩, ⟨tg1, iter1, ifs1, 0⟩] scope spos] X.env = (false, eval (.SetComp elt [⟨tg, iter, ifs, 0⟩, ⟨tg1, iter1, ifs1, 0⟩] scope spos) X.env) :: starEach [] X.env := by rfl) :
    PE X (.Call (.Name "sorted" p) [.SetComp elt [⟨tg, iter, ifs, 0⟩, ⟨tg1, iter1, ifs1, 0⟩] scope spos] [] pos) (tE X.K E (fun δ P Z => fi δ (fun ds => sc2D g tt fi1 g1 tt1 te vs1 (wipeE δ (own.map (·.2))) ds [] (fun acc => finS acc P)) Z)) :=
  PE.imp (pe_callB (cr_sortedSet hc) hgs hm (by decide +kernel) (pa_cons (pe_set2 hc hN hi ok hv hg ht hi1 hg1 ht1 he hs hs1) pa_nil nb) (by decide) (by decide) nb) (sc2_of hG hG1)
end
end L3


namespace L3
open PySem PySem.Spec PyProof.Rows L2
section
variable {K : PySem.W.Frag}
abbrev borD := intD0 fun i j => .int (Builtin.bitOr i j)
theorem od_bor : OpD K (rI0 fun i j => .int (Builtin.bitOr i j)) borD := od_int0 fun _ _ _ _ _ => .int _
abbrev bandD := intD0 fun i j => .int (Builtin.bitAnd i j)
theorem od_band : OpD K (rI0 fun i j => .int (Builtin.bitAnd i j)) bandD := od_int0 fun _ _ _ _ _ => .int _
abbrev shlD := intD (fun i j => .int (i * 2 ^ j.toNat)) CShl
theorem od_shl : OpD K (rI CShl fun i j => .int (i * 2 ^ j.toNat)) shlD := od_int fun _ _ _ _ _ => .int _
def shrD : D → D → DP → Prop
  | .int i, .int j, P => 0 ≤ j ∧ P (.int (i / 2 ^ j.toNat))
  | _, _, _ => False
theorem od_shr : OpD K (fun x y H Q => ∃ (i : Int) (k : Nat), x = .int i ∧ y = .int (k : Int) ∧ Q (.int (i / 2 ^ k)) H) shrD := fun r A H x y d e P Q w hx hy h q => by
  cases d with
  | int i =>
    cases e with
    | int j =>
      cases hx
      cases hy
      obtain ⟨h0, h⟩ := h
      exact ⟨i, j.toNat, rfl, by rw [Int.toNat_of_nonneg h0], q _ _ H h .refl w.rnd (.int _)⟩
    | _ => exact h.elim
  | _ => exact h.elim
end
theorem shl_one {k : Int} {P : DP} (h0 : 0 ≤ k) (h1 : k ≤ 1000) (h : P (.int ((2 ^ k.toNat : Nat) : Int))) : shlD (.int 1) (.int k) P := by
  refine ⟨⟨h0, ?_⟩, ?_⟩
  · have : (Builtin.Int.intBits 1 : Int) = 1 := by decide +kernel
    omega
  · show P (.int (1 * 2 ^ k.toNat))
    rw [Int.one_mul, show ((2 : Int) ^ k.toNat) = ((2 ^ k.toNat : Nat) : Int) by simp]
    exact h
theorem inS_of {g : DG} {tt : DT} {te : DE} {δw : Env} {k : D → Bool} {f : D → D} {Q : List D → Prop} : ∀ (ds acc : List D), (∀ d ∈ ds, ∀ (R : D → Prop) (S : Prop), (if k d = true then R (f d) else S) → g d δw fun δ2 => tt δ2 (fun b => if b = true then te δ2 R XF else S) XF) →
    (∀ d ∈ ds, k d = true → ∃ i, f d = .int i) → acc.length + ds.length < 4096 → Q (acc ++ (ds.filter k).map f) → inS g tt te δw ds acc Q
  | [], acc, _, _, _, q => by
    rw [List.filter_nil, List.map_nil, List.append_nil] at q
    exact q
  | d :: ds, acc, h, hf, hl, q => by
    rw [List.length_cons] at hl
    unfold inS
    refine h d List.mem_cons_self (fun y => (∃ k, y = .int k) ∧ acc.length + 1 < 4096 ∧ inS g tt te δw ds (acc ++ [y]) Q) _ ?_
    cases hk : k d with
    | true =>
      rw [if_pos rfl]
      refine ⟨hf d List.mem_cons_self hk, by omega, inS_of ds (acc ++ [f d]) (fun x hx => h x (List.mem_cons_of_mem _ hx)) (fun x hx => hf x (List.mem_cons_of_mem _ hx)) (by rw [List.length_append, List.length_singleton]; omega) ?_⟩
      rw [List.filter_cons, hk] at q
      rw [List.append_assoc]
      exact q
    | false =>
      rw [if_neg Bool.false_ne_true]
      refine inS_of ds acc (fun x hx => h x (List.mem_cons_of_mem _ hx)) (fun x hx => hf x (List.mem_cons_of_mem _ hx)) (by omega) ?_
      rw [List.filter_cons, hk] at q
      exact q
theorem sc2D_of {g : DG} {tt : DT} {fi1 : DI} {g1 : DG} {tt1 : DT} {te : DE} {vs1 : List Nat} {δw : Env} {Q : List D → Prop} (its : D → List D) (δe : D → Env) (k : D → D → Bool) (f : D → D → D) : ∀ (ds acc : List D),
    (∀ d ∈ ds, ∀ (R : Env → List D → Prop) (S : Prop), R (δe d) (its d) → g d δw fun δ2 => tt δ2 (fun b => if b = true then fi1 δ2 (fun es => R (wipeE δ2 vs1) es) XF else S) XF) →
    (∀ d ∈ ds, ∀ e ∈ its d, ∀ (R : D → Prop) (S : Prop), (if k d e = true then R (f d e) else S) → g1 e (δe d) fun δ2 => tt1 δ2 (fun b => if b = true then te δ2 R XF else S) XF) →
    (∀ d ∈ ds, ∀ e ∈ its d, k d e = true → ∃ i, f d e = .int i) →
    acc.length + (ds.map fun d => (its d).length).sum < 4096 → Q (acc ++ ds.flatMap fun d => ((its d).filter (k d)).map (f d)) → sc2D g tt fi1 g1 tt1 te vs1 δw ds acc Q
  | [], acc, _, _, _, _, q => by
    rw [List.flatMap_nil, List.append_nil] at q
    exact q
  | d :: ds, acc, h1, h2, hf, hl, q => by
    rw [List.map_cons, List.sum_cons] at hl
    unfold sc2D
    refine h1 d List.mem_cons_self (fun δ3 es => inS g1 tt1 te δ3 es acc fun acc' => sc2D g tt fi1 g1 tt1 te vs1 δw ds acc' Q) _ ?_
    refine inS_of (its d) acc (fun e he => h2 d List.mem_cons_self e he) (fun e he => hf d List.mem_cons_self e he) (by omega) ?_
    refine sc2D_of its δe k f ds _ (fun x hx => h1 x (List.mem_cons_of_mem _ hx)) (fun x hx => h2 x (List.mem_cons_of_mem _ hx)) (fun x hx => hf x (List.mem_cons_of_mem _ hx)) ?_ ?_
    · rw [List.length_append, List.length_map]
      have := List.length_filter_le (k d) (its d)
      omega
    · rw [List.flatMap_cons, ← List.append_assoc] at q
      exact q
/-! ### masks of places -/
def maskN (w : List Int) : Nat := w.foldl (fun m c => m ||| 2 ^ c.toNat) 0
theorem maskN_snoc (w : List Int) (c : Int) : maskN (w ++ [c]) = maskN w ||| 2 ^ c.toNat := by
  unfold maskN
  rw [List.foldl_append]; rfl
theorem maskN_bit {w : List Int} (hw : ∀ c ∈ w, 0 ≤ c) {i : Int} (hi : 0 ≤ i) : (maskN w).testBit i.toNat = decide (i ∈ w) := by
  have key : ∀ (w : List Int) (m : Nat), (∀ c ∈ w, 0 ≤ c) → (w.foldl (fun m c => m ||| 2 ^ c.toNat) m).testBit i.toNat = (m.testBit i.toNat || decide (i ∈ w)) := fun w => by
    induction w with
    | nil => intro m _; simp
    | cons c w ih =>
      intro m h
      rw [List.foldl_cons, ih _ fun x hx => h x (List.mem_cons_of_mem _ hx), Nat.testBit_or, Nat.testBit_two_pow, Bool.or_assoc]
      congr 1
      have hc := h c List.mem_cons_self
      rw [Bool.eq_iff_iff]
      simp only [Bool.or_eq_true, decide_eq_true_eq, List.mem_cons]
      constructor
      · rintro (h1 | h1)
        · exact .inl (by omega)
        · exact .inr h1
      · rintro (h1 | h1)
        · exact .inl (by omega)
        · exact .inr h1
  unfold maskN
  rw [key w 0 hw, Nat.zero_testBit, Bool.false_or]
theorem maskN_lt {w : List Int} (hw : ∀ c ∈ w, c < 6) : maskN w < 64 := by
  have key : ∀ (w : List Int) (m : Nat), (∀ c ∈ w, c < 6) → m < 2 ^ 6 → w.foldl (fun m c => m ||| 2 ^ c.toNat) m < 2 ^ 6 := fun w => by
    induction w with
    | nil => intro m _ h; exact h
    | cons c w ih =>
      intro m h hm
      rw [List.foldl_cons]
      refine ih _ (fun x hx => h x (List.mem_cons_of_mem _ hx)) (Nat.or_lt_two_pow hm (Nat.pow_lt_pow_right (by decide) ?_))
      have := h c List.mem_cons_self
      omega
  exact key w 0 hw (by decide)
theorem bit_free {m : Nat} {c : Int} (hc : 0 ≤ c) : (Builtin.bitAnd ((m : Int) / 2 ^ c.toNat) 1 != 0) = m.testBit c.toNat := by
  rw [show ((m : Int) / 2 ^ c.toNat) = ((m / 2 ^ c.toNat : Nat) : Int) by simp, show (1 : Int) = ((1 : Nat) : Int) from rfl, bitAnd_pp (Int.natCast_nonneg _) (Int.natCast_nonneg _), Int.toNat_natCast, Int.toNat_natCast, Nat.and_one_is_mod, Nat.testBit_eq_decide_div_mod_eq]
  rcases Nat.mod_two_eq_zero_or_one (m / 2 ^ c.toNat) with h | h <;> rw [h] <;> rfl
theorem bor_put {m : Nat} {c : Int} : Builtin.bitOr (m : Int) ((2 ^ c.toNat : Nat) : Int) = ((m ||| 2 ^ c.toNat : Nat) : Int) := by
  rw [bitOr_nn (Int.natCast_nonneg _) (Int.natCast_nonneg _)]
  rfl
end L3

namespace L3
open PySem PySem.Spec PyProof.Rows L2
/-! list * int -/
def repLD : D → D → DP → Prop
  | .lst ds, .int k, P => 0 ≤ k ∧ k ≤ 1000 ∧ ds.length ≤ 1000 ∧ P (.lst (List.replicate k.toNat ds).flatten)
  | _, _, _ => False
theorem rep_len {α : Type} (n : Nat) (xs : List α) : (List.replicate n xs).flatten.length = n * xs.length := by
  rw [List.length_flatten, List.map_replicate, List.sum_replicate_nat]
theorem od_repL {K : PySem.W.Frag} : OpD K rRep repLD := fun r A H x y d e P Q w hx hy h q => by
  cases d with
  | lst ds =>
    cases e with
    | int k =>
      obtain ⟨k0, k1, hl, h⟩ := h
      cases hy
      obtain ⟨a, xs, rfl, na, e1, z, t⟩ := hx.sqL
      have hln := t.length
      have hz : xs.length * k.toNat ≤ 1000 * 1000 := Nat.mul_le_mul (by omega) (by omega)
      refine ⟨a, k, xs, rfl, rfl, e1, by omega, by omega, by rw [sizeLine_eq]; omega, fun p np => q _ _ _ h (Ext.upd np) (w.rnd.upd np) (w.lst np ?_ (t.rep k.toNat))⟩
      rw [rep_len, Nat.mul_comm, sizeLine_eq]; omega
    | _ => exact h.elim
  | _ => exact h.elim
/-! a built-in's call, its argument never there -/
section
variable {X : Cx} {E : XK} {e : Expr} {es : List Expr} {kws : List Keyword} {fa : DA} {p pos : Pos} {x : Str} {id : String} {ks : List Str}
theorem e_deadB (hg : Gl X x) (hm : X.mg x = none) (hv : bootBuiltins x = some (.builtin id)) (ha : PA X (e :: es) (tA X.K E fa)) (hn : x ≠ "__name__" := by decide) (hdb : (x == ("__debug__" : Str)) = false := by decide)
    (he : backTo pos (starEach (e :: es) X.env) = (false, eval e X.env) :: backTo pos (starEach es X.env) := by rfl) (hpl : (backTo pos (starEach (e :: es) X.env)).any (·.1) = false := by rfl)
    (hall : (backToKw pos (keywordEach kws X.env)).all (·.1.isSome) = true := by rfl) (hnone : (backToKw pos (keywordEach kws X.env)).any (·.1.isNone) = false := by rfl) (hks : (backToKw pos (keywordEach kws X.env)).filterMap (·.1) = ks := by rfl) :
    PE X (.Call (.Name x p) (e :: es) kws pos) (tE X.K E (fun δ P Z => fa δ (fun _ => False) Z)) :=
  PE.imp (pe_callBK (r := fun _ _ _ _ => False) (tk := fun _ _ _ => False) (fun _ _ _ _ _ _ _ _ _ _ _ _ z => z.elim) hg hm hv ha ⟨fun _ _ _ _ _ _ _ z => z.elim⟩ hn hdb he hpl hall hnone hks)
    fun σ H Q ⟨r, A, δ, P, Z, R, h, hq, hz⟩ => ⟨r, A, δ, _, Z, R, h, fun _ _ _ z => z.elim, hz⟩
end
end L3

namespace L3
open PySem PySem.Spec PyProof.Rows L2
/-! own lists, further: made by list(e), an item stored, an item read, read as a whole by what hands back a flat value -/
section
variable {K : PySem.W.Frag} {r : Addr} {A0 : Addr → Prop} {H0 H : Hp} {σ : L2.St} {δ : Env} {i : Nat}
theorem SR.put (h : SR K r A0 H0 σ H δ) {ds ds' : List D} {l : Addr} {xs' : List V} (hi : δ[i]? = some (.own ds)) (e1 : σ[i]? = some (some (.ref l))) (t : DRs K r (Av A0 r σ δ) H xs' ds') (z : xs'.length ≤ sizeLine) (lr : l ≠ r) :
    SR K r A0 H0 σ (upd H l (.lst xs')) (δ.set i (.own ds')) := by
  have hA : Av A0 r σ δ l := .inr (.inr ⟨i, ds, hi, e1⟩)
  have hil := (List.getElem?_eq_some_iff.mp hi).1
  have ea : ExtA (Av A0 r σ δ) H (upd H l (.lst xs')) := fun b o nb q => by rw [upd_ne (fun y => nb (by rw [y]; exact hA))]; exact q
  have rn : RndOk r (upd H l (.lst xs')) := by
    obtain ⟨ns, f1, f2⟩ := h.er.rnd
    exact ⟨ns, by rw [upd_ne (Ne.symm lr)]; exact f1, f2⟩
  have hsl : ∀ (j : Nat) (s : Sl), (δ.set i (.own ds'))[j]? = some s → (i = j ∧ s = .own ds') ∨ (i ≠ j ∧ δ[j]? = some s) := fun j s q => by
    by_cases hj : i = j
    · subst hj
      rw [List.getElem?_set_self hil] at q; cases q; exact .inl ⟨rfl, rfl⟩
    · rw [List.getElem?_set_ne hj] at q; exact .inr ⟨hj, q⟩
  have own0 : ∀ (j : Nat) es, (δ.set i (.own ds'))[j]? = some (.own es) → ∃ es', δ[j]? = some (.own es') := fun j es q => by
    rcases hsl j _ q with ⟨e, _⟩ | ⟨_, q'⟩
    · exact ⟨ds, by rw [← e]; exact hi⟩
    · exact ⟨es, q'⟩
  refine SR.of (A := Av A0 r σ δ) ⟨rn, h.er.ar, fun b hb => ?_, by rw [List.length_set]; exact h.er.len, fun j d' q => ?_, fun j es q => ?_, fun j k es fs m hjk q1 q2 q3 q4 => ?_⟩ (fun b hb => .inl hb) (fun b o hr q => ?_) (fun j es m q1 q2 => ?_) h.a0
  · by_cases hb' : b = l
    · rw [hb', upd_same]; simp
    · rw [upd_ne hb']; exact h.er.all b hb
  · rcases hsl j _ q with ⟨_, y⟩ | ⟨_, q'⟩
    · cases y
    · obtain ⟨u, f1, f2⟩ := h.er.val j d' q'
      exact ⟨u, f1, f2.ext ea⟩
  · rcases hsl j _ q with ⟨e, y⟩ | ⟨hj, q'⟩
    · cases y
      subst e
      exact ⟨l, xs', e1, hA, lr, upd_same, z, t.ext ea⟩
    · obtain ⟨m, ys, f1, f2, f3, f4, f5, f6⟩ := h.er.own j es q'
      have hml : m ≠ l := fun y => h.er.sep i j _ _ l hj hi q' e1 (by rw [← y]; exact f1)
      exact ⟨m, ys, f1, f2, f3, by rw [upd_ne hml]; exact f4, f5, f6.ext ea⟩
  · obtain ⟨es', q1'⟩ := own0 j es q1
    obtain ⟨fs', q2'⟩ := own0 k fs q2
    exact h.er.sep j k _ _ m hjk q1' q2' q3 q4
  · have q' := h.ext b o hr q
    rw [upd_ne (fun y => by
      have z := h.fresh i ds l hi e1
      rw [← y, q] at z; cases z)]
    exact q'
  · obtain ⟨es', q1'⟩ := own0 j es q1
    exact h.fresh j es' m q1' q2
theorem SR.putOwn (R : SR K r A0 H0 σ H δ) {p : Addr} (np : H p = none) {xs : List V} {ds : List D} (t : DRs K r (Av A0 r σ δ) H xs ds) (z : xs.length ≤ sizeLine) : SR K r A0 H0 (σ.set i (some (.ref p))) (upd H p (.lst xs)) (δ.set i (.own ds)) := by
  have R1 := R.er.bar (H1 := upd H p (.lst xs)) np (by rw [upd_same]; simp) fun b o hb q => by rw [upd_ne hb]; exact q
  have t1 : DRs K r (fun b => Av A0 r σ δ b ∨ b = p) (upd H p (.lst xs)) xs ds :=
    (DRs.bar (A' := fun b => Av A0 r σ δ b ∨ b = p) (fun b o q y => q.elim id fun q => by rw [q, np] at y; cases y) t).ext fun b o nb y => by rw [upd_ne (ne_of_none y np)]; exact y
  have np0 : H0 p = none := by
    cases q : H0 p with
    | none => rfl
    | some o =>
      by_cases hr : p = r
      · obtain ⟨ns, e1, _⟩ := R.er.rnd
        rw [hr, e1] at np; cases np
      · rw [R.ext p o hr q] at np; cases np
  have npr : p ≠ r := fun z => by
    obtain ⟨ns, e1, _⟩ := R.er.rnd
    rw [z, e1] at np; cases np
  have hsl : ∀ (j : Nat) (s : Sl), (δ.set i (.own ds))[j]? = some s → (i = j ∧ s = .own ds) ∨ (i ≠ j ∧ δ[j]? = some s) := fun j s q => by
    by_cases hj : i = j
    · subst hj
      by_cases hl : i < δ.length
      · rw [List.getElem?_set_self hl] at q; cases q; exact .inl ⟨rfl, rfl⟩
      · rw [List.getElem?_eq_none (by rw [List.length_set]; omega)] at q; cases q
    · rw [List.getElem?_set_ne hj] at q; exact .inr ⟨hj, q⟩
  have hil : ∀ (j : Nat) (s : Sl), (δ.set i (.own ds))[j]? = some s → i = j → (σ.set i (some (V.ref p)))[j]? = some (some (V.ref p)) := fun j s q e => by
    subst e
    by_cases hl : i < σ.length
    · exact List.getElem?_set_self hl
    · rw [List.getElem?_eq_none (by rw [List.length_set, R.er.len]; omega)] at q; cases q
  have nown : ∀ (j : Nat) ds l, δ[j]? = some (.own ds) → σ[j]? = some (some (.ref l)) → l ≠ p := fun j ds l q1 q2 z => by
    obtain ⟨l', xs, e1, _, _, e4, _⟩ := R.er.own j ds q1
    rw [e1] at q2; cases q2
    rw [z, np] at e4; cases e4
  refine SR.of (A := fun b => Av A0 r σ δ b ∨ b = p) ⟨R1.rnd, R1.ar, R1.all, by rw [List.length_set, List.length_set]; exact R1.len, fun j d q => ?_, fun j ds q => ?_, fun j k es fs l hjk q1 q2 q3 q4 => ?_⟩
    (fun b hb => .inl (.inl hb)) (R.ext.trans (Ext.upd np)) (fun j es l q1 q2 => ?_) R.a0
  · rcases hsl j _ q with ⟨_, z⟩ | ⟨hj, q⟩
    · cases z
    · rw [List.getElem?_set_ne hj]; exact R1.val j d q
  · rcases hsl j _ q with ⟨e, y⟩ | ⟨hj, q'⟩
    · cases y
      exact ⟨p, xs, hil j _ q e, .inr rfl, npr, upd_same, z, t1⟩
    · rw [List.getElem?_set_ne hj]; exact R1.own j ds q'
  · rcases hsl j _ q1 with ⟨e1, z1⟩ | ⟨hj, q1'⟩
    · rcases hsl k _ q2 with ⟨e2, z2⟩ | ⟨hk, q2'⟩
      · exact hjk (e1.symm.trans e2)
      · rw [hil j _ q1 e1] at q3; cases q3
        rw [List.getElem?_set_ne hk] at q4
        exact nown k _ _ q2' q4 rfl
    · rcases hsl k _ q2 with ⟨e2, z2⟩ | ⟨hk, q2'⟩
      · rw [hil k _ q2 e2] at q4; cases q4
        rw [List.getElem?_set_ne hj] at q3
        exact nown j _ _ q1' q3 rfl
      · rw [List.getElem?_set_ne hj] at q3
        rw [List.getElem?_set_ne hk] at q4
        exact R.er.sep j k _ _ l hjk q1' q2' q3 q4
  · rcases hsl j _ q1 with ⟨e1, z1⟩ | ⟨hj, q1'⟩
    · rw [hil j _ q1 e1] at q2; cases q2; exact np0
    · rw [List.getElem?_set_ne hj] at q2
      exact R.fresh j es l q1' q2
end
/-- the members of a list or tuple -/
def memD : D → (List D → Prop) → Prop
  | .lst ds, P => P ds
  | .tup ds, P => P ds
  | _, _ => False
section
variable {X : Cx} {E : XK} {e ix : Expr} {fe fx : DE} {pos pos2 p' cp lp : Pos} {i : Nat} {x : Str}
/-- x = list(e) -/
theorem s_ownL (hN : X.N.Nodup) (hi : X.N[i]? = some x) (hx : Loc X.env.scope x) (hg : Gl X "list") (hm : X.mg "list" = none) (he : PE X e (tE X.K E fe)) (na : starEach [e] X.env = (false, eval e X.env) :: starEach [] X.env := by rfl)
    (hs : swapsWith (.Call (.Name "list" lp) [e] [] cp) (some (.Name x p')) pos.line X.env = pure false := by rfl)
    (hf : X.fn x = true ∨ X.env.scope.names.lookup x = some .local := by first | exact .inl rfl | exact .inr rfl | assumption) :
    PS X (.Assign [.Name x p'] (.Call (.Name "list" lp) [e] [] cp) pos) (tS X.K E (fun P δ => fe δ (fun d => memD d fun ds => P.nx (δ.set i (.own ds))) P.ex)) :=
  PS.imp (ps_set hN hi hx (pe_callTy call_list_of hg hm (by decide +kernel) (pa_cons he pa_nil na) (by decide) (by decide) na) hs hf) fun Dd σ H ⟨r, A0, H0, δ, P, R, h, L⟩ =>
  use_of R L h fun d v H' h2 x2 n2 r2 => by
    have R2 := R.move x2 n2
    cases d with
    | lst ds =>
      obtain ⟨a, xs, rfl, na, e1, z, t⟩ := r2.sqL
      exact ⟨a, xs, rfl, .inl (SqL.of e1), fun l nl => L.nx _ _ _ h2 (R2.putOwn nl t z)⟩
    | tup ds =>
      obtain ⟨a, xs, rfl, e1, z, t⟩ := r2.sqT
      exact ⟨a, xs, rfl, .inr e1, fun l nl => L.nx _ _ _ h2 (R2.putOwn nl t z)⟩
    | _ => exact h2.elim
theorem DRs.setAt {K : PySem.W.Frag} {r : Addr} {A : Addr → Prop} {H : Hp} : ∀ {vs : List V} {ds : List D} {v : V} {d : D} {j : Nat}, DRs K r A H vs ds → DR K r A H v d → DRs K r A H (vs.set j v) (ds.set j d)
  | _, _, _, _, _, .nil, _ => .nil
  | _, _, _, _, 0, .cons _ t, h => .cons h t
  | _, _, _, _, _ + 1, .cons a t, h => .cons a (t.setAt h)
/-- x[ix] = e, x an own list -/
theorem s_setIx (hN : X.N[i]? = some x) (hv : Vis X.env.scope x) (he : PE X e (tE X.K E fe)) (hx : PE X ix (tE X.K E fx)) (hd : (x == ("__debug__" : Str)) = false := by decide) (hcd : (x == ("__classdict__" : Str)) = false := by decide)
    (ha : ∀ v, assign (.Subscript (.Name x p') ix pos2) X.env v = (do
      let ov ← holding [v] (eval (.Name x p') X.env)
      let iv ← holding [v, ov] (eval ix X.env)
      standAt pos2
      holding [v, ov, iv] (setItem ov iv v)
      release [v, ov, iv] []) := by intro _; rfl)
    (hs : swapsWithSole [.Subscript (.Name x p') ix pos2] e pos.line X.env = pure false := by rfl) (hw : swappedStores [.Subscript (.Name x p') ix pos2] e X.env = pure none := by rfl)
    (h1 : (assignEach [.Subscript (.Name x p') ix pos2] X.env).map (·.2) = [assign (.Subscript (.Name x p') ix pos2) X.env] := by rfl) :
    PS X (.Assign [.Subscript (.Name x p') ix pos2] e pos) (tS X.K E (fun P δ => fe δ (fun d => ∃ ds, δ[i]? = some (.own ds) ∧ fx δ (fun d' => ∃ k j, d' = .int k ∧ ixN ds.length k = some j ∧ P.nx (δ.set i (.own (ds.set j d)))) P.ex) P.ex)) :=
  PS.imp (ps_asg he (pg_sub (pe_var hN hv hd hcd) hx set_list ha) hs hw h1) fun Dd σ H ⟨r, A0, H0, δ, P, R, h, L⟩ =>
  use_of R L h fun d v H1 ⟨ds, ho, h2⟩ x2 n2 r2 => by
    have R2 := R.move x2 n2
    obtain ⟨l, xs, e1, _⟩ := R2.er.own i ds ho
    refine ⟨.ref l, e1, use_of R2 L h2 fun d' v' H2 h3 x3 n3 r3 => ?_⟩
    obtain ⟨k, j, rfl, q3, q4⟩ := h3
    cases r3
    have R3 := R2.move x3 n3
    obtain ⟨l', xs, f1, f2, f3, f4, f5, f6⟩ := R3.er.own i ds ho
    rw [e1] at f1
    cases f1
    have ln := f6.length
    exact ⟨l, xs, k, j, rfl, rfl, f4, by rw [ln]; exact q3, L.nx _ _ _ q4 (R3.put ho e1 (f6.setAt (r2.ext (x3.toA R2.er.ar))) (by rw [List.length_set]; exact f5) f3)⟩
/-- an item of an own list -/
theorem e_ownIx (hN : X.N[i]? = some x) (hv : Vis X.env.scope x) (hx : PE X ix (tE X.K E fx)) (hs : PlainIx ix) (hd : (x == ("__debug__" : Str)) = false := by decide) (hcd : (x == ("__classdict__" : Str)) = false := by decide) :
    PE X (.Subscript (.Name x p') ix pos) (tE X.K E (fun δ P Z => ∃ ds, δ[i]? = some (.own ds) ∧ fx δ (fun d' => ixD (.lst ds) d' P) Z)) :=
  PE.imp (pe_ix or_ix (pe_var hN hv hd hcd) hx hs) fun σ H Q ⟨r, A, δ, P, Z, R, ⟨ds, ho, h⟩, hq, hz⟩ => by
    obtain ⟨l, xs, e1, _⟩ := R.own i ds ho
    refine ⟨.ref l, e1, r, A, δ, _, Z, R, h, fun d' v' H2 h3 x3 n3 r3 => ?_, hz⟩
    have R3 := R.ext x3 n3
    obtain ⟨l', xs, f1, f2, f3, f4, f5, f6⟩ := R3.own i ds ho
    rw [e1] at f1
    cases f1
    cases d' with
    | int k =>
      cases r3
      obtain ⟨y, hy, hP⟩ := h3
      obtain ⟨v, hv', rv⟩ := f6.atI hy
      exact .inl (.inl ⟨l, xs, k, v, rfl, rfl, SqL.of f4, hv', hq _ _ _ hP x3 n3 rv⟩)
    | _ => exact h3.elim
/-- tuple(x), x an own list -/
theorem e_ownTup (hN : X.N[i]? = some x) (hv : Vis X.env.scope x) (hg : Gl X "tuple") (hm : X.mg "tuple" = none) (hd : (x == ("__debug__" : Str)) = false := by decide) (hcd : (x == ("__classdict__" : Str)) = false := by decide)
    (na : starEach [.Name x p'] X.env = (false, eval (.Name x p') X.env) :: starEach [] X.env := by rfl) :
    PE X (.Call (.Name "tuple" lp) [.Name x p'] [] cp) (tE X.K E (fun δ P _ => ∃ ds, δ[i]? = some (.own ds) ∧ P (.tup ds))) :=
  PE.imp (pe_callTy call_tuple_of hg hm (by decide +kernel) (pa_cons (pe_var hN hv hd hcd) pa_nil na) (by decide) (by decide) na) fun σ H Q ⟨r, A, δ, P, Z, R, ⟨ds, ho, h⟩, hq, hz⟩ => by
    obtain ⟨l, xs, e1, f2, f3, f4, f5, f6⟩ := R.own i ds ho
    exact ⟨.ref l, e1, l, xs, rfl, .inl ⟨SqL.of f4, fun p np => hq _ _ _ h (Ext.upd np) (R.rnd.upd np) (R.wd.tup np f5 f6)⟩⟩
theorem DR.flatA {K : PySem.W.Frag} {r : Addr} {A A' : Addr → Prop} {H : Hp} {v : V} {d : D} (h : DR K r A H v d) (f : d.flat = true) : DR K r A' H v d := by
  cases h <;> first | exact .non | exact .bl _ | exact .int _ | exact .str _ | cases f
/-- an own list read as a value, by what hands back a flat one -/
theorem e_peek (i : Nat) (h : PE X e (tE X.K E fe)) : PE X e (tE X.K E (fun δ P _ => fe (frz i δ) (fun d => d.flat = true ∧ P d) XF)) :=
  PE.imp h fun σ H Q ⟨r, A, δ, P, Z, R, h, hq, hz⟩ => by
    by_cases hno : frz i δ = δ
    · have h' : fe (frz i δ) (fun d => d.flat = true ∧ P d) XF := h
      rw [hno] at h'
      exact ⟨r, A, δ, _, XF, R, h', fun d v H' ⟨_, p⟩ => hq d v H' p, fun _ _ _ _ z => z.elim⟩
    · have h' : fe (frz i δ) (fun d => d.flat = true ∧ P d) XF := h
      have hex : ∃ ds, δ[i]? = some (.own ds) ∧ frz i δ = δ.set i (.val (.lst ds)) := by
        unfold frz at hno ⊢
        split at hno
        · rename_i ds ho
          exact ⟨ds, ho, rfl⟩
        · exact absurd rfl hno
      obtain ⟨ds, ho, ef⟩ := hex
      rw [ef] at h'
      clear h
      have h := h'
      · skip
        obtain ⟨l, xs, e1, e2, e3, e4, e5, e6⟩ := R.own i ds ho
        have hsl : ∀ (j : Nat) (s : Sl), (δ.set i (.val (.lst ds)))[j]? = some s → (i = j ∧ s = .val (.lst ds)) ∨ (i ≠ j ∧ δ[j]? = some s) := fun j s q => by
          by_cases hj : i = j
          · subst hj
            rw [List.getElem?_set_self (List.getElem?_eq_some_iff.mp ho).1] at q; cases q; exact .inl ⟨rfl, rfl⟩
          · rw [List.getElem?_set_ne hj] at q; exact .inr ⟨hj, q⟩
        have R2 : ER X.K r (fun b => A b ∧ b ≠ l) σ H (δ.set i (.val (.lst ds))) := by
          refine ⟨R.rnd, ⟨R.ar, fun z => e3 z.symm⟩, fun b hb => R.all b hb.1, by rw [List.length_set]; exact R.len, fun j d q => ?_, fun j es q => ?_, fun j k es fs m hjk q1 q2 q3 q4 => ?_⟩
          · rcases hsl j _ q with ⟨e, z⟩ | ⟨hj, q'⟩
            · cases z
              subst e
              exact ⟨.ref l, e1, .lst (fun z => z.2 rfl) e4 e5 (e6.bar fun b o hb _ => hb.1)⟩
            · obtain ⟨v, f1, f2⟩ := R.val j d q'
              exact ⟨v, f1, f2.bar fun b o hb _ => hb.1⟩
          · rcases hsl j _ q with ⟨e, z⟩ | ⟨hj, q'⟩
            · cases z
            · obtain ⟨m, ys, f1, f2, f3, f4, f5, f6⟩ := R.own j es q'
              exact ⟨m, ys, f1, ⟨f2, fun z => R.sep i j _ _ l hj ho q' e1 (z ▸ f1)⟩, f3, f4, f5, f6.bar fun b o hb _ => hb.1⟩
          · rcases hsl j _ q1 with ⟨e, z⟩ | ⟨hj, q1'⟩
            · cases z
            · rcases hsl k _ q2 with ⟨e, z⟩ | ⟨hk, q2'⟩
              · cases z
              · exact R.sep j k _ _ m hjk q1' q2' q3 q4
        exact ⟨r, _, _, _, XF, R2, h, fun d v H' ⟨f, p⟩ x1 n1 rv => hq d v H' p x1 n1 (rv.flatA f), fun _ _ _ _ z => z.elim⟩
end
/-! slices -/
def cutD (ds : List D) (lo hi : Option Int) : List D := (ds.drop (HT.sIx ds.length 0 lo)).take (HT.sIx ds.length ds.length hi - HT.sIx ds.length 0 lo)
def slD (lo hi : Option Int) : D → DP → Prop
  | .tup ds, P => P (.tup (cutD ds lo hi))
  | .lst ds, P => P (.lst (cutD ds lo hi))
  | _, _ => False
theorem DRs.drop {K : PySem.W.Frag} {r : Addr} {A : Addr → Prop} {H : Hp} : ∀ {vs : List V} {ds : List D} (n : Nat), DRs K r A H vs ds → DRs K r A H (vs.drop n) (ds.drop n)
  | _, _, 0, t => t
  | _, _, _ + 1, .nil => .nil
  | _, _, n + 1, .cons _ t => t.drop n
theorem DRs.take {K : PySem.W.Frag} {r : Addr} {A : Addr → Prop} {H : Hp} : ∀ {vs : List V} {ds : List D} (n : Nat), DRs K r A H vs ds → DRs K r A H (vs.take n) (ds.take n)
  | _, _, 0, _ => .nil
  | _, _, _ + 1, .nil => .nil
  | _, _, n + 1, .cons a t => .cons a (t.take n)
theorem DRs.cut {K : PySem.W.Frag} {r : Addr} {A : Addr → Prop} {H : Hp} {vs : List V} {ds : List D} (t : DRs K r A H vs ds) (lo hi : Option Int) : DRs K r A H (cutV vs lo hi) (cutD ds lo hi) := by
  unfold cutV cutD
  rw [t.length]
  exact (t.drop _).take _
/-- the part of a slice -/
abbrev DO := Env → (Option Int → Prop) → XP → Prop
def tOD (K : PySem.W.Frag) (E : XK) (f : DO) : TO := fun σ H Q => ∃ r A δ P Z, ER K r A σ H δ ∧ f δ P Z ∧ (∀ o H', P o → Ext r H H' → RndOk r H' → Q o H') ∧ (∀ x c dd H', Z x → Ext r H H' → RndOk r H' → XR K r A H' c dd x → E c dd H')
section
variable {X : Cx} {E : XK} {e a : Expr} {lo hi : Option Expr} {fe fa : DE} {fl fh : DO} {pos p2 : Pos}
theorem PO.imp {e : Option Expr} {t t' : TO} (h : PO X e t) (w : ∀ σ H Q, t' σ H Q → t σ H Q) : PO X e t' := ⟨fun pins s σ H Q I q => h.run pins s σ H Q I (w σ H Q q)⟩
theorem o_none : PO X none (tOD X.K E (fun _ P _ => P none)) := PO.imp po_none fun σ H Q ⟨r, A, δ, P, Z, R, h, hq, _⟩ => hq none H h .refl R.rnd
theorem o_some (h : PE X a (tE X.K E fa)) : PO X (some a) (tOD X.K E (fun δ P Z => fa δ (fun d => ∃ k, d = .int k ∧ P (some k)) Z)) := PO.imp (po_some h) fun σ H Q ⟨r, A, δ, P, Z, R, h, hq, hz⟩ =>
  ⟨r, A, δ, _, Z, R, h, fun d v H' h3 x1 n1 r1 => by
    obtain ⟨k, rfl, p⟩ := h3
    cases r1
    exact ⟨k, rfl, hq _ _ p x1 n1⟩, hz⟩
theorem e_slice (he : PE X e (tE X.K E fe)) (hl : PO X lo (tOD X.K E fl)) (hh : PO X hi (tOD X.K E fh)) : PE X (.Subscript e (.Slice lo hi none p2) pos) (tE X.K E (fun δ P Z => fe δ (fun d => fl δ (fun l => fh δ (fun u => slD l u d P) Z) Z) Z)) :=
  PE.imp (pe_slice (sl_tupA.or sl_list) he hl hh) fun σ H Q ⟨r, A, δ, P, Z, R, h, hq, hz⟩ =>
  ⟨r, A, δ, _, Z, R, h, fun d v H1 h1 x1 n1 r1 => ⟨r, A, δ, _, Z, R.ext x1 n1, h1, fun l H2 h2 x2 n2 => ⟨r, A, δ, _, Z, (R.ext x1 n1).ext x2 n2, h2, fun u H3 h3 x3 n3 => by
    have w3 := (((R.ext x1 n1).ext x2 n2).ext x3 n3).wd
    have r3 := (r1.ext (x2.toA R.ar)).ext (x3.toA R.ar)
    have x123 := (x1.trans x2).trans x3
    have cl : ∀ ys : List V, ys.length ≤ sizeLine → (cutV ys l u).length ≤ sizeLine := fun ys z => Nat.le_trans (cutV_length ys l u) z
    cases d with
    | tup ds =>
      have r4 := r3
      obtain ⟨a, xs, rfl, e1, z, t⟩ := r3.sqT
      refine .inl ⟨a, xs, rfl, e1, fun hw => ?_, fun _ p np => hq _ _ _ h3 (x123.trans (Ext.upd np)) (n3.upd np) (w3.tup np (cl xs z) (t.cut l u))⟩
      have e : cutD ds l u = ds := by
        unfold cutD
        rw [← t.length, hw.1, hw.2, t.length]
        simp
      have h3' : P (.tup (cutD ds l u)) := h3
      rw [e] at h3'
      exact hq _ _ _ h3' x123 n3 r4
    | lst ds =>
      obtain ⟨a, xs, rfl, na, e1, z, t⟩ := r3.sqL
      exact .inr ⟨a, xs, rfl, SqL.of e1, fun p np => hq _ _ _ h3 (x123.trans (Ext.upd np)) (n3.upd np) (w3.lst np (cl xs z) (t.cut l u))⟩
    | _ => exact h3.elim, fun x c dd H' z x3 => hz x c dd H' z ((x1.trans x2).trans x3)⟩, fun x c dd H' z x2 => hz x c dd H' z (x1.trans x2)⟩, hz⟩
end
theorem cut_take (ds : List D) (k : Nat) (h : k ≤ ds.length) : cutD ds none (some (k : Int)) = ds.take k := by
  unfold cutD
  rw [HT.sIx_none, HT.sIx_nat, Nat.min_eq_left h]
  simp
theorem cut_drop (ds : List D) (k : Nat) (h : k ≤ ds.length) : cutD ds (some (k : Int)) none = ds.drop k := by
  unfold cutD
  rw [HT.sIx_none, HT.sIx_nat, Nat.min_eq_left h]
  exact List.take_of_length_le (by rw [List.length_drop]; omega)
end L3

namespace L3
open PySem PySem.Spec PyProof.Rows L2
/-! what may become an own list: a value, or a list that is new -/
def SlV (K : PySem.W.Frag) (r : Addr) (A : Addr → Prop) (H H' : Hp) (v : V) : Sl → Prop
  | .val d => DR K r A H' v d
  | .own ds => ∃ l xs, v = .ref l ∧ H l = none ∧ H' l = some (.lst xs) ∧ xs.length ≤ sizeLine ∧ DRs K r (fun b => A b ∨ b = l) H' xs ds
  | .emp => False
abbrev DX := Env → (Sl → Prop) → XP → Prop
def tX (K : PySem.W.Frag) (E : XK) (f : DX) : TE := fun σ H Q => ∃ r A δ P Z, ER K r A σ H δ ∧ f δ P Z ∧
  (∀ s v H', P s → Ext r H H' → RndOk r H' → SlV K r A H H' v s → Q v H') ∧
  (∀ x c dd H', Z x → Ext r H H' → RndOk r H' → XR K r A H' c dd x → E c dd H')
section
variable {X : Cx} {E : XK} {e a b : Expr} {fe : DE} {fx fy : DX} {pos p2 cp lp : Pos}
theorem x_val (h : PE X e (tE X.K E fe)) : PE X e (tX X.K E (fun δ P Z => fe δ (fun d => P (.val d)) Z)) := PE.imp h fun σ H Q ⟨r, A, δ, P, Z, R, h, hq, hz⟩ => ⟨r, A, δ, _, Z, R, h, fun d v H' p x1 n1 r1 => hq _ _ _ p x1 n1 r1, hz⟩
theorem x_nil : PE X (.List [] p2) (tX X.K E (fun _ P _ => P (.own []))) := PE.imp (pe_lst pa_nil) fun σ H Q ⟨r, A, δ, P, Z, R, h, hq, hz⟩ =>
  ⟨Nat.zero_le _, fun p np => hq _ _ _ h (Ext.upd np) (R.rnd.upd np) ⟨p, [], rfl, np, upd_same, Nat.zero_le _, .nil⟩⟩
theorem x_list (hg : Gl X "list") (hm : X.mg "list" = none) (he : PE X e (tE X.K E fe)) (na : starEach [e] X.env = (false, eval e X.env) :: starEach [] X.env := by rfl) :
    PE X (.Call (.Name "list" lp) [e] [] cp) (tX X.K E (fun δ P Z => fe δ (fun d => memD d fun ds => P (.own ds)) Z)) :=
  PE.imp (pe_callTy call_list_of hg hm (by decide +kernel) (pa_cons he pa_nil na) (by decide) (by decide) na) fun σ H Q ⟨r, A, δ, P, Z, R, h, hq, hz⟩ => ⟨r, A, δ, _, Z, R, h, fun d v H1 h1 x1 n1 r1 => by
    have w1 := (R.ext x1 n1).wd
    have fin : ∀ (ys : List V) (ds : List D), ys.length ≤ sizeLine → DRs X.K r A H1 ys ds → P (.own ds) → ∀ l, H1 l = none → Q (.ref l) (upd H1 l (.lst ys)) := fun ys ds z t p l nl => by
      have nl0 : H l = none := by
        cases q : H l with
        | none => rfl
        | some o =>
          by_cases hr : l = r
          · obtain ⟨ns, e, _⟩ := n1
            rw [hr, e] at nl; cases nl
          · rw [x1 l o hr q] at nl; cases nl
      exact hq _ _ _ p (x1.trans (Ext.upd nl)) (n1.upd nl) ⟨l, ys, rfl, nl0, upd_same, z, (DRs.bar (A' := fun b => A b ∨ b = l) (fun b o q y => q.elim id fun q => by rw [q, nl] at y; cases y) t).ext ((Ext.upd nl).toA (.inl R.ar))⟩
    cases d with
    | lst ds =>
      obtain ⟨a, xs, rfl, na, e1, z, t⟩ := r1.sqL
      exact ⟨a, xs, rfl, .inl (SqL.of e1), fin xs ds z t h1⟩
    | tup ds =>
      obtain ⟨a, xs, rfl, e1, z, t⟩ := r1.sqT
      exact ⟨a, xs, rfl, .inr e1, fin xs ds z t h1⟩
    | _ => exact h1.elim, hz⟩
end
section
variable {K : PySem.W.Frag} {r : Addr} {A0 : Addr → Prop} {H0 H H' : Hp} {σ : L2.St} {δ : Env} {i : Nat}
theorem SR.adopt (R : SR K r A0 H0 σ H δ) {p : Addr} (np : H p = none) (x1 : Ext r H H') (rn : RndOk r H') {xs : List V} {ds : List D} (e : H' p = some (.lst xs)) (t : DRs K r (fun b => Av A0 r σ δ b ∨ b = p) H' xs ds) (z : xs.length ≤ sizeLine) :
    SR K r A0 H0 (σ.set i (some (.ref p))) H' (δ.set i (.own ds)) := by
  have npr : p ≠ r := fun z => by
    obtain ⟨ns, e1, _⟩ := R.er.rnd
    rw [z, e1] at np; cases np
  have nown : ∀ (j : Nat) ds l, δ[j]? = some (.own ds) → σ[j]? = some (some (.ref l)) → l ≠ p := fun j ds l q1 q2 z => by
    obtain ⟨l', xs, e1, _, _, e4, _⟩ := R.er.own j ds q1
    rw [e1] at q2; cases q2
    rw [z, np] at e4; cases e4
  have R0 := R.er.bar (H1 := upd H p (.lst [])) np (by rw [upd_same]; simp) fun b o hb q => by rw [upd_ne hb]; exact q
  have R1 : ER K r (fun b => Av A0 r σ δ b ∨ b = p) σ H' δ := R0.extD (p := p) (.inr rfl) (fun j es q y => nown j es p q y rfl) (fun b o hr hb q => by rw [upd_ne hb] at q; exact x1 b o hr q) (by rw [e]; simp) rn
  have np0 : H0 p = none := by
    cases q : H0 p with
    | none => rfl
    | some o => rw [R.ext p o npr q] at np; cases np
  have hsl : ∀ (j : Nat) (s : Sl), (δ.set i (.own ds))[j]? = some s → (i = j ∧ s = .own ds) ∨ (i ≠ j ∧ δ[j]? = some s) := fun j s q => by
    by_cases hj : i = j
    · subst hj
      by_cases hl : i < δ.length
      · rw [List.getElem?_set_self hl] at q; cases q; exact .inl ⟨rfl, rfl⟩
      · rw [List.getElem?_eq_none (by rw [List.length_set]; omega)] at q; cases q
    · rw [List.getElem?_set_ne hj] at q; exact .inr ⟨hj, q⟩
  have hil : ∀ (j : Nat) (s : Sl), (δ.set i (.own ds))[j]? = some s → i = j → (σ.set i (some (V.ref p)))[j]? = some (some (V.ref p)) := fun j s q e => by
    subst e
    by_cases hl : i < σ.length
    · exact List.getElem?_set_self hl
    · rw [List.getElem?_eq_none (by rw [List.length_set, R.er.len]; omega)] at q; cases q
  refine SR.of (A := fun b => Av A0 r σ δ b ∨ b = p) ⟨R1.rnd, R1.ar, R1.all, by rw [List.length_set, List.length_set]; exact R1.len, fun j d q => ?_, fun j ds q => ?_, fun j k es fs l hjk q1 q2 q3 q4 => ?_⟩
    (fun b hb => .inl (.inl hb)) (R.ext.trans x1) (fun j es l q1 q2 => ?_) R.a0
  · rcases hsl j _ q with ⟨_, z⟩ | ⟨hj, q⟩
    · cases z
    · rw [List.getElem?_set_ne hj]; exact R1.val j d q
  · rcases hsl j _ q with ⟨e', y⟩ | ⟨hj, q'⟩
    · cases y
      exact ⟨p, xs, hil j _ q e', .inr rfl, npr, e, z, t⟩
    · rw [List.getElem?_set_ne hj]; exact R1.own j ds q'
  · rcases hsl j _ q1 with ⟨e1, z1⟩ | ⟨hj, q1'⟩
    · rcases hsl k _ q2 with ⟨e2, z2⟩ | ⟨hk, q2'⟩
      · exact hjk (e1.symm.trans e2)
      · rw [hil j _ q1 e1] at q3; cases q3
        rw [List.getElem?_set_ne hk] at q4
        exact nown k _ _ q2' q4 rfl
    · rcases hsl k _ q2 with ⟨e2, z2⟩ | ⟨hk, q2'⟩
      · rw [hil k _ q2 e2] at q4; cases q4
        rw [List.getElem?_set_ne hj] at q3
        exact nown j _ _ q1' q3 rfl
      · rw [List.getElem?_set_ne hj] at q3
        rw [List.getElem?_set_ne hk] at q4
        exact R1.sep j k _ _ l hjk q1' q2' q3 q4
  · rcases hsl j _ q1 with ⟨e1, z1⟩ | ⟨hj, q1'⟩
    · rw [hil j _ q1 e1] at q2; cases q2; exact np0
    · rw [List.getElem?_set_ne hj] at q2
      exact R.fresh j es l q1' q2
/-- a slot gets what may be an own list -/
theorem SR.setX (R : SR K r A0 H0 σ H δ) (x1 : Ext r H H') (rn : RndOk r H') {v : V} {s : Sl} (h : SlV K r (Av A0 r σ δ) H H' v s) : SR K r A0 H0 (σ.set i (some v)) H' (δ.set i s) := by
  cases s with
  | val d => exact (R.move x1 rn).set h
  | own ds =>
    obtain ⟨l, xs, rfl, h1, h2, h3, h4⟩ := h
    exact R.adopt h1 x1 rn h2 h4 h3
  | emp => exact h.elim
end
section
variable {X : Cx} {E : XK} {e a b : Expr} {fe : DE} {fx fy : DX} {i j : Nat} {x y : Str} {pos p' px py pt : Pos} {kt k2 : Nat} {pt2 : Pos}
theorem s_setX (hN : X.N.Nodup) (hi : X.N[i]? = some x) (hx : Loc X.env.scope x) (he : PE X e (tX X.K E fx)) (hs : swapsWith e (some (.Name x p')) pos.line X.env = pure false := by rfl)
    (hf : X.fn x = true ∨ X.env.scope.names.lookup x = some .local := by first | exact .inl rfl | exact .inr rfl | assumption) :
    PS X (.Assign [.Name x p'] e pos) (tS X.K E (fun P δ => fx δ (fun s => P.nx (δ.set i s)) P.ex)) := PS.imp (ps_set hN hi hx he hs hf) fun Dd σ H ⟨r, A0, H0, δ, P, R, h, L⟩ =>
  ⟨r, _, δ, _, P.ex, R.er, h, fun s v H' h2 x2 n2 r2 => L.nx _ _ _ h2 (R.setX x2 n2 r2), fun x c dd H' z e n y => L.ex x c dd H' z (R.ext.trans e) n (y.bar fun b o hb _ => .inl hb)⟩
/-- what the second slot's gets: it stands behind the first one's storing -/
theorem SlV.keep {K : PySem.W.Frag} {r : Addr} {A : Addr → Prop} {H H1 H2 : Hp} {v : V} {s : Sl} (ar : A r) (h : SlV K r A H H1 v s) (x2 : Ext r H1 H2) (rn : RndOk r H) : SlV K r A H H2 v s := by
  cases s with
  | val d => exact DR.ext (x2.toA ar) h
  | own ds =>
    obtain ⟨l, xs, rfl, h1, h2, h3, h4⟩ := h
    refine ⟨l, xs, rfl, h1, x2 l _ (fun z => ?_) h2, h3, h4.ext (x2.toA (.inl ar))⟩
    obtain ⟨ns, e, _⟩ := rn
    rw [z, e] at h1; cases h1
  | emp => exact h.elim
theorem SlV.bar {K : PySem.W.Frag} {r : Addr} {A A' : Addr → Prop} {H H' : Hp} {v : V} {s : Sl} (w : ∀ b, A' b → A b) (h : SlV K r A H H' v s) : SlV K r A' H H' v s := by
  cases s with
  | val d => exact DR.bar (fun b o hb _ => w b hb) h
  | own ds =>
    obtain ⟨l, xs, h1, h2, h3, h4, h5⟩ := h
    exact ⟨l, xs, h1, h2, h3, h4, h5.bar fun b o hb _ => hb.imp (w b) id⟩
  | emp => exact h
theorem av_setX {A0 : Addr → Prop} {r : Addr} {σ : L2.St} {δ : Env} {v : V} {s : Sl} {b : Addr} (hb : Av A0 r (σ.set i (some v)) (δ.set i s) b) : Av A0 r σ δ b ∨ (v = .ref b ∧ ∃ ds, s = .own ds) := by
  rcases hb with hb | hb | ⟨j, ds, q1, q2⟩
  · exact .inl (.inl hb)
  · exact .inl (.inr (.inl hb))
  · by_cases hj : i = j
    · subst hj
      by_cases hl : i < δ.length
      · rw [List.getElem?_set_self hl] at q1
        by_cases hs : i < σ.length
        · rw [List.getElem?_set_self hs] at q2
          cases q1
          cases q2
          exact .inr ⟨rfl, _, rfl⟩
        · rw [List.getElem?_eq_none (by rw [List.length_set]; omega)] at q2; cases q2
      · rw [List.getElem?_eq_none (by rw [List.length_set]; omega)] at q1; cases q1
    · rw [List.getElem?_set_ne hj] at q1 q2
      exact .inl (.inr (.inr ⟨j, ds, q1, q2⟩))
/-- x, y = a, b -/
theorem s_parX (hc : X.calm = true) (hN : X.N.Nodup) (hi : X.N[i]? = some x) (hj : X.N[j]? = some y) (hij : i ≠ j)
    (hx : X.env.scope.names.lookup x = some .local) (hy : X.env.scope.names.lookup y = some .local) (ha : PE X a (tX X.K E fx)) (hb : PE X b (tX X.K E fy))
    (hw : swappedStores [.Tuple [.Name x px, .Name y py] kt pt] (.Tuple [a, b] k2 pt2) X.env = pure (some [x, y]))
    (hs : swapsWithSole [.Tuple [.Name x px, .Name y py] kt pt] (.Tuple [a, b] k2 pt2) pos.line X.env = pure false := by rfl)
    (na : starEach [a, b] X.env = (false, eval a X.env) :: starEach [b] X.env := by rfl) (nb : starEach [b] X.env = (false, eval b X.env) :: starEach [] X.env := by rfl) :
    PS X (.Assign [.Tuple [.Name x px, .Name y py] kt pt] (.Tuple [a, b] k2 pt2) pos) (tS X.K E (fun P δ => fx δ (fun s => fy δ (fun s' => P.nx ((δ.set i s).set j s')) P.ex) P.ex)) :=
  PS.imp (ps_par hc hN hi hj hij hx hy (pa_cons ha (pa_cons hb pa_nil nb) na) hw hs) fun Dd σ H ⟨r, A0, H0, δ, P, R, h, L⟩ =>
  ⟨r, _, δ, _, P.ex, R.er, h, fun s v H1 h2 x1 n1 rv => by
    have hz : ∀ x c dd H', P.ex x → Ext r H1 H' → RndOk r H' → XR X.K r (Av A0 r σ δ) H' c dd x → E c dd H' := fun x c dd H' z e n q => L.ex x c dd H' z ((R.ext.trans x1).trans e) n (q.bar fun b o hb _ => .inl hb)
    have fin : ∀ (A1 : Addr → Prop), ER X.K r A1 σ H1 δ → (∀ b, A0 b → A1 b) → (∀ b, Av A0 r (σ.set i (some v)) (δ.set i s) b → A1 b) → tX X.K E fy σ H1 (fun u H2 => ∃ v' u', [v, u] = [v', u'] ∧ Dd.nx ((σ.set i (some v')).set j (some u')) H2) := fun A1 R1 w0 w =>
      ⟨r, A1, δ, _, P.ex, R1, h2, fun s' u H2 h3 x2 n2 ru => ⟨v, u, rfl, L.nx _ _ _ h3 (((R.setX x1 n1 rv).setX x2 n2 (ru.bar w)))⟩,
        fun x c dd H' z e n q => L.ex x c dd H' z ((R.ext.trans x1).trans e) n (q.bar fun b o hb _ => w0 b hb)⟩
    cases s with
    | val d => exact fin _ (R.er.ext x1 n1) (fun b hb => .inl hb) fun b hb => (av_setX hb).elim id fun ⟨_, ds, z⟩ => by cases z
    | own ds =>
      have rv0 := rv
      obtain ⟨l, xs, rfl, e1, e2, e3, e4⟩ := rv0
      have R0 := R.er.bar (H1 := upd H l (.lst [])) e1 (by rw [upd_same]; simp) fun b o hb q => by rw [upd_ne hb]; exact q
      have nown : ∀ (j : Nat) ds, δ[j]? = some (.own ds) → σ[j]? ≠ some (some (.ref l)) := fun j ds q1 q2 => by
        obtain ⟨l', xs, f1, _, _, f4, _⟩ := R.er.own j ds q1
        rw [f1] at q2; cases q2
        rw [e1] at f4; cases f4
      have R1 : ER X.K r (fun b => Av A0 r σ δ b ∨ b = l) σ H1 δ := R0.extD (p := l) (.inr rfl) (fun j es q => nown j es q) (fun b o hr hb q => by rw [upd_ne hb] at q; exact x1 b o hr q) (by rw [e2]; simp) n1
      exact fin _ R1 (fun b hb => .inl (.inl hb)) fun b hb => (av_setX hb).elim .inl fun ⟨z, _⟩ => by cases z; exact .inr rfl
    | emp => exact rv.elim, fun x c dd H' z e n q => L.ex x c dd H' z (R.ext.trans e) n (q.bar fun b o hb _ => .inl hb)⟩
end
/-! a list or a tuple walked -/
theorem pi_seq {X : Cx} {tg l : Expr} {tl : TE} (hl : PE X l tl) : PI X tg l (fun σ H R => tl σ H fun x H1 => ∃ a, x = .ref a ∧ (((∃ xs, SqL X.K H1 a xs) ∧ R (Itl X.K a) H1) ∨ ((∃ xs, SqT X.K H1 a xs) ∧ R (Itt X.K a) H1))) := by
  refine ⟨fun pins s σ H R I h => thn (hl.run pins s σ H _ I h) fun v s1 ⟨x, H1, I1, r1, a, ex, q1⟩ => ?_⟩
  subst ex
  cases r1
  have fresh : ∀ b ∈ [s1.heap.objs.size], FpOk X pins H1 b := fun b hb => by
    rw [List.mem_singleton.mp hb]
    exact I1.fpOk (Nat.le_refl _) (I1.hok.fresh (Nat.le_refl _))
  rcases q1 with ⟨⟨xs, hq⟩, q⟩ | ⟨⟨xs, hq⟩, q⟩
  · obtain ⟨its, _, p, _⟩ := I1.list hq
    exact wpAny_pyIter_list p.isList ⟨s1.heap.objs.size, [s1.heap.objs.size], _, _, H1, rfl, I1.kept (t' := s1.toks) fun b o e => Heap.get?_push_of_some _ e, turn_list a _, ⟨_, Heap.get?_push_size _ rfl, rfl, rfl⟩, fresh, q⟩
  · obtain ⟨its, _, p, _⟩ := I1.tuple hq
    exact wpAny_pyIter_tuple (show s1.heap.IsTuple a its.toArray from p) ⟨s1.heap.objs.size, [s1.heap.objs.size], _, _, H1, rfl, I1.kept (t' := s1.toks) fun b o e => Heap.get?_push_of_some _ e, turn_tuple a _, ⟨_, Heap.get?_push_size _ rfl, rfl, rfl⟩, fresh, q⟩
theorem i_seq {X : Cx} {E : XK} {tg e : Expr} {f : DE} (h : PE X e (tE X.K E f)) : PI X tg e (tI X.K E (fun δ P Z => f δ (fun d => memD d P) Z)) := PI.imp (pi_seq h) fun σ H R ⟨r, A, δ, P, Z, R0, h2, hq, hz⟩ =>
  ⟨r, A, δ, _, Z, R0, h2, fun d v H1 h3 x1 n1 r1 => by
    cases d with
    | lst ds =>
      obtain ⟨a, xs, rfl, na, e1, z, t⟩ := r1.sqL
      refine ⟨a, rfl, .inl ⟨⟨xs, SqL.of e1⟩, hq ds _ H1 h3 x1 n1 fun i H2 A' ea w wa => ⟨fun hl => ⟨xs, SqL.of (ea a _ na e1), by rw [t.length]; exact hl⟩, fun d hd => ?_⟩⟩⟩
      obtain ⟨u, hu, ru⟩ := t.get hd
      refine ⟨⟨xs, u, SqL.of (ea a _ na e1), hu⟩, ?_⟩
      rintro x H' ⟨rfl, hx⟩
      have := hx xs (SqL.of (ea a _ na e1))
      rw [hu] at this
      cases this
      exact ⟨.refl, w.rnd, ru.move ea wa⟩
    | tup ds =>
      obtain ⟨a, xs, rfl, t, keep, e1⟩ : ∃ a xs, v = .ref a ∧ DRs X.K r A H1 xs ds ∧ (∀ H2, ExtA A H1 H2 → SqT X.K H2 a xs) ∧ SqT X.K H1 a xs := by
        cases r1 with
        | tup n e1 z t => exact ⟨_, _, rfl, t, fun H2 ea => SqT.of (ea _ _ n e1), SqT.of e1⟩
        | ktup o its n e1 c d z w t => exact ⟨_, _, rfl, t, fun H2 ea => .inr ⟨o, its, n, e1, c, d, z, w⟩, .inr ⟨o, its, n, e1, c, d, z, w⟩⟩
      refine ⟨a, rfl, .inr ⟨⟨xs, e1⟩, hq ds _ H1 h3 x1 n1 fun i H2 A' ea w wa => ⟨fun hl => ⟨xs, keep _ ea, by rw [t.length]; exact hl⟩, fun d hd => ?_⟩⟩⟩
      obtain ⟨u, hu, ru⟩ := t.get hd
      refine ⟨⟨xs, u, keep _ ea, hu⟩, ?_⟩
      rintro x H' ⟨rfl, hx⟩
      have := hx xs (keep _ ea)
      rw [hu] at this
      cases this
      exact ⟨.refl, w.rnd, ru.move ea wa⟩
    | _ => exact h3.elim, hz⟩
end L3

namespace L3
open PySem PySem.Spec PyProof.Rows L2
/-! sorted of a tuple of ints, of a text -/
section
variable {X : Cx}
def rSortedTup (K : PySem.W.Frag) : List V → Hp → VK → Prop := fun vs H Q => ∃ (a : Addr) (ns : List Int), vs = [V.ref a] ∧ SqT K H a (ns.map V.int) ∧ ns.length < 64 ∧
  ∀ (ms : List Int) (p : Addr), ms.Perm ns → ms.Pairwise (· ≤ ·) → H p = none → Q (.ref p) (upd H p (.lst (ms.map V.int)))
theorem cr_sortedTup (hc : X.calm = true) : CallR X (.builtin "sorted") (rSortedTup X.K) := by
  intro pins s σ H vs us Q I r h
  obtain ⟨a, ns, rfl, ht, h64, q⟩ := h
  obtain ⟨its, rv, ⟨o, ho, hcl, n, hd⟩, hz⟩ := I.tuple ht
  rw [Vals.ref1 r]
  have hi := rv.ints
  have hln : its.length = ns.length := hi.length
  refine Calls.call_function_entry kind_sorted plain_sorted entry_sorted (args_sorted1 _) ?_
  unfold Builtin.«sorted»
  refine wpAny_bind (m := checkCount "sorted" 1 1 _) (wpAny_pure ?_)
  refine wpAny_bind (wpAny_collect_seq a (T := "tuple") (.inr rfl) ho hcl hd (fun h1 k1 => ?_) (by rw [List.size_toArray, hln, sizeLine_eq]; omega))
  refine wpAny_bind (wpAny_newList ?_ (by rw [hln, sizeLine_eq]; omega))
  have hoL : (h1.push (seqObj "list" its.toArray 0)).get? h1.objs.size = some (seqObj "list" its.toArray 0) := Heap.get?_push_size _ rfl
  refine wpAny_bind (wpAny_holding (wpAny_call_entry slot_list_sort ⟨_, hoL, rfl⟩ entry_list_sort (list_sort_tree (s := { s with heap := h1.push (seqObj "list" its.toArray 0) }) hoL hi (by rw [hln]; exact h64) fun out ms a1 a2 a3 => ⟨_, rfl, ?_⟩) (args_list_sort _)))
  obtain ⟨c, hc2⟩ := sortedHeap_at (vs := its) (out := out) hoL
  have I1 : Inv X pins σ H { s with heap := h1, toks := s.toks } := I.kept (t' := s.toks) k1
  have hlen : (ms.map V.int).length ≤ sizeLine := by rw [List.length_map, a2.length_eq, sizeLine_eq]; omega
  have old : ∀ b u, h1.get? b = some u → (sortedHeap (h1.push (seqObj "list" its.toArray 0)) h1.objs.size its out).get? b = some u := fun b u e => by
    have hlt := Heap.lt_size e
    rw [sortedHeap_old (Nat.ne_of_lt hlt) (by rw [size_push']; exact Nat.lt_succ_of_lt hlt)]
    exact Heap.get?_push_of_some _ e
  exact wpAny_pure ⟨_, rfl, .ref h1.objs.size, upd H h1.objs.size (.lst (ms.map V.int)), I1.laid (t' := s.toks) old (Nat.le_refl _) ⟨hlen, out.toList, c, vals_of_ints a1, hc2⟩, rfl, q ms _ a2 a3 (I1.hok.fresh (Nat.le_refl _))⟩
theorem strsAre_signs {x : Str} {acc : Array Value} (h : ItemsOf (SignAt x) acc x.cps.size) : StrsAre acc.toList (x.cps.toList.map fun c => (⟨#[c]⟩ : Str)) := by
  have key : ∀ (n : Nat) (vs : List Value) (cs : List Nat), vs.length = n → cs.length = n → (∀ (j : Nat) v, vs[j]? = some v → ∃ c u, cs[j]? = some c ∧ v = .str ⟨#[c]⟩ u) → StrsAre vs (cs.map fun c => (⟨#[c]⟩ : Str)) := fun n => by
    induction n with
    | zero =>
      intro vs cs h1 h2 _
      rw [List.length_eq_zero_iff.mp h1, List.length_eq_zero_iff.mp h2]
      exact .nil
    | succ n ih =>
      intro vs cs h1 h2 hv
      match vs, cs, h1, h2, hv with
      | v :: vs, c :: cs, h1, h2, hv =>
        obtain ⟨c', u, e1, e2⟩ := hv 0 v rfl
        cases e1
        rw [e2]
        exact .cons _ u (ih vs cs (by simpa using h1) (by simpa using h2) fun j w hw => hv (j + 1) w hw)
  refine key x.cps.size acc.toList x.cps.toList (by rw [Array.length_toList]; exact h.1) (Array.length_toList) fun j v hj => ?_
  rw [Array.getElem?_toList] at hj
  obtain ⟨c, u, h1, h2⟩ := h.2 j v hj
  exact ⟨c, u, by rw [Array.getElem?_toList]; exact h1, h2⟩
def rSortedStr : List V → Hp → VK → Prop := fun vs H Q => ∃ x : Str, vs = [V.str x] ∧ x.length < 64 ∧
  ∀ (ys : List Str) (p : Addr), ys.Perm (x.cps.toList.map fun c => (⟨#[c]⟩ : Str)) → sortedS ys = true → H p = none → Q (.ref p) (upd H p (.lst (ys.map V.str)))
theorem cr_sortedStr (hc : X.calm = true) : CallR X (.builtin "sorted") rSortedStr := by
  intro pins s σ H vs us Q I r h
  obtain ⟨x, rfl, h64, q⟩ := h
  cases r with
  | cons r1 r2 =>
  cases r2
  obtain ⟨tk, rfl⟩ := r1
  have hxs : x.cps.size < 64 := h64
  refine Calls.call_function_entry kind_sorted plain_sorted entry_sorted (args_sorted1 _) ?_
  unfold Builtin.«sorted»
  refine wpAny_bind (m := checkCount "sorted" 1 1 _) (wpAny_pure ?_)
  refine wpAny_bind (wpAny_collect_str (A := X.A.in1) (I.ok.hd hc) x tk (fun s1 acc k1 g1 d1 o1 hit => ?_) (by rw [sizeLine_eq]; omega))
  have hS := strsAre_signs hit
  have hln : acc.toList.length = x.cps.size := by rw [Array.length_toList]; exact hit.1
  obtain ⟨h1, gs, dr, tk1, os⟩ := s1
  simp only at g1 d1 o1 k1
  subst g1 d1 o1
  have ea : acc = acc.toList.toArray := by simp
  refine wpAny_bind (wpAny_newList ?_ (by rw [hln, sizeLine_eq]; omega))
  have hoL : (h1.push (seqObj "list" acc.toList.toArray 0)).get? h1.objs.size = some (seqObj "list" acc.toList.toArray 0) := Heap.get?_push_size _ rfl
  refine wpAny_bind (wpAny_holding (wpAny_call_entry slot_list_sort ⟨_, hoL, rfl⟩ entry_list_sort (list_sort_treeK (s := { s with heap := h1.push (seqObj "list" acc.toList.toArray 0), toks := tk1 }) strKind_oneLt hoL hS.keysOf (fun v₁ v₂ rest e => keyKind_strs (by rw [← e]; exact hS)) (by rw [hln]; exact hxs) fun st' hp hs => ⟨_, rfl, ?_⟩) (args_list_sort _)))
  obtain ⟨ys, a1, a2, a3⟩ := sorted_out_str hS hp hs
  obtain ⟨c, hc2⟩ := sortedHeap_at (vs := acc.toList) (out := (arrOf st').map (·.2)) hoL
  have I1 : Inv X pins σ H { s with heap := h1, toks := tk1 } := I.kept (t' := tk1) k1
  have hlen : (ys.map V.str).length ≤ sizeLine := by rw [List.length_map, a2.length_eq, List.length_map, Array.length_toList, sizeLine_eq]; omega
  have old : ∀ b u, h1.get? b = some u → (sortedHeap (h1.push (seqObj "list" acc.toList.toArray 0)) h1.objs.size acc.toList ((arrOf st').map (·.2))).get? b = some u := fun b u e => by
    have hlt := Heap.lt_size e
    rw [sortedHeap_old (Nat.ne_of_lt hlt) (by rw [size_push']; exact Nat.lt_succ_of_lt hlt)]
    exact Heap.get?_push_of_some _ e
  exact wpAny_pure ⟨_, rfl, .ref h1.objs.size, upd H h1.objs.size (.lst (ys.map V.str)), I1.laid (t' := tk1) old (Nat.le_refl _) ⟨hlen, ((arrOf st').map (·.2)).toList, c, vals_of_strs a1, hc2⟩, rfl, q ys _ a2 a3 (I1.hok.fresh (Nat.le_refl _))⟩
end
end L3

namespace L3
open PySem PySem.Spec PyProof.Rows L2
/-! zip of two lists -/
def zipD (ds es : List D) : List D := (ds.zip es).map fun p => .tup [p.1, p.2]
theorem zipD_length (ds es : List D) : (zipD ds es).length = min ds.length es.length := by simp [zipD]
theorem zipD_get {ds es : List D} {i : Nat} {d : D} (h : (zipD ds es)[i]? = some d) : ∃ x y, ds[i]? = some x ∧ es[i]? = some y ∧ d = .tup [x, y] := by
  unfold zipD at h
  rw [List.getElem?_map] at h
  cases e : (ds.zip es)[i]? with
  | none => rw [e] at h; cases h
  | some p =>
    rw [e] at h
    obtain ⟨x, y⟩ := p
    rw [List.getElem?_zip_eq_some] at e
    exact ⟨x, y, e.1, e.2, (Option.some.inj h).symm⟩
def itZ : List D → (List D → Prop) → Prop
  | [.lst ds, .lst es], P => P (zipD ds es)
  | _, _ => False
section
variable {X : Cx} {E : XK} {p pos : Pos} {fs : DA}
theorem i_zip {a b : Expr} {elts : List Expr} {kk : Nat} {tpos : Pos} (hg : Gl X "zip") (hm : X.mg "zip" = none) (ha : PA X [a, b] (tA X.K E fs)) (hs : starEach [a, b] X.env = (false, eval a X.env) :: starEach [b] X.env := by rfl) (hpl : (backTo pos (starEach [b] X.env)).any (·.1) = false := by rfl) :
    PI X (.Tuple elts kk tpos) (.Call (.Name "zip" p) [a, b] [] pos) (tI X.K E (fun δ P Z => fs δ (fun ds => itZ ds P) Z)) := PI.imp (pi_zip hg hm ha hs hpl) fun σ H R ⟨r, A, δ, P, Z, R0, h2, hq, hz⟩ =>
  ⟨r, A, δ, _, Z, R0, h2, fun ds vs H1 h3 x1 n1 r1 => by
    match ds, h3 with
    | [.lst ds, .lst es], h3 =>
      cases r1 with
      | cons r1 b =>
        cases b with
        | cons r2 b =>
          cases b
          obtain ⟨a, xs, rfl, na, e1, z, t⟩ := r1.sqL
          obtain ⟨b, ys, rfl, nb, e2, z2, t2⟩ := r2.sqL
          refine ⟨a, b, xs, ys, rfl, SqL.of e1, SqL.of e2, hq _ _ H1 h3 x1 n1 fun i H2 A' ea w wa => ⟨fun hl => ?_, fun d hd => ?_⟩⟩
          · have hl' : min xs.length ys.length ≤ i := by rw [t.length, t2.length, ← zipD_length]; exact hl
            exact ⟨xs, ys, SqL.of (ea a _ na e1), SqL.of (ea b _ nb e2), by omega⟩
          · obtain ⟨x, y, hx, hy, rfl⟩ := zipD_get hd
            obtain ⟨u, hu, ru⟩ := t.get hx
            obtain ⟨v, hv, rv⟩ := t2.get hy
            refine ⟨⟨xs, ys, u, v, SqL.of (ea a _ na e1), SqL.of (ea b _ nb e2), hu, hv⟩, ?_⟩
            rintro q H' ⟨T, u', v', rfl, nT, rfl, hx⟩
            have h1 := hx.1 xs (SqL.of (ea a _ na e1))
            have h2 := hx.2 ys (SqL.of (ea b _ nb e2))
            rw [hu] at h1
            rw [hv] at h2
            cases h1; cases h2
            exact ⟨Ext.upd nT, w.rnd.upd nT, w.tup nT (by show 2 ≤ sizeLine; decide) (.cons (ru.move ea wa) (.cons (rv.move ea wa) .nil))⟩, hz⟩
end
end L3

namespace L3
open PySem PySem.Spec PyProof.Rows L2
/-! count and index of bools in a list -/
section
variable {X : Cx}
def rCntB (K : PySem.W.Frag) : V → List V → Hp → VK → Prop := fun x xs H Q => ∃ (p : Addr) (bs : List Bool) (b : Bool), x = .ref p ∧ xs = [.bl b] ∧ SqL K H p (bs.map V.bl) ∧ Q (.int (bs.count b : Nat)) H
theorem flat_bls (bs : List Bool) : (bs.map V.bl).all flatV = true := by
  rw [List.all_map, List.all_eq_true]
  exact fun _ _ => rfl
theorem eqV_bl (a b : Bool) : eqV (.bl a) (.bl b) = (a == b) := by cases a <;> cases b <;> rfl
theorem cnt_bls {b : Bool} : ∀ {us : List Value} {bs : List Bool}, Vals (bs.map V.bl) us → us.countP (eqU (.bl b)) = bs.count b
  | _, [], .nil => rfl
  | _, c :: bs, .cons r t => by
    rw [List.countP_cons, List.count_cons, cnt_bls (bs := bs) t, eqU_of r rfl, eqV_bl]
theorem mt_cntB : MtR X "list.count" (rCntB X.K) := by
  intro pins s σ H x xs v us Q I rx rxs h
  obtain ⟨a, bs, b, rfl, rfl, hs, q⟩ := h
  cases rx
  cases rxs with
  | cons ry rt =>
    rename_i uy ut
    cases rt
    obtain ⟨its, rv, ⟨⟨cls, dd, data, sl⟩, n, ho, hc, hdn, hd⟩, hlen⟩ := I.list hs
    simp only at hc hd
    subst hc hd
    refine call_meets PySem.F.slot_list_count ⟨_, ho, rfl⟩ PySem.F.entry_list_count (PySem.F.args_list_count_2 _ _)
      (SeqAt.list_countAt a its.toArray n dd sl uy (eqU (.bl b))) ⟨ho, fun u' hu' => mem_eqAt ry rfl rv (flat_bls bs) u' (by simpa using hu'), ?_⟩
    have ec : its.toArray.toList.countP (eqU (.bl b)) = bs.count b := cnt_bls rv
    refine ⟨.int (bs.count b : Nat), H, I.tok _, ⟨s.toks, ?_⟩, q⟩
    show Value.int ((its.toArray.toList.countP (eqU (.bl b)) : Nat) : Int) s.toks = Value.int ((bs.count b : Nat) : Int) s.toks
    rw [ec]
end
def cntD (ds : List D) : D → DP → Prop
  | .bl b, P => ∃ bs : List Bool, ds = bs.map D.bl ∧ P (.int (bs.count b : Nat))
  | _, _ => False
def idxD (ds : List D) : D → DP → Prop
  | .bl b, P => ∃ (bs : List Bool) (j : Nat), ds = bs.map D.bl ∧ bs[j]? = some b ∧ (∀ (m : Nat), m < j → bs[m]? ≠ some b) ∧ P (.int (j : Nat))
  | _, _ => False
section
variable {X : Cx} {E : XK} {e a lo : Expr} {hi : Option Expr} {fe fa : DE} {fl fh : DO} {fs : DA} {pos p2 apos : Pos}
theorem e_count (he : PE X e (tE X.K E fe)) (ha : PE X a (tE X.K E fa)) (hs : starEach [a] X.env = [(false, eval a X.env)] := by rfl) (hbase : attributeBase e "count" X.env (eval e X.env) = eval e X.env := by rfl)
    (hfew : ((backTo pos (starEach [a] X.env)).all (fun x => !x.1) && (backToKw pos (keywordEach [] X.env)).all (fun x => x.1.isSome)
      && decide ([a].length + ([] : List Keyword).length + (if ([] : List Keyword).isEmpty then 0 else 1) < 30)) = true := by rfl)
    (hline : (apos.endLine == pos.line) = true := by rfl) (hplain : (backTo pos (starEach [] X.env)).any (·.1) = false := by rfl) :
    PE X (.Call (.Attribute e "count" apos) [a] [] pos) (tE X.K E (fun δ P Z => fe δ (fun d => ∃ ds, d = .lst ds ∧ fa δ (fun d' => cntD ds d' P) Z) Z)) :=
  PE.imp (pe_bm PySem.F.plainAttrs_list PySem.F.slot_list_count PySem.F.type_list_count mt_cntB he (pa_cons ha pa_nil hs) hbase hfew hline hs hplain) fun σ H Q ⟨r, A, δ, P, Z, R, h, hq, hz⟩ =>
  ⟨r, A, δ, _, Z, R, h, fun d v H1 h1 x1 n1 r1 => by
    obtain ⟨ds, rfl, h1⟩ := h1
    obtain ⟨p, xs, rfl, na, e1, z1, t1⟩ := r1.sqL
    refine ⟨.inl ⟨rfl, xs, SqL.of e1⟩, r, A, δ, _, Z, R.ext x1 n1, h1, fun d' v' H2 h2 x2 n2 r2 => ?_, fun x c dd H' z x2 => hz x c dd H' z (x1.trans x2)⟩
    cases d' with
    | bl b =>
      obtain ⟨bs, rfl, h2⟩ := h2
      cases r2
      have hx := t1.bls
      subst hx
      exact ⟨p, bs, b, rfl, rfl, SqL.of (x2 p _ (fun z => na (z ▸ R.ar)) e1), hq _ _ _ h2 (x1.trans x2) n2 (.int _)⟩
    | _ => exact h2.elim, hz⟩
theorem inV_no : ∀ {b : Bool}, flatV (.bl b) = true := rfl
theorem e_index (he : PE X e (tE X.K E fe)) (ha : PE X a (tE X.K E fa)) (hs : starEach [a] X.env = [(false, eval a X.env)] := by rfl) (hbase : attributeBase e "index" X.env (eval e X.env) = eval e X.env := by rfl)
    (hfew : ((backTo pos (starEach [a] X.env)).all (fun x => !x.1) && (backToKw pos (keywordEach [] X.env)).all (fun x => x.1.isSome)
      && decide ([a].length + ([] : List Keyword).length + (if ([] : List Keyword).isEmpty then 0 else 1) < 30)) = true := by rfl)
    (hline : (apos.endLine == pos.line) = true := by rfl) (hplain : (backTo pos (starEach [] X.env)).any (·.1) = false := by rfl) :
    PE X (.Call (.Attribute e "index" apos) [a] [] pos) (tE X.K E (fun δ P Z => fe δ (fun d => ∃ ds, d = .lst ds ∧ fa δ (fun d' => idxD ds d' P) Z) Z)) :=
  PE.imp (pe_bm PySem.F.plainAttrs_list PySem.F.slot_list_index PySem.F.type_list_index mt_index he (pa_cons ha pa_nil hs) hbase hfew hline hs hplain) fun σ H Q ⟨r, A, δ, P, Z, R, h, hq, hz⟩ =>
  ⟨r, A, δ, _, Z, R, h, fun d v H1 h1 x1 n1 r1 => by
    obtain ⟨ds, rfl, h1⟩ := h1
    obtain ⟨p, xs, rfl, na, e1, z1, t1⟩ := r1.sqL
    refine ⟨.inl ⟨rfl, xs, SqL.of e1⟩, r, A, δ, _, Z, R.ext x1 n1, h1, fun d' v' H2 h2 x2 n2 r2 => ?_, fun x c dd H' z x2 => hz x c dd H' z (x1.trans x2)⟩
    cases d' with
    | bl b =>
      obtain ⟨bs, j, rfl, hj, hno, h2⟩ := h2
      cases r2
      have hx := t1.bls
      subst hx
      refine ⟨p, bs.map V.bl, .bl b, j, .bl b, rfl, rfl, SqL.of (x2 p _ (fun z => na (z ▸ R.ar)) e1), rfl, flat_bls bs, by rw [List.getElem?_map, hj]; rfl, by rw [eqV_bl]; exact beq_self_eq_true b, fun m z' hm hz' => ?_, hq _ _ _ h2 (x1.trans x2) n2 (.int _)⟩
      rw [List.getElem?_map] at hz'
      cases hb : bs[m]? with
      | none => rw [hb] at hz'; cases hz'
      | some c =>
        rw [hb] at hz'
        cases hz'
        rw [eqV_bl]
        exact beq_eq_false_iff_ne.mpr fun z => hno m hm (by rw [hb, z])
    | _ => exact h2.elim, hz⟩
def zfD (z : Str) : D → DP → Prop
  | .int i, P => PadOk i = true ∧ P (.str (Txt.zfill z i))
  | _, _ => False
theorem e_zfill (he : PE X e (tE X.K E fe)) (ha : PE X a (tE X.K E fa)) (hs : starEach [a] X.env = [(false, eval a X.env)] := by rfl) (hbase : attributeBase e "zfill" X.env (eval e X.env) = eval e X.env := by rfl)
    (hfew : ((backTo pos (starEach [a] X.env)).all (fun x => !x.1) && (backToKw pos (keywordEach [] X.env)).all (fun x => x.1.isSome)
      && decide ([a].length + ([] : List Keyword).length + (if ([] : List Keyword).isEmpty then 0 else 1) < 30)) = true := by rfl)
    (hline : (apos.endLine == pos.line) = true := by rfl) (hplain : (backTo pos (starEach [] X.env)).any (·.1) = false := by rfl) :
    PE X (.Call (.Attribute e "zfill" apos) [a] [] pos) (tE X.K E (fun δ P Z => fe δ (fun d => ∃ z, d = .str z ∧ fa δ (fun d' => zfD z d' P) Z) Z)) :=
  PE.imp (pe_bm PySem.F.plainAttrs_str PySem.F.slot_str_zfill PySem.F.type_str_zfill mt_zfill he (pa_cons ha pa_nil hs) hbase hfew hline hs hplain) fun σ H Q ⟨r, A, δ, P, Z, R, h, hq, hz⟩ =>
  ⟨r, A, δ, _, Z, R, h, fun d v H1 h1 x1 n1 r1 => by
    obtain ⟨z, rfl, h1⟩ := h1
    cases r1
    refine ⟨rfl, r, A, δ, _, Z, R.ext x1 n1, h1, fun d' v' H2 h2 x2 n2 r2 => ?_, fun x c dd H' z x2 => hz x c dd H' z (x1.trans x2)⟩
    cases d' with
    | int i =>
      cases r2
      exact ⟨z, i, rfl, rfl, h2.1, hq _ _ _ h2.2 (x1.trans x2) n2 (.str _)⟩
    | _ => exact h2.elim, hz⟩
/-! slices of a text -/
def slSD (lo hi : Option Int) : D → DP → Prop
  | .str z, P => z.length ≤ sizeLine ∧ P (.str (cutS z lo hi))
  | _, _ => False
theorem e_sliceS {lo hi : Option Expr} (he : PE X e (tE X.K E fe)) (hl : PO X lo (tOD X.K E fl)) (hh : PO X hi (tOD X.K E fh)) : PE X (.Subscript e (.Slice lo hi none p2) pos) (tE X.K E (fun δ P Z => fe δ (fun d => fl δ (fun l => fh δ (fun u => slSD l u d P) Z) Z) Z)) :=
  PE.imp (pe_slice sl_str he hl hh) fun σ H Q ⟨r, A, δ, P, Z, R, h, hq, hz⟩ =>
  ⟨r, A, δ, _, Z, R, h, fun d v H1 h1 x1 n1 r1 => ⟨r, A, δ, _, Z, R.ext x1 n1, h1, fun l H2 h2 x2 n2 => ⟨r, A, δ, _, Z, (R.ext x1 n1).ext x2 n2, h2, fun u H3 h3 x3 n3 => by
    cases d with
    | str z =>
      cases r1
      exact ⟨z, rfl, h3.1, hq _ _ _ h3.2 ((x1.trans x2).trans x3) n3 (.str _)⟩
    | _ => exact h3.elim, fun x c dd H' z x3 => hz x c dd H' z ((x1.trans x2).trans x3)⟩, fun x c dd H' z x2 => hz x c dd H' z (x1.trans x2)⟩, hz⟩
/-! str(i), max of a list of ints -/
def strID : List D → DP → Prop
  | [.int i], P => i.natAbs.log2 < 1920 ∧ P (.str (toString i))
  | _, _ => False
theorem cd_strI {K : PySem.W.Frag} : CallD K (fun xs H Q => ∃ i, xs = [.int i] ∧ i.natAbs.log2 < 1920 ∧ Q (.str (toString i)) H) strID := fun r A H xs ds P Q w t h q => by
  match ds, h with
  | [.int i], h =>
    obtain ⟨v, rfl, a⟩ := t.one
    cases a
    exact ⟨i, rfl, h.1, q _ _ _ h.2 .refl w.rnd (.str _)⟩
def maxLD : List D → DP → Prop
  | [.lst ds], P => ∃ ns : List Int, ds = ns.map D.int ∧ 0 < ns.length ∧ ∀ m, m ∈ ns → (∀ y, y ∈ ns → y ≤ m) → P (.int m)
  | _, _ => False
theorem cd_max {K : PySem.W.Frag} : CallD K (rMax K) maxLD := fun r A H xs ds P Q w t h q => by
  match ds, h with
  | [.lst ds], h =>
    obtain ⟨ns, rfl, h0, h⟩ := h
    obtain ⟨v, rfl, a⟩ := t.one
    obtain ⟨p, xs, rfl, _, e1, z1, t1⟩ := a.sqL
    have hx := t1.ints
    subst hx
    exact ⟨p, ns, rfl, SqL.of e1, h0, fun m h1 h2 => q _ _ _ (h m h1 h2) .refl w.rnd (.int _)⟩
end
end L3

namespace L3
open PySem PySem.Spec PyProof.Rows L2
/-! list(text), sorted of a list or tuple of ints -/
section
variable {X : Cx}
def rListStr : List V → Hp → VK → Prop := fun vs H Q => ∃ x : Str, vs = [V.str x] ∧ x.length ≤ 1000000 ∧ ∀ l, H l = none → Q (.ref l) (upd H l (.lst (x.cps.toList.map fun c => V.str ⟨#[c]⟩)))
theorem cr_listStr (hc : X.calm = true) : CallR X (.type "list") rListStr := by
  intro pins s σ H vs us Q I r h
  obtain ⟨x, rfl, hx, q⟩ := h
  cases r with
  | cons r1 r2 =>
  cases r2
  obtain ⟨tk, rfl⟩ := r1
  have hxs : x.cps.size ≤ 1000000 := hx
  refine call_list_str (I.ok.hd hc) x tk (fun h' tk' acc c' kp e hit => ?_) (by rw [sizeLine_eq]; omega)
  have hS := strsAre_signs hit
  have ea : acc = acc.toList.toArray := by simp
  rw [ea] at e
  have ev : (x.cps.toList.map fun c => V.str ⟨#[c]⟩) = (x.cps.toList.map fun c => (⟨#[c]⟩ : Str)).map V.str := by rw [List.map_map]; rfl
  refine ⟨.ref s.heap.objs.size, _, I.laid (t' := tk') kp (Nat.le_refl _) (show ObjOk X.prog X.w _ h' _ (.lst (x.cps.toList.map fun c => V.str ⟨#[c]⟩)) from ⟨by rw [List.length_map, Array.length_toList, sizeLine_eq]; omega, acc.toList, c', by rw [ev]; exact vals_of_strs hS, e⟩), rfl, q _ (I.hok.fresh (Nat.le_refl _))⟩
end
theorem DRs.of_strs {K : PySem.W.Frag} {r : Addr} {A : Addr → Prop} {H : Hp} : ∀ {ns : List Str}, DRs K r A H (ns.map V.str) (ns.map D.str)
  | [] => .nil
  | _ :: _ => .cons (.str _) DRs.of_strs
def listAD : List D → DP → Prop
  | [.str x], P => x.length ≤ 1000000 ∧ P (.lst (x.cps.toList.map fun c => D.str ⟨#[c]⟩))
  | ds, P => listD ds P
def sortedD : List D → DP → Prop
  | [.lst ds], P => ∃ ns : List Int, ds = ns.map D.int ∧ ns.length < 64 ∧ ∀ ms : List Int, ms.Perm ns → ms.Pairwise (· ≤ ·) → P (.lst (ms.map D.int))
  | [.tup ds], P => ∃ ns : List Int, ds = ns.map D.int ∧ ns.length < 64 ∧ ∀ ms : List Int, ms.Perm ns → ms.Pairwise (· ≤ ·) → P (.lst (ms.map D.int))
  | _, _ => False
theorem cd_sorted {K : PySem.W.Frag} : CallD K (fun vs H Q => rSorted K vs H Q ∨ rSortedTup K vs H Q) sortedD := fun r A H xs ds P Q w t h q => by
  match ds, h with
  | [.lst ds], h =>
    obtain ⟨ns, rfl, hl, h⟩ := h
    obtain ⟨v, rfl, a⟩ := t.one
    obtain ⟨p, xs, rfl, _, e1, z1, t1⟩ := a.sqL
    have hx := t1.ints
    subst hx
    exact .inl ⟨p, ns, rfl, SqL.of e1, hl, fun ms l hp hs nl => q _ _ _ (h ms hp hs) (Ext.upd nl) (w.rnd.upd nl) (w.lst nl (by rw [List.length_map, hp.length_eq, sizeLine_eq]; omega) DRs.of_ints)⟩
  | [.tup ds], h =>
    obtain ⟨ns, rfl, hl, h⟩ := h
    obtain ⟨v, rfl, a⟩ := t.one
    obtain ⟨p, xs, rfl, e1, z1, t1⟩ := a.sqT
    have hx := t1.ints
    subst hx
    exact .inr ⟨p, ns, rfl, e1, hl, fun ms l hp hs nl => q _ _ _ (h ms hp hs) (Ext.upd nl) (w.rnd.upd nl) (w.lst nl (by rw [List.length_map, hp.length_eq, sizeLine_eq]; omega) DRs.of_ints)⟩
theorem cd_listA {K : PySem.W.Frag} : CallD K (fun xs H Q => (∃ p ys, xs = [.ref p] ∧ (SqL K H p ys ∨ SqT K H p ys) ∧ ∀ l, H l = none → Q (.ref l) (upd H l (.lst ys))) ∨ rListStr xs H Q) listAD := fun r A H xs ds P Q w t h q => by
  match ds, h with
  | [.str x], h =>
    obtain ⟨v, rfl, a⟩ := t.one
    cases a
    refine .inr ⟨x, rfl, h.1, fun l nl => q _ _ _ h.2 (Ext.upd nl) (w.rnd.upd nl) (w.lst nl (by rw [List.length_map, sizeLine_eq]; have := h.1; show x.cps.toList.length ≤ _; rw [Array.length_toList]; have e : x.length = x.cps.size := rfl; omega) ?_)⟩
    have e1 : (x.cps.toList.map fun c => V.str ⟨#[c]⟩) = (x.cps.toList.map fun c => (⟨#[c]⟩ : Str)).map V.str := by rw [List.map_map]; rfl
    have e2 : (x.cps.toList.map fun c => D.str ⟨#[c]⟩) = (x.cps.toList.map fun c => (⟨#[c]⟩ : Str)).map D.str := by rw [List.map_map]; rfl
    rw [e1, e2]
    exact DRs.of_strs
  | [.lst ds], h => exact .inl (cd_list r A H xs [.lst ds] P Q w t h q)
  | [.tup ds], h => exact .inl (cd_list r A H xs [.tup ds] P Q w t h q)
end L3

namespace L3
open PySem PySem.Spec PyProof.Rows L2
open Sem (wp)
/-- a tuple of told values, as it is made -/
abbrev TupV (h : Heap) (T : Addr) (vs : List Value) : Prop := h.get? T = some { cls := .type "tuple", data := .seq vs.toArray }
/-- an iterator that a zip draws of -/
structure Feed (prog : Program) (w : World) (A : Around) where
  it : Addr
  fp : List Addr
  n : Nat
  P : Nat → Value → Prop
  St : Nat → Heap → Prop
  mem : it ∈ fp
  frame : ∀ i h h', St i h → (∀ b ∈ fp, ∀ o, h.get? b = some o → h'.get? b = some o) → St i h'
  item : ∀ i (s : Shared) (Q : Value → Shared → Prop) (E : Value → Shared → Prop), i < n → St i s.heap →
    (∀ x h' tk, P i x → St (i + 1) h' → Heap.SameBut it s.heap h' → Q x { s with heap := h', toks := tk }) → wpAny (model prog w) A (Builtin.SmallTypes.nextOf (.ref it)) Q E s
  done : ∀ i (s : Shared) (Q : Value → Shared → Prop) (E : Value → Shared → Prop), n ≤ i → St i s.heap →
    (∀ h' e, Heap.ExtBut it s.heap h' → (∃ o, h'.get? e = some o ∧ o.cls = .type "StopIteration") → E (.ref e) { s with heap := h' }) → wpAny (model prog w) A (Builtin.SmallTypes.nextOf (.ref it)) Q E s
theorem Feed.over {prog : Program} {w : World} {A : Around} (f : Feed prog w A) {i : Nat} {h h' : Heap} {x : Addr} (st : f.St i h) (hs : Heap.SameBut x h h') (hx : x ∉ f.fp) : f.St i h' :=
  f.frame i h h' st fun b hb o e => hs.extBut b o (fun q => hx (q ▸ hb)) e
theorem forIn_steps {M : Model} {A : Around} {E : Value → Shared → Prop} {α β : Type} {f : α → β → Sem (ForInStep β)} {Q : β → Shared → Prop} (I : Nat → β → Shared → Prop) : ∀ (l : List α) (k : Nat) (b : β) (s : Shared), I k b s →
    (∀ i (x : α) b s, l[i]? = some x → I (k + i) b s → wpAny M A (f x b) (fun r s' => ∃ b', r = .yield b' ∧ I (k + i + 1) b' s') E s) → (∀ b s, I (k + l.length) b s → Q b s) → wpAny M A (forIn l b f) Q E s
  | [], k, b, s, h, _, q => by
    rw [List.forIn_nil]
    exact wpAny_pure (q b s h)
  | x :: l, k, b, s, h, st, q => by
    rw [List.forIn_cons]
    refine wpAny_bind (wpAny_mono (st 0 x b s rfl h) ?_ ?_)
    · rintro r s' ⟨b', rfl, h'⟩
      refine forIn_steps I l (k + 1) b' s' h' (fun i y b s e hi => ?_) fun b s hl => q b s ?_
      · have := st (i + 1) y b s (by simpa using e) (by rw [show k + (i + 1) = k + 1 + i by omega]; exact hi)
        rw [show k + 1 + i + 1 = k + (i + 1) + 1 by omega]
        exact this
      · rw [List.length_cons, show k + (l.length + 1) = k + 1 + l.length by omega]
        exact hl
    · exact fun _ _ h => h
structure Apart {prog : Program} {w : World} {A : Around} (z TI TO : Addr) (L : List (Feed prog w A)) : Prop where
  TIz : TI ≠ z
  TOz : TO ≠ z
  TITO : TI ≠ TO
  ti : ∀ f ∈ L, TI ≠ f.it
  zf : ∀ f ∈ L, z ∉ f.fp
  tf : ∀ f ∈ L, TO ∉ f.fp
  sep : ∀ (i j : Nat) (f g : Feed prog w A), i ≠ j → L[i]? = some f → L[j]? = some g → f.it ∉ g.fp
section
variable {prog : Program} {w : World} {A : Around} {E : Value → Shared → Prop} {s : Shared} {z TI TO : Addr} {L : List (Feed prog w A)} {i : Nat} {as : List Value}
theorem zipN_run {Q : Value → Shared → Prop} (S : Apart z TI TO L) (hne : L ≠ []) (hz : IsZip s.heap z TI TO .none) (hTI : TupV s.heap TI (L.map fun f => .ref f.it)) (hTO : TupV s.heap TO as) (hl : as.length = L.length) (hL : L.length ≤ 1000)
    (st : ∀ f ∈ L, f.St i s.heap)
    (hQ : ∀ xs h' tk, (∀ f ∈ L, i < f.n) → xs.length = L.length → (∀ (m : Nat) f x, L[m]? = some f → xs[m]? = some x → f.P i x) → IsZip h' z TI TO (rawInt s.heap.objs.size) → TupV h' TO xs → (∀ f ∈ L, f.St (i + 1) h') → TupV h' s.heap.objs.size xs → h'.objs.size = s.heap.objs.size + 1 →
      (∀ c o, c ≠ z → c ≠ TO → (∀ f ∈ L, c ≠ f.it) → s.heap.get? c = some o → h'.get? c = some o) → Q (.ref s.heap.objs.size) { s with heap := h', toks := tk })
    (hE : ∀ h' tk e, (∃ f ∈ L, f.n ≤ i) → (∀ c o, c ≠ z → c ≠ TO → (∀ f ∈ L, c ≠ f.it) → s.heap.get? c = some o → h'.get? c = some o) → (∃ o, h'.get? e = some o ∧ o.cls = .type "StopIteration") → E (.ref e) { s with heap := h', toks := tk }) :
    wpAny (model prog w) A (Builtin.«zip.__next__» ⟨[.ref z], []⟩) (fun fin s' => ∃ v, fin = .done (.ret v) ∧ Q v s') E s := by
  obtain ⟨hp, g, d, tk0, os⟩ := s
  replace hQ : ∀ xs h' tk, (∀ f ∈ L, i < f.n) → xs.length = L.length → (∀ (m : Nat) f x, L[m]? = some f → xs[m]? = some x → f.P i x) → IsZip h' z TI TO (rawInt hp.objs.size) → TupV h' TO xs → (∀ f ∈ L, f.St (i + 1) h') → TupV h' hp.objs.size xs → h'.objs.size = hp.objs.size + 1 →
      (∀ c o, c ≠ z → c ≠ TO → (∀ f ∈ L, c ≠ f.it) → hp.get? c = some o → h'.get? c = some o) → Q (.ref hp.objs.size) ⟨h', g, d, tk, os⟩ := hQ
  replace hE : ∀ h' tk e, (∃ f ∈ L, f.n ≤ i) → (∀ c o, c ≠ z → c ≠ TO → (∀ f ∈ L, c ≠ f.it) → hp.get? c = some o → h'.get? c = some o) → (∃ o, h'.get? e = some o ∧ o.cls = .type "StopIteration") → E (.ref e) ⟨h', g, d, tk, os⟩ := hE
  show wpAny _ _ (field (.ref z) 2 >>= _) _ _ _
  refine wpAny_bind (wpAny_field hz rfl (x := .bool false) rfl ?_)
  show wpAny _ _ (field (.ref z) 3 >>= _) _ _ _
  refine wpAny_bind (wpAny_field hz rfl (x := .ref TI) rfl ?_)
  refine wpAny_bind (wpAny_seqItems hTI rfl ?_)
  have hem : (L.map fun f => Value.ref f.it).toArray.isEmpty = false := by
    cases L with
    | nil => exact absurd rfl hne
    | cons _ _ => rfl
  show wpAny _ _ (if (L.map fun f => Value.ref f.it).toArray.isEmpty = true then _ else _) _ _ _
  rw [hem, if_neg Bool.false_ne_true]
  show wpAny _ _ (Builtin.SmallTypes.ownedTupleIsFree (.ref z) >>= _) _ _ _
  refine wpAny_bind ?_
  unfold Builtin.SmallTypes.ownedTupleIsFree
  refine wpAny_bind (wpAny_field hz rfl (x := .none) rfl (wpAny_pure ?_))
  simp only [if_true]
  refine wpAny_bind (wpAny_rule ?_)
  refine wpAny_bind (wpAny_field hz rfl (x := .ref TO) rfl ?_)
  refine wpAny_bind (wpAny_setField_rec hz (by simp) fun g0 hz0 hs0 => ?_)
  replace hz0 : IsZip g0 z TI TO .ellipsis := hz0
  replace hs0 : Heap.SameBut z hp g0 := hs0
  refine wpAny_bind ?_
  refine forIn_steps (fun k b s' => b = (none, ()) ∧ ∃ h' tk vs, s' = ⟨h', g, d, tk, os⟩ ∧ vs.length = L.length ∧ IsZip h' z TI TO .ellipsis ∧ TupV h' TO vs ∧ (∀ (m : Nat) f, m < k → L[m]? = some f → i < f.n) ∧ (∀ (m : Nat) f x, m < k → L[m]? = some f → vs[m]? = some x → f.P i x) ∧
    (∀ (m : Nat) f, L[m]? = some f → if m < k then f.St (i + 1) h' else f.St i h') ∧ h'.objs.size = hp.objs.size ∧ ∀ c o, c ≠ z → c ≠ TO → (∀ f ∈ L, c ≠ f.it) → hp.get? c = some o → h'.get? c = some o) _ 0 _ _ ?_ ?_ ?_
  · refine ⟨rfl, g0, tk0, as, rfl, hl, hz0, hs0.extBut _ _ S.TOz hTO, fun m f hm => absurd hm (Nat.not_lt_zero _), fun m f x hm => absurd hm (Nat.not_lt_zero _), fun m f hm => ?_, hs0.1, fun c o hc _ _ e => hs0.extBut _ _ hc e⟩
    rw [if_neg (Nat.not_lt_zero _)]
    exact f.over (st f (List.mem_of_getElem? hm)) hs0 (S.zf f (List.mem_of_getElem? hm))
  · rintro k ⟨itv, k'⟩ b s' hk ⟨rfl, h', tk, vs, rfl, hvl, hz1, hT1, hN1, hP1, hS1, hsz1, hfr1⟩
    rw [Nat.zero_add] at hN1 hP1 hS1 ⊢
    obtain ⟨f, hf, rfl, rfl⟩ : ∃ f, L[k]? = some f ∧ itv = .ref f.it ∧ k = k' := by
      rw [List.getElem?_zipIdx, List.getElem?_map] at hk
      cases e : L[k]? with
      | none => rw [e] at hk; cases hk
      | some f => rw [e] at hk; cases hk; exact ⟨f, rfl, rfl, (Nat.zero_add _).symm⟩
    have hfm := List.mem_of_getElem? hf
    have hst : f.St i h' := by
      have := hS1 k f hf
      rw [if_neg (Nat.lt_irrefl _)] at this
      exact this
    refine wpAny_bind (wpAny_onRaise ?_)
    show wpAny _ _ (Builtin.SmallTypes.nextOf (.ref f.it) >>= _) _ _ ⟨h', g, d, tk, os⟩
    have hzi : z ≠ f.it := fun q => S.zf f hfm (q ▸ f.mem)
    have hTi : TO ≠ f.it := fun q => S.tf f hfm (q ▸ f.mem)
    by_cases hlt : i < f.n
    · refine wpAny_bind (f.item i _ _ _ hlt hst fun x p1 tk1 hx1 sn1 hp1 => wpAny_pure ?_)
      replace hp1 : Heap.SameBut f.it h' p1 := hp1
      have hU : TupV p1 TO vs := hp1.extBut _ _ hTi hT1
      refine wpAny_bind (wpAny_seqItems (s := ⟨p1, g, d, tk1, os⟩) hU rfl ?_)
      refine wpAny_bind (wpAny_updateSeq (s := ⟨p1, g, d, tk1, os⟩) hU rfl ?_ (by rw [List.size_toArray, sizeLine_eq]; omega) (by rw [Array.size_setIfInBounds, List.size_toArray, sizeLine_eq]; omega))
      refine wpAny_bind (wpAny_letGo (wpAny_pure ⟨_, rfl, rfl, ?_⟩))
      have hs2 : Heap.SameBut TO p1 (p1.update TO (Obj.mapSeq fun y => y.setIfInBounds k x)) := Heap.SameBut.update ..
      refine ⟨p1.update TO (Obj.mapSeq fun y => y.setIfInBounds k x), tk1, vs.set k x, rfl, by rw [List.length_set]; exact hvl, hs2.extBut _ _ S.TOz.symm (hp1.extBut _ _ hzi hz1), ?_, fun m f' hm hf' => ?_, fun m f' y hm hf' hy => ?_, fun m f' hf' => ?_, ?_, fun c o c1 c2 c3 e => hs2.extBut _ _ c2 (hp1.extBut _ _ (c3 f hfm) (hfr1 c o c1 c2 c3 e))⟩
      · show Heap.get? _ TO = _
        rw [Heap.get?_update_self _ hU rfl]
        simp [Obj.mapSeq]
      · rcases Nat.lt_succ_iff_lt_or_eq.mp hm with hm | rfl
        · exact hN1 m f' hm hf'
        · rw [hf] at hf'; cases hf'; exact hlt
      · rcases Nat.lt_succ_iff_lt_or_eq.mp hm with hm | rfl
        · rw [List.getElem?_set_ne (by omega)] at hy
          exact hP1 m f' y hm hf' hy
        · rw [hf] at hf'; cases hf'
          rw [List.getElem?_set_self (by rw [hvl]; exact (List.getElem?_eq_some_iff.mp hf).1)] at hy
          cases hy
          exact hx1
      · have hf'm := List.mem_of_getElem? hf'
        by_cases hmk : m = k
        · subst hmk
          rw [hf] at hf'; cases hf'
          rw [if_pos (Nat.lt_succ_self _)]
          exact f.over sn1 hs2 (S.tf f hfm)
        · have h1 := hS1 m f' hf'
          have hno : f.it ∉ f'.fp := S.sep k m f f' (Ne.symm hmk) hf hf'
          by_cases hm : m < k
          · rw [if_pos hm] at h1
            rw [if_pos (by omega)]
            exact f'.over (f'.over h1 hp1 hno) hs2 (S.tf f' hf'm)
          · rw [if_neg hm] at h1
            rw [if_neg (by omega)]
            exact f'.over (f'.over h1 hp1 hno) hs2 (S.tf f' hf'm)
      · rw [hs2.1, hp1.1, hsz1]
    · refine wpAny_bind (f.done i _ _ _ (Nat.le_of_not_lt hlt) hst fun p1 e hp1 he => ?_)
      obtain ⟨oe, hoe, hce⟩ := he
      have hz2 : IsZip p1 z TI TO .ellipsis := hp1 _ _ hzi hz1
      have hez : e ≠ z := fun x => by subst x; rw [hz2] at hoe; cases hoe; simp at hce
      exact wpAny_setField_rec hz2 (by simp) fun p2 _ hs2 => hE p2 tk e ⟨f, hfm, Nat.le_of_not_lt hlt⟩ (fun c o c1 c2 c3 q => hs2.extBut _ _ c1 (hp1 _ _ (c3 f hfm) (hfr1 c o c1 c2 c3 q))) ⟨oe, hs2.extBut _ _ hez hoe, hce⟩
  · rintro b s' ⟨rfl, h', tk, vs, rfl, hvl, hz1, hT1, hN1, hP1, hS1, hsz1, hfr1⟩
    rw [Nat.zero_add, List.length_zipIdx, List.length_map] at hN1 hP1 hS1
    have hlt : ∀ {m : Nat} {f}, L[m]? = some f → m < L.length := fun e => (List.getElem?_eq_some_iff.mp e).1
    refine wpAny_bind (wpAny_seqItems (s := ⟨h', g, d, tk, os⟩) hT1 rfl ?_)
    refine wpAny_bind (wpAny_newTuple ?_ (by rw [sizeLine_eq]; show vs.length ≤ _; omega))
    show wpAny _ _ (Builtin.SmallTypes.ownedTupleHandOut (.ref z) (.ref h'.objs.size) >>= _) _ _ ⟨h'.push { cls := .type "tuple", data := .seq vs.toArray }, g, d, tk, os⟩
    refine wpAny_bind ?_
    unfold Builtin.SmallTypes.ownedTupleHandOut
    have hzlt : z < h'.objs.size := Heap.lt_size hz1
    have hz6 : IsZip (h'.push { cls := .type "tuple", data := .seq vs.toArray }) z TI TO .ellipsis := Heap.get?_push_of_some _ hz1
    refine wpAny_bind (wpAny_setField_rec hz6 (by simp) fun h7 hz7 hs7 => ?_)
    replace hz7 : IsZip h7 z TI TO (rawInt h'.objs.size) := hz7
    refine wpAny_setField_rec hz7 (by simp) fun h8 hz8 hs8 => ?_
    replace hz8 : IsZip h8 z TI TO (rawInt h'.objs.size) := hz8
    replace hs7 : Heap.SameBut z (h'.push { cls := .type "tuple", data := .seq vs.toArray }) h7 := hs7
    replace hs8 : Heap.SameBut z h7 h8 := hs8
    have up : ∀ c o, c ≠ z → h'.get? c = some o → h8.get? c = some o := fun c o c1 e => hs8.extBut _ _ c1 (hs7.extBut _ _ c1 (Heap.get?_push_of_some _ e))
    have hT8 : TupV h8 h'.objs.size vs := hs8.extBut _ _ (Nat.ne_of_gt hzlt) (hs7.extBut _ _ (Nat.ne_of_gt hzlt) (Heap.get?_push_size _ rfl))
    have hsz8 : h8.objs.size = h'.objs.size + 1 := by rw [hs8.1, hs7.1, Heap.size_push]
    rw [hsz1] at hz8 hT8 hsz8
    refine wpAny_pure ⟨_, rfl, ?_⟩
    show Q (.ref h'.objs.size) ⟨h8, g, d, tk, os⟩
    rw [hsz1]
    refine hQ vs h8 tk (fun f hf => ?_) hvl (fun m f x hf hx => hP1 m f x (hlt hf) hf hx) hz8 (up _ _ S.TOz hT1) (fun f hf => ?_) hT8 hsz8 fun c o c1 c2 c3 e => up c o c1 (hfr1 c o c1 c2 c3 e)
    · obtain ⟨m, hm⟩ := List.getElem?_of_mem hf
      exact hN1 m f (hlt hm) hm
    · obtain ⟨m, hm⟩ := List.getElem?_of_mem hf
      have := hS1 m f hm
      rw [if_pos (hlt hm)] at this
      exact f.frame _ _ _ this fun b hb o e => up b o (fun q => S.zf f hf (q ▸ hb)) e
theorem pyNext_zipN {L : List (Feed prog w A.in1)} {Q : Option Value → Shared → Prop} (S : Apart z TI TO L) (hne : L ≠ []) (hz : IsZip s.heap z TI TO .none) (hTI : TupV s.heap TI (L.map fun f => .ref f.it)) (hTO : TupV s.heap TO as) (hl : as.length = L.length) (hL : L.length ≤ 1000)
    (st : ∀ f ∈ L, f.St i s.heap)
    (hQ : ∀ xs h' tk, (∀ f ∈ L, i < f.n) → xs.length = L.length → (∀ (m : Nat) f x, L[m]? = some f → xs[m]? = some x → f.P i x) → IsZip h' z TI TO (rawInt s.heap.objs.size) → TupV h' TO xs → (∀ f ∈ L, f.St (i + 1) h') → TupV h' s.heap.objs.size xs → h'.objs.size = s.heap.objs.size + 1 →
      (∀ c o, c ≠ z → c ≠ TO → (∀ f ∈ L, c ≠ f.it) → s.heap.get? c = some o → h'.get? c = some o) → Q (some (.ref s.heap.objs.size)) { s with heap := h', toks := tk })
    (hE : ∀ h' tk, (∃ f ∈ L, f.n ≤ i) → (∀ c o, c ≠ z → c ≠ TO → (∀ f ∈ L, c ≠ f.it) → s.heap.get? c = some o → h'.get? c = some o) → Q none { s with heap := h', toks := tk }) :
    wpAny (model prog w) A (pyNext (.ref z)) Q E s := by
  have hT : s.TypeIs (.ref z) "zip" := ⟨_, hz, rfl⟩
  unfold pyNext
  refine wpAny_bind (wpAny_attempt (wpAny_callSpecial?_slot (name := Str.ofString "__next__") hT F.slot_zip_next
    (wpAny_call_entry F.slot_zip_next hT F.entry_zip_next (zipN_run S hne hz hTI hTO hl hL st (fun xs h' tk a0 a1 a2 a3 a4 a5 a6 a7 a8 => wpAny_pure (hQ xs h' tk a0 a1 a2 a3 a4 a5 a6 a7 a8)) fun h' tk e he hk ho => ?_) (F.args_zip_next_1 _))))
  obtain ⟨o, ho, hc⟩ := ho
  refine wpAny_bind (wpAny_isInstance (T := "StopIteration") (b := true) ⟨o, ho, hc⟩ isSubtype_stop ?_)
  exact wpAny_pure (hE h' tk he hk)
end
/-- what a zip goes over -/
inductive Sv where
  | l (a : Addr) | t (a : Addr) | s (x : Str) (k : Tok)
def Sv.val : Sv → Value
  | .l a => .ref a
  | .t a => .ref a
  | .s x k => .str x k
def Sv.cells : Sv → List Addr
  | .l a => [a]
  | .t a => [a]
  | .s _ _ => []
/-- its iterator behind i items -/
def Sv.at (h : Heap) (it : Addr) : Sv → Nat → Prop
  | .l a, i => h.IsListIter it a i
  | .t a, i => h.IsTupleIter it a i
  | .s x k, i => h.IsStrIter it (strIterType x) x k i
def Sv.holds (h : Heap) : Sv → List Value → Prop
  | .l a, us => h.IsList a us.toArray
  | .t a, us => h.IsTuple a us.toArray
  | .s _ _, _ => True
def signsV (x : Str) : List V := x.cps.toList.map fun c => V.str ⟨#[c]⟩
def Sv.vals : Sv → List V → List Value → Prop
  | .l _, xs, us => Vals xs us
  | .t _, xs, us => Vals xs us
  | .s x _, xs, _ => xs = signsV x
section
variable {prog : Program} {w : World} {A : Around}
theorem Vals.getV {xs : List V} {us : List Value} {i : Nat} {u : Value} (r : Vals xs us) (e : us[i]? = some u) : ∃ x, xs[i]? = some x ∧ RelV x u := by
  have hl : i < xs.length := by rw [r.length]; exact (List.getElem?_eq_some_iff.mp e).1
  obtain ⟨u', e', q⟩ := r.get (List.getElem?_eq_getElem hl)
  rw [e] at e'; cases e'
  exact ⟨_, List.getElem?_eq_getElem hl, q⟩
def feed (hh : A.handled = none) (it : Addr) (src : Sv) (xs : List V) (us : List Value) (hv : src.vals xs us) (hne : ∀ a ∈ src.cells, a ≠ it) : Feed prog w A where
  it := it
  fp := it :: src.cells
  n := xs.length
  P := fun i v => ∃ x, xs[i]? = some x ∧ RelV x v
  St := fun i h => src.at h it i ∧ src.holds h us
  mem := List.mem_cons_self
  frame := fun i h h' st hk => by
    cases src with
    | l a => exact ⟨st.1.at fun o e => hk it (by simp) o e, st.2.at fun o e => hk a (by simp [Sv.cells]) o e⟩
    | t a => exact ⟨st.1.at fun o e => hk it (by simp) o e, st.2.at fun o e => hk a (by simp [Sv.cells]) o e⟩
    | s x k =>
      obtain ⟨⟨o, e, c, d⟩, _⟩ := st
      exact ⟨⟨o, hk it (by simp) o e, c, d⟩, trivial⟩
  item := fun i s Q E hi st hQ => by
    cases src with
    | l a =>
      have hv : Vals xs us := hv
      have hl : i < us.length := by rw [← hv.length]; exact hi
      have e : us[i]? = some us[i] := List.getElem?_eq_getElem hl
      exact wpAny_nextOf_list_item st.1 st.2 (x := us[i]) (by simpa using hl) fun h' hit hs => hQ _ h' s.toks (Vals.getV hv e) ⟨hit, st.2.extBut hs.extBut (hne a (by simp [Sv.cells]))⟩ hs
    | t a =>
      have hv : Vals xs us := hv
      have hl : i < us.length := by rw [← hv.length]; exact hi
      have e : us[i]? = some us[i] := List.getElem?_eq_getElem hl
      exact wpAny_nextOf_tuple_item st.1 st.2 (x := us[i]) (by simpa using hl) fun h' hit hs => hQ _ h' s.toks (Vals.getV hv e) ⟨hit, st.2.extBut hs.extBut (hne a (by simp [Sv.cells]))⟩ hs
    | s x k =>
      have hv : xs = signsV x := hv
      have hl : i < x.cps.size := by rw [hv] at hi; simpa [signsV] using hi
      have e : x.cps[i]? = some x.cps[i] := by simp [hl]
      have ex : xs[i]? = some (.str ⟨#[x.cps[i]]⟩) := by rw [hv]; simp [signsV, hl]
      have h1 : s.heap.IsStrIter it (strIterType x) x k i := st.1
      cases ha : x.cps.all (· < 128)
      · have et : strIterType x = "str_iterator" := by simp [strIterType, ha]
        rw [et] at h1
        exact wpAny_nextOf_wide_item h1 e fun h' hit hs => hQ _ h' (s.toks + 1) ⟨_, ex, ⟨_, rfl⟩⟩ ⟨by show h'.IsStrIter it (strIterType x) x k (i + 1); rw [et]; exact hit, trivial⟩ hs
      · have et : strIterType x = "str_ascii_iterator" := by simp [strIterType, ha]
        rw [et] at h1
        exact wpAny_nextOf_ascii_item h1 e fun h' hit hs => hQ _ h' (s.toks + 1) ⟨_, ex, ⟨_, rfl⟩⟩ ⟨by show h'.IsStrIter it (strIterType x) x k (i + 1); rw [et]; exact hit, trivial⟩ hs
  done := fun i s Q E hi st hE => by
    cases src with
    | l a =>
      have hv : Vals xs us := hv
      exact wpAny_nextOf_list_end hh st.1 st.2 (by have := hv.length; simp; omega) hE
    | t a =>
      have hv : Vals xs us := hv
      exact wpAny_nextOf_tuple_end hh st.1 st.2 (by have := hv.length; simp; omega) hE
    | s x k =>
      have hv : xs = signsV x := hv
      have hl : x.cps.size ≤ i := by rw [hv] at hi; simpa [signsV] using hi
      have e : x.cps[i]? = none := by simp [hl]
      have h1 : s.heap.IsStrIter it (strIterType x) x k i := st.1
      cases ha : x.cps.all (· < 128)
      · have et : strIterType x = "str_iterator" := by simp [strIterType, ha]
        rw [et] at h1
        exact wpAny_nextOf_wide_end hh h1 e hE
      · have et : strIterType x = "str_ascii_iterator" := by simp [strIterType, ha]
        rw [et] at h1
        exact wpAny_nextOf_ascii_end hh h1 e hE
end
/-- .. told without texts' marks -/
inductive Zk where
  | l (a : Addr) | t (a : Addr) | s (x : Str)
def Sv.kind : Sv → Zk
  | .l a => .l a
  | .t a => .t a
  | .s x _ => .s x
def Zk.is (K : PySem.W.Frag) (H : Hp) : Zk → List V → Prop
  | .l a, xs => SqL K H a xs
  | .t a, xs => SqT K H a xs
  | .s x, xs => xs = signsV x
/-- the items of all, in new tuples -/
def ItzN (K : PySem.W.Frag) (zs : List Zk) : It :=
  ⟨fun i H => ∀ zk ∈ zs, ∃ xs x, zk.is K H xs ∧ xs[i]? = some x,
   fun i H v H' => ∃ T ys, v = .ref T ∧ H T = none ∧ H' = upd H T (.tup ys) ∧ ys.length = zs.length ∧ ∀ (m : Nat) zk y, zs[m]? = some zk → ys[m]? = some y → ∀ xs, zk.is K H xs → xs[i]? = some y,
   fun i H => (∀ zk ∈ zs, ∃ xs, zk.is K H xs) ∧ ∃ zk ∈ zs, ∃ xs, zk.is K H xs ∧ xs.length ≤ i⟩
section
variable {X : Cx} {pins : List (Addr × Obj)} {σ : L2.St} {H : Hp} {s : Shared}
theorem Zk.found (I : Inv X pins σ H s) {src : Sv} {xs : List V} (h : src.kind.is X.K H xs) : ∃ us, src.vals xs us ∧ src.holds s.heap us := by
  cases src with
  | l a =>
    obtain ⟨us, rv, p, _⟩ := I.list h
    exact ⟨us, rv, p.isList⟩
  | t a =>
    obtain ⟨us, rv, p, _⟩ := I.tuple h
    exact ⟨us, rv, p⟩
  | s x k => exact ⟨[], h, trivial⟩
theorem Zk.one (I : Inv X pins σ H s) {zk : Zk} {xs ys : List V} (h : zk.is X.K H xs) (h' : zk.is X.K H ys) : xs = ys := by
  cases zk with
  | l a => exact I.list_inj h h'
  | t a => exact I.tuple_inj h h'
  | s x => exact Eq.trans h (Eq.symm h')
theorem mkFeeds {A : Around} (I : Inv X pins σ H s) (hh : A.handled = none) : ∀ (srcs : List Sv) (its : List Addr), its.length = srcs.length → (∀ src ∈ srcs, ∃ xs, src.kind.is X.K H xs) → (∀ it ∈ its, ∀ src ∈ srcs, ∀ a ∈ src.cells, a ≠ it) →
    ∃ L : List (Feed X.prog X.w A), L.map (·.it) = its ∧ ∀ (m : Nat) f src, L[m]? = some f → srcs[m]? = some src → ∃ it xs us hv hne, its[m]? = some it ∧ src.kind.is X.K H xs ∧ src.holds s.heap us ∧ f = feed hh it src xs us hv hne
  | [], [], _, _, _ => ⟨[], rfl, fun m f src h => by simp at h⟩
  | src :: srcs, it :: its, hl, hk, hne => by
    obtain ⟨L, h1, h2⟩ := mkFeeds I hh srcs its (by simpa using hl) (fun x hx => hk x (List.mem_cons_of_mem _ hx)) fun x hx y hy => hne x (List.mem_cons_of_mem _ hx) y (List.mem_cons_of_mem _ hy)
    obtain ⟨xs, hx⟩ := hk src List.mem_cons_self
    obtain ⟨us, hv, hh2⟩ := Zk.found I hx
    refine ⟨feed hh it src xs us hv (hne it List.mem_cons_self src List.mem_cons_self) :: L, by rw [List.map_cons, h1]; rfl, fun m f sc e1 e2 => ?_⟩
    cases m with
    | zero =>
      cases e1; cases e2
      exact ⟨it, xs, us, hv, _, rfl, hx, hh2, rfl⟩
    | succ m =>
      rw [List.getElem?_cons_succ] at e1 e2 ⊢
      exact h2 m f sc e1 e2
theorem pickVs : ∀ (vals : List Value) (R : Nat → V → Prop), (∀ m v, vals[m]? = some v → ∃ y, R m y ∧ RelV y v) → ∃ ys, Vals ys vals ∧ ∀ m y, ys[m]? = some y → R m y
  | [], _, _ => ⟨[], .nil, fun m y h => by simp at h⟩
  | v :: vals, R, h => by
    obtain ⟨ys, h1, h2⟩ := pickVs vals (fun m => R (m + 1)) fun m u e => h (m + 1) u (by simpa using e)
    obtain ⟨y, r1, r2⟩ := h 0 v rfl
    refine ⟨y :: ys, .cons r2 h1, fun m z e => ?_⟩
    cases m with
    | zero => cases e; exact r1
    | succ m => exact h2 m z (by simpa using e)
end
structure Apart2 (z TI TO : Addr) (its : List Addr) (srcs : List Sv) : Prop where
  TIz : TI ≠ z
  TOz : TO ≠ z
  TITO : TI ≠ TO
  ti : ∀ b ∈ its, b ≠ TI ∧ b ≠ TO ∧ b ≠ z
  cl : ∀ src ∈ srcs, ∀ a ∈ src.cells, a ≠ z ∧ a ≠ TO ∧ ∀ b ∈ its, a ≠ b
  nd : its.Nodup
theorem Apart2.apart {prog : Program} {w : World} {A : Around} {z TI TO : Addr} {its : List Addr} {srcs : List Sv} (D : Apart2 z TI TO its srcs) {L : List (Feed prog w A)} (h1 : L.map (·.it) = its) (hl : its.length = srcs.length)
    (h2 : ∀ (m : Nat) f src, L[m]? = some f → srcs[m]? = some src → f.fp = f.it :: src.cells) : Apart z TI TO L := by
  have hm : ∀ f ∈ L, f.it ∈ its := fun f hf => by rw [← h1]; exact List.mem_map.mpr ⟨f, hf, rfl⟩
  have hs : ∀ f ∈ L, ∃ src ∈ srcs, f.fp = f.it :: src.cells := fun f hf => by
    obtain ⟨m, e⟩ := List.getElem?_of_mem hf
    have hlt : m < srcs.length := by rw [← hl, ← h1, List.length_map]; exact (List.getElem?_eq_some_iff.mp e).1
    exact ⟨_, List.getElem_mem hlt, h2 m f _ e (List.getElem?_eq_getElem hlt)⟩
  refine ⟨D.TIz, D.TOz, D.TITO, fun f hf => Ne.symm (D.ti _ (hm f hf)).1, fun f hf h => ?_, fun f hf h => ?_, fun i j f g hij ef eg h => ?_⟩
  · obtain ⟨src, h3, h4⟩ := hs f hf
    rw [h4] at h
    rcases List.mem_cons.mp h with h | h
    · exact (D.ti _ (hm f hf)).2.2 h.symm
    · exact (D.cl src h3 _ h).1 rfl
  · obtain ⟨src, h3, h4⟩ := hs f hf
    rw [h4] at h
    rcases List.mem_cons.mp h with h | h
    · exact (D.ti _ (hm f hf)).2.1 h.symm
    · exact (D.cl src h3 _ h).2.1 rfl
  · obtain ⟨src, h3, h4⟩ := hs g (List.mem_of_getElem? eg)
    rw [h4] at h
    rcases List.mem_cons.mp h with h | h
    · have e1 : its[i]? = some f.it := by rw [← h1, List.getElem?_map, ef]; rfl
      have e2 : its[j]? = some f.it := by rw [← h1, List.getElem?_map, eg, h]; rfl
      exact hij ((List.getElem?_inj (List.getElem?_eq_some_iff.mp e1).1 D.nd).mp (e1.trans e2.symm))
    · exact (D.cl src h3 _ h).2.2 _ (hm f (List.mem_of_getElem? ef)) rfl
/-- a zip at work behind i turns -/
def zipAt (z TI TO : Addr) (its : List Addr) (srcs : List Sv) (i : Nat) (h : Heap) : Prop :=
  IsZip h z TI TO .none ∧ TupV h TI (its.map .ref) ∧ (∃ as, as.length = its.length ∧ TupV h TO as) ∧ ∀ (m : Nat) it src, its[m]? = some it → srcs[m]? = some src → src.at h it i
theorem Sv.at_keep {src : Sv} {h h' : Heap} {it : Addr} {i : Nat} (st : src.at h it i) (k : ∀ o, h.get? it = some o → h'.get? it = some o) : src.at h' it i := by
  cases src <;> (obtain ⟨o, e, c, d⟩ := st; exact ⟨o, k o e, c, d⟩)
theorem Sv.at_obj {src : Sv} {h : Heap} {it : Addr} {i : Nat} (st : src.at h it i) : ∃ o, h.get? it = some o ∧ ∀ v, o.data ≠ .cell v := by
  cases src <;> (obtain ⟨o, e, c, d⟩ := st; exact ⟨o, e, fun v q => by rw [d] at q; cases q⟩)
theorem turn_zipN {P : Program} {w : World} {K : PySem.W.Frag} {elts : List Expr} {kk : Nat} {tpos : Pos} {z TI TO : Addr} {its : List Addr} {srcs : List Sv} (D : Apart2 z TI TO its srcs) (hl : its.length = srcs.length) (hne : srcs ≠ []) (hL : srcs.length ≤ 1000) :
    Turn P w K (.Tuple elts kk tpos) (ItzN K (srcs.map Sv.kind)) (z :: TI :: TO :: its) z (zipAt z TI TO its srcs) where
  mem := List.mem_cons_self
  obj := fun i h ⟨hz, hTI, ⟨as, _, hTO⟩, hs⟩ c hc => by
    rcases List.mem_cons.mp hc with rfl | hc
    · exact ⟨_, hz, fun v q => nomatch q⟩
    rcases List.mem_cons.mp hc with rfl | hc
    · exact ⟨_, hTI, fun v q => nomatch q⟩
    rcases List.mem_cons.mp hc with rfl | hc
    · exact ⟨_, hTO, fun v q => nomatch q⟩
    obtain ⟨m, e⟩ := List.getElem?_of_mem hc
    have hlt : m < srcs.length := by rw [← hl]; exact (List.getElem?_eq_some_iff.mp e).1
    exact Sv.at_obj (hs m c _ e (List.getElem?_eq_getElem hlt))
  keep := fun i h h' ⟨hz, hTI, ⟨as, ha, hTO⟩, hs⟩ k => ⟨k z List.mem_cons_self _ hz, k TI (by simp) _ hTI, ⟨as, ha, k TO (by simp) _ hTO⟩, fun m it src e1 e2 => Sv.at_keep (hs m it src e1 e2) fun o q => k it (by simp [List.mem_of_getElem? e1]) o q⟩
  item := by
    intro X hP hw hK hc i pins s σ H E I hf st hg
    subst hP hw hK
    obtain ⟨hz, hTI, ⟨as, ha, hTO⟩, hs⟩ := st
    obtain ⟨L, h1, h2⟩ := mkFeeds (A := X.A.in1) I (I.ok.hd hc) srcs its hl (fun src hsrc => by obtain ⟨xs, x, hx, _⟩ := hg src.kind (List.mem_map.mpr ⟨src, hsrc, rfl⟩); exact ⟨xs, hx⟩) fun it hit src hsrc a haa => (D.cl src hsrc a haa).2.2 it hit
    have hll : L.length = srcs.length := by rw [← hl, ← h1, List.length_map]
    have S : Apart z TI TO L := D.apart h1 hl fun m f src e1 e2 => by obtain ⟨it, xs, us, hv, hn, _, _, _, rfl⟩ := h2 m f src e1 e2; rfl
    have src_of : ∀ {m : Nat} {f}, L[m]? = some f → ∃ src, srcs[m]? = some src := fun e => ⟨_, List.getElem?_eq_getElem (by rw [← hll]; exact (List.getElem?_eq_some_iff.mp e).1)⟩
    have hzl : z < s.heap.objs.size := Heap.lt_size hz
    have its_lt : ∀ b ∈ its, b < s.heap.objs.size := fun b hb => by
      obtain ⟨m, e⟩ := List.getElem?_of_mem hb
      have hlt : m < srcs.length := by rw [← hl]; exact (List.getElem?_eq_some_iff.mp e).1
      obtain ⟨o, e1, _⟩ := Sv.at_obj (hs m b _ e (List.getElem?_eq_getElem hlt))
      exact Heap.lt_size e1
    refine pyNext_zipN (L := L) (i := i) S (show L ≠ [] from fun e => hne (List.length_eq_zero_iff.mp (by rw [← hll, e]; rfl))) hz (by rw [show (L.map fun f => Value.ref f.it) = its.map Value.ref from by rw [← h1, List.map_map]; rfl]; exact hTI) hTO (by rw [ha, hl, hll]) (by omega) (fun f hfm => ?_) (fun vals h' tk hn hvl hP z' TO' hs' hT hsz hk => ?_) fun h' tk hend hk => ?_
    · obtain ⟨m, e⟩ := List.getElem?_of_mem hfm
      obtain ⟨src, es⟩ := src_of e
      obtain ⟨it, xs, us, hv, hn, e1, _, h4, rfl⟩ := h2 m f src e es
      exact ⟨hs m it src e1 es, h4⟩
    · obtain ⟨ys, rys, hys⟩ := pickVs vals (fun m y => ∀ zk, (srcs.map Sv.kind)[m]? = some zk → ∀ xs, zk.is X.K H xs → xs[i]? = some y) fun m v e => by
        have hm : m < L.length := by rw [← hvl]; exact (List.getElem?_eq_some_iff.mp e).1
        have ef := List.getElem?_eq_getElem hm
        have hp := hP m _ v ef e
        obtain ⟨src, es⟩ := src_of ef
        obtain ⟨it, xs, us, hv, hn, e1, h3, _, h5⟩ := h2 m _ src ef es
        rw [h5] at hp
        obtain ⟨y, hy, ry⟩ := hp
        refine ⟨y, fun zk ezk xs' hx' => ?_, ry⟩
        rw [List.getElem?_map, es] at ezk
        cases ezk
        rw [Zk.one I hx' h3]
        exact hy
      have hyl : ys.length = srcs.length := by rw [rys.length, hvl, hll]
      refine ⟨_, rfl, wpAny_letOwnedTupleGo_zip (s := { s with heap := h', toks := tk }) z' fun h'' z'' sb => ?_⟩
      have hT2 : h''.get? s.heap.objs.size = some { cls := .type "tuple", data := .seq vals.toArray } := (sb.2 _ (Nat.ne_of_gt hzl)).trans hT
      have new : ObjOk X.prog X.w (upd H s.heap.objs.size (.tup ys)) h'' s.heap.objs.size (.tup ys) := ⟨by rw [sizeLine_eq]; omega, vals, rys, ⟨_, hT2, rfl, _, rfl⟩⟩
      have I1 : Inv X pins σ (upd H s.heap.objs.size (.tup ys)) { s with heap := h'', toks := tk } :=
        I.turnedNew (t' := tk) (ch := z :: TI :: TO :: its) (fun c o hb q => (sb.2 c (fun q' => hb (by simp [q']))).trans (hk c o (fun q' => hb (by simp [q'])) (fun q' => hb (by simp [q'])) (fun f hfm q' => hb (by rw [q', ← h1]; simp only [List.mem_cons, List.mem_map]; exact .inr (.inr (.inr ⟨f, hfm, rfl⟩)))) q)) hf (Nat.le_refl _) new
      refine ⟨.ref s.heap.objs.size, _, I1, rfl, ⟨_, ys, rfl, I.hok.fresh (Nat.le_refl _), rfl, by rw [hyl, List.length_map], fun m zk y e1 e2 xs hx => hys m y e2 zk e1 xs hx⟩, ⟨z'', ?_, ⟨vals, by rw [hvl, hll, hl], ?_⟩, fun m it src e1 e2 => ?_⟩, fun c hcm => ?_⟩
      · exact (sb.2 _ D.TIz).trans (hk _ _ D.TIz D.TITO (fun f hfm => S.ti f hfm) hTI)
      · exact (sb.2 _ D.TOz).trans TO'
      · have hm : m < L.length := by rw [hll]; exact (List.getElem?_eq_some_iff.mp e2).1
        have ef := List.getElem?_eq_getElem hm
        have h3 := hs' _ (List.getElem_mem hm)
        obtain ⟨it', xs, us, hv, hn, e1', _, _, h5⟩ := h2 m _ src ef e2
        rw [h5] at h3
        rw [e1] at e1'
        cases e1'
        exact Sv.at_keep h3.1 fun o q => (sb.2 _ (D.ti it (List.mem_of_getElem? e1)).2.2).trans q
      · have hlt : c < s.heap.objs.size := by
          rcases List.mem_cons.mp hcm with rfl | hcm
          · exact hzl
          rcases List.mem_cons.mp hcm with rfl | hcm
          · exact Heap.lt_size hTI
          rcases List.mem_cons.mp hcm with rfl | hcm
          · exact Heap.lt_size hTO
          exact its_lt c hcm
        rw [upd_ne (Nat.ne_of_lt hlt)]
        exact (hf c hcm).1
    · exfalso
      obtain ⟨f, hfm, hle⟩ := hend
      obtain ⟨m, e⟩ := List.getElem?_of_mem hfm
      obtain ⟨src, es⟩ := src_of e
      obtain ⟨it, xs, us, hv, hn, _, h3, _, rfl⟩ := h2 m f src e es
      obtain ⟨xs', x, hx, hxi⟩ := hg src.kind (List.mem_map.mpr ⟨src, List.mem_of_getElem? es, rfl⟩)
      rw [Zk.one I hx h3] at hxi
      have := (List.getElem?_eq_some_iff.mp hxi).1
      exact absurd hle (Nat.not_le_of_lt this)
  done := by
    intro X hP hw hK hc i pins s σ H E I hf st hg
    subst hP hw hK
    obtain ⟨hz, hTI, ⟨as, ha, hTO⟩, hs⟩ := st
    obtain ⟨hall, zk0, hzk0, xs0, hx0, hle0⟩ := hg
    obtain ⟨L, h1, h2⟩ := mkFeeds (A := X.A.in1) I (I.ok.hd hc) srcs its hl (fun src hsrc => hall src.kind (List.mem_map.mpr ⟨src, hsrc, rfl⟩)) fun it hit src hsrc a haa => (D.cl src hsrc a haa).2.2 it hit
    have hll : L.length = srcs.length := by rw [← hl, ← h1, List.length_map]
    have S : Apart z TI TO L := D.apart h1 hl fun m f src e1 e2 => by obtain ⟨it, xs, us, hv, hn, _, _, _, rfl⟩ := h2 m f src e1 e2; rfl
    have src_of : ∀ {m : Nat} {f}, L[m]? = some f → ∃ src, srcs[m]? = some src := fun e => ⟨_, List.getElem?_eq_getElem (by rw [← hll]; exact (List.getElem?_eq_some_iff.mp e).1)⟩
    refine pyNext_zipN (L := L) (i := i) S (show L ≠ [] from fun e => hne (List.length_eq_zero_iff.mp (by rw [← hll, e]; rfl))) hz (by rw [show (L.map fun f => Value.ref f.it) = its.map Value.ref from by rw [← h1, List.map_map]; rfl]; exact hTI) hTO (by rw [ha, hl, hll]) (by omega) (fun f hfm => ?_) (fun vals h' tk hn hvl hP z' TO' hs' hT hsz hk => ?_) fun h' tk hend hk => ?_
    · obtain ⟨m, e⟩ := List.getElem?_of_mem hfm
      obtain ⟨src, es⟩ := src_of e
      obtain ⟨it, xs, us, hv, hn, e1, _, h4, rfl⟩ := h2 m f src e es
      exact ⟨hs m it src e1 es, h4⟩
    · exfalso
      obtain ⟨src, hsrc, rfl⟩ := List.mem_map.mp hzk0
      obtain ⟨m, es⟩ := List.getElem?_of_mem hsrc
      have hm : m < L.length := by rw [hll]; exact (List.getElem?_eq_some_iff.mp es).1
      have ef := List.getElem?_eq_getElem hm
      obtain ⟨it, xs, us, hv, hn', _, h3, _, h5⟩ := h2 m _ src ef es
      have := hn _ (List.getElem_mem hm)
      rw [h5] at this
      have this : i < xs.length := this
      rw [Zk.one I h3 hx0] at this
      omega
    · exact ⟨rfl, I.turnedL (t' := tk) (ch := z :: TI :: TO :: its) (fun c o hb q => hk c o (fun q' => hb (by simp [q'])) (fun q' => hb (by simp [q'])) (fun f hfm q' => hb (by rw [q', ← h1]; simp only [List.mem_cons, List.mem_map]; exact .inr (.inr (.inr ⟨f, hfm, rfl⟩)))) q) hf⟩
  self := fun A i s Q E st h => wpAny_pyIter_zip st.1 h
def Sv.obj : Sv → Obj
  | .l a => { cls := .type "list_iterator", data := .fields #[.ref a, .int 0 0] }
  | .t a => { cls := .type "tuple_iterator", data := .fields #[.ref a, .int 0 0] }
  | .s x k => { cls := .type (strIterType x), data := .fields #[.str x k, .int 0 0] }
def Sv.there (h : Heap) (src : Sv) : Prop := ∃ us, src.holds h us
theorem Sv.there_keep {src : Sv} {h h' : Heap} (t : src.there h) (k : ∀ b o, h.get? b = some o → h'.get? b = some o) : src.there h' := by
  obtain ⟨us, t⟩ := t
  cases src with
  | l a => exact ⟨us, t.at fun o e => k a o e⟩
  | t a => exact ⟨us, t.at fun o e => k a o e⟩
  | s x j => exact ⟨[], trivial⟩
section
variable {prog : Program} {w : World} {A : Around} {E : Value → Shared → Prop} {s : Shared}
theorem Sv.begin {src : Sv} {Q : Value → Shared → Prop} (t : src.there s.heap) (q : Q (.ref s.heap.objs.size) { s with heap := s.heap.push src.obj }) : wpAny (model prog w) A (pyIter src.val) Q E s := by
  obtain ⟨us, t⟩ := t
  cases src with
  | l a => exact wpAny_pyIter_list t q
  | t a => exact wpAny_pyIter_tuple t q
  | s x k => exact wpAny_pyIter_strU q
theorem Sv.at_new {src : Sv} {h : Heap} {it : Addr} (e : h.get? it = some src.obj) : src.at h it 0 := by
  cases src <;> exact ⟨_, e, rfl, rfl⟩
theorem Sv.obj_free (src : Sv) : src.obj.isFreed = false := by cases src <;> rfl
/-- the new iterators behind a heap -/
def grown (h : Heap) : List Sv → Heap
  | [] => h
  | src :: l => grown (h.push src.obj) l
theorem grown_size : ∀ (l : List Sv) (h : Heap), (grown h l).objs.size = h.objs.size + l.length
  | [], _ => rfl
  | src :: l, h => by
    show (grown (h.push src.obj) l).objs.size = _
    rw [grown_size l, Heap.size_push, List.length_cons]; omega
theorem grown_append : ∀ (l m : List Sv) (h : Heap), grown h (l ++ m) = grown (grown h l) m
  | [], _, _ => rfl
  | src :: l, m, h => grown_append l m (h.push src.obj)
theorem grown_keep : ∀ (l : List Sv) (h : Heap) (b : Addr) (o : Obj), h.get? b = some o → (grown h l).get? b = some o
  | [], _, _, _, e => e
  | src :: l, h, b, o, e => grown_keep l (h.push src.obj) b o (Heap.get?_push_of_some _ e)
theorem grown_at : ∀ (l : List Sv) (h : Heap) (m : Nat) (src : Sv), l[m]? = some src → (grown h l).get? (h.objs.size + m) = some src.obj
  | src :: l, h, 0, _, e => by
    cases e
    exact grown_keep l _ _ _ (Heap.get?_push_size _ src.obj_free)
  | x :: l, h, m + 1, src, e => by
    have := grown_at l (h.push x.obj) m src (by simpa using e)
    rw [Heap.size_push] at this
    rw [show h.objs.size + (m + 1) = h.objs.size + 1 + m by omega]
    exact this
theorem iterAll_run (l : List Sv) {Q : List Value → Shared → Prop} (t : ∀ src ∈ l, src.there s.heap) (q : Q ((List.range l.length).map fun k => .ref (s.heap.objs.size + k)) { s with heap := grown s.heap l }) :
    wpAny (model prog w) A (Builtin.SmallTypes.iterAll (l.map Sv.val)) Q E s := by
  obtain ⟨hp, g, d, tk, os⟩ := s
  unfold Builtin.SmallTypes.iterAll
  refine wpAny_bind ?_
  refine forIn_steps (fun k b s' => s' = ⟨grown hp (l.take k), g, d, tk, os⟩ ∧ b = ((List.range k).map fun j => Value.ref (hp.objs.size + j)).toArray) _ 0 _ _ ⟨rfl, rfl⟩ ?_ ?_
  · rintro k x b s' e ⟨rfl, rfl⟩
    rw [Nat.zero_add] at *
    obtain ⟨src, es, rfl⟩ : ∃ src, l[k]? = some src ∧ x = src.val := by
      rw [List.getElem?_map] at e
      cases h : l[k]? with
      | none => rw [h] at e; cases e
      | some src => rw [h] at e; cases e; exact ⟨src, rfl, rfl⟩
    have hk : k < l.length := (List.getElem?_eq_some_iff.mp es).1
    have hsz : (grown hp (l.take k)).objs.size = hp.objs.size + k := by rw [grown_size, List.length_take]; omega
    refine wpAny_bind (wpAny_holding (Sv.begin (src := src) (Sv.there_keep (t src (List.mem_of_getElem? es)) fun b o q => grown_keep _ _ _ _ q) ?_))
    refine wpAny_pure ⟨_, rfl, ?_, ?_⟩
    · rw [List.take_add_one, es, grown_append]
      rfl
    · show Array.push _ (Value.ref (grown hp (l.take k)).objs.size) = _
      rw [hsz, List.range_succ, List.map_append]
      simp
  · rintro b s' ⟨rfl, rfl⟩
    rw [Nat.zero_add, List.length_map, List.take_length]
    exact wpAny_pure q
theorem zip_new (l : List Sv) (hl : l.length ≤ 1000) : Meets (Builtin.«zip.__new__» ⟨.type "zip" :: l.map Sv.val, []⟩) (fun _ R s => (∀ src ∈ l, src.there s.heap) ∧ ∀ h', IsZip h' (s.heap.objs.size + l.length + 2) (s.heap.objs.size + l.length) (s.heap.objs.size + l.length + 1) .none →
      TupV h' (s.heap.objs.size + l.length) ((List.range l.length).map fun k => .ref (s.heap.objs.size + k)) → TupV h' (s.heap.objs.size + l.length + 1) (List.replicate l.length .none) → h'.objs.size = s.heap.objs.size + l.length + 3 →
      (∀ b o, (grown s.heap l).get? b = some o → h'.get? b = some o) → R (.ok (.ret (.ref (s.heap.objs.size + l.length + 2)))) { s with heap := h' }) :=
  .of_wp fun prog w A R s h => by
    obtain ⟨hp, g, d, tk, os⟩ := s
    obtain ⟨ht, h⟩ := h
    have hsub := sub_zip
    have it : ∀ {A' : Around} {E : Value → Shared → Prop} {Q : List Value → Shared → Prop}, Q ((List.range l.length).map fun k => .ref (hp.objs.size + k)) ⟨grown hp l, g, d, tk, os⟩ → wpAny (model prog w) A' (Builtin.SmallTypes.iterAll (l.map Sv.val)) Q E ⟨hp, g, d, tk, os⟩ := fun q => iterAll_run (s := ⟨hp, g, d, tk, os⟩) l ht q
    wp_walk using it
    rw [if_neg (by rw [List.size_toArray, List.length_map, List.length_range, sizeLine_eq]; omega)]
    wp_walk
    rw [if_neg (by rw [List.size_toArray, List.length_map, List.length_map, List.length_range, sizeLine_eq]; omega)]
    wp_walk
    have z1 : (grown hp l).objs.size = hp.objs.size + l.length := grown_size l hp
    generalize hT : ({ cls := Value.type "tuple", data := Data.seq ((List.range l.length).map fun k => Value.ref (hp.objs.size + k)).toArray } : Obj) = oT
    have hN : (((List.range l.length).map fun k => Value.ref (hp.objs.size + k)).map fun _ => Value.none) = List.replicate l.length Value.none := by
      rw [List.map_map]
      exact (List.map_const' ..).trans (by rw [List.length_range])
    rw [hN]
    generalize hO : ({ cls := Value.type "tuple", data := Data.seq (List.replicate l.length Value.none).toArray } : Obj) = oO
    have z2 : ((grown hp l).push oT).objs.size = hp.objs.size + l.length + 1 := by rw [Heap.size_push, z1]
    have z3 : (((grown hp l).push oT).push oO).objs.size = hp.objs.size + l.length + 2 := by rw [Heap.size_push, z2]
    generalize hZ : ({ cls := Value.type "zip", data := Data.fields (Builtin.SmallTypes.ownedTupleFields ++ [Value.bool false, Value.ref (grown hp l).objs.size, Value.ref ((grown hp l).push oT).objs.size]).toArray } : Obj) = oZ
    have z4 : ((((grown hp l).push oT).push oO).push oZ).objs.size = hp.objs.size + l.length + 3 := by rw [Heap.size_push, z3]
    have gT : ((((grown hp l).push oT).push oO).push oZ).get? (hp.objs.size + l.length) = some oT := by
      have := Heap.get?_push_of_some oZ (Heap.get?_push_of_some oO (Heap.get?_push_size (grown hp l) (o := oT) (by rw [← hT]; rfl)))
      rw [z1] at this
      exact this
    have gO : ((((grown hp l).push oT).push oO).push oZ).get? (hp.objs.size + l.length + 1) = some oO := by
      have := Heap.get?_push_of_some oZ (Heap.get?_push_size ((grown hp l).push oT) (o := oO) (by rw [← hO]; rfl))
      rw [z2] at this
      exact this
    have gZ : ((((grown hp l).push oT).push oO).push oZ).get? (hp.objs.size + l.length + 2) = some oZ := by
      have := Heap.get?_push_size (((grown hp l).push oT).push oO) (o := oZ) (by rw [← hZ]; rfl)
      rw [z3] at this
      exact this
    refine ⟨_, rfl, ?_⟩
    rw [z3]
    refine h _ ?_ ?_ ?_ z4 fun b o e => Heap.get?_push_of_some _ (Heap.get?_push_of_some _ (Heap.get?_push_of_some _ e))
    · rw [z1, z2] at hZ
      refine gZ.trans ?_
      rw [← hZ]
      rfl
    · exact gT.trans (by rw [← hT])
    · exact gO.trans (by rw [← hO])
theorem tc2 (a b : Value) : checkTypeCall "zip" ⟨[a, b], []⟩ = pure () := by kernel_rfl
theorem tc3 (a b c : Value) : checkTypeCall "zip" ⟨[a, b, c], []⟩ = pure () := by kernel_rfl
theorem tc4 (a b c d : Value) : checkTypeCall "zip" ⟨[a, b, c, d], []⟩ = pure () := by kernel_rfl
theorem nc2 (a b : Value) : checkBuiltinCall "zip.__new__" ⟨[.type "zip", a, b], []⟩ = pure () := by kernel_rfl
theorem nc3 (a b c : Value) : checkBuiltinCall "zip.__new__" ⟨[.type "zip", a, b, c], []⟩ = pure () := by kernel_rfl
theorem nc4 (a b c d : Value) : checkBuiltinCall "zip.__new__" ⟨[.type "zip", a, b, c, d], []⟩ = pure () := by kernel_rfl
theorem oi2 (o a b : Value) : argsOk "object.__init__" ⟨[o, a, b], []⟩ := by unfold argsOk; kernel_rfl
theorem oi3 (o a b c : Value) : argsOk "object.__init__" ⟨[o, a, b, c], []⟩ := by unfold argsOk; kernel_rfl
theorem oi4 (o a b c d : Value) : argsOk "object.__init__" ⟨[o, a, b, c, d], []⟩ := by unfold argsOk; kernel_rfl
/-- zip(..) of two, three, four -/
theorem call_zipN (l : List Sv) (hl : l.length = 2 ∨ l.length = 3 ∨ l.length = 4) {Q : Value → Shared → Prop} (ht : ∀ src ∈ l, src.there s.heap)
    (h : ∀ h', IsZip h' (s.heap.objs.size + l.length + 2) (s.heap.objs.size + l.length) (s.heap.objs.size + l.length + 1) .none →
      TupV h' (s.heap.objs.size + l.length) ((List.range l.length).map fun k => .ref (s.heap.objs.size + k)) → TupV h' (s.heap.objs.size + l.length + 1) (List.replicate l.length .none) → h'.objs.size = s.heap.objs.size + l.length + 3 →
      (∀ b o, (grown s.heap l).get? b = some o → h'.get? b = some o) → Q (.ref (s.heap.objs.size + l.length + 2)) { s with heap := h' }) :
    wpAny (model prog w) A (call (.type "zip") (l.map Sv.val)) Q E s := by
  have fin : ∀ h', IsZip h' (s.heap.objs.size + l.length + 2) (s.heap.objs.size + l.length) (s.heap.objs.size + l.length + 1) .none →
      TupV h' (s.heap.objs.size + l.length) ((List.range l.length).map fun k => .ref (s.heap.objs.size + k)) → TupV h' (s.heap.objs.size + l.length + 1) (List.replicate l.length .none) → h'.objs.size = s.heap.objs.size + l.length + 3 →
      (∀ b o, (grown s.heap l).get? b = some o → h'.get? b = some o) → (∃ ob, h'.get? (s.heap.objs.size + l.length + 2) = some ob ∧ ob.cls = .type "zip") ∧ Q (.ref (s.heap.objs.size + l.length + 2)) { s with heap := h' } := fun h' a b c d e => ⟨⟨_, a, rfl⟩, h h' a b c d e⟩
  have hz := zip_new l (by omega)
  match l, hl, ht, fin, hz with
  | [a, b], _, ht, fin, hz => exact callType_new F.called_zip (by decide) (tc2 _ _) (nc2 _ _) (fun obj => oi2 obj _ _) F.entry_zip_new hz ⟨ht, fin⟩
  | [a, b, c], _, ht, fin, hz => exact callType_new F.called_zip (by decide) (tc3 _ _ _) (nc3 _ _ _) (fun obj => oi3 obj _ _ _) F.entry_zip_new hz ⟨ht, fin⟩
  | [a, b, c, d], _, ht, fin, hz => exact callType_new F.called_zip (by decide) (tc4 _ _ _ _) (nc4 _ _ _ _) (fun obj => oi4 obj _ _ _ _) F.entry_zip_new hz ⟨ht, fin⟩
end
end L3

namespace L3
open PySem PySem.Spec PyProof.Rows L2
open Sem (wp)
def Zk.v : Zk → V
  | .l a => .ref a
  | .t a => .ref a
  | .s x => .str x
theorem svs_of : ∀ {zs : List Zk} {us : List Value}, Vals (zs.map Zk.v) us → ∃ srcs : List Sv, srcs.map Sv.kind = zs ∧ srcs.map Sv.val = us
  | [], _, .nil => ⟨[], rfl, rfl⟩
  | zk :: zs, _, .cons r t => by
    obtain ⟨srcs, h1, h2⟩ := svs_of t
    cases zk with
    | l a => cases r; exact ⟨.l a :: srcs, by rw [List.map_cons, h1]; rfl, by rw [List.map_cons, h2]; rfl⟩
    | t a => cases r; exact ⟨.t a :: srcs, by rw [List.map_cons, h1]; rfl, by rw [List.map_cons, h2]; rfl⟩
    | s x => obtain ⟨k, rfl⟩ := r; exact ⟨.s x k :: srcs, by rw [List.map_cons, h1]; rfl, by rw [List.map_cons, h2]; rfl⟩
def iZipN (K : PySem.W.Frag) (ta : TA) : TI := fun σ H R => ta σ H fun vs H1 => ∃ zs : List Zk, vs = zs.map Zk.v ∧ (zs.length = 2 ∨ zs.length = 3 ∨ zs.length = 4) ∧ (∀ zk ∈ zs, ∃ xs, zk.is K H1 xs) ∧ R (ItzN K zs) H1
theorem pi_zipN {X : Cx} {e : Expr} {es : List Expr} {ta : TA} {p pos tpos : Pos} {elts : List Expr} {kk : Nat} (hg : Gl X "zip") (hm : X.mg "zip" = none) (ha : PA X (e :: es) ta)
    (hs : starEach (e :: es) X.env = (false, eval e X.env) :: starEach es X.env := by rfl) (hpl : (backTo pos (starEach es X.env)).any (·.1) = false := by rfl) :
    PI X (.Tuple elts kk tpos) (.Call (.Name "zip" p) (e :: es) [] pos) (iZipN X.K ta) := by
  refine ⟨fun pins s σ H R I h => ?_⟩
  refine Call_ (ld_blt I hg hm PyProof.Rows.boot_zip (PyProof.Rows.callWith_type1 (thn (ha.run pos pins s σ H _ I h) fun us s1 ⟨vs, H1, I1, r1, q1⟩ => ?_) hs hpl))
  obtain ⟨zs, rfl, hl, hall, q⟩ := q1
  obtain ⟨srcs, rfl, rfl⟩ := svs_of r1
  rw [List.length_map] at hl
  have hfound : ∀ src ∈ srcs, ∃ us, src.holds s1.heap us := fun src hsrc => by
    obtain ⟨xs, hx⟩ := hall src.kind (List.mem_map.mpr ⟨src, hsrc, rfl⟩)
    obtain ⟨us, _, h2⟩ := Zk.found I1 hx
    exact ⟨us, h2⟩
  refine call_zipN srcs hl hfound fun h' hz hTI hTO hsz hk => wpAny_pyIter_zip hz ?_
  have keep : ∀ b o, s1.heap.get? b = some o → h'.get? b = some o := fun b o e => hk b o (grown_keep _ _ _ _ e)
  have I2 : Inv X pins σ H1 { s1 with heap := h' } := I1.kept (t' := s1.toks) keep
  have cells : ∀ src ∈ srcs, ∀ a ∈ src.cells, a < s1.heap.objs.size := fun src hsrc a haa => by
    obtain ⟨us, hh⟩ := hfound src hsrc
    cases src with
    | l b =>
      rw [List.mem_singleton.mp haa]
      obtain ⟨o, e, _⟩ := hh
      exact Heap.lt_size e
    | t b =>
      rw [List.mem_singleton.mp haa]
      obtain ⟨o, e, _⟩ := hh
      exact Heap.lt_size e
    | s x k => cases haa
  have hmem : ∀ b ∈ (List.range srcs.length).map (s1.heap.objs.size + ·), s1.heap.objs.size ≤ b ∧ b < s1.heap.objs.size + srcs.length := fun b hb => by
    obtain ⟨k, hk, rfl⟩ := List.mem_map.mp hb
    have := List.mem_range.mp hk
    omega
  have D : Apart2 (s1.heap.objs.size + srcs.length + 2) (s1.heap.objs.size + srcs.length) (s1.heap.objs.size + srcs.length + 1) ((List.range srcs.length).map (s1.heap.objs.size + ·)) srcs := by
    refine ⟨Nat.ne_of_lt (by omega), Nat.ne_of_lt (by omega), Nat.ne_of_lt (by omega), fun b hb => ?_, fun src hsrc a haa => ?_, ?_⟩
    · have := hmem b hb
      exact ⟨Nat.ne_of_lt (by omega), Nat.ne_of_lt (by omega), Nat.ne_of_lt (by omega)⟩
    · have this : @LT.lt Nat _ a s1.heap.objs.size := cells src hsrc a haa
      exact ⟨Nat.ne_of_lt (by omega), Nat.ne_of_lt (by omega), fun b hb => by have h2 : @LE.le Nat _ s1.heap.objs.size b := (hmem b hb).1; exact Nat.ne_of_lt (Nat.lt_of_lt_of_le this h2)⟩
    · exact List.Pairwise.map _ (fun a b h e => h (Nat.add_left_cancel e)) List.nodup_range
  refine ⟨s1.heap.objs.size + srcs.length + 2, _, _, _, H1, rfl, I2, turn_zipN D (by rw [List.length_map, List.length_range]) (by intro e; rw [e] at hl; simp at hl) (by omega), ⟨hz, ?_, ⟨_, ?_, hTO⟩, fun m it src e1 e2 => ?_⟩, fun c hcm => ?_, q⟩
  · rw [List.map_map]; exact hTI
  · rw [List.length_replicate, List.length_map, List.length_range]
  · have hm : m < srcs.length := (List.getElem?_eq_some_iff.mp e2).1
    rw [List.getElem?_map, List.getElem?_range hm] at e1
    cases e1
    exact Sv.at_new (hk _ _ (grown_at srcs s1.heap m src e2))
  · have hle : s1.heap.objs.size ≤ c := by
      rcases List.mem_cons.mp hcm with rfl | hcm
      · omega
      rcases List.mem_cons.mp hcm with rfl | hcm
      · omega
      rcases List.mem_cons.mp hcm with rfl | hcm
      · omega
      exact (hmem c hcm).1
    exact I1.fpOk hle (I1.hok.fresh hle)
/-! by data -/
def D.seq : D → Option (List D)
  | .lst ds => some ds
  | .tup ds => some ds
  | .str x => some (x.cps.toList.map fun c => D.str ⟨#[c]⟩)
  | _ => none
def minLen : List (List D) → Nat
  | [] => 0
  | [r] => r.length
  | r :: r2 :: rs => min r.length (minLen (r2 :: rs))
def zipL (rows : List (List D)) : List D := (List.range (minLen rows)).map fun i => D.tup (rows.map fun r => r.getD i .non)
theorem minLen_le : ∀ {rows : List (List D)} {r : List D}, r ∈ rows → minLen rows ≤ r.length
  | [r], x, h => by rw [List.mem_singleton.mp h]; exact Nat.le_refl _
  | r :: r2 :: rs, x, h => by
    show min r.length (minLen (r2 :: rs)) ≤ _
    rcases List.mem_cons.mp h with rfl | h
    · exact Nat.min_le_left _ _
    · exact Nat.le_trans (Nat.min_le_right _ _) (minLen_le h)
theorem minLen_at : ∀ {rows : List (List D)}, rows ≠ [] → ∃ r ∈ rows, r.length = minLen rows
  | [r], _ => ⟨r, List.mem_singleton.mpr rfl, rfl⟩
  | r :: r2 :: rs, _ => by
    obtain ⟨x, h1, h2⟩ := minLen_at (rows := r2 :: rs) (by simp)
    by_cases h : r.length ≤ minLen (r2 :: rs)
    · exact ⟨r, List.mem_cons_self, (Nat.min_eq_left h).symm⟩
    · exact ⟨x, List.mem_cons_of_mem _ h1, h2.trans (Nat.min_eq_right (by omega)).symm⟩
def itZN (ds : List D) (P : List D → Prop) : Prop := ∃ rows : List (List D), ds.map D.seq = rows.map some ∧ (ds.length = 2 ∨ ds.length = 3 ∨ ds.length = 4) ∧ P (zipL rows)
section
variable {K : PySem.W.Frag} {r : Addr} {A : Addr → Prop} {H : Hp}
theorem DRs.signs (x : Str) : DRs K r A H (signsV x) (x.cps.toList.map fun c => D.str ⟨#[c]⟩) := by
  unfold signsV
  generalize x.cps.toList = cs
  induction cs with
  | nil => exact .nil
  | cons c cs ih => exact .cons (.str _) ih
theorem DR.src {v : V} {d : D} {row : List D} (h : DR K r A H v d) (e : d.seq = some row) : ∃ zk xs, v = zk.v ∧ (∀ H2, ExtA A H H2 → Zk.is K H2 zk xs) ∧ DRs K r A H xs row := by
  cases d with
  | lst ds =>
    cases e
    obtain ⟨a, xs, rfl, na, e, z, t⟩ := h.sqL
    exact ⟨.l a, xs, rfl, fun H2 x => SqL.of (x a _ na e), t⟩
  | tup ds =>
    cases e
    cases h with
    | tup na e z t => exact ⟨.t _, _, rfl, fun H2 x => SqT.of (x _ _ na e), t⟩
    | ktup o its n e c d z w t => exact ⟨.t _, _, rfl, fun H2 x => .inr ⟨o, its, n, e, c, d, z, w⟩, t⟩
  | str x =>
    cases e
    cases h
    exact ⟨.s x, signsV x, rfl, fun _ _ => rfl, DRs.signs x⟩
  | _ => cases e
theorem DRs.srcs : ∀ {vs : List V} {ds : List D} {rows : List (List D)}, DRs K r A H vs ds → ds.map D.seq = rows.map some → ∃ (zs : List Zk) (xss : List (List V)), vs = zs.map Zk.v ∧ zs.length = ds.length ∧ rows.length = ds.length ∧ xss.length = ds.length ∧
    ∀ (m : Nat) zk xs row, zs[m]? = some zk → xss[m]? = some xs → rows[m]? = some row → (∀ H2, ExtA A H H2 → Zk.is K H2 zk xs) ∧ DRs K r A H xs row
  | _, [], rows, .nil, e => by
    cases rows with
    | nil => exact ⟨[], [], rfl, rfl, rfl, rfl, fun m zk xs row h => by simp at h⟩
    | cons _ _ => cases e
  | _, d :: ds, rows, .cons a t, e => by
    cases rows with
    | nil => cases e
    | cons row rows =>
      rw [List.map_cons, List.map_cons] at e
      injection e with e1 e2
      obtain ⟨zk, xs, rfl, h1, h2⟩ := a.src e1
      obtain ⟨zs, xss, rfl, h3, h4, h5, h6⟩ := DRs.srcs t e2
      refine ⟨zk :: zs, xs :: xss, rfl, by rw [List.length_cons, h3, List.length_cons], by rw [List.length_cons, h4, List.length_cons], by rw [List.length_cons, h5, List.length_cons], fun m zk' xs' row' q1 q2 q3 => ?_⟩
      cases m with
      | zero => cases q1; cases q2; cases q3; exact ⟨h1, h2⟩
      | succ m => exact h6 m zk' xs' row' (by simpa using q1) (by simpa using q2) (by simpa using q3)
end
section
variable {X : Cx} {E : XK} {p pos : Pos} {fs : DA}
theorem i_zipN {a : Expr} {es elts : List Expr} {kk : Nat} {tpos : Pos} (hg : Gl X "zip") (hm : X.mg "zip" = none) (ha : PA X (a :: es) (tA X.K E fs)) (hs : starEach (a :: es) X.env = (false, eval a X.env) :: starEach es X.env := by rfl) (hpl : (backTo pos (starEach es X.env)).any (·.1) = false := by rfl) :
    PI X (.Tuple elts kk tpos) (.Call (.Name "zip" p) (a :: es) [] pos) (tI X.K E (fun δ P Z => fs δ (fun ds => itZN ds P) Z)) := PI.imp (pi_zipN hg hm ha hs hpl) fun σ H R ⟨r, A, δ, P, Z, R0, h2, hq, hz⟩ =>
  ⟨r, A, δ, _, Z, R0, h2, fun ds vs H1 ⟨rows, er, hl, h3⟩ x1 n1 r1 => by
    obtain ⟨zs, xss, rfl, h4, h5, h6, h7⟩ := r1.srcs er
    have row_of : ∀ {m : Nat} {zk}, zs[m]? = some zk → ∃ xs row, xss[m]? = some xs ∧ rows[m]? = some row := fun e => by
      have := (List.getElem?_eq_some_iff.mp e).1
      exact ⟨_, _, List.getElem?_eq_getElem (by omega), List.getElem?_eq_getElem (by omega)⟩
    refine ⟨zs, rfl, by omega, fun zk hzk => ?_, hq _ _ H1 h3 x1 n1 fun i H2 A' ea w wa => ⟨fun hle => ⟨fun zk hzk => ?_, ?_⟩, fun d hd => ?_⟩⟩
    · obtain ⟨m, e⟩ := List.getElem?_of_mem hzk
      obtain ⟨xs, row, q1, q2⟩ := row_of e
      exact ⟨xs, (h7 m zk xs row e q1 q2).1 H1 .refl⟩
    · obtain ⟨m, e⟩ := List.getElem?_of_mem hzk
      obtain ⟨xs, row, q1, q2⟩ := row_of e
      exact ⟨xs, (h7 m zk xs row e q1 q2).1 H2 ea⟩
    · unfold zipL at hle
      rw [List.length_map, List.length_range] at hle
      obtain ⟨row, hr, hrl⟩ := minLen_at (rows := rows) (by intro e; rw [e] at h5; simp at h5; omega)
      obtain ⟨m, e⟩ := List.getElem?_of_mem hr
      have hm := (List.getElem?_eq_some_iff.mp e).1
      have ez := List.getElem?_eq_getElem (show m < zs.length by omega)
      have ex := List.getElem?_eq_getElem (show m < xss.length by omega)
      obtain ⟨g1, g2⟩ := h7 m _ _ row ez ex e
      exact ⟨_, List.getElem_mem _, _, g1 H2 ea, by rw [g2.length]; omega⟩
    · have hi : i < minLen rows := by
        have := (List.getElem?_eq_some_iff.mp hd).1
        unfold zipL at this
        rw [List.length_map, List.length_range] at this
        exact this
      unfold zipL at hd
      rw [List.getElem?_map, List.getElem?_range hi] at hd
      cases hd
      have item : ∀ (m : Nat) zk, zs[m]? = some zk → ∃ xs row u y, xss[m]? = some xs ∧ rows[m]? = some row ∧ Zk.is X.K H2 zk xs ∧ xs[i]? = some u ∧ row[i]? = some y ∧ DR X.K r A H1 u y := fun m zk e => by
        obtain ⟨xs, row, q1, q2⟩ := row_of e
        obtain ⟨g1, g2⟩ := h7 m zk xs row e q1 q2
        have hlt : i < row.length := Nat.lt_of_lt_of_le hi (minLen_le (List.mem_of_getElem? q2))
        obtain ⟨u, hu, ru⟩ := g2.get (List.getElem?_eq_getElem hlt)
        exact ⟨xs, row, u, _, q1, q2, g1 H2 ea, hu, List.getElem?_eq_getElem hlt, ru⟩
      refine ⟨fun zk hzk => ?_, ?_⟩
      · obtain ⟨m, e⟩ := List.getElem?_of_mem hzk
        obtain ⟨xs, row, u, y, _, _, g, hu, _, _⟩ := item m zk e
        exact ⟨xs, u, g, hu⟩
      · rintro q H' ⟨T, ys, rfl, nT, rfl, hyl, hys⟩
        refine ⟨Ext.upd nT, w.rnd.upd nT, w.tup nT (by rw [hyl, sizeLine_eq]; omega) ?_⟩
        have key : ∀ (ys : List V) (rs : List (List D)), ys.length = rs.length → (∀ (m : Nat) u row, ys[m]? = some u → rs[m]? = some row → ∃ y, row[i]? = some y ∧ DR X.K r A' H2 u y) → DRs X.K r A' H2 ys (rs.map fun r => r.getD i .non) := fun ys => by
          induction ys with
          | nil => intro rs hl _; cases rs with
            | nil => exact .nil
            | cons _ _ => cases hl
          | cons u ys ih => intro rs hl h; cases rs with
            | nil => cases hl
            | cons row rs =>
              obtain ⟨y, q1, q2⟩ := h 0 u row rfl rfl
              refine .cons ?_ (ih rs (by simpa using hl) fun m u row e1 e2 => h (m + 1) u row (by simpa using e1) (by simpa using e2))
              show DR X.K r A' H2 u (row.getD i .non)
              rw [List.getD_eq_getElem?_getD, q1]
              exact q2
        refine key ys rows (by omega) fun m u row e1 e2 => ?_
        have hm := (List.getElem?_eq_some_iff.mp e2).1
        have ez := List.getElem?_eq_getElem (show m < zs.length by omega)
        obtain ⟨xs, row', u', y, q1, q2, g, hu, hy, ru⟩ := item m _ ez
        rw [e2] at q2; cases q2
        have := hys m _ u ez e1 xs g
        rw [hu] at this; cases this
        exact ⟨y, hy, ru.move ea wa⟩, hz⟩
end
theorem zipL2 (x y : List D) : zipL [x, y] = zipD x y := by
  apply List.ext_getElem
  · simp [zipL, zipD, minLen]
  · intro i h1 h2
    have hm : i < min x.length y.length := by simpa [zipD] using h2
    have hx : i < x.length := by omega
    have hy : i < y.length := by omega
    simp [zipL, zipD, List.getD_eq_getElem?_getD, hx, hy]
def zipD3 (x y z : List D) : List D := (x.zip (y.zip z)).map fun p => .tup [p.1, p.2.1, p.2.2]
theorem zipL3 (x y z : List D) : zipL [x, y, z] = zipD3 x y z := by
  apply List.ext_getElem
  · simp [zipL, zipD3, minLen]
  · intro i h1 h2
    have hm : i < min x.length (min y.length z.length) := by simpa [zipD3] using h2
    have hx : i < x.length := by omega
    have hy : i < y.length := by omega
    have hz : i < z.length := by omega
    simp [zipL, zipD3, List.getD_eq_getElem?_getD, hx, hy, hz]
def zipD4 (x y z u : List D) : List D := (x.zip (y.zip (z.zip u))).map fun p => .tup [p.1, p.2.1, p.2.2.1, p.2.2.2]
theorem zipL4 (x y z u : List D) : zipL [x, y, z, u] = zipD4 x y z u := by
  apply List.ext_getElem
  · simp [zipL, zipD4, minLen]
  · intro i h1 h2
    have hm : i < min x.length (min y.length (min z.length u.length)) := by simpa [zipD4] using h2
    have hx : i < x.length := by omega
    have hy : i < y.length := by omega
    have hz : i < z.length := by omega
    have hu : i < u.length := by omega
    simp [zipL, zipD4, List.getD_eq_getElem?_getD, hx, hy, hz, hu]
theorem gz_2 {a b : D} {x y : List D} {P : List D → Prop} (ha : a.seq = some x) (hb : b.seq = some y) (h : P (zipD x y)) : itZN [a, b] P := ⟨[x, y], by simp [ha, hb], .inl rfl, by rw [zipL2]; exact h⟩
theorem gz_3 {a b c : D} {x y z : List D} {P : List D → Prop} (ha : a.seq = some x) (hb : b.seq = some y) (hc : c.seq = some z) (h : P (zipD3 x y z)) : itZN [a, b, c] P := ⟨[x, y, z], by simp [ha, hb, hc], .inr (.inl rfl), by rw [zipL3]; exact h⟩
theorem gz_4 {a b c d : D} {x y z u : List D} {P : List D → Prop} (ha : a.seq = some x) (hb : b.seq = some y) (hc : c.seq = some z) (hd : d.seq = some u) (h : P (zipD4 x y z u)) : itZN [a, b, c, d] P := ⟨[x, y, z, u], by simp [ha, hb, hc, hd], .inr (.inr rfl), by rw [zipL4]; exact h⟩
/-! targets of three and four names, a global tuple of ints -/
def gN3 (i j k : Nat) : DG := fun d δ P => match d with
  | .tup [x, y, z] => P (((δ.set i (.val x)).set j (.val y)).set k (.val z))
  | _ => False
def gN4 (i j k l : Nat) : DG := fun d δ P => match d with
  | .tup [x, y, z, u] => P ((((δ.set i (.val x)).set j (.val y)).set k (.val z)).set l (.val u))
  | _ => False
theorem gs_three {K : PySem.W.Frag} (i j k : Nat) : tGs K (gN3 i j k) (gTup K 3 (gCons (gName i) (gCons (gName j) (gCons (gName k) gNil)))) := fun r A0 H0 v d σ H δ P Q R hd h q => by
  cases d with
  | tup ds =>
    obtain ⟨a, xs, rfl, e, z, t⟩ := hd.sqT
    match ds, t, h with
    | [x, y, w], t, h =>
      cases t with
      | cons t1 t => cases t with
        | cons t2 t => cases t with
          | cons t3 t =>
            cases t
            have R1 := R.set (i := i) t1
            have R2 := R1.set (i := j) (R.set_val t1 t2)
            exact ⟨a, _, rfl, e, rfl, _, _, rfl, _, _, rfl, _, _, rfl, rfl, q _ _ h (R2.set (R1.set_val (R.set_val t1 t2) (R.set_val t1 t3)))⟩
  | _ => exact h.elim
theorem gs_four {K : PySem.W.Frag} (i j k l : Nat) : tGs K (gN4 i j k l) (gTup K 4 (gCons (gName i) (gCons (gName j) (gCons (gName k) (gCons (gName l) gNil))))) := fun r A0 H0 v d σ H δ P Q R hd h q => by
  cases d with
  | tup ds =>
    obtain ⟨a, xs, rfl, e, z, t⟩ := hd.sqT
    match ds, t, h with
    | [x, y, w, u], t, h =>
      cases t with
      | cons t1 t => cases t with
        | cons t2 t => cases t with
          | cons t3 t => cases t with
            | cons t4 t =>
              cases t
              have R1 := R.set (i := i) t1
              have s2 := R.set_val (i := i) t1 t2
              have s3 := R.set_val (i := i) t1 t3
              have s4 := R.set_val (i := i) t1 t4
              have R2 := R1.set (i := j) s2
              have u3 := R1.set_val (i := j) s2 s3
              have u4 := R1.set_val (i := j) s2 s4
              have R3 := R2.set (i := k) u3
              exact ⟨a, _, rfl, e, rfl, _, _, rfl, _, _, rfl, _, _, rfl, _, _, rfl, rfl, q _ _ h (R3.set (R2.set_val u3 u4))⟩
  | _ => exact h.elim
theorem gc_three {K : PySem.W.Frag} {vs : List Nat} (i j k : Nat) (hi : i ∈ vs := by simp) (hj : j ∈ vs := by simp) (hk : k ∈ vs := by simp) : tGc K vs (gN3 i j k) (gTup K 3 (gCons (gName i) (gCons (gName j) (gCons (gName k) gNil)))) := fun r A v d σ H δ P Q R hd h q => by
  cases d with
  | tup ds =>
    obtain ⟨a, xs, rfl, e, z, t⟩ := hd.sqT
    match ds, t, h with
    | [x, y, w], t, h =>
      cases t with
      | cons t1 t => cases t with
        | cons t2 t => cases t with
          | cons t3 t =>
            cases t
            exact ⟨a, _, rfl, e, rfl, _, _, rfl, _, _, rfl, _, _, rfl, rfl, q _ _ h (by rw [wipe_set _ _ hk, wipe_set _ _ hj, wipe_set _ _ hi]) (((OwnSub.set _ _ _ _ _).trans (OwnSub.set _ _ _ _ _)).trans (OwnSub.set _ _ _ _ _)) (((R.set t1).set t2).set t3)⟩
  | _ => exact h.elim
def TupG (K : PySem.W.Frag) (mg : Str → Option Value) (x : Str) (ns : List Int) : Prop := ∃ (a : Addr) (o : Obj) (its : Array Value) (n : Nat), mg x = some (.ref a) ∧ K.lookup a = some o ∧ o.cls = .type "tuple" ∧ o.data = .seq its n ∧ its.size ≤ sizeLine ∧ Vals (ns.map V.int) its.toList
theorem e_gt {X : Cx} {E : XK} {x : Str} {pos : Pos} {ns : List Int} (h : TupG X.K X.mg x ns) (hg : Gl X x := by rfl) (hd : (x == ("__debug__" : Str)) = false := by decide) : PE X (.Name x pos) (tE X.K E (fun _ P _ => P (intsT ns))) := by
  obtain ⟨a, o, its, n, hm, hk, hc, hdt, hz, hv⟩ := h
  exact e_glob (v := .ref a) hg hm rfl (fun _ _ _ => .ktup o its n hk hc hdt hz hv DRs.of_ints) hd
end L3

namespace L3
open PySem PySem.Spec PyProof.Rows L2
/-! texts: split, the place of a thing in a list, order -/
def splD : D → D → DP → Prop
  | .str z, .str y, P => (y.length == 0) = false ∧ z.length + 2 ≤ sizeLine ∧ P (.lst ((Txt.split z y).map D.str))
  | _, _, _ => False
section
variable {X : Cx} {E : XK} {e a : Expr} {fe fa : DE} {pos apos : Pos}
theorem e_split (he : PE X e (tE X.K E fe)) (ha : PE X a (tE X.K E fa)) (hs : starEach [a] X.env = [(false, eval a X.env)] := by rfl) (hbase : attributeBase e "split" X.env (eval e X.env) = eval e X.env := by rfl)
    (hline : (apos.endLine == pos.line) = true := by rfl) :
    PE X (.Call (.Attribute e "split" apos) [a] [] pos) (tE X.K E (fun δ P Z => fe δ (fun d => ∃ z, d = .str z ∧ fa δ (fun d' => splD (.str z) d' P) Z) Z)) :=
  PE.imp (pe_split he ha hs hbase hline) fun σ H Q ⟨r, A, δ, P, Z, R, h, hq, hz⟩ =>
  ⟨r, A, δ, _, Z, R, h, fun d v H1 h1 x1 n1 r1 => by
    obtain ⟨z, rfl, h1⟩ := h1
    cases r1
    refine ⟨⟨_, rfl⟩, r, A, δ, _, Z, R.ext x1 n1, h1, fun d' v' H2 h2 x2 n2 r2 => ?_, fun x c dd H' z x2 => hz x c dd H' z (x1.trans x2)⟩
    cases d' with
    | str y =>
      obtain ⟨q1, q2, q3⟩ := h2
      cases r2
      exact ⟨_, _, rfl, rfl, q1, q2, fun p np => hq _ _ _ q3 ((x1.trans x2).trans (Ext.upd np)) (n2.upd np) (((R.ext x1 n1).ext x2 n2).wd.lst np (by rw [List.length_map]; exact Nat.le_trans (PyProof.Rows.split_le _ _) q2) DRs.of_strs)⟩
    | _ => exact h2.elim, hz⟩
/-- xs.index(y), flat things -/
def idxA (ds : List D) (d : D) (P : DP) : Prop := d.flat = true ∧ ds.all D.flat = true ∧ ∃ (j : Nat) (z : D), ds[j]? = some z ∧ eqV z.toV d.toV = true ∧ (∀ (m : Nat) z', m < j → ds[m]? = some z' → eqV z'.toV d.toV = false) ∧ P (.int (j : Nat))
theorem e_indexA (he : PE X e (tE X.K E fe)) (ha : PE X a (tE X.K E fa)) (hs : starEach [a] X.env = [(false, eval a X.env)] := by rfl) (hbase : attributeBase e "index" X.env (eval e X.env) = eval e X.env := by rfl)
    (hfew : ((backTo pos (starEach [a] X.env)).all (fun x => !x.1) && (backToKw pos (keywordEach [] X.env)).all (fun x => x.1.isSome)
      && decide ([a].length + ([] : List Keyword).length + (if ([] : List Keyword).isEmpty then 0 else 1) < 30)) = true := by rfl)
    (hline : (apos.endLine == pos.line) = true := by rfl) (hplain : (backTo pos (starEach [] X.env)).any (·.1) = false := by rfl) :
    PE X (.Call (.Attribute e "index" apos) [a] [] pos) (tE X.K E (fun δ P Z => fe δ (fun d => ∃ ds, d = .lst ds ∧ fa δ (fun d' => idxA ds d' P) Z) Z)) :=
  PE.imp (pe_bm PySem.F.plainAttrs_list PySem.F.slot_list_index PySem.F.type_list_index mt_index he (pa_cons ha pa_nil hs) hbase hfew hline hs hplain) fun σ H Q ⟨r, A, δ, P, Z, R, h, hq, hz⟩ =>
  ⟨r, A, δ, _, Z, R, h, fun d v H1 h1 x1 n1 r1 => by
    obtain ⟨ds, rfl, h1⟩ := h1
    obtain ⟨p, xs, rfl, na, e1, z1, t1⟩ := r1.sqL
    refine ⟨.inl ⟨rfl, xs, SqL.of e1⟩, r, A, δ, _, Z, R.ext x1 n1, h1, fun d' v' H2 h2 x2 n2 r2 => ?_, fun x c dd H' z x2 => hz x c dd H' z (x1.trans x2)⟩
    obtain ⟨f1, f2, j, z, hj, he, hno, h2⟩ := h2
    obtain ⟨rfl, fv⟩ := r2.toV f1
    obtain ⟨rfl, fvs⟩ := t1.toVs f2
    refine ⟨p, ds.map D.toV, d'.toV, j, z.toV, rfl, rfl, SqL.of (x2 p _ (fun z => na (z ▸ R.ar)) e1), fv, fvs, by rw [List.getElem?_map, hj]; rfl, he, fun m z' hm hz' => ?_, hq _ _ _ h2 (x1.trans x2) n2 (.int _)⟩
    rw [List.getElem?_map] at hz'
    cases hb : ds[m]? with
    | none => rw [hb] at hz'; cases hz'
    | some c =>
      rw [hb] at hz'
      cases hz'
      exact hno m c hm hb, hz⟩
end
section
variable {K : PySem.W.Frag}
def ltSD : D → D → DP → Prop
  | .str i, .str j, P => P (.bl (decide (i.cps.toList < j.cps.toList)))
  | _, _, _ => False
theorem od_ltS : OpD K (fun x y H Q => ∃ i j, x = .str i ∧ y = .str j ∧ Q (.bl (decide (i.cps.toList < j.cps.toList))) H) ltSD := fun r A H x y d e P Q w hx hy h q => by
  cases d with
  | str i =>
    cases e with
    | str j =>
      cases hx
      cases hy
      exact ⟨i, j, rfl, rfl, q _ _ H h .refl w.rnd (.bl _)⟩
    | _ => exact h.elim
  | _ => exact h.elim
def leSD : D → D → DP → Prop
  | .str i, .str j, P => P (.bl (!decide (j.cps.toList < i.cps.toList)))
  | _, _, _ => False
theorem od_leS : OpD K (fun x y H Q => ∃ i j, x = .str i ∧ y = .str j ∧ Q (.bl (!decide (j.cps.toList < i.cps.toList))) H) leSD := fun r A H x y d e P Q w hx hy h q => by
  cases d with
  | str i =>
    cases e with
    | str j =>
      cases hx
      cases hy
      exact ⟨i, j, rfl, rfl, q _ _ H h .refl w.rnd (.bl _)⟩
    | _ => exact h.elim
  | _ => exact h.elim
end
end L3

namespace L3
open PySem PySem.Spec PyProof.Rows L2
/-! an own list walked while it stays an own list: its slot holds nothing but its address meanwhile -/
section
variable {K : PySem.W.Frag} {r : Addr} {A0 : Addr → Prop} {H0 H : Hp} {σ : L2.St} {δ : Env} {i : Nat} {ds : List D} {l : Addr} {xs : List V}
/-- what stands meanwhile -/
noncomputable def lockH (H0 H : Hp) (A : Addr → Prop) (l : Addr) (xs : List V) : Hp := upd (held H0 H A) l (.lst xs)
theorem lock_av (hi : δ[i]? = some (.own ds)) (e1 : σ[i]? = some (some (.ref l))) (b : Addr) : Av (fun b => A0 b ∨ b = l) r σ (δ.set i (.val (.adr l))) b ↔ Av A0 r σ δ b := by
  have hil := (List.getElem?_eq_some_iff.mp hi).1
  constructor
  · rintro ((h | rfl) | h | ⟨j, es, q1, q2⟩)
    · exact .inl h
    · exact .inr (.inr ⟨i, ds, hi, e1⟩)
    · exact .inr (.inl h)
    · by_cases hj : i = j
      · subst hj
        rw [List.getElem?_set_self hil] at q1; cases q1
      · rw [List.getElem?_set_ne hj] at q1
        exact .inr (.inr ⟨j, es, q1, q2⟩)
  · rintro (h | h | ⟨j, es, q1, q2⟩)
    · exact .inl (.inl h)
    · exact .inr (.inl h)
    · by_cases hj : i = j
      · subst hj
        rw [e1] at q2; cases q2
        exact .inl (.inr rfl)
      · exact .inr (.inr ⟨j, es, by rw [List.getElem?_set_ne hj]; exact q1, q2⟩)
theorem SR.lock (R : SR K r A0 H0 σ H δ) (hi : δ[i]? = some (.own ds)) (e1 : σ[i]? = some (some (.ref l))) (lr : l ≠ r) (e4 : H l = some (.lst xs)) :
    SR K r (fun b => A0 b ∨ b = l) (lockH H0 H (Av A0 r σ δ) l xs) σ H (δ.set i (.val (.adr l))) := by
  have hil := (List.getElem?_eq_some_iff.mp hi).1
  have sl : ∀ (j : Nat) s, (δ.set i (.val (.adr l)))[j]? = some s → (i = j ∧ s = .val (.adr l)) ∨ (i ≠ j ∧ δ[j]? = some s) := fun j s q => by
    by_cases hj : i = j
    · subst hj
      rw [List.getElem?_set_self hil] at q; cases q; exact .inl ⟨rfl, rfl⟩
    · rw [List.getElem?_set_ne hj] at q; exact .inr ⟨hj, q⟩
  have avE := lock_av (A0 := A0) (r := r) hi e1
  refine ⟨⟨R.er.rnd, (avE r).mpr R.er.ar, fun b hb => R.er.all b ((avE b).mp hb), by rw [List.length_set]; exact R.er.len, fun j d q => ?_, fun j es q => ?_, fun j k es fs m hjk q1 q2 q3 q4 => ?_⟩, fun b o hr q => ?_, fun j es m q1 q2 => ?_, fun b hb => ?_⟩
  · rcases sl j _ q with ⟨rfl, y⟩ | ⟨_, q'⟩
    · cases y
      exact ⟨_, e1, .adr l⟩
    · obtain ⟨v, f1, f2⟩ := R.er.val j d q'
      exact ⟨v, f1, f2.bar fun b o hb _ => (avE b).mp hb⟩
  · rcases sl j _ q with ⟨rfl, y⟩ | ⟨_, q'⟩
    · cases y
    · obtain ⟨m, ys, f1, f2, f3, f4, f5, f6⟩ := R.er.own j es q'
      exact ⟨m, ys, f1, (avE m).mpr f2, f3, f4, f5, f6.bar fun b o hb _ => (avE b).mp hb⟩
  · rcases sl j _ q1 with ⟨_, y⟩ | ⟨_, q1'⟩
    · cases y
    · rcases sl k _ q2 with ⟨_, y⟩ | ⟨_, q2'⟩
      · cases y
      · exact R.er.sep j k es fs m hjk q1' q2' q3 q4
  · unfold lockH at q
    by_cases hb : b = l
    · rw [hb, upd_same] at q; cases q; rw [hb]; exact e4
    · rw [upd_ne hb] at q
      exact held_in R.ext hr q
  · rcases sl j _ q1 with ⟨_, y⟩ | ⟨hij, q1'⟩
    · cases y
    · have hne : m ≠ l := fun z => R.er.sep i j ds es l hij hi q1' e1 (z ▸ q2)
      unfold lockH
      rw [upd_ne hne]
      exact held_none (R.fresh j es m q1' q2) (.inr (.inr ⟨j, es, q1', q2⟩))
  · unfold lockH
    by_cases hbl : b = l
    · rw [hbl, upd_same]; simp
    · rw [upd_ne hbl]
      rcases hb with hb | hb
      · cases q : H0 b with
        | none => exact absurd q (R.a0 b hb)
        | some o => rw [held_of q]; simp
      · exact absurd hb hbl
theorem lock_keep (R : SR K r A0 H0 σ H δ) {H' : Hp} {σ' : L2.St} {δ' : Env} (e1 : σ[i]? = some (some (.ref l))) (hi : δ[i]? = some (.own ds)) (S : SR K r (fun b => A0 b ∨ b = l) (lockH H0 H (Av A0 r σ δ) l xs) σ' H' δ') : ExtA (Av A0 r σ δ) H H' := fun b o nb q => by
  have hbl : b ≠ l := fun z => nb (z ▸ .inr (.inr ⟨i, ds, hi, e1⟩))
  refine S.ext b o (fun z => nb (.inr (.inl z))) ?_
  unfold lockH
  rw [upd_ne hbl]
  exact held_new R.ext (fun z => nb (.inr (.inl z))) nb q
theorem lock_bar (R : SR K r A0 H0 σ H δ) {H' : Hp} {σ' : L2.St} {δ' : Env} (e1 : σ[i]? = some (some (.ref l))) (hi : δ[i]? = some (.own ds)) (S : SR K r (fun b => A0 b ∨ b = l) (lockH H0 H (Av A0 r σ δ) l xs) σ' H' δ') :
    ∀ b o, Av (fun b => A0 b ∨ b = l) r σ' δ' b → H b = some o → Av A0 r σ δ b := fun b o hb q => by
  rcases hb with (hb | rfl) | hb | ⟨j, es, q1, q2⟩
  · exact .inl hb
  · exact .inr (.inr ⟨i, ds, hi, e1⟩)
  · exact .inr (.inl hb)
  · have z := S.fresh j es b q1 q2
    by_cases hA : Av A0 r σ δ b
    · exact hA
    · by_cases hr : b = r
      · exact .inr (.inl hr)
      · have hbl : b ≠ l := fun z => hA (z ▸ .inr (.inr ⟨i, ds, hi, e1⟩))
        unfold lockH at z
        rw [upd_ne hbl, held_new R.ext hr hA q] at z; cases z
theorem SR.unlock (R : SR K r A0 H0 σ H δ) {H' : Hp} {σ' : L2.St} {δ' : Env} (hi : δ[i]? = some (.own ds)) (e1 : σ[i]? = some (some (.ref l))) (lr : l ≠ r) (t : DRs K r (Av A0 r σ δ) H xs ds) (z : xs.length ≤ sizeLine)
    (S : SR K r (fun b => A0 b ∨ b = l) (lockH H0 H (Av A0 r σ δ) l xs) σ' H' δ') (hs : δ'[i]? = some (.val (.adr l))) : SR K r A0 H0 σ' H' (δ'.set i (.own ds)) := by
  have hil := (List.getElem?_eq_some_iff.mp hs).1
  have e1' : σ'[i]? = some (some (.ref l)) := by
    obtain ⟨v, f1, f2⟩ := S.er.val i _ hs
    cases f2
    exact f1
  have e4' : H' l = some (.lst xs) := S.ext l _ lr (by unfold lockH; rw [upd_same])
  have hl0 : H0 l = none := R.fresh i ds l hi e1
  have dn : ∀ b o, H0 b = some o → lockH H0 H (Av A0 r σ δ) l xs b = some o := fun b o q => by
    unfold lockH
    rw [upd_ne (fun e => by rw [e, hl0] at q; cases q)]
    exact held_of q
  have sl : ∀ (j : Nat) s, (δ'.set i (.own ds))[j]? = some s → (i = j ∧ s = .own ds) ∨ (i ≠ j ∧ δ'[j]? = some s) := fun j s q => by
    by_cases hj : i = j
    · subst hj
      rw [List.getElem?_set_self hil] at q; cases q; exact .inl ⟨rfl, rfl⟩
    · rw [List.getElem?_set_ne hj] at q; exact .inr ⟨hj, q⟩
  have avE : ∀ b, Av A0 r σ' (δ'.set i (.own ds)) b ↔ Av (fun b => A0 b ∨ b = l) r σ' δ' b := fun b => by
    constructor
    · rintro (h | h | ⟨j, es, q1, q2⟩)
      · exact .inl (.inl h)
      · exact .inr (.inl h)
      · rcases sl j _ q1 with ⟨rfl, _⟩ | ⟨_, q1'⟩
        · rw [e1'] at q2; cases q2
          exact .inl (.inr rfl)
        · exact .inr (.inr ⟨j, es, q1', q2⟩)
    · rintro ((h | rfl) | h | ⟨j, es, q1, q2⟩)
      · exact .inl h
      · exact .inr (.inr ⟨i, ds, List.getElem?_set_self hil, e1'⟩)
      · exact .inr (.inl h)
      · by_cases hj : i = j
        · subst hj
          rw [hs] at q1; cases q1
        · exact .inr (.inr ⟨j, es, by rw [List.getElem?_set_ne hj]; exact q1, q2⟩)
  have hA : Av (fun b => A0 b ∨ b = l) r σ' δ' l := .inl (.inr rfl)
  have t' : DRs K r (Av (fun b => A0 b ∨ b = l) r σ' δ') H' xs ds := t.move (lock_keep R e1 hi S) (lock_bar R e1 hi S)
  refine ⟨⟨S.er.rnd, (avE r).mpr S.er.ar, fun b hb => S.er.all b ((avE b).mp hb), by rw [List.length_set]; exact S.er.len, fun j d q => ?_, fun j es q => ?_, fun j k es fs m hjk q1 q2 q3 q4 => ?_⟩, fun b o hr q => S.ext b o hr (dn b o q), fun j es m q1 q2 => ?_, R.a0⟩
  · rcases sl j _ q with ⟨_, y⟩ | ⟨_, q'⟩
    · cases y
    · obtain ⟨v, f1, f2⟩ := S.er.val j d q'
      exact ⟨v, f1, f2.bar fun b o hb _ => (avE b).mp hb⟩
  · rcases sl j _ q with ⟨rfl, y⟩ | ⟨_, q'⟩
    · cases y
      exact ⟨l, xs, e1', (avE l).mpr hA, lr, e4', z, t'.bar fun b o hb _ => (avE b).mp hb⟩
    · obtain ⟨m, ys, f1, f2, f3, f4, f5, f6⟩ := S.er.own j es q'
      exact ⟨m, ys, f1, (avE m).mpr f2, f3, f4, f5, f6.bar fun b o hb _ => (avE b).mp hb⟩
  · have nol : ∀ (k : Nat) fs, δ'[k]? = some (.own fs) → σ'[k]? ≠ some (some (.ref l)) := fun k fs q3 q4 => by
      have y := S.fresh k fs l q3 q4
      unfold lockH at y
      rw [upd_same] at y; cases y
    rcases sl j _ q1 with ⟨rfl, _⟩ | ⟨_, q1'⟩
    · rcases sl k _ q2 with ⟨rfl, _⟩ | ⟨_, q2'⟩
      · exact hjk rfl
      · rw [e1'] at q3; cases q3
        exact nol k fs q2' q4
    · rcases sl k _ q2 with ⟨rfl, _⟩ | ⟨_, q2'⟩
      · rw [e1'] at q4; cases q4
        exact nol j es q1' q3
      · exact S.er.sep j k es fs m hjk q1' q2' q3 q4
  · rcases sl j _ q1 with ⟨rfl, _⟩ | ⟨_, q1'⟩
    · rw [e1'] at q2; cases q2
      exact hl0
    · have y := S.fresh j es m q1' q2
      cases q : H0 m with
      | none => rfl
      | some o => rw [dn m o q] at y; cases y
end
theorem forOwn_of {K : PySem.W.Frag} {E : XK} {g : DG} {gt : TG} {body : DS} {i : Nat} (hg : tGs K g gt) : ∀ Dd σ H, tS K E (fun P δ => ∃ ds, δ[i]? = some (.own ds) ∧
      ∀ a : Addr, forD g body { P with nx := fun δ' => δ'[i]? = some (.val (.adr a)) ∧ P.nx (δ'.set i (.own ds)), bk := fun _ => False, ct := fun _ => False } ds (δ.set i (.val (.adr a)))) Dd σ H →
    tFor (iList K (tVar i)) gt (tS K E body) Dd σ H := fun Dd σ H ⟨r, A0, H0, δ, P, R, ⟨ds, hi, h2⟩, L⟩ => by
  obtain ⟨l, xs, e1, e2, lr, e4, z, t⟩ := R.er.own i ds hi
  have S := R.lock hi e1 lr e4
  refine ⟨.ref l, e1, l, rfl, ⟨xs, SqL.of e4⟩, ?_⟩
  have h3 := h2 l
  refine ⟨fun k m σ' H' => m = ds.length - k ∧ k ≤ ds.length ∧ ∃ δ', SR K r (fun b => A0 b ∨ b = l) (lockH H0 H (Av A0 r σ δ) l xs) σ' H' δ' ∧ forD g body { P with nx := fun δ' => δ'[i]? = some (.val (.adr l)) ∧ P.nx (δ'.set i (.own ds)), bk := fun _ => False, ct := fun _ => False } (ds.drop k) δ', ⟨ds.length, by simp, Nat.zero_le _, _, S, h3⟩, ?_⟩
  rintro k m σ' H' ⟨rfl, hk, δ', S', h4⟩
  have el : H' l = some (.lst xs) := S'.ext l _ lr (by unfold lockH; rw [upd_same])
  have hl := t.length
  by_cases hlt : k < ds.length
  · have t' : DRs K r (Av (fun b => A0 b ∨ b = l) r σ' δ') H' xs ds := t.move (lock_keep R e1 hi S') (lock_bar R e1 hi S')
    obtain ⟨u, hu, ru⟩ := t'.get (List.getElem?_eq_getElem hlt)
    refine .inr ⟨⟨xs, u, SqL.of el, hu⟩, fun σ2 H2 => ∃ m', m' < ds.length - k ∧ m' = ds.length - (k + 1) ∧ k + 1 ≤ ds.length ∧ ∃ δ', SR K r (fun b => A0 b ∨ b = l) (lockH H0 H (Av A0 r σ δ) l xs) σ2 H2 δ' ∧ forD g body { P with nx := fun δ' => δ'[i]? = some (.val (.adr l)) ∧ P.nx (δ'.set i (.own ds)), bk := fun _ => False, ct := fun _ => False } (ds.drop (k + 1)) δ', fun σ2 H2 h => h, fun x H2 hy => ?_⟩
    obtain ⟨rfl, hy⟩ := hy
    have hx := hy xs (SqL.of el)
    rw [hu] at hx; cases hx
    rw [List.drop_eq_getElem_cons hlt] at h4
    refine hg r _ _ u ds[k] _ _ _ _ _ S' ru h4 fun δ2 σ2 h6 R6 => ⟨r, _, _, δ2, _, R6, h6, ?_⟩
    have dn : ∀ b o, H0 b = some o → lockH H0 H (Av A0 r σ δ) l xs b = some o := fun b o q => by
      unfold lockH
      rw [upd_ne (fun e => by rw [e, R.fresh i ds l hi e1] at q; cases q)]
      exact held_of q
    refine ⟨fun δ3 σ3 H3 q R7 => ⟨_, by omega, rfl, by omega, δ3, R7, q⟩, fun d v H3 q x7 n7 d7 => L.rt d v H3 q (fun b o hr z => x7 b o hr (dn b o z)) n7 (d7.bar fun b o hb _ => .inl hb), fun δ3 σ3 H3 q R7 => L.nx _ _ _ q.2 (R.unlock hi e1 lr t z R7 q.1), fun δ3 σ3 H3 q R7 => ⟨_, by omega, rfl, by omega, δ3, R7, q⟩,
      fun x c dd H3 q x7 n7 z => L.ex x c dd H3 q (fun b o hr z => x7 b o hr (dn b o z)) n7 (z.bar fun b o hb _ => .inl hb)⟩
  · have ei : k = ds.length := by omega
    rw [List.drop_eq_nil_of_le (by omega)] at h4
    obtain ⟨q1, q2⟩ := h4
    exact .inl ⟨⟨xs, SqL.of el, by omega⟩, L.nx _ _ _ q2 (R.unlock hi e1 lr t z S' q1)⟩
section
variable {X : Cx} {E : XK} {tg : Expr} {body : List Stmt} {g : DG} {gt : TG} {fb : DS} {pos p : Pos} {i : Nat} {x : Str}
theorem s_forOwn (hp : PassesOwn (model X.prog X.w) X.A X.env X.xe) (hc : X.calm = true) (hN : X.N[i]? = some x) (hv : Vis X.env.scope x) (hG : tGs X.K g gt) (hg : PG X tg gt) (hb : PSs X body (tS X.K E fb))
    (hd : (x == ("__debug__" : Str)) = false := by decide) (hcd : (x == ("__classdict__" : Str)) = false := by decide) (hs : ∀ y, foldedSetIterable (.Name x p) X.env y = pure y := by intro _; rfl) :
    PS X (.For tg (.Name x p) body [] pos) (tS X.K E (fun P δ => ∃ ds, δ[i]? = some (.own ds) ∧
      ∀ a : Addr, forD g fb { P with nx := fun δ' => δ'[i]? = some (.val (.adr a)) ∧ P.nx (δ'.set i (.own ds)), bk := fun _ => False, ct := fun _ => False } ds (δ.set i (.val (.adr a))))) :=
  PS.imp (ps_for hp hc (pi_list (pe_var hN hv hd hcd)) hg hb hs) (forOwn_of hG)
end
end L3

/-! itertools.combinations of a range -/
namespace CpCmb
open PySem PySem.Spec
open Sem (wp)
theorem mro_cmb : mroOf (.type "itertools.combinations") = pure [.type "itertools.combinations", .type "object"] := by rw [mroOf_type]; kernel_rfl
theorem lookup_cmb_new : typeLookup (.type "itertools.combinations") "__new__" = pure (some (.builtin "itertools.combinations.__new__")) := by rw [typeLookup_type, builtinLookup_eq_fast]; kernel_rfl
theorem slot_cmb_init : Slot "itertools.combinations" "__init__" "object.__init__" :=
  .of (owner := "object") (n := "__init__") (by rw [typeLookup_type, builtinLookup_eq_fast]; kernel_rfl) (by decide +kernel) (by decide +kernel) (by decide +kernel)
    (by first | exact .inl (by decide +kernel) | exact .inr (by decide +kernel)) (by rw [isSubtype_type]; kernel_rfl)
theorem sub_cmb : isSubtype (.type "itertools.combinations") (.type "itertools.combinations") = pure true := by rw [isSubtype_type]; kernel_rfl
theorem called_cmb : TypeCalled "itertools.combinations" "itertools.combinations.__new__" "object.__init__" :=
  ⟨by decide +kernel, by decide +kernel, ⟨_, _, mro_cmb⟩, madeBy_type mro_cmb lookup_cmb_new (by decide +kernel), by decide +kernel, sub_cmb, slot_cmb_init⟩
theorem typeCall_cmb_2 (a b : Value) : checkTypeCall "itertools.combinations" ⟨[a, b], []⟩ = pure () := by kernel_rfl
theorem newCall_cmb_2 (a b : Value) : checkBuiltinCall "itertools.combinations.__new__" ⟨[.type "itertools.combinations", a, b], []⟩ = pure () := by kernel_rfl
theorem entry_cmb_new : entryFor table "itertools.combinations.__new__" = some Builtin.«itertools.combinations.__new__» := entryFor_of_tree (by kernel_rfl)
theorem plain_cmb_new : plainId "itertools.combinations.__new__" = true := by decide +kernel
theorem slot_cmb_iter : Slot "itertools.combinations" "__iter__" "itertools.combinations.__iter__" :=
  .of (owner := "itertools.combinations") (n := "__iter__") (by rw [typeLookup_type, builtinLookup_eq_fast]; kernel_rfl) (by decide +kernel) (by decide +kernel) (by decide +kernel)
    (by first | exact .inl (by decide +kernel) | exact .inr (by decide +kernel)) sub_cmb
theorem slot_cmb_next : Slot "itertools.combinations" "__next__" "itertools.combinations.__next__" :=
  .of (owner := "itertools.combinations") (n := "__next__") (by rw [typeLookup_type, builtinLookup_eq_fast]; kernel_rfl) (by decide +kernel) (by decide +kernel) (by decide +kernel)
    (by first | exact .inl (by decide +kernel) | exact .inr (by decide +kernel)) sub_cmb
theorem entry_cmb_iter : entryFor table "itertools.combinations.__iter__" = some Builtin.«dict_keyiterator.__iter__» :=
  entryFor_alias (id' := "dict_keyiterator.__iter__") (by kernel_rfl) (by first | rfl | decide +kernel | (unfold String.splitOn; simp +decide [String.splitOnAux])) (by decide +kernel) (by kernel_rfl)
theorem entry_cmb_next : entryFor table "itertools.combinations.__next__" = some Builtin.«itertools.combinations.__next__» := entryFor_of_tree (by kernel_rfl)
theorem owner_cmb : Manifest.owners.lookup (String.ofList ['s', 'n', 'o', 'i', 't', 'a', 'n', 'i', 'b', 'm', 'o', 'c', '.', 's', 'l', 'o', 'o', 't', 'r', 'e', 't', 'i'].reverse) = some Manifest.sig_itertools_combinations := by kernel_rfl
theorem args_cmb_iter (a : Value) : argsOk "itertools.combinations.__iter__" ⟨[a], []⟩ := by
  unfold argsOk; rw [signature?_of (id := "itertools.combinations.__iter__") (n := ['_', '_', 'r', 'e', 't', 'i', '_', '_']) (o := ['s', 'n', 'o', 'i', 't', 'a', 'n', 'i', 'b', 'm', 'o', 'c', '.', 's', 'l', 'o', 'o', 't', 'r', 'e', 't', 'i']) (by kernel_rfl) owner_cmb]; kernel_rfl
theorem args_cmb_next (a : Value) : argsOk "itertools.combinations.__next__" ⟨[a], []⟩ := by
  unfold argsOk; rw [signature?_of (id := "itertools.combinations.__next__") (n := ['_', '_', 't', 'x', 'e', 'n', '_', '_']) (o := ['s', 'n', 'o', 'i', 't', 'a', 'n', 'i', 'b', 'm', 'o', 'c', '.', 's', 'l', 'o', 'o', 't', 'r', 'e', 't', 'i']) (by kernel_rfl) owner_cmb]; kernel_rfl
theorem noDict_cmb : typeHasDict (.type "itertools.combinations") = false := by decide +kernel
/-- the next choice of places -/
def nextC (n : Nat) (indices : List Nat) : Option (List Nat) :=
  let r := indices.length
  match (List.range r).reverse.find? fun i => indices.getD i 0 != i + n - r with
  | none => none
  | some i => some (indices.take i ++ (List.range (r - i)).map (indices.getD i 0 + 1 + ·))
/-- the object at work: its pool, its state, the last tuple, the places -/
abbrev cmbObj (p : Addr) (k : Int) (last : Value) (idx : List Nat) : Obj := { cls := .type "itertools.combinations", dict := none, data := .fields ([.ref p, rawInt k, last] ++ idx.map fun i : Nat => rawInt i).toArray, slots := #[] }
section
variable {prog : Program} {w : World} {A : Around} {E : Value → Shared → Prop} {s : Shared}
theorem iter_cmb {it p : Addr} {k : Int} {l : Value} {idx : List Nat} {Q : Value → Shared → Prop} (hit : s.heap.get? it = some (cmbObj p k l idx)) (h : Q (.ref it) s) : wpAny (model prog w) A (pyIter (.ref it)) Q E s := by
  have hT : s.TypeIs (.ref it) "itertools.combinations" := ⟨_, hit, rfl⟩
  refine wpAny_pyIter_slot hT slot_cmb_iter (wpAny_call_entry slot_cmb_iter hT entry_cmb_iter ?_ (args_cmb_iter _))
  show wpAny _ _ (ret (.ref it)) _ _ s
  exact wpAny_pure ⟨_, rfl, "itertools.combinations", _, hT, slot_cmb_next.lookup, h⟩
theorem numbers_cmb {it p : Addr} {k : Int} {l : Value} {idx : List Nat} {Q : List Nat → Shared → Prop} (hit : s.heap.get? it = some (cmbObj p k l idx)) (h : Q idx s) : wpAny (model prog w) A (Builtin.Itertools.itNumbersFrom (.ref it) 3) Q E s := by
  unfold Builtin.Itertools.itNumbersFrom
  refine wpAny_bind (wpAny_load hit ?_)
  refine wpAny_pure ?_
  refine Eq.mpr (congrArg (Q · s) ?_) h
  show ((idx.map fun i : Nat => rawInt i).map _) = idx
  rw [List.map_map]
  conv => rhs; rw [← List.map_id idx]
  exact List.map_congr_left fun i _ => Int.toNat_natCast i
theorem fields_set1 {p : Addr} {k k2 : Int} {l : Value} {idx : List Nat} : (cmbObj p k l idx).mapFields (fun x => x.setIfInBounds 1 (rawInt k2)) = cmbObj p k2 l idx := by
  unfold Obj.mapFields
  simp [cmbObj]
theorem fields_set2 {p : Addr} {k : Int} {l l2 : Value} {idx : List Nat} : (cmbObj p k l idx).mapFields (fun x => x.setIfInBounds 2 l2) = cmbObj p k l2 idx := by
  unfold Obj.mapFields
  simp [cmbObj]
theorem fields_set3 {p : Addr} {k : Int} {l : Value} {idx idx2 : List Nat} : (cmbObj p k l idx).mapFields (fun fs => fs.extract 0 3 ++ (idx2.map fun n : Nat => rawInt n).toArray) = cmbObj p k l idx2 := by
  unfold Obj.mapFields
  simp [cmbObj]
/-- the pool: a tuple of the first whole numbers -/
def Pool (h : Heap) (p : Addr) (n : Nat) : Prop := ∃ its : Array Value, h.get? p = some { cls := .type "tuple", data := .seq its } ∧ its.size = n ∧ ∀ i, i < n → ∃ t, its.getD i .none = .int (i : Nat) t
theorem Pool.keep {h h' : Heap} {p : Addr} {n : Nat} (P : Pool h p n) (k : ∀ o, h.get? p = some o → h'.get? p = some o) : Pool h' p n := by
  obtain ⟨its, e, r⟩ := P
  exact ⟨its, k _ e, r⟩
/-- the tuple that is handed out -/
def Picked (h : Heap) (a : Addr) (idx : List Nat) : Prop := ∃ vs : List Value, h.get? a = some { cls := .type "tuple", data := .seq vs.toArray } ∧ vs.length = idx.length ∧ ∀ (m : Nat) v, vs[m]? = some v → ∃ i t, idx[m]? = some i ∧ v = .int (i : Nat) t
theorem hand_cmb {it p : Addr} {k : Int} {l : Value} {old idx : List Nat} {n : Nat} {Q : Fin → Shared → Prop} (hit : s.heap.get? it = some (cmbObj p k l old)) (hP : Pool s.heap p n) (hip : it ≠ p) (hidx : ∀ i ∈ idx, i < n) (hl : idx.length ≤ 1000)
    (h : ∀ h', h'.get? it = some (cmbObj p k (.ref s.heap.objs.size) old) → Pool h' p n → Picked h' s.heap.objs.size idx → h'.objs.size = s.heap.objs.size + 1 → (∀ b o, b ≠ it → s.heap.get? b = some o → h'.get? b = some o) → Q (.done (.ret (.ref s.heap.objs.size))) { s with heap := h' }) :
    wpAny (model prog w) A (do
      let result ← (do let items ← Builtin.Itertools.itPoolItems (.ref p); newTuple (idx.map fun i => items.getD i .none))
      let before ← field (.ref it) 2
      setField (.ref it) 2 result
      letGo [before] [result]
      ret result) Q E s := by
  obtain ⟨its, e, hs, hi⟩ := hP
  refine wpAny_bind (wpAny_bind ?_)
  unfold Builtin.Itertools.itPoolItems
  refine wpAny_bind (wpAny_seqItems e rfl (wpAny_pure ?_))
  refine wpAny_newTuple ?_ (by rw [sizeLine_eq, List.length_map]; omega)
  have hit2 := Heap.get?_push_of_some { cls := .type "tuple", data := .seq (idx.map fun i => its.getD i .none).toArray } hit
  refine wpAny_bind (wpAny_field hit2 rfl (x := l) rfl ?_)
  refine wpAny_bind (wpAny_setField hit2 rfl (by simp) ?_)
  refine wpAny_bind (wpAny_letGo (wpAny_pure ?_))
  refine h _ ?_ ?_ ?_ ?_ fun b o hb q => ?_
  · rw [Heap.get?_update_self _ hit2 rfl, fields_set2]
  · refine ⟨its, ?_, hs, hi⟩
    exact (Heap.get?_update_other _ _ hip).trans (Heap.get?_push_of_some _ e)
  · refine ⟨idx.map fun i => its.getD i .none, ?_, List.length_map _, fun m v hv => ?_⟩
    · exact (Heap.get?_update_other _ _ (Nat.ne_of_lt (Heap.lt_size hit))).trans (Heap.get?_push_size _ rfl)
    · rw [List.getElem?_map] at hv
      cases q : idx[m]? with
      | none => rw [q] at hv; cases hv
      | some i =>
        rw [q] at hv
        cases hv
        obtain ⟨t, et⟩ := hi i (hidx i (List.mem_of_getElem? q))
        exact ⟨i, t, rfl, et⟩
  · show (Heap.update _ _ _).objs.size = _
    rw [Heap.size_update, Heap.size_push]
  · exact (Heap.get?_update_other _ _ (Ne.symm hb)).trans (Heap.get?_push_of_some _ q)
theorem cmb_first {it p : Addr} {l : Value} {idx : List Nat} {n : Nat} {Q : Value → Shared → Prop} (hit : s.heap.get? it = some (cmbObj p 0 l idx)) (hP : Pool s.heap p n) (hip : it ≠ p) (hidx : ∀ i ∈ idx, i < n) (hl : idx.length ≤ 1000)
    (h : ∀ h', h'.get? it = some (cmbObj p 1 (.ref s.heap.objs.size) idx) → Pool h' p n → Picked h' s.heap.objs.size idx → h'.objs.size = s.heap.objs.size + 1 → (∀ b o, b ≠ it → s.heap.get? b = some o → h'.get? b = some o) → Q (.ref s.heap.objs.size) { s with heap := h' }) :
    wpAny (model prog w) A (Builtin.«itertools.combinations.__next__» ⟨[.ref it], []⟩) (fun fin s' => ∃ v, fin = .done (.ret v) ∧ Q v s') E s := by
  show wpAny _ _ (field (.ref it) 0 >>= _) _ _ s
  refine wpAny_bind (wpAny_field hit rfl (x := .ref p) rfl ?_)
  refine wpAny_bind (numbers_cmb hit ?_)
  show wpAny _ _ (Builtin.Itertools.itIntField (.ref it) 1 >>= _) _ _ s
  refine wpAny_bind ?_
  unfold Builtin.Itertools.itIntField
  refine wpAny_bind (wpAny_field hit rfl (x := rawInt 0) rfl (wpAny_pure ?_))
  show wpAny _ _ (setField (.ref it) 1 (rawInt 1) >>= _) _ _ s
  refine wpAny_bind (wpAny_setField hit rfl (by simp) ?_)
  have hit2 : (s.heap.update it (Obj.mapFields fun x => x.setIfInBounds 1 (rawInt 1))).get? it = some (cmbObj p 1 l idx) := by rw [Heap.get?_update_self _ hit rfl, fields_set1]
  have hsz : (s.heap.update it (Obj.mapFields fun x => x.setIfInBounds 1 (rawInt 1))).objs.size = s.heap.objs.size := Heap.size_update ..
  have hot : ∀ b o, b ≠ it → s.heap.get? b = some o → (s.heap.update it (Obj.mapFields fun x => x.setIfInBounds 1 (rawInt 1))).get? b = some o := fun b o hb q => (Heap.get?_update_other _ _ (Ne.symm hb)).trans q
  refine hand_cmb (s := { s with heap := s.heap.update it (Obj.mapFields fun x => x.setIfInBounds 1 (rawInt 1)) }) hit2 (hP.keep fun o q => hot _ _ (Ne.symm hip) q) hip hidx hl fun h' a b c d e => ⟨_, rfl, ?_⟩
  show Q (.ref (s.heap.update it (Obj.mapFields fun x => x.setIfInBounds 1 (rawInt 1))).objs.size) _
  rw [hsz]
  have a' : h'.get? it = some (cmbObj p 1 (.ref (s.heap.update it (Obj.mapFields fun x => x.setIfInBounds 1 (rawInt 1))).objs.size) idx) := a
  have c' : Picked h' (s.heap.update it (Obj.mapFields fun x => x.setIfInBounds 1 (rawInt 1))).objs.size idx := c
  have d' : h'.objs.size = (s.heap.update it (Obj.mapFields fun x => x.setIfInBounds 1 (rawInt 1))).objs.size + 1 := d
  rw [hsz] at a' c' d'
  exact h h' a' b c' d' fun b o hb q => e b o hb (hot b o hb q)
theorem cmb_next {it p : Addr} {l : Value} {idx idx2 : List Nat} {n : Nat} {Q : Value → Shared → Prop} (hit : s.heap.get? it = some (cmbObj p 1 l idx)) (hn : nextC n idx = some idx2) (hP : Pool s.heap p n) (hip : it ≠ p) (hidx : ∀ i ∈ idx2, i < n) (hl : idx2.length ≤ 1000)
    (h : ∀ h', h'.get? it = some (cmbObj p 1 (.ref s.heap.objs.size) idx2) → Pool h' p n → Picked h' s.heap.objs.size idx2 → h'.objs.size = s.heap.objs.size + 1 → (∀ b o, b ≠ it → s.heap.get? b = some o → h'.get? b = some o) → Q (.ref s.heap.objs.size) { s with heap := h' }) :
    wpAny (model prog w) A (Builtin.«itertools.combinations.__next__» ⟨[.ref it], []⟩) (fun fin s' => ∃ v, fin = .done (.ret v) ∧ Q v s') E s := by
  show wpAny _ _ (field (.ref it) 0 >>= _) _ _ s
  refine wpAny_bind (wpAny_field hit rfl (x := .ref p) rfl ?_)
  refine wpAny_bind (numbers_cmb hit ?_)
  show wpAny _ _ (Builtin.Itertools.itIntField (.ref it) 1 >>= _) _ _ s
  refine wpAny_bind ?_
  unfold Builtin.Itertools.itIntField
  refine wpAny_bind (wpAny_field hit rfl (x := rawInt 1) rfl (wpAny_pure ?_))
  show wpAny _ _ (Builtin.Itertools.itPoolItems (.ref p) >>= _) _ _ s
  refine wpAny_bind ?_
  obtain ⟨its, e, hs, hi⟩ := hP
  unfold Builtin.Itertools.itPoolItems
  refine wpAny_bind (wpAny_seqItems e rfl (wpAny_pure ?_))
  subst hs
  show wpAny _ _ (match nextC its.size idx with | some next => _ | none => _) _ _ s
  rw [hn]
  show wpAny _ _ (Builtin.Itertools.itSetNumbersFrom (.ref it) 3 idx2 >>= _) _ _ s
  unfold Builtin.Itertools.itSetNumbersFrom
  refine wpAny_bind (wpAny_updateFields hit rfl ?_ (by
    rw [sizeLine_eq]
    simp
    omega))
  have hit2 : (s.heap.update it (Obj.mapFields fun fs => fs.extract 0 3 ++ (idx2.map fun n : Nat => rawInt n).toArray)).get? it = some (cmbObj p 1 l idx2) := by rw [Heap.get?_update_self _ hit rfl, fields_set3]
  have hsz : (s.heap.update it (Obj.mapFields fun fs => fs.extract 0 3 ++ (idx2.map fun n : Nat => rawInt n).toArray)).objs.size = s.heap.objs.size := Heap.size_update ..
  have hot : ∀ b o, b ≠ it → s.heap.get? b = some o → (s.heap.update it (Obj.mapFields fun fs => fs.extract 0 3 ++ (idx2.map fun n : Nat => rawInt n).toArray)).get? b = some o := fun b o hb q => (Heap.get?_update_other _ _ (Ne.symm hb)).trans q
  refine hand_cmb (s := { s with heap := s.heap.update it (Obj.mapFields fun fs => fs.extract 0 3 ++ (idx2.map fun n : Nat => rawInt n).toArray) }) hit2 ⟨its, hot _ _ (Ne.symm hip) e, rfl, hi⟩ hip hidx hl fun h' a b c d e => ⟨_, rfl, ?_⟩
  have a' : h'.get? it = some (cmbObj p 1 (.ref (s.heap.update it (Obj.mapFields fun fs => fs.extract 0 3 ++ (idx2.map fun n : Nat => rawInt n).toArray)).objs.size) idx2) := a
  have c' : Picked h' (s.heap.update it (Obj.mapFields fun fs => fs.extract 0 3 ++ (idx2.map fun n : Nat => rawInt n).toArray)).objs.size idx2 := c
  have d' : h'.objs.size = (s.heap.update it (Obj.mapFields fun fs => fs.extract 0 3 ++ (idx2.map fun n : Nat => rawInt n).toArray)).objs.size + 1 := d
  show Q (.ref (s.heap.update it (Obj.mapFields fun fs => fs.extract 0 3 ++ (idx2.map fun n : Nat => rawInt n).toArray)).objs.size) _
  rw [hsz] at a' c' d' ⊢
  exact h h' a' b c' d' fun b o hb q => e b o hb (hot b o hb q)
theorem cmb_end {it p : Addr} {l : Value} {idx : List Nat} {n : Nat} {Q : Fin → Shared → Prop} (hh : A.handled = none) (hit : s.heap.get? it = some (cmbObj p 1 l idx)) (hn : nextC n idx = none) (hP : Pool s.heap p n)
    (h : ∀ h' e, (∃ o, h'.get? e = some o ∧ o.cls = .type "StopIteration") → (∀ b o, b ≠ it → s.heap.get? b = some o → h'.get? b = some o) → E (.ref e) { s with heap := h' }) :
    wpAny (model prog w) A (Builtin.«itertools.combinations.__next__» ⟨[.ref it], []⟩) Q E s := by
  show wpAny _ _ (field (.ref it) 0 >>= _) _ _ s
  refine wpAny_bind (wpAny_field hit rfl (x := .ref p) rfl ?_)
  refine wpAny_bind (numbers_cmb hit ?_)
  show wpAny _ _ (Builtin.Itertools.itIntField (.ref it) 1 >>= _) _ _ s
  refine wpAny_bind ?_
  unfold Builtin.Itertools.itIntField
  refine wpAny_bind (wpAny_field hit rfl (x := rawInt 1) rfl (wpAny_pure ?_))
  show wpAny _ _ (Builtin.Itertools.itPoolItems (.ref p) >>= _) _ _ s
  refine wpAny_bind ?_
  obtain ⟨its, e, hs, hi⟩ := hP
  unfold Builtin.Itertools.itPoolItems
  refine wpAny_bind (wpAny_seqItems e rfl (wpAny_pure ?_))
  subst hs
  show wpAny _ _ (match nextC its.size idx with | some next => _ | none => _) _ _ s
  rw [hn]
  show wpAny _ _ (setField (.ref it) 1 (rawInt 2) >>= _) _ _ s
  refine wpAny_bind (wpAny_setField hit rfl (by simp) ?_)
  show wpAny _ _ (newExc (.type "StopIteration") [] >>= _) _ _ _
  refine wpAny_bind ?_
  simp only [newExc, newTuple]
  refine wpAny_bind (wpAny_newObj_type ?_ (by size_fits))
  refine wpAny_bind (m := firstArgMember _ _) (wpAny_of_eq (a := Value.none) (by first | rfl | (simp only [firstArgMember]; rfl)) ?_)
  refine wpAny_newObj_type ?_ (by size_fits)
  simp only [raiseNew]
  refine wpAny_bind (wpAny_handled ?_)
  rw [hh]
  refine wpAny_bind (wpAny_pure (wpAny_throw ?_))
  exact h _ _ ⟨_, Heap.get?_push_size _ rfl, rfl⟩ fun b o hb q => Heap.get?_push_of_some _ (Heap.get?_push_of_some _ ((Heap.get?_update_other _ _ (Ne.symm hb)).trans q))
theorem pyNext_item {it : Addr} {o : Obj} {Q : Option Value → Shared → Prop} (ho : s.heap.get? it = some o) (hc : o.cls = .type "itertools.combinations")
    (h : wpAny (model prog w) A.in1 (Builtin.«itertools.combinations.__next__» ⟨[.ref it], []⟩) (fun fin s' => ∃ v, fin = .done (.ret v) ∧ Q (some v) s') (fun e s' => (∃ a, e = .ref a ∧ ∃ o, s'.heap.get? a = some o ∧ o.cls = .type "StopIteration") ∧ Q none s') s) :
    wpAny (model prog w) A (pyNext (.ref it)) Q E s := by
  have hT : s.TypeIs (.ref it) "itertools.combinations" := ⟨_, ho, hc⟩
  unfold pyNext
  refine wpAny_bind (wpAny_attempt (wpAny_callSpecial?_slot (name := Str.ofString "__next__") hT slot_cmb_next
    (wpAny_call_entry slot_cmb_next hT entry_cmb_next (wpAny_mono h (fun fin s' q => ?_) fun e s' q => ?_) (args_cmb_next _))))
  · obtain ⟨v, rfl, q⟩ := q
    exact ⟨v, rfl, wpAny_pure q⟩
  · obtain ⟨⟨a, rfl, o, ho, hc⟩, q⟩ := q
    refine wpAny_bind (wpAny_isInstance (T := "StopIteration") (b := true) ⟨o, ho, hc⟩ isSubtype_stop ?_)
    exact wpAny_pure q
end
section
variable {prog : Program} {w : World} {A : Around} {E : Value → Shared → Prop} {s : Shared}
theorem code_cmb_new {Q₁ : Value → Shared → Prop} {r : Addr} {n k : Nat} {t0 t1 t2 t3 : Tok} (hh : A.handled = none) (hr : IsRange s.heap r 0 n 1 t0 t1 t2) (hk : k ≤ n) (hn : n ≤ 1000)
    (h : ∀ (hm h' : Heap) (tk : Nat) (it p : Addr), h'.get? it = some (cmbObj p 0 .none (List.range k)) → Pool h' p n → it ≠ p → hm.objs.size ≤ it → hm.objs.size ≤ p → (∀ b o, s.heap.get? b = some o → hm.get? b = some o) → (∀ b o, hm.get? b = some o → h'.get? b = some o) → Q₁ (.ref it) { s with heap := h', toks := tk }) :
    codeAny (model prog w) A (.call (.builtin "itertools.combinations.__new__") ⟨[.type "itertools.combinations", .ref r, .int (k : Nat) t3], []⟩) (wants Q₁ E) s := by
  refine codeAny_of_tree ?_
  show wpAny _ A.in1 (do checkBuiltinCall "itertools.combinations.__new__" ⟨[.type "itertools.combinations", .ref r, .int (k : Nat) t3], []⟩; again (.builtin "itertools.combinations.__new__" ⟨[.type "itertools.combinations", .ref r, .int (k : Nat) t3], []⟩)) _ _ s
  refine wpAny_bind (wpAny_of_eq (newCall_cmb_2 _ _) (wpAny_pure ⟨plainId_quiet plain_cmb_new _, codeAny_builtin entry_cmb_new ?_⟩))
  rw [Around.under_plainId plain_cmb_new _]
  have hsub := sub_cmb
  have hd := noDict_cmb
  have hh1 : A.in1.handled = none := hh
  unfold Builtin.«itertools.combinations.__new__»
  refine wpAny_bind ?_
  show wpAny _ _ (Builtin.Itertools.itClassAndRest "combinations" _ >>= _) _ _ s
  repeat (first
    | wp_step
    | simp only [List.head?_cons, Option.some_or, List.getElem?_cons_succ, List.getElem?_cons_zero, List.length_cons, List.length_nil, List.forIn_nil])
  refine wpAny_of_eq hsub ?_
  repeat (first
    | wp_step
    | simp only [List.head?_cons, Option.some_or, List.getElem?_cons_succ, List.getElem?_cons_zero, List.length_cons, List.length_nil, List.forIn_nil])
  have hb : ¬ ((decide ((k : Int) < -2 ^ 63) || decide ((k : Int) ≥ 2 ^ 63)) = true) := by
    rw [decide_eq_false (by omega), decide_eq_false (by omega)]; decide
  rw [if_neg hb]
  refine wpAny_pure ?_
  refine wpAny_bind (L2.collect_range (n := n) hh1 hr (PySem.small_one (by omega) (by omega) (by omega) (by omega)) (by rw [PyProof.Rows.rangeSize_nat]; omega) (by omega) fun h' tk acc hk' hacc => ?_)
  have h1 : ¬ ((k : Int) < 0) := by omega
  have h2 : ¬ (Builtin.Itertools.itTooMany (k : Int) = true) := by
    unfold Builtin.Itertools.itTooMany
    rw [decide_eq_false (by omega)]; decide
  rw [if_neg h1, if_neg h2]
  have hal : acc.toList.length = n := by rw [Array.length_toList]; exact hacc.1
  refine wpAny_bind (wpAny_newTuple (wpAny_pure ?_) (by rw [hal, sizeLine_eq]; omega))
  show wpAny _ _ (Builtin.Itertools.itNewRecord _ _ >>= _) _ _ _
  refine wpAny_bind ?_
  unfold Builtin.Itertools.itNewRecord
  rw [hd, if_pos (show (!false) = true from rfl)]
  have hkn : ¬ ((k : Int).toNat > acc.toList.length) := by omega
  have hkk : (k : Int).toNat = k := Int.toNat_natCast k
  have ea : acc.toList.toArray = acc := by simp
  dsimp only
  rw [if_neg hkn, hkk, ea]
  refine wpAny_newObj_type (wpAny_pure ?_) (by
    show Array.size _ ≤ _
    rw [sizeLine_eq]
    simp
    omega)
  have hsz : (h'.push { cls := .type "tuple", data := .seq acc }).objs.size = h'.objs.size + 1 := Heap.size_push ..
  refine h h' _ tk _ h'.objs.size (Heap.get?_push_size _ rfl) ⟨acc, Heap.get?_push_of_some _ (Heap.get?_push_size _ rfl), hacc.1, fun i hi => ?_⟩ (by rw [hsz]; exact Nat.ne_of_gt (Nat.lt_succ_self _)) (by rw [hsz]; exact Nat.le_succ _) (Nat.le_refl _) hk' fun b o q => Heap.get?_push_of_some _ (Heap.get?_push_of_some _ q)
  have hlt : i < acc.size := by rw [hacc.1]; exact hi
  obtain ⟨t, et⟩ := hacc.2 i acc[i] (Array.getElem?_eq_getElem hlt)
  refine ⟨t, ?_⟩
  rw [Array.getD_eq_getD_getElem?, Array.getElem?_eq_getElem hlt]
  show acc[i] = _
  rw [et]
  congr 1
  omega
theorem call_cmb {Q : Value → Shared → Prop} {r : Addr} {n k : Nat} {t0 t1 t2 t3 : Tok} (hh : A.handled = none) (hr : IsRange s.heap r 0 n 1 t0 t1 t2) (hk : k ≤ n) (hn : n ≤ 1000)
    (h : ∀ (hm h' : Heap) (tk : Nat) (it p : Addr), h'.get? it = some (cmbObj p 0 .none (List.range k)) → Pool h' p n → it ≠ p → hm.objs.size ≤ it → hm.objs.size ≤ p → (∀ b o, s.heap.get? b = some o → hm.get? b = some o) → (∀ b o, hm.get? b = some o → h'.get? b = some o) → Q (.ref it) { s with heap := h', toks := tk }) :
    wpAny (model prog w) A (call (.type "itertools.combinations") [.ref r, .int (k : Nat) t3]) Q E s := by
  refine callType_codes (Q₁ := fun obj s₁ => s₁.TypeIs obj "itertools.combinations" ∧ Q obj s₁) called_cmb (typeCall_cmb_2 _ _) F.entry_object_init
    (code_cmb_new (A := A.in1) hh hr hk hn fun hm h' tk it p a b c d e f g => ⟨⟨_, a, rfl⟩, h hm h' tk it p a b c d e f g⟩) fun obj s₁ h₁ => ?_
  exact ⟨h₁.1, F.args_object_init_3 obj _ _, object_init_meets called_cmb.init.lookup called_cmb.made (by decide) prog w A.in1 _ s₁ ⟨h₁.1, rfl, h₁.2⟩⟩
end
end CpCmb

/-! for .. in combinations(range(n), k) -/
namespace L3
open PySem PySem.Spec PyProof.Rows L2 CpCmb
/-- all choices of k things, in their order -/
def comb : List Nat → Nat → List (List Nat)
  | _, 0 => [[]]
  | [], _ + 1 => []
  | x :: l, k + 1 => (comb l k).map (x :: ·) ++ comb l (k + 1)
abbrev combN (n k : Nat) : List (List Nat) := comb (List.range n) k
theorem comb_steps : ∀ n ≤ 6, ∀ k ≤ n, (combN n k)[0]? = some (List.range k) ∧ (∀ i < (combN n k).length, nextC n ((combN n k).getD i []) = (combN n k)[i + 1]?) ∧ ∀ c ∈ combN n k, c.length = k ∧ ∀ j ∈ c, j < n := by decide +kernel
theorem comb_pos {n k : Nat} (hn : n ≤ 6) (hk : k ≤ n) : 0 < (combN n k).length := by
  have := (comb_steps n hn k hk).1
  exact (List.getElem?_eq_some_iff.mp this).1
/-- the items: new tuples -/
def Itc (L : List (List Nat)) : It :=
  ⟨fun i _ => i < L.length, fun i H v H' => ∃ T, v = .ref T ∧ H T = none ∧ H' = upd H T (.tup ((L.getD i []).map fun j => V.int (j : Nat))), fun i _ => L.length ≤ i⟩
/-- the object behind i turns -/
def cmbAt (it p : Addr) (n k : Nat) (i : Nat) (h : Heap) : Prop :=
  Pool h p n ∧ (i = 0 ∧ (∃ l, h.get? it = some (cmbObj p 0 l (List.range k))) ∨ ∃ m c l, i = m + 1 ∧ (combN n k)[m]? = some c ∧ h.get? it = some (cmbObj p 1 l c))
theorem vals_picked {h : Heap} {a : Addr} {idx : List Nat} (P : Picked h a idx) : ∃ vs : List Value, h.get? a = some { cls := .type "tuple", data := .seq vs.toArray } ∧ Vals (idx.map fun j => V.int (j : Nat)) vs := by
  obtain ⟨vs, e, hl, hv⟩ := P
  refine ⟨vs, e, ?_⟩
  clear e
  induction idx generalizing vs with
  | nil =>
    cases vs with
    | nil => exact .nil
    | cons _ _ => cases hl
  | cons i idx ih =>
    cases vs with
    | nil => cases hl
    | cons v vs =>
      obtain ⟨j, t, e1, e2⟩ := hv 0 v rfl
      cases e1
      refine .cons ⟨t, e2⟩ (ih vs (by simpa using hl) fun m u e => ?_)
      have := hv (m + 1) u (by simpa using e)
      simpa using this
theorem turn_cmb {P : Program} {w : World} {K : PySem.W.Frag} {tg : Expr} {it p : Addr} {n k : Nat} (hip : it ≠ p) (hn : n ≤ 6) (hk : k ≤ n) : Turn P w K tg (Itc (combN n k)) [it, p] it (cmbAt it p n k) where
  mem := List.mem_cons_self
  obj := fun i h ⟨⟨its, e, _⟩, st⟩ c hc => by
    rcases List.mem_cons.mp hc with rfl | hc
    · rcases st with ⟨_, l, e2⟩ | ⟨m, q, l, _, _, e2⟩
      · exact ⟨_, e2, fun v z => nomatch z⟩
      · exact ⟨_, e2, fun v z => nomatch z⟩
    · rw [List.mem_singleton.mp hc]
      exact ⟨_, e, fun v z => nomatch z⟩
  keep := fun i h h' ⟨hP, st⟩ kp => by
    refine ⟨hP.keep fun o e => kp p (by simp) o e, ?_⟩
    rcases st with ⟨h0, l, e2⟩ | ⟨m, q, l, h1, h2, e2⟩
    · exact .inl ⟨h0, l, kp it (by simp) _ e2⟩
    · exact .inr ⟨m, q, l, h1, h2, kp it (by simp) _ e2⟩
  item := by
    intro X hP hw hK hc i pins s σ H E I hf st hg
    subst hP hw hK
    obtain ⟨s1, s2, s3⟩ := comb_steps n hn k hk
    obtain ⟨hPool, st⟩ := st
    have hg : i < (combN n k).length := hg
    have hci : (combN n k)[i]? = some ((combN n k).getD i []) := by rw [List.getD_eq_getElem?_getD, List.getElem?_eq_getElem hg]; rfl
    obtain ⟨c1, c2⟩ := s3 _ (List.mem_of_getElem? hci)
    obtain ⟨oit, eit, cit⟩ : ∃ o, s.heap.get? it = some o ∧ o.cls = .type "itertools.combinations" := by
      rcases st with ⟨_, l, e2⟩ | ⟨m, q, l, _, _, e2⟩
      · exact ⟨_, e2, rfl⟩
      · exact ⟨_, e2, rfl⟩
    have hlt : it < s.heap.objs.size := Heap.lt_size eit
    have hpl : p < s.heap.objs.size := by obtain ⟨its, e, _⟩ := hPool; exact Heap.lt_size e
    have fin : ∀ h', h'.get? it = some (cmbObj p 1 (.ref s.heap.objs.size) ((combN n k).getD i [])) → Pool h' p n → Picked h' s.heap.objs.size ((combN n k).getD i []) → h'.objs.size = s.heap.objs.size + 1 → (∀ b o, b ≠ it → s.heap.get? b = some o → h'.get? b = some o) →
        ∃ u, some (Value.ref s.heap.objs.size) = some u ∧ wpAny (model X.prog X.w) X.A (letOwnedTupleGo tg (.ref it) u) (fun _ s2 => ∃ x H', Inv X pins σ H' s2 ∧ RelV x u ∧ (Itc (combN n k)).yld i H x H' ∧ cmbAt it p n k (i + 1) s2.heap ∧ ∀ b ∈ [it, p], H' b = none) E { s with heap := h' } := fun h' a b c d e => by
      refine ⟨_, rfl, go_of (s := { s with heap := h' }) a rfl rfl (by decide) ?_⟩
      obtain ⟨vs, ev, rv⟩ := vals_picked c
      have new : ObjOk X.prog X.w (upd H s.heap.objs.size (.tup (((combN n k).getD i []).map fun j => V.int (j : Nat)))) h' s.heap.objs.size (.tup (((combN n k).getD i []).map fun j => V.int (j : Nat))) :=
        ⟨by rw [List.length_map, c1, sizeLine_eq]; omega, vs, rv, ⟨_, ev, rfl, _, rfl⟩⟩
      refine ⟨.ref s.heap.objs.size, _, I.turnedNew (t' := s.toks) (ch := [it, p]) (fun c o hb q => e c o (fun z => hb (by rw [z]; exact List.mem_cons_self)) q) hf (Nat.le_refl _) new, rfl, ⟨_, rfl, I.hok.fresh (Nat.le_refl _), rfl⟩, ⟨b, .inr ⟨i, _, _, rfl, hci, a⟩⟩, fun c hcm => ?_⟩
      have hcl : c < s.heap.objs.size := by
        rcases List.mem_cons.mp hcm with rfl | hcm
        · exact hlt
        · rw [List.mem_singleton.mp hcm]; exact hpl
      rw [upd_ne (Nat.ne_of_lt hcl)]
      exact (hf c hcm).1
    refine pyNext_item eit cit ?_
    rcases st with ⟨h0, l, e2⟩ | ⟨m, q, l, h1, h2, e2⟩
    · subst h0
      have er : List.range k = (combN n k).getD 0 [] := by rw [List.getD_eq_getElem?_getD, s1]; rfl
      refine cmb_first (n := n) e2 hPool hip (fun j hj => by rw [er] at hj; exact c2 j hj) (by rw [List.length_range]; omega) fun h' a b c d e => ?_
      rw [er] at a c
      exact fin h' a b c d e
    · subst h1
      have em : (combN n k).getD m [] = q := by rw [List.getD_eq_getElem?_getD, h2]; rfl
      have hm : m < (combN n k).length := (List.getElem?_eq_some_iff.mp h2).1
      have hnx := s2 m hm
      rw [em, hci] at hnx
      exact cmb_next (n := n) e2 hnx hPool hip c2 (by rw [c1]; omega) fin
  done := by
    intro X hP hw hK hc i pins s σ H E I hf st hg
    subst hP hw hK
    obtain ⟨s1, s2, s3⟩ := comb_steps n hn k hk
    have hpos := comb_pos hn hk
    obtain ⟨hPool, st⟩ := st
    have hg : (combN n k).length ≤ i := hg
    rcases st with ⟨h0, _⟩ | ⟨m, q, l, h1, h2, e2⟩
    · omega
    · subst h1
      have em : (combN n k).getD m [] = q := by rw [List.getD_eq_getElem?_getD, h2]; rfl
      have hm : m < (combN n k).length := (List.getElem?_eq_some_iff.mp h2).1
      have hnx := s2 m hm
      rw [em, List.getElem?_eq_none (by omega)] at hnx
      refine pyNext_item e2 rfl (cmb_end (n := n) (show X.A.in1.handled = none from I.ok.hd hc) e2 hnx hPool fun h' e ho hk' => ⟨⟨e, rfl, ho⟩, rfl, ?_⟩)
      exact I.turnedL (t' := s.toks) (ch := [it, p]) (fun c o hb q => hk' c o (fun z => hb (by rw [z]; exact List.mem_cons_self)) q) hf
  self := fun A i s Q E ⟨_, st⟩ h => by
    rcases st with ⟨_, l, e2⟩ | ⟨m, q, l, _, _, e2⟩
    · exact iter_cmb e2 h
    · exact iter_cmb e2 h
def iCmb (te ta : TE) : TI := fun σ H R => te σ H fun x H1 => ∃ n : Nat, x = .int (n : Nat) ∧ n ≤ 6 ∧ ta σ H1 fun y H2 => ∃ k : Nat, y = .int (k : Nat) ∧ k ≤ n ∧ R (Itc (combN n k)) H2
section
variable {X : Cx} {tg e a : Expr} {te ta : TE} {p p2 q pos : Pos}
theorem pi_cmb (hc : X.calm = true) (hg : Gl X "combinations") (hm : X.mg "combinations" = some (.type "itertools.combinations")) (hg2 : Gl X "range") (hm2 : X.mg "range" = none) (he : PE X e te) (ha : PE X a ta)
    (n1 : starEach [e] X.env = (false, eval e X.env) :: starEach [] X.env := by rfl)
    (n2 : starEach [.Call (.Name "range" p2) [e] [] q, a] X.env = (false, eval (.Call (.Name "range" p2) [e] [] q) X.env) :: starEach [a] X.env := by rfl)
    (n3 : starEach [a] X.env = (false, eval a X.env) :: starEach [] X.env := by rfl) (hp : (backTo pos (starEach [a] X.env)).any (·.1) = false := by rfl) :
    PI X tg (.Call (.Name "combinations" p) [.Call (.Name "range" p2) [e] [] q, a] [] pos) (iCmb te ta) := by
  refine ⟨fun pins s σ H R I h => ?_⟩
  refine Call_ (ld_glob I hg hm (PyProof.Rows.callWith_type1 (args_cons (thn (Q := fun v s1 => ∃ (r : Addr) (n : Nat) (t0 t1 t2 : Tok) (H1 : Hp), v = .ref r ∧ IsRange s1.heap r 0 n 1 t0 t1 t2 ∧ Inv X (pins ++ pinsAt [r] s1.heap) σ H1 s1 ∧ n ≤ 6 ∧ ta σ H1 fun y H2 => ∃ k : Nat, y = .int (k : Nat) ∧ k ≤ n ∧ R (Itc (combN n k)) H2)
    (Call_ (ld_blt I hg2 hm2 boot_range (PyProof.Rows.callWith_type1 (one_arg he I h (fun v s2 x H2 I2 r qq => ?_) n1) n1))) fun v s1 ⟨r, n, t0, t1, t2, H1, ev, hr, I1, hn, q1⟩ => one_arg ha I1 q1 (fun u s2 y H2 I2 r2 q2 => ?_) n3) n2) n2 hp))
  · obtain ⟨n, rfl, hn, qq⟩ := qq
    obtain ⟨t, rfl⟩ := r
    have hr0 : IsRange (s2.heap.push { cls := .type "range", data := .fields #[.int 0 0, .int n t, .int 1 0] }) s2.heap.objs.size 0 n 1 0 t 0 := IsRange.new _ _ _ _ _ _ _
    refine call_range_1 ⟨_, n, _, _, _, H2, rfl, IsRange.new _ _ _ _ _ _ _, ?_, hn, qq⟩
    refine Inv.pinned (fp := [s2.heap.objs.size]) (I2.kept fun b u e => Heap.get?_push_of_some _ e) (fun b hb => ?_) fun b hb => ?_
    · rw [List.mem_singleton.mp hb]
      exact I2.fpOk (Nat.le_refl _) (I2.hok.fresh (Nat.le_refl _))
    · rw [List.mem_singleton.mp hb]
      exact ⟨_, Heap.get?_push_size _ rfl, fun v z => nomatch z⟩
  · subst ev
    obtain ⟨k, rfl, hk, q2⟩ := q2
    obtain ⟨t, rfl⟩ := r2
    have hr2 : IsRange s2.heap r 0 n 1 t0 t1 t2 := (I2.pin (r, _) (List.mem_append_right _ (List.mem_append_right _ (mem_pinsAt (List.mem_singleton.mpr rfl) hr)))).1
    have I3 : Inv X pins σ H2 s2 := I2.unpinned
    refine call_cmb (I3.ok.hd hc) hr2 hk (by omega) fun hm h' tk it p a b c d e f g => ?_
    have Im : Inv X pins σ H2 { s2 with heap := hm, toks := tk } := I3.kept f
    refine iter_cmb (s := { s2 with heap := h', toks := tk }) a ⟨it, [it, p], cmbAt it p n k, _, H2, rfl, I3.kept fun b o e => g b o (f b o e), turn_cmb c hn hk, ⟨b, .inl ⟨rfl, _, a⟩⟩, fun x hx => ?_, q2⟩
    rcases List.mem_cons.mp hx with rfl | hx
    · exact Im.fpOk d (Im.hok.fresh d)
    · rw [List.mem_singleton.mp hx]
      exact Im.fpOk e (Im.hok.fresh e)
end
/-! by data -/
def cmbD (L : List (List Nat)) : List D := L.map fun c => D.tup (c.map fun j => D.int (j : Nat))
def itC (n : Nat) : D → (List D → Prop) → Prop
  | .int k, P => 0 ≤ k ∧ k ≤ n ∧ P (cmbD (combN n k.toNat))
  | _, _ => False
theorem DRs.of_nats {K : PySem.W.Frag} {r : Addr} {A : Addr → Prop} {H : Hp} : ∀ {ns : List Nat}, DRs K r A H (ns.map fun j => V.int (j : Nat)) (ns.map fun j => D.int (j : Nat))
  | [] => .nil
  | _ :: _ => .cons (.int _) DRs.of_nats
section
variable {X : Cx} {E : XK} {tg e a : Expr} {fe fa : DE} {p p2 q pos : Pos}
theorem i_cmb (hc : X.calm = true) (hg : Gl X "combinations") (hm : X.mg "combinations" = some (.type "itertools.combinations")) (hg2 : Gl X "range") (hm2 : X.mg "range" = none) (he : PE X e (tE X.K E fe)) (ha : PE X a (tE X.K E fa))
    (n1 : starEach [e] X.env = (false, eval e X.env) :: starEach [] X.env := by rfl)
    (n2 : starEach [.Call (.Name "range" p2) [e] [] q, a] X.env = (false, eval (.Call (.Name "range" p2) [e] [] q) X.env) :: starEach [a] X.env := by rfl)
    (n3 : starEach [a] X.env = (false, eval a X.env) :: starEach [] X.env := by rfl) (hp : (backTo pos (starEach [a] X.env)).any (·.1) = false := by rfl) :
    PI X tg (.Call (.Name "combinations" p) [.Call (.Name "range" p2) [e] [] q, a] [] pos) (tI X.K E (fun δ P Z => fe δ (fun d => ∃ n : Nat, d = .int (n : Nat) ∧ n ≤ 6 ∧ fa δ (fun d' => itC n d' P) Z) Z)) :=
  PI.imp (pi_cmb hc hg hm hg2 hm2 he ha n1 n2 n3 hp) fun σ H R ⟨r, A, δ, P, Z, R0, h, hq, hz⟩ => by
  refine ⟨r, A, δ, _, Z, R0, h, fun d v H1 h1 x1 n1 r1 => ?_, hz⟩
  obtain ⟨n, rfl, hn, h1⟩ := h1
  cases r1
  refine ⟨n, rfl, hn, r, A, δ, _, Z, R0.ext x1 n1, h1, fun d' v' H2 h2 x2 n2 r2 => ?_, fun x c dd H' z x2 => hz x c dd H' z (x1.trans x2)⟩
  cases d' with
  | int k =>
    obtain ⟨k0, kn, h2⟩ := h2
    cases r2
    obtain ⟨j, rfl⟩ : ∃ j : Nat, k = (j : Nat) := ⟨k.toNat, by omega⟩
    refine ⟨j, rfl, by omega, hq _ _ H2 h2 (x1.trans x2) n2 fun i H3 A' ea w wa => ⟨fun hle => ?_, fun d hd => ?_⟩⟩
    · show (combN n j).length ≤ i
      have : (cmbD (combN n (j : Int).toNat)).length = (combN n j).length := by unfold cmbD; rw [List.length_map]; rfl
      omega
    · have hd' : (combN n j)[i]?.map (fun c => D.tup (c.map fun j => D.int (j : Nat))) = some d := by
        have : (cmbD (combN n (j : Int).toNat))[i]? = some d := hd
        unfold cmbD at this
        rw [List.getElem?_map] at this
        exact this
      cases hc : (combN n j)[i]? with
      | none => rw [hc] at hd'; cases hd'
      | some c =>
        rw [hc] at hd'
        cases hd'
        have hi := (List.getElem?_eq_some_iff.mp hc).1
        have eg : (combN n j).getD i [] = c := by rw [List.getD_eq_getElem?_getD, hc]; rfl
        refine ⟨hi, ?_⟩
        rintro x H' ⟨T, rfl, nT, rfl⟩
        rw [eg]
        have hl := ((comb_steps n hn j (by omega)).2.2 c (List.mem_of_getElem? hc)).1
        exact ⟨Ext.upd nT, w.rnd.upd nT, w.tup nT (by rw [List.length_map, hl, sizeLine_eq]; omega) DRs.of_nats⟩
  | _ => exact h2.elim
end
end L3

/-! min and sorted of data, tuples within tuples -/
namespace L3
open PySem PySem.Spec PyProof.Rows L2 PySem.W
/-- where the least stands, the first of them -/
def minAt (ys : List PyData) : Nat := argBest (fun i j => dataLt (ys.getD i .none) (ys.getD j .none)) (ys.length - 1)
theorem lt_irrefl (x : PyData) : dataLt x x = false := by unfold dataLt; exact lex_irrefl _
theorem lt_trans {x y z : PyData} (h1 : dataLt x y = true) (h2 : dataLt y z = true) : dataLt x z = true := by unfold dataLt at *; exact lex_trans _ _ _ h1 h2
theorem best_least {ys : List PyData} : ∀ k, argBest (fun i j => dataLt (ys.getD i .none) (ys.getD j .none)) k ≤ k ∧ ∀ j ≤ k, dataLt (ys.getD j .none) (ys.getD (argBest (fun i j => dataLt (ys.getD i .none) (ys.getD j .none)) k) .none) = false
  | 0 => ⟨Nat.le_refl _, fun j hj => by
    obtain rfl : j = 0 := Nat.le_zero.mp hj
    exact lt_irrefl _⟩
  | k + 1 => by
    obtain ⟨i1, i2⟩ := best_least (ys := ys) k
    by_cases hb : dataLt (ys.getD (k + 1) .none) (ys.getD (argBest (fun i j => dataLt (ys.getD i .none) (ys.getD j .none)) k) .none) = true
    · have e : argBest (fun i j => dataLt (ys.getD i .none) (ys.getD j .none)) (k + 1) = k + 1 := if_pos hb
      rw [e]
      refine ⟨Nat.le_refl _, fun j hj => ?_⟩
      rcases Nat.lt_succ_iff_lt_or_eq.mp (Nat.lt_succ_of_le hj) with hj | rfl
      · cases hc : dataLt (ys.getD j .none) (ys.getD (k + 1) .none) with
        | false => rfl
        | true =>
          have := lt_trans hc hb
          rw [i2 j (by omega)] at this
          exact absurd this Bool.false_ne_true
      · exact lt_irrefl _
    · have e : argBest (fun i j => dataLt (ys.getD i .none) (ys.getD j .none)) (k + 1) = argBest (fun i j => dataLt (ys.getD i .none) (ys.getD j .none)) k := if_neg hb
      rw [e]
      refine ⟨Nat.le_succ_of_le i1, fun j hj => ?_⟩
      rcases Nat.lt_succ_iff_lt_or_eq.mp (Nat.lt_succ_of_le hj) with hj | rfl
      · exact i2 j (by omega)
      · cases hc : dataLt (ys.getD (k + 1) .none) (ys.getD (argBest (fun i j => dataLt (ys.getD i .none) (ys.getD j .none)) k) .none) with
        | false => rfl
        | true => exact absurd hc hb
theorem minAt_least {ys : List PyData} (h : ys ≠ []) : minAt ys < ys.length ∧ ∀ j < ys.length, dataLt (ys.getD j .none) (ys.getD (minAt ys) .none) = false := by
  have hl := List.length_pos_iff.mpr h
  obtain ⟨a, b⟩ := best_least (ys := ys) (ys.length - 1)
  exact ⟨by unfold minAt; omega, fun j hj => b j (by omega)⟩
section
variable {prog : Program} {w : World} {A : Around} {E : Value → Shared → Prop} {s : Shared}
theorem min_list_at {l : Addr} {vs : Array Value} {ys : List PyData} {as : List Addr} {Q : Value → Shared → Prop} (hh : A.handled = none) (hl : s.heap.IsList l vs) (hr : ReadsAll s.heap vs.toList ys as) (hne : ys ≠ []) (ha : AlikeAll ys) (hu : A.units + 1 + PyData.depthAll ys < cLine)
    (h : ∀ v h' tk, vs[minAt ys]? = some v → (∀ b o, s.heap.get? b = some o → h'.get? b = some o) → Q v { s with heap := h', toks := tk }) :
    wpAny (model prog w) A (call (.builtin "min") [.ref l]) Q E s := by
  have hn : vs.size = ys.length := readsAll_len hr
  have hp := List.length_pos_iff.mpr hne
  refine call_min_walkH (iter_listW (A := A.in1) hh hl fun s₂ e W st hfp hw hk => ?_)
  refine ⟨_, _, _, _, _, _, _, s.heap, _, rfl, W, st, hfp, by omega, hw, hk, cmpIn_lt (A := A.in1) hr ha (by show A.units + 1 + _ < _; exact hu), fun v s' hP m => ?_⟩
  obtain ⟨h', tk, rfl, hk'⟩ := moved_old e rfl m
  refine h v h' tk ?_ hk'
  unfold minAt
  rw [← hn]
  exact hP
end
section
variable {X : Cx}
def rMinD (K : PySem.W.Frag) : List V → Hp → VK → Prop := fun vs H Q => ∃ (p : Addr) (xs : List V) (ys : List PyData), vs = [V.ref p] ∧ SqL K H p xs ∧ DpAll K H xs ys ∧ ys ≠ [] ∧ AlikeAll ys ∧ PyData.depthAll ys ≤ 60 ∧ ∀ v, xs[minAt ys]? = some v → Q v H
theorem cr_minD (hc : X.calm = true) (hu : X.A.units + 64 < cLine) : CallR X (.builtin "min") (rMinD X.K) := by
  intro pins s σ H vs us Q I r h
  obtain ⟨p, xs, ys, rfl, hS, hD, hne, ha, hdp, q⟩ := h
  obtain ⟨its, rv, hl, _⟩ := I.list hS
  obtain ⟨as, hr⟩ := Dp.readsAll I ys xs its hD rv
  rw [Vals.ref1 r]
  refine min_list_at (I.ok.hd hc) hl.isList (show ReadsAll s.heap its.toArray.toList ys as from hr) hne ha (by omega) fun v h' tk hv hk => ?_
  have hv' : its[minAt ys]? = some v := by simpa using hv
  obtain ⟨x, hx, rx⟩ := Vals.getV rv hv'
  exact ⟨x, H, I.kept hk, rx, q x hx⟩
theorem sortsAt_one {prog : Program} {w : World} {A : Around} {s : Shared} {vs : List Value} {ds : List PyData} (e : EachIs (fun v d => ∃ as, Reads s.heap v d as) vs ds) (hal : AllAlike ds) (h1 : vs.length ≤ 1) (hne : ∀ d ∈ ds, d ≠ .none) (hu : ∀ d, d ∈ ds → A.units + d.depth < cLine) : SortsAt prog w A s (dataKind s.heap ds) vs := by
  refine ⟨fun v hv => ?_, sortPriv% PySem.Builtin.KeyKind.general, ?_, fun h2 => absurd h2 (by omega)⟩
  · obtain ⟨d, hd, as, r⟩ := e.left v hv
    exact ⟨_, dataKind_some hal hd r⟩
  · intro E x y a b Q ha hb hq
    obtain ⟨d, as, hd, ra, rfl⟩ := dataKind_inv ha
    obtain ⟨d', as', hd', rb, rfl⟩ := dataKind_inv hb
    show wpAny _ _ (oneLt' false x y) _ _ _
    exact oneLt_alike (fun h => by cases h) ra rb (hal d hd d' hd') (hne d hd) (Nat.lt_of_le_of_lt (Nat.add_le_add_left (Nat.min_le_left _ _) _) (hu d hd)) hq
theorem sorted_data1 {prog : Program} {w : World} {A : Around} {E : Value → Shared → Prop} {s : Shared} {β : Type} {R : Value → β → Prop} {enc : β → PyData} {vs : List Value} {bs : List β} {l : Addr} {Q : Value → Shared → Prop} (hl : s.heap.IsList l vs.toArray) (e : EachIs R vs bs) (er : EachIs (fun v b => ∃ as, Reads s.heap v (enc b) as) vs bs) (hal : AllAlike (bs.map enc)) (h1 : bs.length ≤ 1) (hne : ∀ b ∈ bs, enc b ≠ .none)
    (hu : ∀ b, b ∈ bs → A.units + 2 + (enc b).depth < cLine) (h : ∀ out, out.length = bs.length → EachIs R out (bs.mergeSort (dataLe false enc)) → Q (.ref (s.heap.objs.size + 1)) { s with heap := sortedAll s.heap vs (List.toArray out) }) :
    wpAny (model prog w) A (call (.builtin "sorted") [.ref l]) Q E s := by
  have er' : EachIs (fun v b => ∃ as, Reads (sortingHeap (copyHeap s.heap vs) (s.heap.objs.size + 1) vs) v (enc b) as) vs bs := er.mono fun _ _ ⟨as, r⟩ => ⟨as, PyProof.Rows.Reads.keeps (fun _ _ => sorting_copy_old) r⟩
  have hlen : vs.length = bs.length := e.length
  refine sorted_vals hl (sortsAt_one (s := { s with heap := sortingHeap (copyHeap s.heap vs) (s.heap.objs.size + 1) vs }) (each_map (R := fun v d => ∃ as, Reads (sortingHeap (copyHeap s.heap vs) (s.heap.objs.size + 1) vs) v d as) enc er') hal (by omega) (fun d hd => ?_) (bound_map hu)) (by rw [hlen, sizeLine_eq]; omega)
    (h _ (by rw [sortVals_length false rfl]; exact e.length) (sortVals_data false e er' hal))
  obtain ⟨b, hb, rfl⟩ := List.mem_map.mp hd
  exact hne b hb
/-- what sorted can put in order -/
def SortOk (ys : List PyData) : Prop := Sortable ys ∨ ys.length ≤ 1 ∧ ∀ y ∈ ys, y ≠ .none
def rSortD (K : PySem.W.Frag) : List V → Hp → VK → Prop := fun vs H Q => ∃ (β : Type) (p : Addr) (bs : List β) (fv : β → V) (fp : β → PyData), vs = [V.ref p] ∧ SqL K H p (bs.map fv) ∧ DpAll K H (bs.map fv) (bs.map fp) ∧ AllAlike (bs.map fp) ∧ SortOk (bs.map fp) ∧ (∀ b ∈ bs, (fp b).depth ≤ 60) ∧ bs.length ≤ sizeLine ∧
  ∀ (cs : List β) (l : Addr), cs.Perm bs → cs.Pairwise (fun a b => dataLt (fp b) (fp a) = false) → H l = none → Q (.ref l) (upd H l (.lst (cs.map fv)))
theorem each_vals {β : Type} {fv : β → V} : ∀ {us : List Value} {bs : List β}, Vals (bs.map fv) us → EachIs (fun u b => RelV (fv b) u) us bs
  | _, [], .nil => .nil
  | _, _ :: _, .cons r t => .cons r (each_vals t)
theorem vals_each {β : Type} {fv : β → V} : ∀ {us : List Value} {bs : List β}, EachIs (fun u b => RelV (fv b) u) us bs → Vals (bs.map fv) us
  | _, _, .nil => .nil
  | _, _, .cons r t => .cons r (vals_each t)
theorem lt_total {a b : PyData} (h : dataLt a b = false) (h2 : dataLt b a = false) : keyToks a = keyToks b := lex_total _ _ h h2
theorem nlt_trans {a b c : PyData} (h1 : dataLt b a = false) (h2 : dataLt c b = false) : dataLt c a = false := by
  cases h : dataLt c a with
  | false => rfl
  | true =>
    cases hb : dataLt a b with
    | true =>
      have := lt_trans h hb
      rw [h2] at this
      exact absurd this Bool.false_ne_true
    | false =>
      have e := lt_total hb h1
      unfold dataLt at h h2
      rw [e] at h
      rw [h2] at h
      exact absurd h Bool.false_ne_true
theorem cr_sortedD (hu : X.A.units + 64 < cLine) : CallR X (.builtin "sorted") (rSortD X.K) := by
  intro pins s σ H vs us Q I r h
  obtain ⟨β, p, bs, fv, fp, rfl, hS, hD, ha, hso, hdp, hz, q⟩ := h
  obtain ⟨its, rv, hl, _⟩ := I.list hS
  obtain ⟨as, hr⟩ := Dp.readsAll I (bs.map fp) (bs.map fv) its hD rv
  rw [Vals.ref1 r]
  have room : ∀ b, b ∈ bs → X.A.units + 2 + (fp b).depth < cLine := fun b hb => by
    have := hdp b hb
    omega
  have go : ∀ out : List Value, out.length = bs.length → EachIs (fun u b => RelV (fv b) u) out (bs.mergeSort (dataLe false fp)) → EP X pins σ Q (.ref (s.heap.objs.size + 1)) { s with heap := sortedAll s.heap its (List.toArray out) } := fun out h1 h2 => by
    obtain ⟨ep, he'⟩ := PyProof.Rows.sortedAll_at s.heap its (List.toArray out)
    have hv := vals_each h2
    have hperm : (bs.mergeSort (dataLe false fp)).Perm bs := List.mergeSort_perm _ _
    have hlen : ((bs.mergeSort (dataLe false fp)).map fv).length ≤ sizeLine := by rw [List.length_map, hperm.length_eq]; exact hz
    refine ⟨.ref _, upd H (s.heap.objs.size + 1) (.lst ((bs.mergeSort (dataLe false fp)).map fv)), I.laid (t' := s.toks) (fun _ _ => PyProof.Rows.sortedAll_old) (Nat.le_succ _) ⟨hlen, out, ep, hv, he'⟩, rfl, q _ _ hperm ?_ (I.hok.fresh (Nat.le_succ _))⟩
    have hp := List.pairwise_mergeSort (le := dataLe false fp) (fun a b c h1 h2 => ?_) (fun a b => ?_) bs
    · exact hp.imp fun {a b} h => by
        rw [dataLe_eq] at h
        simpa using h
    · rw [dataLe_eq] at *
      simp at *
      exact nlt_trans h1 h2
    · rw [dataLe_eq]
      cases hb : dataLt (fp b) (fp a) with
      | false => simp [hb]
      | true =>
        cases hc : dataLt (fp a) (fp b) with
        | false => simp [hc]
        | true =>
          have := lt_trans hb hc
          rw [lt_irrefl] at this
          exact absurd this Bool.false_ne_true
  rcases hso with hso | ⟨k1, k2⟩
  · exact sorted_data (enc := fp) (bs := bs) (R := fun u b => RelV (fv b) u) hl.isList (each_vals rv) (readsAll_each fp hr) ha hso hz room go
  · exact sorted_data1 (enc := fp) (bs := bs) (R := fun u b => RelV (fv b) u) hl.isList (each_vals rv) (readsAll_each fp hr) ha (by rw [List.length_map] at k1; exact k1) (fun b hb => k2 _ (List.mem_map_of_mem hb)) room go
end
/-! by data -/
def sortDD : List D → DP → Prop
  | [.lst ds], P => ∃ (β : Type) (bs : List β) (fd : β → D) (fp : β → PyData), ds = bs.map fd ∧ (∀ b ∈ bs, (fd b).py = some (fp b)) ∧ AllAlike (bs.map fp) ∧ SortOk (bs.map fp) ∧ (∀ b ∈ bs, (fp b).depth ≤ 60) ∧
      ∀ cs : List β, cs.Perm bs → cs.Pairwise (fun a b => dataLt (fp b) (fp a) = false) → P (.lst (cs.map fd))
  | _, _ => False
def minDD : List D → DP → Prop
  | [.lst ds], P => ∃ ys, D.pys ds = some ys ∧ ys ≠ [] ∧ AlikeAll ys ∧ PyData.depthAll ys ≤ 60 ∧ ∀ (i : Nat) d y, ds[i]? = some d → ys[i]? = some y → (∀ z ∈ ys, dataLt z y = false) → P d
  | _, _ => False
theorem pys_len : ∀ {ds : List D} {ys : List PyData}, D.pys ds = some ys → ds.length = ys.length
  | [], ys, h => by cases h; rfl
  | d :: ds, ys, h => by
    unfold D.pys at h
    cases q : d.py with
    | none => rw [q] at h; cases h
    | some x =>
      cases q2 : D.pys ds with
      | none => rw [q, q2] at h; cases h
      | some xs =>
        rw [q, q2] at h
        cases h
        rw [List.length_cons, List.length_cons, pys_len q2]
theorem cd_minD {K : PySem.W.Frag} : CallD K (rMinD K) minDD := fun r A H xs ds P Q w t h q => by
  match ds, h with
  | [.lst ds], h =>
    obtain ⟨ys, hy, hne, ha, hd, h⟩ := h
    obtain ⟨v, rfl, a⟩ := t.one
    obtain ⟨p, xs, rfl, _, e1, z1, t1⟩ := a.sqL
    obtain ⟨m1, m2⟩ := minAt_least hne
    refine ⟨p, xs, ys, rfl, SqL.of e1, t1.dps hy, hne, ha, hd, fun v hv => ?_⟩
    have hl := pys_len hy
    have hd : ds[minAt ys]? = some ds[minAt ys] := List.getElem?_eq_getElem (by omega)
    obtain ⟨u, hu, ru⟩ := t1.get hd
    rw [hv] at hu
    cases hu
    refine q _ _ _ (h (minAt ys) _ _ hd (List.getElem?_eq_getElem m1) fun z hz => ?_) .refl w.rnd ru
    obtain ⟨j, hj, rfl⟩ := List.mem_iff_getElem.mp hz
    have := m2 j hj
    rw [List.getD_eq_getElem?_getD, List.getD_eq_getElem?_getD, List.getElem?_eq_getElem hj, List.getElem?_eq_getElem m1] at this
    exact this
theorem pairs_of {K : PySem.W.Frag} {r : Addr} {A : Addr → Prop} {H : Hp} {β : Type} {fd : β → D} : ∀ {xs : List V} {bs : List β}, DRs K r A H xs (bs.map fd) → ∃ ps : List (V × β), ps.map (·.1) = xs ∧ ps.map (·.2) = bs ∧ ∀ p ∈ ps, DR K r A H p.1 (fd p.2)
  | _, [], .nil => ⟨[], rfl, rfl, fun _ h => by cases h⟩
  | _, b :: bs, .cons a t => by
    obtain ⟨ps, h1, h2, h3⟩ := pairs_of t
    refine ⟨(_, b) :: ps, by rw [List.map_cons, h1], by rw [List.map_cons, h2], fun p hp => ?_⟩
    rcases List.mem_cons.mp hp with rfl | hp
    · exact a
    · exact h3 p hp
theorem drs_of {K : PySem.W.Frag} {r : Addr} {A : Addr → Prop} {H : Hp} {β : Type} {fd : β → D} : ∀ {ps : List (V × β)}, (∀ p ∈ ps, DR K r A H p.1 (fd p.2)) → DRs K r A H (ps.map (·.1)) (ps.map fun p => fd p.2)
  | [], _ => .nil
  | p :: ps, h => .cons (h p List.mem_cons_self) (drs_of fun q hq => h q (List.mem_cons_of_mem _ hq))
theorem pys_map {β : Type} {fd : β → D} {fp : β → PyData} : ∀ {bs : List β}, (∀ b ∈ bs, (fd b).py = some (fp b)) → D.pys (bs.map fd) = some (bs.map fp)
  | [], _ => rfl
  | b :: bs, h => by
    rw [List.map_cons, List.map_cons]
    unfold D.pys
    rw [h b List.mem_cons_self, pys_map fun x hx => h x (List.mem_cons_of_mem _ hx)]
    rfl
theorem cd_sortedD {K : PySem.W.Frag} : CallD K (rSortD K) sortDD := fun r A H xs ds P Q w t h q => by
  match ds, h with
  | [.lst ds], h =>
    obtain ⟨β, bs, fd, fp, rfl, hy, ha, hso, hdp, h⟩ := h
    obtain ⟨v, rfl, a⟩ := t.one
    obtain ⟨p, xs, rfl, _, e1, z1, t1⟩ := a.sqL
    obtain ⟨ps, p1, p2, p3⟩ := pairs_of t1
    have e3 : (ps.map fun x : V × β => fp x.2) = bs.map fp := by rw [← p2, List.map_map]; rfl
    have hpl : ps.length = bs.length := by rw [← p2, List.length_map]
    refine ⟨V × β, p, ps, (·.1), fun x => fp x.2, rfl, SqL.of (by rw [p1]; exact e1), ?_, by rw [e3]; exact ha, by rw [e3]; exact hso, fun b hb => hdp b.2 (by rw [← p2]; exact List.mem_map_of_mem hb), ?_, fun cs l hperm hpw nl => ?_⟩
    · rw [e3, p1]
      exact t1.dps (pys_map hy)
    · rw [← List.length_map (f := fun x : V × β => x.1) (as := ps), p1]; exact z1
    · have hperm2 : (cs.map (·.2)).Perm bs := by rw [← p2]; exact hperm.map _
      have hP := h (cs.map (·.2)) hperm2 (List.pairwise_map.mpr hpw)
      rw [List.map_map] at hP
      refine q _ _ _ hP (Ext.upd nl) (w.rnd.upd nl) (w.lst nl ?_ (drs_of fun x hx => p3 x (hperm.mem_iff.mp hx)))
      rw [List.length_map, hperm.length_eq, ← List.length_map (f := fun x : V × β => x.1) (as := ps), p1]; exact z1
end L3

namespace L3
open PySem PySem.Spec PyProof.Rows L2
/-! sorted(set(xs)) of a list of ints -/
section
variable {P : Program} {w : World} {A : Around} {E : Value → Shared → Prop} {s : Shared}
abbrev lstIt (l : Addr) : Obj := { cls := .type "list_iterator", data := .fields #[.ref l, .int 0 0] }
theorem set_from_list {l : Addr} {items : Array Value} {Q : Value → Shared → Prop} {Good : Shared → Prop} (hl : s.heap.IsList l items)
    (loop : ∀ R : Result → Shared → Prop, (∀ s', Good s' → R (.ok (.ret .none)) s') →
      codeAny (model P w) A.in1.in1 (.builtin "set.update.loop" ⟨[.ref s.heap.objs.size, .ref (s.heap.push (newSet w)).objs.size], []⟩) R { s with heap := (s.heap.push (newSet w)).push (lstIt l) })
    (h : ∀ s', Good s' → Q (.ref s.heap.objs.size) s') : wpAny (model P w) A (call (.type "set") [.ref l]) Q E s := by
  obtain ⟨c, tl, hmro⟩ := F.called_set.mro
  have made := F.called_set.made; have hsub := F.called_set.sub
  refine wpAny_call (codeAny_of_tree ?_); show wpAny _ _ (callAny (.type "set") _) _ _ _
  refine wpAny_pure ⟨Code.quiet_builtin _ (by decide +kernel), codeAny_builtin F.entry_type_call ?_⟩
  rw [Around.under_plain (weight_type_call_type "set" [.ref l] []) rfl]
  have nt := F.called_set.notType; have cc := F.called_set.canCreate; have tc := F.typeCall_set_1 (.ref l)
  repeat (any_goals (first | assumption | wp_step))
  refine codeAny_mono (code_set_led1 (.ref l) (E := E) (Q₁ := fun obj s₁ => obj = .ref s.heap.objs.size ∧ s₁ = { s with heap := s.heap.push (newSet w) }) ⟨rfl, rfl⟩) fun r s₁ hr => ?_
  cases r with
  | error e => exact hr
  | ok fl =>
    cases fl with
    | next => exact hr.elim
    | brk => exact hr.elim
    | cont => exact hr.elim
    | ret obj =>
      obtain ⟨rfl, rfl⟩ := hr
      have isS : (s.heap.push (newSet w)).get? s.heap.objs.size = some (newSet w) := Heap.get?_push_size _ rfl
      have tyS : Shared.TypeIs { s with heap := s.heap.push (newSet w) } (.ref s.heap.objs.size) "set" := ⟨_, isS, rfl⟩
      have li := F.called_set.init.lookup; have bi := F.called_set.init.bind (.ref s.heap.objs.size)
      repeat (any_goals (first | assumption | wp_step))
      refine codeAny_mono (codeAny_call_builtin (R := wants (fun r s₂ => r = .none ∧ Good s₂) E) F.called_set.init.plain F.entry_set_init (check_set_init_1 tyS ?_)) fun r₂ s₂ hr₂ => ?_
      · obtain ⟨⟨oc, od, odt, os⟩, hol, hcl, nl, hdl⟩ := hl
        simp only at hcl hdl; subst hcl hdl
        have hol' : (s.heap.push (newSet w)).get? l = some { cls := .type "list", dict := od, data := .seq items nl, slots := os } := Heap.get?_push_of_some _ hol
        have st1 := F.sub_list_set; have st2 := F.sub_list_frozenset
        have ne : (Value.type "list" == Value.type "dict") = false := by decide
        have isT : (s.heap.push (newSet w)).IsList l items := ⟨_, hol', rfl, nl, rfl⟩
        unfold Builtin.«set.__init__» noKeywords Builtin.Frozenset.updateFrom
        generalize hPI : pyIter = PI
        wp_walk
        subst hPI
        refine wpAny_pyIter_list isT (wpAny_bind (wpAny_runValue (loop _ fun s' g => ?_)))
        refine wpAny_pure ?_; show wpAny _ _ (ret Value.none) _ _ _
        exact wpAny_pure ⟨rfl, g⟩
      · cases r₂ with
        | error e => exact hr₂
        | ok fl₂ =>
          cases fl₂ with
          | ret r =>
            obtain ⟨rfl, g⟩ := hr₂
            repeat (any_goals (first | assumption | wp_step))
            exact h _ g
          | _ => exact hr₂.elim
end
section
variable {X : Cx}
def rSetLI (K : PySem.W.Frag) (w : World) : List V → Hp → VK → Prop := fun xs H Q => ∃ (l : Addr) (ns : List Int), xs = [V.ref l] ∧ SqL K H l (ns.map V.int) ∧ ns.length < 64 ∧
  ∀ a c, H a = none → c ≤ ns.length → Q (.ref a) (upd H a (SetO w a (fun j => decide (j ∈ ns)) c))
theorem cr_setLI (hc : X.calm = true) : CallR X (.type "set") (rSetLI X.K X.w) := by
  intro pins s σ H xs us Q I r h
  obtain ⟨l, ns, rfl, hl, hf, q⟩ := h
  rw [Vals.ref1 r]
  obtain ⟨its, rv, pl, hz⟩ := I.list hl
  have hh := I.ok.hd hc
  have pt : s.heap.IsList l its.toArray := pl.isList
  have hit : IntsAre its.toArray.toList ns := by simpa using rv.ints
  have hisz : its.toArray.size = ns.length := by
    have q := IntsAre.length hit
    rw [Array.length_toList] at q
    exact q
  have hll : l < s.heap.objs.size := by obtain ⟨_, e, _⟩ := pt; exact Heap.lt_size e
  have hsz : (s.heap.push (newSet X.w)).objs.size = s.heap.objs.size + 1 := Heap.size_push ..
  refine set_from_list (P := X.prog) (w := X.w) (Good := fun s' => ∃ h' tk c, s' = { s with heap := h', toks := tk } ∧ SetR X.w h' s.heap.objs.size (fun j => decide (j ∈ ns)) c ∧ c ≤ ns.length ∧ ∀ b o, s.heap.get? b = some o → h'.get? b = some o) pt ?_ ?_
  · intro R hR
    have pt1 : (s.heap.push (newSet X.w)).IsList l its.toArray := by
      obtain ⟨o, e, r⟩ := pt
      exact ⟨o, Heap.get?_push_of_some _ e, r⟩
    have isS : ((s.heap.push (newSet X.w)).push (lstIt l)).get? s.heap.objs.size = some (newSet X.w) := Heap.get?_push_of_some _ (Heap.get?_push_size _ rfl)
    refine set_update_ints (A := X.A.in1.in1) ((Walks.list (A := X.A.in1.in1.in1) (by simp [hh]) (s.heap.push (newSet X.w)).objs.size l (by rw [hsz]; exact Nat.ne_of_lt (Nat.lt_succ_of_lt hll)) its.toArray).toS) s.heap.objs.size ?_ ns hisz (by unfold scanBound; omega) (fun i v hv => ?_)
      (its.toArray.size - 0) 0 _ (by omega) (Nat.zero_le _) ⟨⟨_, Heap.get?_push_size _ rfl, rfl, rfl⟩, pt1.push _⟩ ⟨0, Nat.le_refl 0, setR_new_at isS⟩ ?_
    · rw [hsz]
      simp only [List.mem_cons, List.not_mem_nil, or_false, not_or]
      exact ⟨Nat.ne_of_lt (Nat.lt_succ_self _), Nat.ne_of_gt hll⟩
    · have hi : i < ns.length := by rw [← hisz]; exact (Array.getElem?_eq_some_iff.mp hv).1
      obtain ⟨t, e⟩ := PyProof.Rows.IntsAre.int_at hit i v (by rw [Array.getElem?_toList]; exact hv)
      refine ⟨ns[i], t, List.getElem?_eq_getElem hi, ?_⟩
      rw [e, List.getD_eq_getElem?_getD, List.getElem?_eq_getElem hi] <;> rfl
    · intro s' c' hm hc' hS'
      obtain ⟨h', g2, d', tk', os'⟩ := s'
      have eg : g2 = s.gens := hm.gens
      have ed : d' = s.drawn := hm.drawn
      have eo : os' = s.os := hm.os
      subst eg ed eo
      refine hR _ ⟨h', tk', c', rfl, hS', by omega, fun b o e => ?_⟩
      have hb0 : b < s.heap.objs.size := Heap.lt_size e
      have hb1 : b ≠ s.heap.objs.size := Nat.ne_of_lt hb0
      have hb2 : b ≠ (s.heap.push (newSet X.w)).objs.size := by rw [hsz]; exact Nat.ne_of_lt (Nat.lt_succ_of_lt hb0)
      exact hm.heap b o (by simp only [List.mem_cons, List.not_mem_nil, or_false, not_or]; exact ⟨hb1, hb2⟩) (Heap.get?_push_of_some _ (Heap.get?_push_of_some _ e))
  · rintro s' ⟨h', tk, c, rfl, R, hcl, k⟩
    exact ⟨.ref s.heap.objs.size, upd H s.heap.objs.size (SetO X.w s.heap.objs.size (fun j => decide (j ∈ ns)) c), I.laid (t' := tk) k (Nat.le_refl _) (setO_new R), rfl, q _ c (I.hok.fresh (Nat.le_refl _)) hcl⟩
def ssLD : D → DP → Prop
  | .lst ds, P => ∃ ns : List Int, ds = ns.map D.int ∧ ns.length < 64 ∧ ∀ ms : List Int, ms.Pairwise (· < ·) → (∀ k, k ∈ ms ↔ k ∈ ns) → P (.lst (ms.map D.int))
  | _, _ => False
variable {E : XK} {a : Expr} {fa : DE} {p p2 pos q : Pos}
theorem e_sortedSetL (hc : X.calm = true) (hg : Gl X "sorted") (hm : X.mg "sorted" = none) (hg2 : Gl X "set") (hm2 : X.mg "set" = none) (ha : PE X a (tE X.K E fa))
    (na : starEach [a] X.env = (false, eval a X.env) :: starEach [] X.env := by rfl) (nb : starEach [.Call (.Name "set" p2) [a] [] q] X.env = (false, eval (.Call (.Name "set" p2) [a] [] q) X.env) :: starEach [] X.env := by rfl) :
    PE X (.Call (.Name "sorted" p) [.Call (.Name "set" p2) [a] [] q] [] pos) (tE X.K E (fun δ P Z => fa δ (fun d => ssLD d P) Z)) :=
  PE.imp (pe_callB (cr_sortedSet hc) hg hm (by decide +kernel) (pa_cons (pe_callTy (cr_setLI hc) hg2 hm2 (by decide +kernel) (pa_cons ha pa_nil na) (by decide) (by decide) na) pa_nil nb) (by decide) (by decide) nb) fun σ H Q ⟨r, A, δ, P, Z, R, h, hq, hz⟩ => by
    refine ⟨r, A, δ, _, Z, R, h, fun d v H1 h1 x1 n1 r1 => ?_, hz⟩
    have w1 := (R.ext x1 n1).wd
    cases d with
    | lst ds =>
      obtain ⟨l, xs, rfl, _, e1, z1, t1⟩ := r1.sqL
      obtain ⟨ns, rfl, hl, h1⟩ := h1
      have := t1.ints
      subst this
      refine ⟨l, ns, rfl, SqL.of e1, hl, fun a c na hcl => ⟨a, _, c, rfl, upd_same, by omega, fun ms p pw hm hlen np => ?_⟩⟩
      have w2 : Wd r A (upd H1 a (SetO X.w a (fun j => decide (j ∈ ns)) c)) := w1.ext (Ext.upd na) (n1.upd na)
      exact hq _ _ _ (h1 ms pw fun k => by rw [hm k]; simp) ((x1.trans (Ext.upd na)).trans (Ext.upd np)) ((n1.upd na).upd np) (w2.lst np (by rw [List.length_map, sizeLine_eq]; omega) DRs.of_ints)
    | _ => exact h1.elim
end
/-! range(i, j, -1) -/
def downD (lo : Int) (n : Nat) : List D := (List.range n).map fun i => D.int (lo - (i : Nat))
def itR3 : List D → (List D → Prop) → Prop
  | [.int i, .int j, .int k], P => k = -1 ∧ -1073741824 ≤ i ∧ i ≤ 1073741824 ∧ -1073741824 ≤ j ∧ j ≤ 1073741824 ∧ P (downD i (i - j).toNat)
  | _, _ => False
theorem yd_down {K : PySem.W.Frag} {r : Addr} {A : Addr → Prop} {H : Hp} {lo : Int} {n : Nat} : YD K r A (L2.Itc lo (-1) n) (downD lo n) H := fun i H2 A' ea w wa => ⟨fun hl => by
    show n ≤ i
    simpa [downD] using hl, fun d hd => by
    unfold downD at hd
    rw [List.getElem?_map] at hd
    cases hr : (List.range n)[i]? with
    | none => rw [hr] at hd; cases hd
    | some k =>
      rw [hr] at hd
      cases hd
      obtain ⟨hlt, hk⟩ := List.getElem?_eq_some_iff.mp hr
      rw [List.getElem_range] at hk
      subst hk
      refine ⟨by show i < n; simpa using hlt, ?_⟩
      rintro x H2 ⟨rfl, rfl⟩
      refine ⟨.refl, w.rnd, ?_⟩
      have e : lo + (i : Nat) * (-1) = lo - (i : Nat) := by omega
      rw [e]
      exact .int _⟩
section
variable {X : Cx} {E : XK} {tg a b c : Expr} {fs : DA} {p pos : Pos}
theorem i_range3 (hg : Gl X "range") (hm : X.mg "range" = none) (ha : PA X [a, b, c] (tA X.K E fs)) (hs : starEach [a, b, c] X.env = (false, eval a X.env) :: starEach [b, c] X.env := by rfl) (hpl : (backTo pos (starEach [b, c] X.env)).any (·.1) = false := by rfl) :
    PI X tg (.Call (.Name "range" p) [a, b, c] [] pos) (tI X.K E (fun δ P Z => fs δ (fun ds => itR3 ds P) Z)) := PI.imp (pi_range3 hg hm ha hs hpl) fun σ H R ⟨r, A, δ, P, Z, R0, h2, hq, hz⟩ =>
  ⟨r, A, δ, _, Z, R0, h2, fun ds vs H1 h3 x1 n1 r1 => by
    match ds, h3 with
    | [.int i, .int j, .int k], h3 =>
      obtain ⟨rfl, b1, b2, b3, b4, h3⟩ := h3
      cases r1 with
      | cons r r1 => cases r1 with
        | cons r' r1 => cases r1 with
          | cons r'' r1 =>
            cases r1; cases r; cases r'; cases r''
            exact ⟨i, j, -1, (i - j).toNat, rfl, RgC.neg (by omega) (by omega) (by omega) (by omega), hq _ _ H1 h3 x1 n1 yd_down⟩, hz⟩
end
end L3

namespace L3
open PySem PySem.Spec PyProof.Rows L2
/-! t[::-1] of a tuple -/
section
variable {prog : Program} {w : World} {A : Around} {E : Value → Shared → Prop} {s : Shared}
theorem adjust_rev (n : Nat) : Builtin.Slice.sliceAdjust none none (-1) (n : Int) = ((n : Int) - 1, -1) := rfl
theorem places_rev (n : Nat) : Builtin.Slice.slicePlaces ((n : Int) - 1) (-1) (-1) = n := by
  unfold Builtin.Slice.slicePlaces
  have h1 : ¬ ((-1 : Int) > 0) := by omega
  simp only [h1, if_false]
  rw [show (-(-1) : Int) = 1 by decide, Int.ediv_one]
  split <;> omega
theorem sliceApplied_rev {sl : Addr} {vs : Value} {n : Nat} {Q : Int × Int × Nat → Shared → Prop} (hs : s.heap.IsSliceOf sl .none .none vs) (ps : IsPart vs (some (-1)))
    (h : Q ((n : Int) - 1, -1, n) s) : wpAny (model prog w) A (Builtin.Slice.sliceApplied (.ref sl) (pure (n : Int))) Q E s := by
  obtain ⟨os, hos, hcs, hds⟩ := id hs
  unfold Builtin.Slice.sliceApplied Builtin.Slice.sliceFields
  refine wpAny_bind (wpAny_bind (wpAny_field hos hds (x := .none) rfl (wpAny_bind (wpAny_field hos hds (x := .none) rfl (wpAny_bind (wpAny_field hos hds (x := vs) rfl (wpAny_pure ?_)))))))
  refine wpAny_bind (HT.slicePart_ ps ?_)
  show wpAny _ _ (if ((-1 : Int) == 0) = true then _ else _) _ _ s
  rw [if_neg (by decide)]
  refine wpAny_bind (slicePart_none (wpAny_bind (slicePart_none (wpAny_bind (wpAny_pure ?_)))))
  show wpAny _ _ (match Builtin.Slice.sliceAdjust none none (-1) (n : Int) with | (lo, hi) => pure (lo, (-1 : Int), Builtin.Slice.slicePlaces lo hi (-1))) _ _ s
  rw [adjust_rev n]
  show wpAny _ _ (pure ((n : Int) - 1, (-1 : Int), Builtin.Slice.slicePlaces ((n : Int) - 1) (-1) (-1))) _ _ s
  rw [places_rev]
  exact wpAny_pure h
theorem fm_congr {α β : Type} {f g : α → Option β} : ∀ l : List α, (∀ a ∈ l, f a = g a) → l.filterMap f = l.filterMap g
  | [], _ => rfl
  | a :: l, h => by
    rw [List.filterMap_cons, List.filterMap_cons, h a (List.mem_cons_self ..), fm_congr l fun b hb => h b (List.mem_cons_of_mem _ hb)]
theorem pick_rev (xs : Array Value) : ((List.range xs.size).filterMap fun (m : Nat) => xs[((xs.size : Int) - 1 + (m : Int) * (-1)).toNat]?).toArray = xs.toList.reverse.toArray := by
  congr 1
  have h1 : ((List.range xs.size).filterMap fun (m : Nat) => xs[((xs.size : Int) - 1 + (m : Int) * (-1)).toNat]?) = (List.range xs.size).filterMap fun (m : Nat) => xs.toList.reverse[m]? := by
    refine fm_congr _ fun m hm => ?_
    have hm := List.mem_range.mp hm
    rw [List.getElem?_reverse (by simpa using hm), Array.length_toList, Array.getElem?_toList]
    congr 1
    omega
  rw [h1]
  have := pick_run xs.toList.reverse.toArray 0 xs.size
  rw [List.filterMap_map] at this
  have e2 : ((fun x => xs.toList.reverse.toArray[x]?) ∘ fun x => 0 + x) = fun m => xs.toList.reverse[m]? := by
    funext m
    show xs.toList.reverse.toArray[0 + m]? = _
    rw [Nat.zero_add]
    simp
  rw [e2] at this
  rw [this]
  show (xs.toList.reverse.drop 0).take xs.size = xs.toList.reverse
  rw [List.drop_zero]
  exact List.take_of_length_le (by rw [List.length_reverse, Array.length_toList]; omega)
theorem getItem_tuple_rev {t sl : Addr} {items : Array Value} {vs : Value} {Q : Value → Shared → Prop} (ht : IsTup s.heap t items) (hs : s.heap.IsSliceOf sl .none .none vs) (ps : IsPart vs (some (-1)))
    (h : Q (.ref s.heap.objs.size) { s with heap := s.heap.push { cls := .type "tuple", data := .seq items.toList.reverse.toArray } })
    (hsz : items.size ≤ sizeLine) : wpAny (model prog w) A (getItem (.ref t) (.ref sl)) Q E s := by
  have htake : sizeOk (.seq items.toList.reverse.toArray) := by
    show items.toList.reverse.toArray.size ≤ sizeLine
    rw [List.size_toArray, List.length_reverse, Array.length_toList]
    omega
  obtain ⟨os, hos, hcs, hds⟩ := id hs
  have hTs : s.TypeIs (.ref sl) "slice" := ⟨os, hos, hcs⟩
  unfold getItem
  try with_reducible refine wpAny_holding ?_
  first | refine wpAny_bind (wpAny_pure ?_) | skip
  refine wpAny_bind (wpAny_sequenceKey ht.typeIs (by decide) ?_)
  refine wpAny_bind (wpAny_callSpecial?_slot (name := Str.ofString "__getitem__") ht.typeIs PyProof.Rows.slot_tuple_getitem
    (wpAny_call_entry PyProof.Rows.slot_tuple_getitem ht.typeIs entry_tuple_getitem ?_ (args_tuple_getitem _ _)))
  show wpAny _ _ (Builtin.Tuple.tupleItemsOf (.ref t) >>= _) _ _ s
  refine wpAny_bind (tupleItemsOf_ ht ?_)
  refine wpAny_bind (wpAny_typeOf hTs ?_)
  rw [if_pos (by decide)]
  refine wpAny_bind (sliceApplied_rev hs ps ?_)
  have hno : ¬ ((((items.size : Int) - 1) == 0 && (-1 : Int) == 1 && items.size == items.size) = true) := by
    rw [show ((-1 : Int) == 1) = false from rfl, Bool.and_false, Bool.false_and]
    exact Bool.false_ne_true
  show wpAny _ _ (if (((items.size : Int) - 1) == 0 && (-1 : Int) == 1 && items.size == items.size) = true then _ else _) _ _ s
  rw [if_neg hno, pick_rev]
  first
    | exact wpAny_bind (m := Builtin.Tuple.tupleExact _) (wpAny_newObj_type (wpAny_pure ⟨_, rfl, wpAny_pure h⟩) htake)
    | exact wpAny_bind (m := Builtin.Tuple.tupleExact _) (wpAny_newObj_type (wpAny_bind (wpAny_pure (wpAny_pure ⟨_, rfl, wpAny_pure h⟩))) htake)
    | exact wpAny_bind (wpAny_bind (m := Builtin.Tuple.tupleExact _) (wpAny_newObj_type (wpAny_pure (wpAny_pure ⟨_, rfl, wpAny_pure h⟩)) htake))
    | exact wpAny_bind (wpAny_bind (m := Builtin.Tuple.tupleExact _) (wpAny_newObj_type (wpAny_pure ⟨_, rfl, wpAny_pure h⟩) htake))
end
def tRevT (K : PySem.W.Frag) (te : TE) : TE := fun σ H Q => te σ H fun x H1 => ∃ a xs, x = .ref a ∧ SqT K H1 a xs ∧ ∀ p, H1 p = none → Q (.ref p) (upd H1 p (.tup xs.reverse))
section
variable {X : Cx} {E : XK} {e : Expr} {te : TE} {fe : DE} {k : Nat} {p1 p2 p3 pos : Pos}
theorem pe_revT (he : PE X e te) : PE X (.Subscript e (.Slice none none (some (.UnaryOp .USub (.Constant (.int 1) k p1) p2)) p3) pos) (tRevT X.K te) := by
  refine ⟨fun pins s σ H Q I h => ?_⟩
  refine Subscript_ (thn (he.run pins s σ H _ I h) fun v s1 ⟨x, H1, I1, r1, q1⟩ => ?_)
  obtain ⟨a, xs, ex, hx, q⟩ := q1
  subst ex
  cases r1
  have hst : PO X (some (.UnaryOp .USub (.Constant (.int 1) k p1) p2)) (tPart (tUn (rU fun i => .int (-i)) (tC (.int 1)))) := po_some (pe_un un_neg pe_int)
  refine wpAny_Slice (thn (po_none.run pins s1 σ H1 (fun o H2 => o = none ∧ H2 = H1) I1 ⟨rfl, rfl⟩) fun vl s2 ⟨l, H2, I2, pl, el, e2⟩ => ?_)
  subst el e2
  refine thn (po_none.run pins s2 σ H2 (fun o H3 => o = none ∧ H3 = H2) I2 ⟨rfl, rfl⟩) fun vu s3 ⟨u, H3, I3, pu, eu, e3⟩ => ?_
  subst eu e3
  refine thn (hst.run pins s3 σ H3 (fun o H4 => o = some (-1) ∧ H4 = H3) I3 ⟨1, rfl, -1, rfl, rfl, rfl⟩) fun vs s4 ⟨o, H4, I4, ps, eo, e4⟩ => ?_
  subst eo e4
  cases pl
  cases pu
  have I5 : Inv X pins σ H4 { s4 with heap := s4.heap.push { cls := .type "slice", data := .fields #[.none, .none, vs] } } := I4.kept (t' := s4.toks) fun b ob q => Heap.get?_push_of_some _ q
  obtain ⟨its, r, ht, hz⟩ := I5.tuple hx
  have hlen := r.length
  show wpAny (model X.prog X.w) X.A (subscriptTail e (.Slice none none (some (.UnaryOp .USub (.Constant (.int 1) k p1) p2)) p3) (.ref a) (.ref s4.heap.objs.size)) (EP X pins σ Q) X.xe { s4 with heap := s4.heap.push { cls := .type "slice", data := .fields #[.none, .none, vs] } }
  refine tail_any (ops := [.ref a, .ref s4.heap.objs.size]) ht.typeIs (PyProof.Rows.slot_tuple_getitem.lookup) ?_ (by with_unfolding_all rfl)
  refine getItem_tuple_rev ht (Heap.IsSliceOf.new _ .none .none vs) ps ?_ (by rw [List.size_toArray]; omega)
  refine ⟨.ref _, _, I5.laid (t' := s4.toks) (o := .tup xs.reverse) (fun b ob q => Heap.get?_push_of_some _ q) (Nat.le_refl _) ?_, rfl, q _ (I5.hok.fresh (Nat.le_refl _))⟩
  exact ⟨by rw [List.length_reverse]; exact hz, _, r.reverse, IsTup.new _ _⟩
def revTD : D → DP → Prop
  | .tup ds, P => P (.tup ds.reverse)
  | _, _ => False
theorem DRs.app {K : PySem.W.Frag} {r : Addr} {A : Addr → Prop} {H : Hp} : ∀ {vs us : List V} {ds es : List D}, DRs K r A H vs ds → DRs K r A H us es → DRs K r A H (vs ++ us) (ds ++ es)
  | _, _, _, _, .nil, t => t
  | _, _, _, _, .cons a t, u => .cons a (t.app u)
theorem DRs.rev {K : PySem.W.Frag} {r : Addr} {A : Addr → Prop} {H : Hp} : ∀ {vs : List V} {ds : List D}, DRs K r A H vs ds → DRs K r A H vs.reverse ds.reverse
  | _, _, .nil => .nil
  | _, _, .cons a t => by
    rw [List.reverse_cons, List.reverse_cons]
    exact DRs.app t.rev (.cons a .nil)
theorem e_revT (he : PE X e (tE X.K E fe)) : PE X (.Subscript e (.Slice none none (some (.UnaryOp .USub (.Constant (.int 1) k p1) p2)) p3) pos) (tE X.K E (fun δ P Z => fe δ (fun d => revTD d P) Z)) :=
  PE.imp (pe_revT he) fun σ H Q ⟨r, A, δ, P, Z, R, h, hq, hz⟩ =>
  ⟨r, A, δ, _, Z, R, h, fun d v H1 h1 x1 n1 r1 => by
    have w1 := (R.ext x1 n1).wd
    cases d with
    | tup ds =>
      obtain ⟨a, xs, rfl, e1, z, t⟩ := r1.sqT
      exact ⟨a, xs, rfl, e1, fun p np => hq _ _ _ h1 (x1.trans (Ext.upd np)) (n1.upd np) (w1.tup np (by rw [List.length_reverse]; exact z) t.rev)⟩
    | _ => exact h1.elim, hz⟩
end
/-! len(set(xs)) of a list or a tuple of ints -/
section
variable {X : Cx} {E : XK} {a : Expr} {fa : DE} {p p2 pos q : Pos}
def rLenSO (w : World) : List V → Hp → VK → Prop := fun vs H Q => ∃ (a : Addr) (S : Int → Bool) (n : Nat), vs = [V.ref a] ∧ H a = some (SetO w a S n) ∧ n < 64 ∧
  ∀ ks : List Int, ks.Nodup → (∀ k, S k = true ↔ k ∈ ks) → ks.length = n → Q (.int (ks.length : Nat)) H
theorem cr_lenSO : CallR X (.builtin "len") (rLenSO X.w) := by
  intro pins s σ H vs us Q I r h
  obtain ⟨a, S, n, rfl, ha, h64, q⟩ := h
  obtain ⟨o, es, ep, t, ho, hex, hd, _, hn, hm, _, hf, hsz, _⟩ := setO_get I ha
  rw [Vals.ref1 r]
  have hl : (es.toList.map keyOf).length = n := by rw [List.length_map, Array.length_toList]; exact hsz
  refine call_len_set ho hex hd hf (by rw [hsz]; omega) ⟨.int ((es.toList.map keyOf).length : Nat), H, I.tok _, ⟨s.toks + 1, by rw [hl, hsz]⟩, q _ hn hm hl⟩
def ls2D : D → DP → Prop := fun d P => ∃ ns : List Int, (d = .lst (ns.map D.int) ∨ d = .tup (ns.map D.int)) ∧ ns.length < 64 ∧ ∀ ks : List Int, ks.Nodup → (∀ k, k ∈ ks ↔ k ∈ ns) → P (.int (ks.length : Nat))
theorem e_lenSet2 (hc : X.calm = true) (hg : Gl X "len") (hm : X.mg "len" = none) (hg2 : Gl X "set") (hm2 : X.mg "set" = none) (ha : PE X a (tE X.K E fa))
    (na : starEach [a] X.env = (false, eval a X.env) :: starEach [] X.env := by rfl) (nb : starEach [.Call (.Name "set" p2) [a] [] q] X.env = (false, eval (.Call (.Name "set" p2) [a] [] q) X.env) :: starEach [] X.env := by rfl) :
    PE X (.Call (.Name "len" p) [.Call (.Name "set" p2) [a] [] q] [] pos) (tE X.K E (fun δ P Z => fa δ (fun d => ls2D d P) Z)) :=
  PE.imp (pe_callB cr_lenSO hg hm (by decide +kernel) (pa_cons (pe_callTy ((cr_setI hc).or (cr_setLI hc)) hg2 hm2 (by decide +kernel) (pa_cons ha pa_nil na) (by decide) (by decide) na) pa_nil nb) (by decide) (by decide) nb) fun σ H Q ⟨r, A, δ, P, Z, R, h, hq, hz⟩ => by
    refine ⟨r, A, δ, _, Z, R, h, fun d v H1 h1 x1 n1 r1 => ?_, hz⟩
    obtain ⟨ns, hd, h64, h1⟩ := h1
    have fin : ∀ (b : Addr) (c : Nat), H1 b = none → c ≤ ns.length → rLenSO X.w [V.ref b] (upd H1 b (SetO X.w b (fun j => decide (j ∈ ns)) c)) Q := fun b c nb hcl =>
      ⟨b, _, c, rfl, upd_same, by omega, fun ks hn hm hl => hq _ _ _ (h1 ks hn fun k => by rw [← hm k]; simp) (x1.trans (Ext.upd nb)) (n1.upd nb) (.int _)⟩
    rcases hd with rfl | rfl
    · obtain ⟨l, xs, rfl, _, e1, z1, t1⟩ := r1.sqL
      have := t1.ints
      subst this
      exact .inr ⟨l, ns, rfl, SqL.of e1, h64, fin⟩
    · obtain ⟨l, xs, rfl, e1, z1, t1⟩ := r1.sqT
      have := t1.ints
      subst this
      exact .inl ⟨l, ns, rfl, e1, h64, fin⟩
end
/-! x in xs, of data of any depth -/
def inDp (d e : D) (P : DP) : Prop := ∃ ds, e = .lst ds ∧ d.eqOk = true ∧ e.eqOk = true ∧ P (.bl (ds.any fun z => eqD z d))
theorem pys_any {a : PyData} {d : D} (hd : d.py = some a) : ∀ {ds : List D} {xs : List PyData}, D.pys ds = some xs → (ds.any fun z => eqD z d) = xs.any fun z => PyData.eqv z a
  | [], _, e => by cases e; rfl
  | x :: ds, _, e => by
    unfold D.pys at e
    cases q : x.py with
    | none => rw [q] at e; cases e
    | some y =>
      cases q2 : D.pys ds with
      | none => rw [q, q2] at e; cases e
      | some ys =>
        rw [q, q2] at e
        cases e
        rw [List.any_cons, List.any_cons, pys_any hd q2, eqD_py q hd]
theorem od_inDp {K : PySem.W.Frag} : OpD K (rInD K) inDp := fun r A H x y d e P Q w hx hy h q => by
  obtain ⟨ds, rfl, h1, h2, h3⟩ := h
  unfold D.eqOk at h1 h2
  cases p1 : d.py with
  | none => rw [p1] at h1; cases h1
  | some a =>
    cases p2 : (D.lst ds).py with
    | none => rw [p2] at h2; cases h2
    | some b =>
      rw [p1] at h1
      rw [p2] at h2
      have p3 := p2
      unfold D.py at p3
      cases p4 : D.pys ds with
      | none => rw [p4] at p3; cases p3
      | some ys =>
        rw [p4] at p3
        cases p3
        refine ⟨a, ys, hx.dp p1, hy.dp p2, h1, h2, q _ _ _ ?_ .refl w.rnd (.bl _)⟩
        rw [← pys_any p1 p4]
        exact h3
theorem u65 {k : Nat} {A : Around} (r : Room k A) : A.units + 65 < cLine := by have := r.un; omega
/-! x is True, x is not True, of bools -/
def isBD (d e : D) (P : DP) : Prop := ∃ a b : Bool, d = .bl a ∧ e = .bl b ∧ P (.bl (decide (a = b)))
def notBD (d e : D) (P : DP) : Prop := ∃ a b : Bool, d = .bl a ∧ e = .bl b ∧ P (.bl (!decide (a = b)))
theorem od_isBD {K : PySem.W.Frag} : OpD K (fun x y H Q => ∃ a b, x = .bl a ∧ y = .bl b ∧ Q (.bl (decide (a = b))) H) isBD := fun r A H x y d e P Q w hx hy h q => by
  obtain ⟨a, b, rfl, rfl, h⟩ := h
  cases hx
  cases hy
  exact ⟨a, b, rfl, rfl, q _ _ _ h .refl w.rnd (.bl _)⟩
theorem od_notBD {K : PySem.W.Frag} : OpD K (fun x y H Q => ∃ a b, x = .bl a ∧ y = .bl b ∧ Q (.bl (!decide (a = b))) H) notBD := fun r A H x y d e P Q w hx hy h q => by
  obtain ⟨a, b, rfl, rfl, h⟩ := h
  cases hx
  cases hy
  exact ⟨a, b, rfl, rfl, q _ _ _ h .refl w.rnd (.bl _)⟩
end L3

namespace L3
open PySem PySem.Spec PyProof.Rows L2
/-! x not in xs, of data of any depth; a new own list with items -/
def notInDp (d e : D) (P : DP) : Prop := ∃ ds, e = .lst ds ∧ d.eqOk = true ∧ e.eqOk = true ∧ P (.bl (!ds.any fun z => eqD z d))
theorem od_notInDp {K : PySem.W.Frag} : OpD K (rNotInD K) notInDp := fun r A H x y d e P Q w hx hy h q => by
  obtain ⟨ds, rfl, h1, h2, h3⟩ := h
  unfold D.eqOk at h1 h2
  cases p1 : d.py with
  | none => rw [p1] at h1; cases h1
  | some a =>
    cases p2 : (D.lst ds).py with
    | none => rw [p2] at h2; cases h2
    | some b =>
      rw [p1] at h1
      rw [p2] at h2
      have p3 := p2
      unfold D.py at p3
      cases p4 : D.pys ds with
      | none => rw [p4] at p3; cases p3
      | some ys =>
        rw [p4] at p3
        cases p3
        refine ⟨a, ys, hx.dp p1, hy.dp p2, h1, h2, q _ _ _ ?_ .refl w.rnd (.bl _)⟩
        rw [← pys_any p1 p4]
        exact h3
section
variable {X : Cx} {E : XK} {es : List Expr} {fs : DA} {p2 : Pos}
theorem x_lst (h : PA X es (tA X.K E fs)) : PE X (.List es p2) (tX X.K E (fun δ P Z => fs δ (fun ds => ds.length ≤ sizeLine ∧ P (.own ds)) Z)) := PE.imp (pe_lst h) fun σ H Q ⟨r, A, δ, P, Z, R, h2, hq, hz⟩ =>
  ⟨r, A, δ, _, Z, R, h2, fun ds vs H1 h3 x1 n1 r1 => ⟨by rw [r1.length]; exact h3.1, fun l nl => by
    have w1 := (R.ext x1 n1).wd
    have nl0 : H l = none := by
      cases q : H l with
      | none => rfl
      | some o =>
        by_cases hr : l = r
        · obtain ⟨ns, e, _⟩ := n1
          rw [hr, e] at nl; cases nl
        · rw [x1 l o hr q] at nl; cases nl
    exact hq _ _ _ h3.2 (x1.trans (Ext.upd nl)) (n1.upd nl) ⟨l, vs, rfl, nl0, upd_same, by rw [r1.length]; exact h3.1, (DRs.bar (A' := fun b => A b ∨ b = l) (fun b o q y => q.elim id fun q => by rw [q, nl] at y; cases y) r1).ext ((Ext.upd nl).toA (.inl R.ar))⟩⟩, hz⟩
end
end L3

/-! errors as values: made, their fields read, isinstance of them -/
namespace L3
open PySem PySem.Spec PyProof.Rows L2
def tMkV (C : Addr) (sp : Sp) (dvs : List V) (ta : TA) : TE := fun σ H Q => ta σ H fun vs H1 => vs.length ≤ 1000 ∧ ∀ a, H1 a = none → sp (V.ref a :: (vs ++ dvs)) (upd H1 a (exo a C none)) (fun v H2 => v = .non ∧ Q (.ref a) H2) (fun _ _ _ => False)
def tMkV0 (C : Addr) (sp : Sp) : TE := fun σ H Q => ∀ a, H a = none → sp [V.ref a] (upd H a (exo a C none)) (fun v H2 => v = .non ∧ Q (.ref a) H2) (fun _ _ _ => False)
section
variable {X : Cx} {e : Expr} {es : List Expr} {ta : TA} {p pos : Pos}
theorem pe_oexV {CX : CXT} {x : Str} {C fI : Addr} {k : Nat} {fd : FuncData} {ps : List Str} {sp : Sp} {ds : List Value} {dvs : List V} (T : OexC X.K C) (iC : PySem.W.findIn X.K (.ref C) "__init__" = some (some (.ref fI))) (tI : PySem.W.typeIn X.K (.ref fI) = some (.type "function"))
    (F1 : FnOk X.prog X.w X.K X.mg X.base CX k fI fd ps sp) (hr : Room (k + 1) X.A) (hb : Binds X.K fd ps ds) (hd : Vals dvs ds) (hx : Passes CX X (fun _ _ _ => False)) (hg : Gl X x) (hm : X.mg x = some (.ref C)) (ha : PA X (e :: es) ta)
    (hdb : (x == ("__debug__" : Str)) = false := by decide) (he : starEach (e :: es) X.env = (false, eval e X.env) :: starEach es X.env := by rfl) (hpl : (backTo pos (starEach es X.env)).any (·.1) = false := by rfl) :
    PE X (.Call (.Name x p) (e :: es) [] pos) (tMkV C sp dvs ta) := by
  refine ⟨fun pins s σ H Q I h => ?_⟩
  obtain ⟨nm, q, N, bs, bm, sn, sub, ab, col, dd, k0, k1, k2, k3, k5, hC, hbm⟩ := T.cls
  refine wpAny_Call_Name_kw (ld_glob I hg hm ?_ hdb)
  refine PySem.W.callWith_K (h₀ := X.base) I.ok.mod.kin T.kC (thn (ha.run pos pins s σ H _ I h) fun us s1 ⟨vs, H1, I1, r1, hz, q1⟩ => ⟨I1.kIn, ?_⟩) he hpl
  show wpAny _ _ (call (.ref C) us) _ _ _
  obtain ⟨hp, g, dr, tk, os⟩ := s1
  have hsz : hp.objs.size ≤ hp.objs.size + 1 := Nat.le_succ _
  have hn : H1 (hp.objs.size + 1) = none := I1.hok.fresh hsz
  have hq := q1 (hp.objs.size + 1) hn
  have kk : ∀ b o, hp.get? b = some o → ((hp.push (PySem.W.kdv_tup us)).push (PySem.HandSPX.excO C hp.objs.size)).get? b = some o := fun b o e => Heap.get?_push_of_some _ (Heap.get?_push_of_some _ e)
  have hget : ((hp.push (PySem.W.kdv_tup us)).push (PySem.HandSPX.excO C hp.objs.size)).get? (hp.objs.size + 1) = some (PySem.HandSPX.excO C hp.objs.size) := by heap_get
  have I2 : Inv X pins σ (upd H1 (hp.objs.size + 1) (exo (hp.objs.size + 1) C none)) ⟨(hp.push (PySem.W.kdv_tup us)).push (PySem.HandSPX.excO C hp.objs.size), g, dr, tk, os⟩ :=
    I1.laid (t' := tk) (a := hp.objs.size + 1) (o := exo (hp.objs.size + 1) C none) (h' := (hp.push (PySem.W.kdv_tup us)).push (PySem.HandSPX.excO C hp.objs.size)) kk hsz (exo_ok hget)
  have r2 : Vals (V.ref (hp.objs.size + 1) :: (vs ++ dvs)) (Value.ref (hp.objs.size + 1) :: (us ++ ds)) := .cons rfl (r1.append hd)
  have hl : (Value.ref (hp.objs.size + 1) :: us ++ ds).length = ps.length := by
    have e := r2.length
    rw [F1.len _ _ _ _ hq] at e
    exact e.symm
  have hus : us.length ≤ sizeLine := by
    rw [← Paired.length r1, sizeLine_eq]
    omega
  refine wpAny_call (PySem.HandSPX.call_own F.excBase_ValueError (fun Y => PySem.HandSPX.refsVE_contains Y bm hbm) (I1.kIn _ _ hC) (PySem.W.looks_findIn I1.kIn iC) (fun self => PySem.W.bind_fn I1.kIn self tI) hus
    (codeAny_mono (F1.run _ X.stack _ _ ⟨Value.ref (hp.objs.size + 1) :: us, []⟩ (Value.ref (hp.objs.size + 1) :: (us ++ ds)) _ _ (fun _ _ _ => False) (hr.make C us []) (I2.env0.make C us []) (hb _ (Value.ref (hp.objs.size + 1) :: us) I2.kIn hl) r2 hq) fun r s' hq' => ?_))
  cases r with
  | error er => exact hx pins σ _ _ er s' I2 hq'
  | ok fl =>
    cases fl with
    | ret u =>
      obtain ⟨v, H2, os2, bare2, un2, hok2, rv, ev, q2⟩ := hq'
      subst ev
      obtain ⟨h2, g2, d2, t2, os'⟩ := s'
      exact ⟨rv, .ref _, H2, I2.call' (ch := []) os2 un2 hok2 bare2 (fun b z => absurd z (by simp)), rfl, q2⟩
    | next => exact False.elim hq'
    | brk => exact False.elim hq'
    | cont => exact False.elim hq'
theorem pe_oexV0 {CX : CXT} {x : Str} {C fI : Addr} {k : Nat} {fd : FuncData} {ps : List Str} {sp : Sp} (T : OexC X.K C) (iC : PySem.W.findIn X.K (.ref C) "__init__" = some (some (.ref fI))) (tI : PySem.W.typeIn X.K (.ref fI) = some (.type "function"))
    (F1 : FnOk X.prog X.w X.K X.mg X.base CX k fI fd ps sp) (hr : Room (k + 1) X.A) (hb : Binds X.K fd ps []) (hx : Passes CX X (fun _ _ _ => False)) (hg : Gl X x) (hm : X.mg x = some (.ref C)) (hdb : (x == ("__debug__" : Str)) = false := by decide) :
    PE X (.Call (.Name x p) [] [] pos) (tMkV0 C sp) := by
  refine ⟨fun pins s σ H Q I h => ?_⟩
  obtain ⟨nm, q, N, bs, bm, sn, sub, ab, col, dd, k0, k1, k2, k3, k5, hC, hbm⟩ := T.cls
  refine wpAny_Call_Name_kw (ld_glob I hg hm ?_ hdb)
  refine PySem.W.callWith_K0 I.kIn T.kC ?_
  obtain ⟨hp, g, dr, tk, os⟩ := s
  have hsz : hp.objs.size ≤ hp.objs.size + 1 := Nat.le_succ _
  have hn : H (hp.objs.size + 1) = none := I.hok.fresh hsz
  have hq := h (hp.objs.size + 1) hn
  have kk : ∀ b o, hp.get? b = some o → ((hp.push (PySem.W.kdv_tup [])).push (PySem.HandSPX.excO C hp.objs.size)).get? b = some o := fun b o e => Heap.get?_push_of_some _ (Heap.get?_push_of_some _ e)
  have hget : ((hp.push (PySem.W.kdv_tup [])).push (PySem.HandSPX.excO C hp.objs.size)).get? (hp.objs.size + 1) = some (PySem.HandSPX.excO C hp.objs.size) := by heap_get
  have I2 : Inv X pins σ (upd H (hp.objs.size + 1) (exo (hp.objs.size + 1) C none)) ⟨(hp.push (PySem.W.kdv_tup [])).push (PySem.HandSPX.excO C hp.objs.size), g, dr, tk, os⟩ := I.laid (t' := tk) kk hsz (exo_ok hget)
  have r2 : Vals [V.ref (hp.objs.size + 1)] [Value.ref (hp.objs.size + 1)] := .cons rfl .nil
  have hl : ([Value.ref (hp.objs.size + 1)] ++ ([] : List Value)).length = ps.length := by
    rw [← F1.len _ _ _ _ hq]; rfl
  refine wpAny_call (PySem.HandSPX.call_own F.excBase_ValueError (fun Y => PySem.HandSPX.refsVE_contains Y bm hbm) (I.kIn _ _ hC) (PySem.W.looks_findIn I.kIn iC) (fun self => PySem.W.bind_fn I.kIn self tI) (by show 0 ≤ sizeLine; decide)
    (codeAny_mono (F1.run _ X.stack _ _ ⟨[Value.ref (hp.objs.size + 1)], []⟩ [Value.ref (hp.objs.size + 1)] _ _ (fun _ _ _ => False) (hr.make C [] []) (I2.env0.make C [] []) (by simpa using hb _ [Value.ref (hp.objs.size + 1)] I2.kIn hl) r2 hq) fun r s' hq' => ?_))
  cases r with
  | error er => exact hx pins σ _ _ er s' I2 hq'
  | ok fl =>
    cases fl with
    | ret u =>
      obtain ⟨v, H2, os2, bare2, un2, hok2, rv, ev, q2⟩ := hq'
      subst ev
      obtain ⟨h2, g2, d2, t2, os'⟩ := s'
      exact ⟨rv, .ref _, H2, I2.call' (ch := []) os2 un2 hok2 bare2 (fun b z => absurd z (by simp)), rfl, q2⟩
    | next => exact False.elim hq'
    | brk => exact False.elim hq'
    | cont => exact False.elim hq'
end
section
variable {X : Cx} {E : XK} {e : Expr} {fe : DE} {x : Str} {C : Addr} {p pos : Pos}
theorem e_exc0 (er : Err X.prog X.w X.K X.mg X.base x C none) (hr : Room 2 X.A) (hg : Gl X x) (hdb : (x == ("__debug__" : Str)) = false := by decide) :
    PE X (.Call (.Name x p) [] [] pos) (tE X.K E (fun δ P Z => P (.exc C [] []))) := by
  obtain ⟨fI, fd, ps, h1, h2, h3, h4⟩ := er.ini
  refine PE.imp (pe_oexV0 er.oex h1 h2 h4 hr h3 (fun _ _ _ _ _ _ _ h => by
    obtain ⟨_, _, _, _, _, _, _, _, _, _, _, _, h⟩ := h
    exact h.elim) hg er.m hdb) fun σ H Q ⟨r, A, δ, P, Z, R, h, hq, hz⟩ => fun a na => ⟨a, rfl, upd_same, rfl, ?_⟩
  exact hq _ _ _ h (Ext.upd na) (R.rnd.upd na) (.exc0 (R.wd.free na) upd_same)
theorem e_exc1 {f : Str} (er : Err X.prog X.w X.K X.mg X.base x C (some f)) (hr : Room 2 X.A) (hg : Gl X x) (he : PE X e (tE X.K E fe)) (hdb : (x == ("__debug__" : Str)) = false := by decide)
    (hst : starEach [e] X.env = (false, eval e X.env) :: starEach [] X.env := by rfl) (hpl : (backTo pos (starEach [] X.env)).any (·.1) = false := by rfl) :
    PE X (.Call (.Name x p) [e] [] pos) (tE X.K E (fun δ P Z => fe δ (fun d => d.fmt = true ∧ P (.exc C [f] [d])) Z)) := by
  obtain ⟨fI, fd, ps, h1, h2, h3, h4⟩ := er.ini
  refine PE.imp (pe_oexV (dvs := []) er.oex h1 h2 h4 hr h3 .nil (fun _ _ _ _ _ _ _ h => by
    obtain ⟨_, _, _, _, _, _, _, _, _, _, _, _, h⟩ := h
    exact h.elim) hg er.m (pa_cons he pa_nil hst) hdb hst hpl) fun σ H Q ⟨r, A, δ, P, Z, R, h, hq, hz⟩ => ?_
  refine ⟨r, A, δ, _, Z, R, h, fun d v H1 h5 x1 n1 r1 => ⟨by show 1 ≤ 1000; decide, fun a na => ?_⟩, hz⟩
  have R1 := R.ext x1 n1
  have fv : FmtV X.K (upd H1 a (exo a C none)) v := (r1.ext ((Ext.upd na).toA R1.ar)).fmtV h5.1
  show spI1 X.K C f [V.ref a, v] (upd H1 a (exo a C none)) _ _
  refine ⟨a, v, rfl, upd_same, fv, fun dx nd ne => ⟨rfl, ?_⟩⟩
  have nd1 : H1 dx = none := by rw [upd_ne ne] at nd; exact nd
  have e1 : Ext r H1 (upd (upd (upd H1 a (exo a C none)) dx (exd dx [(f, v)])) a (exo a C (some dx))) := fun b o hb q => by
    have hba : b ≠ a := ne_of_none q na
    have hbd : b ≠ dx := ne_of_none q nd1
    rw [upd_ne hba, upd_ne hbd, upd_ne hba]
    exact q
  have rn : RndOk r (upd (upd (upd H1 a (exo a C none)) dx (exd dx [(f, v)])) a (exo a C (some dx))) := by
    obtain ⟨ns, q, z⟩ := n1
    have hba : r ≠ a := ne_of_none q na
    have hbd : r ≠ dx := ne_of_none q nd1
    exact ⟨ns, by rw [upd_ne hba, upd_ne hbd, upd_ne hba]; exact q, z⟩
  refine hq _ _ _ h5.2 (x1.trans e1) rn (.exc1 (R1.wd.free na) upd_same (R1.wd.free nd1) ?_ (r1.ext (e1.toA R1.ar)))
  rw [upd_ne ne, upd_same]
/-- e.f of an error that holds f -/
def excFD (K : PySem.W.Frag) (f : Str) : D → DP → Prop
  | .exc C [g] [y], P => g = f ∧ XfC K C ∧ PySem.W.findIn K (.ref C) f = some none ∧ P y
  | _, _ => False
theorem e_excF {K : PySem.W.Frag} {f : Str} (he : PE X e (tE X.K E fe)) (hb : attributeBase e f X.env (eval e X.env) = eval e X.env := by rfl) (hK : X.K = K := by rfl) :
    PE X (.Attribute e f pos) (tE X.K E (fun δ P Z => fe δ (fun d => excFD K f d P) Z)) := by
  subst hK
  refine ⟨fun pins s σ H Q I ⟨r, A, δ, P, Z, R, h, hq, hz⟩ => ?_⟩
  refine attr_of hb (thn (he.run pins s σ H (fun v H1 => ∃ d, excFD X.K f d P ∧ Ext r H H1 ∧ RndOk r H1 ∧ DR X.K r A H1 v d) I ⟨r, A, δ, _, Z, R, h, fun d v H1 h3 x1 n1 r1 => ⟨d, h3, x1, n1, r1⟩, hz⟩) fun u s1 ⟨x, H1, I1, rx, d, h3, x1, n1, r1⟩ => ?_)
  match d, h3 with
  | .exc C [g] [y], h3 =>
    obtain ⟨rfl, T, hno, hp⟩ := h3
    cases r1 with
    | @exc1 a _ dx _ v _ na e1 nd e2 rv =>
      obtain rfl : u = Value.ref a := rx
      obtain ⟨t1, ho⟩ := exo_at I1.hok e1
      obtain ⟨mA, hns, hr⟩ := exd_at I1.hok e2
      obtain ⟨od, hod, hl⟩ := lookIn_ns hns
      obtain ⟨u2, hu, ru⟩ := RelO.some_of (v := v) (o := mA g) (by
        have := hr g
        rw [List.lookup_cons, beq_self_eq_true] at this
        exact this)
      have J : PySem.W.InstAt s1.heap a _ C (some od) := ⟨ho, rfl, rfl, hod⟩
      exact HandSPX.exc_get I1.kIn J T.ga T.gg T.exC (PySem.W.findObj_own T.hdC hno rfl (by rw [hl, hu])) (handed_of ru) ⟨v, H1, I1.tok _, ru, hq _ _ _ hp x1 n1 rv⟩
/-- isinstance of an error -/
def rIsX (K : PySem.W.Frag) : List V → Hp → VK → Prop := fun xs H Q => ∃ (a C : Addr) (dx : Option Addr) (c : V) (cv : Value) (b : Bool), xs = [.ref a, c] ∧ H a = some (exo a C dx) ∧ (∀ d, dx = some d → ∃ fs, H d = some (exd d fs)) ∧ (∀ u, RelV c u → u = cv) ∧ PySem.W.kitOne K (.ref C) cv = some b ∧ ExcC K C ∧ Q (.bl b) H
theorem cr_isX : CallR X (.builtin "isinstance") (rIsX X.K) := by
  intro pins s σ H xs us Q I r h
  obtain ⟨a, C, dx, c, cv, b, rfl, ha, hd, hcv, e, T, q⟩ := h
  cases r with
  | cons rx rr =>
    cases rr with
    | cons rt rr =>
      cases rr
      cases rx
      have ec := hcv _ rt
      subst ec
      obtain ⟨t1, ho⟩ := exo_at I.hok ha
      have hcl : (PySem.W.clsIn X.K C).isSome = true := by
        obtain ⟨cd, hc, _⟩ := PySem.W.any_some T.hd
        rw [hc]; rfl
      cases dx with
      | none =>
        have J : PySem.W.InstAt s.heap a _ C none := ⟨ho, rfl, rfl, trivial⟩
        exact PySem.W.kia_one (PySem.W.kitx_exc hcl T.hg T.hk T.hs T.ha T.hn T.ht T.hm) I.kIn J e (fun z => nomatch z) fun tk => ⟨.bl b, H, I.kept (t' := tk) fun _ _ z => z, rfl, q⟩
      | some d =>
        obtain ⟨fs, hfs⟩ := hd d rfl
        obtain ⟨mA, hns, _⟩ := exd_at I.hok hfs
        obtain ⟨od, hod, _⟩ := lookIn_ns hns
        have J : PySem.W.InstAt s.heap a _ C (some od) := ⟨ho, rfl, rfl, hod⟩
        exact PySem.W.kia_one (PySem.W.kitx_exc hcl T.hg T.hk T.hs T.ha T.hn T.ht T.hm) I.kIn J e (fun z => nomatch z) fun tk => ⟨.bl b, H, I.kept (t' := tk) fun _ _ z => z, rfl, q⟩
def isXD (K : PySem.W.Frag) (cv : Value) : D → DP → Prop
  | .exc C _ _, P => ∃ b, PySem.W.kitOne K (.ref C) cv = some b ∧ ExcC K C ∧ P (.bl b)
  | _, _ => False
theorem isX_of {K : PySem.W.Frag} {r : Addr} {A : Addr → Prop} {H : Hp} {v c : V} {cv : Value} {d : D} {P : DP} {Q : VK} (hcv : ∀ u, RelV c u → u = cv) (h : isXD K cv d P) (r1 : DR K r A H v d) (q : ∀ b, P (.bl b) → Q (.bl b) H) : rIsX K [v, c] H Q := by
  match d, h with
  | .exc C ns ds, h =>
    obtain ⟨b, e, T, hp⟩ := h
    cases r1 with
    | exc0 na e1 => exact ⟨_, C, none, c, cv, b, rfl, e1, fun d z => (by cases z), hcv, e, T, q b hp⟩
    | exc1 na e1 nd e2 rv => exact ⟨_, C, some _, c, cv, b, rfl, e1, fun d z => by cases z; exact ⟨_, e2⟩, hcv, e, T, q b hp⟩
theorem e_isX {K : PySem.W.Frag} {D : Addr} {p2 : Pos} (hg : Gl X "isinstance") (hm : X.mg "isinstance" = none) (hg2 : Gl X x) (hm2 : X.mg x = some (.ref D)) (he : PE X e (tE X.K E fe)) (hd : (x == ("__debug__" : Str)) = false := by decide)
    (h1 : starEach (e :: [.Name x p2]) X.env = (false, eval e X.env) :: starEach [.Name x p2] X.env := by rfl) (h2 : starEach (.Name x p2 :: []) X.env = (false, eval (.Name x p2) X.env) :: starEach [] X.env := by rfl)
    (hpl : (backTo pos (starEach [.Name x p2] X.env)).any (·.1) = false := by rfl) (hK : X.K = K := by rfl) :
    PE X (.Call (.Name "isinstance" p) [e, .Name x p2] [] pos) (tE X.K E (fun δ P Z => fe δ (fun d => isXD K (.ref D) d P) Z)) := by
  subst hK
  exact PE.imp (pe_callB cr_isX hg hm (by decide +kernel) (pa_cons he (pa_cons (pe_glob (v := .ref D) hg2 hm2 rfl hd) pa_nil h2) h1) (by decide) (by decide) h1 hpl) fun σ H Q ⟨r, A, δ, P, Z, R, h, hq, hz⟩ =>
    ⟨r, A, δ, _, Z, R, h, fun d v H1 h3 x1 n1 r1 => isX_of (fun u z => z) h3 r1 fun b hp => hq _ _ _ hp x1 n1 (.bl b), hz⟩
theorem e_isXB {K : PySem.W.Frag} {T : String} {p2 : Pos} (hg : Gl X "isinstance") (hm : X.mg "isinstance" = none) (hg2 : Gl X x) (hm2 : X.mg x = none) (hv : bootBuiltins x = some (.type T)) (he : PE X e (tE X.K E fe))
    (hn : x ≠ "__name__" := by decide) (hd : (x == ("__debug__" : Str)) = false := by decide)
    (h1 : starEach (e :: [.Name x p2]) X.env = (false, eval e X.env) :: starEach [.Name x p2] X.env := by rfl) (h2 : starEach (.Name x p2 :: []) X.env = (false, eval (.Name x p2) X.env) :: starEach [] X.env := by rfl)
    (hpl : (backTo pos (starEach [.Name x p2] X.env)).any (·.1) = false := by rfl) (hK : X.K = K := by rfl) :
    PE X (.Call (.Name "isinstance" p) [e, .Name x p2] [] pos) (tE X.K E (fun δ P Z => fe δ (fun d => isXD K (.type T) d P) Z)) := by
  subst hK
  exact PE.imp (pe_callB cr_isX hg hm (by decide +kernel) (pa_cons he (pa_cons (pe_bltn (v := .ty T) hg2 hm2 hv rfl hn hd) pa_nil h2) h1) (by decide) (by decide) h1 hpl) fun σ H Q ⟨r, A, δ, P, Z, R, h, hq, hz⟩ =>
    ⟨r, A, δ, _, Z, R, h, fun d v H1 h3 x1 n1 r1 => isX_of (fun u z => z) h3 r1 fun b hp => hq _ _ _ hp x1 n1 (.bl b), hz⟩
end
end L3

/-! Cubes: what the program's defs hand back, as plain functions of data, and facts of these. -/
namespace Q
open PySem PySem.Spec PyProof.Rows L2 L3
abbrev cubeD (c : List Int) : D := intsT c
abbrev cubesD (cs : List (List Int)) : D := .tup (cs.map cubeD)
abbrev pairD (p : Int × Int) : D := .tup [.int p.1, .int p.2]
abbrev turnsD (ts : List (Int × Int)) : D := .tup (ts.map pairD)
/-- any value that is no instance and no source of draws -/
def D.any1 (d : D) : Prop := ∃ t, d.tyName = some t
def isFig : D → Bool
  | .int i => decide (0 ≤ i ∧ i ≤ 9)
  | _ => false
def gFig : DF := fun ds P _ => ∃ d, ds = [d] ∧ D.any1 d ∧ P (.bl (isFig d))
def ltP (p q : Int × Int) : Prop := p.1 < q.1 ∨ p.1 = q.1 ∧ p.2 < q.2
instance : DecidableRel ltP := fun p q => by unfold ltP; infer_instance
def gAsc : DF := fun ds P _ => (∃ ns : List Int, ds = [intsT ns] ∧ ns.length < 64 ∧ P (.bl (decide (ns.Pairwise (· < ·))))) ∨
  ∃ ps : List (Int × Int), ds = [turnsD ps] ∧ ps.length < 64 ∧ (∀ p ∈ ps, 0 ≤ p.1 ∧ p.1 ≤ 9 ∧ 0 ≤ p.2 ∧ p.2 ≤ 9) ∧ P (.bl (decide (ps.Pairwise ltP)))
def toI : D → Int
  | .int i => i
  | _ => 0
/-- a cube, of any value -/
def isCube : D → Bool
  | .tup es => !es.isEmpty && es.all isFig && decide ((es.map toI).Pairwise (· < ·))
  | _ => false
/-- what is_cube may be asked of -/
def CubeOk (d : D) : Prop := D.any1 d ∧ ∀ es, d = .tup es → es.length < 64 ∧ ∀ e ∈ es, D.any1 e
def gCube : DF := fun ds P _ => ∃ d, ds = [d] ∧ CubeOk d ∧ P (.bl (isCube d))
def len2 : D → Bool
  | .tup es => es.length == 2
  | _ => false
def toP : D → Int × Int
  | .tup [.int a, .int b] => (a, b)
  | _ => (0, 0)
def figsOf (ps : List (Int × Int)) : List Int := ps.flatMap fun p => [p.1, p.2]
/-- turns, of any value -/
def isTurns : D → Bool
  | .tup es => es.all (fun d => isCube d && len2 d) && decide ((es.map toP).Pairwise ltP) && decide (figsOf (es.map toP)).Nodup
  | _ => false
def TurnsOk (d : D) : Prop := D.any1 d ∧ ∀ es, d = .tup es → es.length < 32 ∧ ∀ e ∈ es, CubeOk e
def gTurns : DF := fun ds P _ => ∃ d, ds = [d] ∧ TurnsOk d ∧ P (.bl (isTurns d))
def isNum : D → Bool
  | .str z => decide (1 ≤ z.length ∧ z.length ≤ 6) && z.cps.toList.all fun c => decide (48 ≤ c ∧ c ≤ 57)
  | _ => false
def gNum : DF := fun ds P _ => ∃ d, ds = [d] ∧ D.any1 d ∧ (∀ z, d = .str z → z.length ≤ 1000000) ∧ P (.bl (isNum d))
/-- the error of cubes that are none -/
def cubesErr : D → Option D
  | .tup es => if es.isEmpty || decide (6 < es.length) then some .non else (es.findIdx? fun d => !isCube d).map fun i => .int (i : Nat)
  | _ => some .non
def CubesOk (d : D) : Prop := D.any1 d ∧ ∀ es, d = .tup es → es.length ≤ 1000000 ∧ ∀ e ∈ es, CubeOk e
def gChkC (C : Addr) : DF := fun ds P Z => ∃ d, ds = [d] ∧ CubesOk d ∧ match cubesErr d with
  | none => P .non
  | some i => Z ⟨C, some ("index", i)⟩
def gChkT (C : Addr) : DF := fun ds P Z => ∃ d, ds = [d] ∧ TurnsOk d ∧ if isTurns d = true then P .non else Z ⟨C, none⟩
def gChkN (C : Addr) : DF := fun ds P Z => ∃ d, ds = [d] ∧ D.any1 d ∧ (∀ z, d = .str z → z.length ≤ 1000000) ∧ if isNum d = true then P .non else Z ⟨C, none⟩
/-! what == is asked of -/
theorem cube_E (c : List Int) : D.Eqs 1 (cubeD c) := Eqs.ints c
theorem pair_E (p : Int × Int) : D.Eqs 1 (pairD p) := Eqs.tup (f := D.int) (xs := [p.1, p.2]) fun _ _ => Eqs.int
theorem turns_E (ts : List (Int × Int)) : D.Eqs 2 (turnsD ts) := Eqs.tup fun p _ => pair_E p
theorem cubes_E (cs : List (List Int)) : D.Eqs 2 (cubesD cs) := Eqs.tup fun c _ => cube_E c
theorem pair_inj {p q : Int × Int} (h : pairD p = pairD q) : p = q := by
  injection h with h
  injection h with h1 h2
  injection h1 with h1
  injection h2 with h2
  injection h2 with h2
  exact Prod.ext h1 h2
theorem turns_inj {a b : List (Int × Int)} : turnsD a = turnsD b ↔ a = b := ⟨fun h => by
  injection h with h
  exact int_inj (fun _ _ e => pair_inj e) h, fun h => by rw [h]⟩
/-! sorted, all apart -/
theorem asc_of {ns ms : List Int} (pw : ms.Pairwise (· < ·)) (hm : ∀ k, k ∈ ms ↔ k ∈ ns) : decide (ns.Pairwise (· < ·)) = true ↔ intsT ns = intsT ms := by
  rw [decide_eq_true_iff, intsT_inj]
  constructor
  · intro h
    exact List.Perm.eq_of_pairwise (le := (· < ·)) (fun a b _ _ h1 h2 => absurd h1 (Int.lt_asymm h2)) h pw ((List.perm_ext_iff_of_nodup (h.imp fun h => Int.ne_of_lt h) (pw.imp fun h => Int.ne_of_lt h)).mpr fun k => (hm k).symm)
  · intro h
    rw [h]; exact pw
theorem code2 (p : Int × Int) : TS.code 64 [p.1, p.2] = p.1 * 64 + p.2 := code_pair p.1 p.2
theorem ascP_of {ps : List (Int × Int)} {ms : List (List Int)} (hb : ∀ p ∈ ps, 0 ≤ p.1 ∧ p.1 ≤ 9 ∧ 0 ≤ p.2 ∧ p.2 ≤ 9) (nd : ms.Nodup) (hm : ∀ k, k ∈ ms ↔ k ∈ ps.map fun p => [p.1, p.2]) (pw : ms.Pairwise fun x y => TS.code 64 x ≤ TS.code 64 y) :
    decide (ps.Pairwise ltP) = true ↔ turnsD ps = .tup (ms.map fun k => D.tup (k.map D.int)) := by
  have e0 : turnsD ps = .tup ((ps.map fun p => [p.1, p.2]).map fun k => D.tup (k.map D.int)) := by
    show D.tup _ = D.tup _
    rw [List.map_map]; rfl
  rw [decide_eq_true_iff, e0]
  have inj : ∀ a b : List Int, D.tup (a.map D.int) = D.tup (b.map D.int) → a = b := fun a b h => intsT_inj.mp h
  constructor
  · intro h
    have h1 : (ps.map fun p => [p.1, p.2]).Pairwise fun x y => TS.code 64 x < TS.code 64 y := by
      rw [List.pairwise_map]
      refine List.Pairwise.imp_of_mem (fun {p q} hp hq h => ?_) h
      have a := hb p hp
      have b := hb q hq
      rw [code2, code2]
      rcases h with h | ⟨h1, h2⟩ <;> omega
    have e : (ps.map fun p => [p.1, p.2]) = ms := by
      refine List.Perm.eq_of_pairwise (le := fun x y => TS.code 64 x ≤ TS.code 64 y) (fun a b ha hb' h1 h2 => ?_) (h1.imp fun h => Int.le_of_lt h) pw ((List.perm_ext_iff_of_nodup (h1.imp fun {a b} h e => by rw [e] at h; exact Int.lt_irrefl _ h) nd).mpr fun k => (hm k).symm)
      obtain ⟨p, hp, rfl⟩ := List.mem_map.mp ha
      obtain ⟨q, hq, rfl⟩ := List.mem_map.mp ((hm b).mp hb')
      have a1 := hb p hp
      have b1 := hb q hq
      rw [code2, code2] at h1 h2
      have : p.1 = q.1 ∧ p.2 = q.2 := by omega
      rw [this.1, this.2]
    rw [e]
  · intro h
    injection h with h
    have e := int_inj inj h
    rw [← e] at pw nd
    rw [List.pairwise_map] at pw
    have nd2 : ps.Pairwise fun p q => ([p.1, p.2] : List Int) ≠ [q.1, q.2] := List.pairwise_map.mp nd
    refine List.Pairwise.imp_of_mem (fun {p q} hp hq h => ?_) (pw.and nd2)
    have a := hb p hp
    have b := hb q hq
    obtain ⟨h1, h2⟩ := h
    rw [code2, code2] at h1
    have h3 : ¬ (p.1 = q.1 ∧ p.2 = q.2) := fun z => h2 (by rw [z.1, z.2])
    unfold ltP
    omega
/-! isinstance -/
def isTup : D → Bool
  | .tup _ => true
  | _ => false
def isInt : D → Bool
  | .int _ => true
  | .bl _ => true
  | _ => false
def isBl : D → Bool
  | .bl _ => true
  | _ => false
def isStr : D → Bool
  | .str _ => true
  | _ => false
theorem isT_tuple {d : D} {P : DP} (h : D.any1 d) (hp : P (.bl (isTup d))) : isTD "tuple" d P := by
  cases d <;> first | (obtain ⟨t, ht⟩ := h; cases ht; done) | exact ⟨_, true, rfl, by decide +kernel, hp⟩ | exact ⟨_, false, rfl, by decide +kernel, hp⟩
theorem isT_int {d : D} {P : DP} (h : D.any1 d) (hp : P (.bl (isInt d))) : isTD "int" d P := by
  cases d <;> first | (obtain ⟨t, ht⟩ := h; cases ht; done) | exact ⟨_, true, rfl, by decide +kernel, hp⟩ | exact ⟨_, false, rfl, by decide +kernel, hp⟩
theorem isT_bool {d : D} {P : DP} (h : D.any1 d) (hp : P (.bl (isBl d))) : isTD "bool" d P := by
  cases d <;> first | (obtain ⟨t, ht⟩ := h; cases ht; done) | exact ⟨_, true, rfl, by decide +kernel, hp⟩ | exact ⟨_, false, rfl, by decide +kernel, hp⟩
theorem isT_str {d : D} {P : DP} (h : D.any1 d) (hp : P (.bl (isStr d))) : isTD "str" d P := by
  cases d <;> first | (obtain ⟨t, ht⟩ := h; cases ht; done) | exact ⟨_, true, rfl, by decide +kernel, hp⟩ | exact ⟨_, false, rfl, by decide +kernel, hp⟩
theorem figs_ints {es : List D} (h : es.all isFig = true) : es = (es.map toI).map D.int := by
  induction es with
  | nil => rfl
  | cons e es ih =>
    rw [List.all_cons, Bool.and_eq_true] at h
    rw [List.map_cons, List.map_cons, ← ih h.2]
    cases e with
    | int i => rfl
    | _ => cases h.1
theorem bd_pair {a b : Int} (h1 : 0 ≤ a) (h2 : a < 64) (h3 : 0 ≤ b) (h4 : b < 64) : TS.Bd 64 [a, b] := by
  intro x hx
  rcases List.mem_cons.mp hx with rfl | hx
  · exact ⟨h1, h2⟩
  · rw [List.mem_singleton.mp hx]; exact ⟨h3, h4⟩
theorem eq_I {P : DP} {i j : Int} (h : P (.bl (decide (i = j)))) : (D.int i).eqOk = true ∧ (D.int j).eqOk = true ∧ P (.bl (eqD (.int i) (.int j))) :=
  eq_E (k := 0) (j := 0) Eqs.int Eqs.int (by rw [decide_eq_true_iff]; constructor <;> (intro h; cases h; rfl)) h
theorem ne_I {P : DP} {i j : Int} (h : P (.bl (decide (i ≠ j)))) : (D.int i).eqOk = true ∧ (D.int j).eqOk = true ∧ P (.bl (!eqD (.int i) (.int j))) :=
  ne_E (k := 0) (j := 0) Eqs.int Eqs.int (by rw [decide_eq_true_iff]; constructor <;> (intro h z; cases z; exact h rfl)) h
section
variable {P : DP} {ds es : List D} {z : Str} {i j : Int} {b : Bool}
theorem gl_t (h : P (.int ds.length)) : lenD [.tup ds] P := h
theorem gl_l (h : P (.int ds.length)) : lenD [.lst ds] P := h
theorem gl_s (k : z.length ≤ sizeLine) (h : P (.int z.length)) : lenD [.str z] P := ⟨k, h⟩
theorem gt_l (h : P (.tup ds)) : tupleD [.lst ds] P := h
theorem gi_t {P : List D → Prop} (h : P ds) : itT (.tup ds) P := h
theorem gi_l {P : List D → Prop} (h : P ds) : itL (.lst ds) P := h
theorem gi_s {P : List D → Prop} (h : P (z.cps.toList.map fun c => D.str ⟨#[c]⟩)) : itS (.str z) P := h
theorem gi_e {P : List D → Prop} (h : P (enumD ds)) : itE [.tup ds] P := h
theorem gr_1 {P : List D → Prop} (k : 0 ≤ j) (k2 : j ≤ 1000000) (h : P (rngD 0 j.toNat)) : itR1 [.int j] P := ⟨by omega, by omega, h⟩
theorem gb_b {P : Bool → Prop} (h : P b) : truD (.bl b) P := h
theorem gb_l {P : Bool → Prop} (h : P (!ds.isEmpty)) : truD (.lst ds) P := h
theorem gn_is {x : D} (h : P (.bl x.isNon)) : isND x .non P := h
theorem gn_not {x : D} (h : P (.bl (!x.isNon))) : notND x .non P := h
theorem g_le (h : P (.bl (decide (i ≤ j)))) : leD (.int i) (.int j) P := h
theorem g_lt (h : P (.bl (decide (i < j)))) : ltD (.int i) (.int j) P := h
theorem g_add (h : P (.int (i + j))) : addD (.int i) (.int j) P := h
theorem g_sub (h : P (.int (i - j))) : subD (.int i) (.int j) P := h
theorem ga_l (k : ds.length + es.length ≤ sizeLine) (h : P (.lst (ds ++ es))) : addD (.lst ds) (.lst es) P := ⟨k, h⟩
theorem ga_t (k : ds.length + es.length ≤ sizeLine) (h : P (.tup (ds ++ es))) : addD (.tup ds) (.tup es) P := ⟨k, h⟩
theorem gx_l {x : D} (k : atI ds i = some x) (h : P x) : ixD (.lst ds) (.int i) P := ⟨x, k, h⟩
theorem gx_t {x : D} (k : atI ds i = some x) (h : P x) : ixD (.tup ds) (.int i) P := ⟨x, k, h⟩
theorem gin_t {x : D} (k : x.flat = true) (k2 : ds.all D.flat = true) (h : P (.bl (inL x ds))) : inD x (.tup ds) P := by cases x <;> first | exact ⟨k, k2, h⟩ | cases k
theorem gnin_t {x : D} (k : x.flat = true) (k2 : ds.all D.flat = true) (h : P (.bl (!inL x ds))) : notInD x (.tup ds) P := by cases x <;> first | exact ⟨k, k2, h⟩ | cases k
end
theorem inV_ints {i : Int} {ns : List Int} : inV (V.int i) (ns.map V.int) = decide (i ∈ ns) := by
  unfold inV
  rw [List.any_map, Bool.eq_iff_iff, List.any_eq_true, decide_eq_true_iff]
  constructor
  · rintro ⟨x, hx, e⟩
    have : x = i := by simpa [eqV] using e
    rw [← this]; exact hx
  · intro h
    exact ⟨i, h, by simp [eqV]⟩
theorem inL_ints {i : Int} {ns : List Int} : inL (.int i) (ns.map D.int) = decide (i ∈ ns) := by
  unfold inL
  rw [List.map_map]
  exact inV_ints
theorem flat_ints {ns : List Int} : (ns.map D.int).all D.flat = true := by
  rw [List.all_map, List.all_eq_true]
  exact fun _ _ => rfl
theorem inD2_of {g : DG} {tt : DT} {te : DE} {δw : L3.Env} {k : D → Bool} {f : D → D} {Q : List D → Prop} : ∀ (ds acc : List D), (∀ d ∈ ds, ∀ (R : D → Prop) (S : Prop), (if k d = true then R (f d) else S) → g d δw fun δ2 => tt δ2 (fun b => if b = true then te δ2 R XF else S) XF) →
    acc.length + ds.length ≤ sizeLine → Q (acc ++ (ds.filter k).map f) → inD2 g tt te δw ds acc Q
  | [], acc, _, _, q => by
    rw [List.filter_nil, List.map_nil, List.append_nil] at q
    exact q
  | d :: ds, acc, h, hl, q => by
    rw [List.length_cons] at hl
    unfold inD2
    refine h d List.mem_cons_self (fun y => acc.length + 1 ≤ sizeLine ∧ inD2 g tt te δw ds (acc ++ [y]) Q) _ ?_
    cases hk : k d with
    | true =>
      rw [if_pos rfl]
      refine ⟨by omega, inD2_of ds (acc ++ [f d]) (fun x hx => h x (List.mem_cons_of_mem _ hx)) (by rw [List.length_append, List.length_singleton]; omega) ?_⟩
      rw [List.filter_cons, hk] at q
      rw [List.append_assoc]
      exact q
    | false =>
      rw [if_neg Bool.false_ne_true]
      refine inD2_of ds acc (fun x hx => h x (List.mem_cons_of_mem _ hx)) (by omega) ?_
      rw [List.filter_cons, hk] at q
      exact q
theorem lc2D_of {g : DG} {tt : DT} {fi1 : DI} {g1 : DG} {tt1 : DT} {te : DE} {vs1 : List Nat} {δw : L3.Env} {Q : List D → Prop} (its : D → List D) (δe : D → L3.Env) (k : D → D → Bool) (f : D → D → D) : ∀ (ds acc : List D),
    (∀ d ∈ ds, ∀ (R : L3.Env → List D → Prop) (S : Prop), R (δe d) (its d) → g d δw fun δ2 => tt δ2 (fun b => if b = true then fi1 δ2 (fun es => R (wipeE δ2 vs1) es) XF else S) XF) →
    (∀ d ∈ ds, ∀ e ∈ its d, ∀ (R : D → Prop) (S : Prop), (if k d e = true then R (f d e) else S) → g1 e (δe d) fun δ2 => tt1 δ2 (fun b => if b = true then te δ2 R XF else S) XF) →
    acc.length + (ds.map fun d => (its d).length).sum ≤ sizeLine → Q (acc ++ ds.flatMap fun d => ((its d).filter (k d)).map (f d)) → lc2D g tt fi1 g1 tt1 te vs1 δw ds acc Q
  | [], acc, _, _, _, q => by
    rw [List.flatMap_nil, List.append_nil] at q
    exact q
  | d :: ds, acc, h1, h2, hl, q => by
    rw [List.map_cons, List.sum_cons] at hl
    unfold lc2D
    refine h1 d List.mem_cons_self (fun δ3 es => inD2 g1 tt1 te δ3 es acc fun acc' => lc2D g tt fi1 g1 tt1 te vs1 δw ds acc' Q) _ ?_
    refine inD2_of (its d) acc (fun e he => h2 d List.mem_cons_self e he) (by omega) ?_
    refine lc2D_of its δe k f ds _ (fun x hx => h1 x (List.mem_cons_of_mem _ hx)) (fun x hx => h2 x (List.mem_cons_of_mem _ hx)) ?_ ?_
    · rw [List.length_append, List.length_map]
      have := List.length_filter_le (k d) (its d)
      omega
    · rw [List.flatMap_cons, ← List.append_assoc] at q
      exact q
theorem kept_all {α : Type} (l : List α) : l.filter (fun _ => true) = l := List.filter_eq_self.mpr fun _ _ => rfl
theorem sign_in (k : Nat) : decide (k ∈ ("0123456789" : Str).cps.toList) = decide (48 ≤ k ∧ k ≤ 57) := by
  have e : ("0123456789" : Str).cps.toList = [48, 49, 50, 51, 52, 53, 54, 55, 56, 57] := by decide +kernel
  rw [e]
  apply decide_eq_decide.mpr
  simp only [List.mem_cons, List.not_mem_nil, or_false]
  omega
theorem cube_tup {d : D} (h : isCube d = true) : ∃ fs, d = .tup fs := by cases d <;> first | exact ⟨_, rfl⟩ | cases h
theorem pair_of {d : D} (h1 : isCube d = true) (h2 : len2 d = true) : d = pairD (toP d) ∧ 0 ≤ (toP d).1 ∧ (toP d).1 ≤ 9 ∧ 0 ≤ (toP d).2 ∧ (toP d).2 ≤ 9 := by
  obtain ⟨fs, rfl⟩ := cube_tup h1
  have h2' : (fs.length == 2) = true := h2
  match fs, h2' with
  | [x, y], _ =>
    unfold isCube at h1
    rw [Bool.and_eq_true, Bool.and_eq_true] at h1
    have h3 := h1.1.2
    rw [List.all_cons, List.all_cons, Bool.and_eq_true, Bool.and_eq_true] at h3
    obtain ⟨a, b, _⟩ := h3
    cases x with
    | int i =>
      cases y with
      | int j =>
        have a' := of_decide_eq_true a
        have b' := of_decide_eq_true b
        exact ⟨rfl, a'.1, a'.2, b'.1, b'.2⟩
      | _ => cases b
    | _ => cases a
theorem okI {i : Int} : (D.int i).eqOk = true := D.eqOk_of rfl (Nat.zero_le _)
theorem eqI {i j : Int} : eqD (.int i) (.int j) = decide (i = j) := by
  rw [Bool.eq_iff_iff, eqD_iff _ _ rfl rfl rfl rfl, decide_eq_true_iff]
  constructor <;> (intro h; cases h; rfl)
theorem okE {d : D} {k : Nat} (h : D.Eqs k d) (hk : k ≤ 64 := by decide) : d.eqOk = true := D.eqOk_of h.lays (Nat.le_trans h.dep hk)
theorem eqE {d e : D} {k j : Nat} (h1 : D.Eqs k d) (h2 : D.Eqs j e) {b : Bool} (hb : b = true ↔ d = e) : eqD d e = b := by
  rw [Bool.eq_iff_iff, eqD_iff _ _ h1.lays h2.lays h1.nb h2.nb, hb]
theorem isCube_tup {es : List D} : isCube (.tup es) = (!es.isEmpty && es.all isFig && decide ((es.map toI).Pairwise (· < ·))) := rfl
theorem enum_get {es : List D} {i : Nat} {d : D} (h : es[i]? = some d) : (enumD es)[i]? = some (.tup [.int (i : Nat), d]) := by
  unfold enumD
  rw [List.getElem?_mapIdx, h]; rfl
theorem enum_len {es : List D} : (enumD es).length = es.length := List.length_mapIdx
theorem rfl_fmt {es : List D} {i : Nat} (h : i < es.length) (h2 : es.length ≤ 1000000) : (D.int (i : Nat)).fmt = true := by
  unfold D.fmt
  refine decide_eq_true ?_
  omega
def itsOf : D → List D
  | .tup l => l
  | _ => []
theorem its_pairs (ps : List (Int × Int)) : ([] : List D) ++ (ps.map Q.pairD).flatMap (fun d => ((itsOf d).filter (fun _ => true)).map (fun e => e)) = (figsOf ps).map D.int := by
  rw [List.nil_append, List.flatMap_map, figsOf, List.map_flatMap]
  rfl
theorem its_sum (ps : List (Int × Int)) : ((ps.map Q.pairD).map fun d => (itsOf d).length).sum = ps.length * 2 := by
  rw [List.map_map, show ((fun d => (itsOf d).length) ∘ Q.pairD) = fun _ => 2 from rfl, List.map_const', List.sum_replicate_nat]
/-! the program's cubes, as plain functions -/
def setD (C : Addr) (cs : List (List Int)) (ts : List (Int × Int)) : D := .obj C ["_cubes", "_turns"] [cubesD cs, turnsD ts]
structure Good (cs : List (List Int)) (ts : List (Int × Int)) : Prop where
  ne : cs ≠ []
  few : cs.length ≤ 6
  cub : ∀ c ∈ cs, c.length ≤ 10
  trn : ts.length ≤ 5
  nod : (figsOf ts).Nodup
def inP (f : Int) (p : Int × Int) : Bool := decide (f = p.1 ∨ f = p.2)
def facesFor (f : Int) (ts : List (Int × Int)) : List Int := match ts.find? (inP f) with
  | some p => [p.1, p.2]
  | none => [f]
def hasF (c : List Int) (f : Int) (ts : List (Int × Int)) : Bool := (facesFor f ts).any fun x => decide (x ∈ c)
def withL (cs : List (List Int)) (ts : List (Int × Int)) (f : Int) : List Int := (cs.zipIdx.filter fun p => hasF p.1 f ts).map fun p => (p.2 : Int)
def stepW (found : List (List Int)) (cubes : List Int) : List (List Int) := found.flatMap fun way => (cubes.filter fun c => !decide (c ∈ way)).map fun c => way ++ [c]
def waysBy (ls : List (List Int)) : List (List Int) := ls.foldl stepW [[]]
def digs : D → List Int
  | .str z => z.cps.toList.map fun c : Nat => (c : Int) - 48
  | _ => []
def waysOf (cs : List (List Int)) (ts : List (Int × Int)) (ns : List Int) : List (List Int) := waysBy (ns.map (withL cs ts))
def howD (ws : List (List Int)) : D := match ws with
  | w :: _ => intsT w
  | [] => .non
def gFor : DF := fun ds P _ => ∃ f ts, ds = [.int f, turnsD ts] ∧ P (intsT (facesFor f ts))
def gHas : DF := fun ds P _ => ∃ c f ts, ds = [cubeD c, .int f, turnsD ts] ∧ P (.bl (hasF c f ts))
def gWith : DF := fun ds P _ => ∃ cs ts f, ds = [cubesD cs, .int f, turnsD ts] ∧ Good cs ts ∧ P (intsT (withL cs ts f))
def gPlace : DF := fun ds P _ => ∃ cs ts d, ds = [cubesD cs, turnsD ts, d] ∧ Good cs ts ∧ isNum d = true ∧ P (.lst ((digs d).map fun n => intsT (withL cs ts n)))
def gAll (C : Addr) : DF := fun ds P _ => ∃ cs ts d, ds = [setD C cs ts, d] ∧ Good cs ts ∧ isNum d = true ∧ P (.lst ((waysOf cs ts (digs d)).map intsT))
def NumAsk (d : D) : Prop := D.any1 d ∧ ∀ z, d = .str z → z.length ≤ 1000000
def gNumF (C CF : Addr) (g : List (List Int) → List (Int × Int) → List Int → D) : DF := fun ds P Z => ∃ cs ts d, ds = [setD C cs ts, d] ∧ Good cs ts ∧ NumAsk d ∧ if isNum d = true then P (g cs ts (digs d)) else Z ⟨CF, none⟩
abbrev gHow (C CF : Addr) := gNumF C CF fun cs ts ns => howD (waysOf cs ts ns)
abbrev gShows (C CF : Addr) := gNumF C CF fun cs ts ns => .bl (!(waysOf cs ts ns).isEmpty)
abbrev gWays (C CF : Addr) := gNumF C CF fun cs ts ns => .int (waysOf cs ts ns).length
theorem numOf {d : D} (h : isNum d = true) : ∃ z, d = .str z ∧ 1 ≤ z.length ∧ z.length ≤ 6 ∧ ∀ c ∈ z.cps.toList, 48 ≤ c ∧ c ≤ 57 := by
  cases d with
  | str z =>
    have h2 : (decide (1 ≤ z.length ∧ z.length ≤ 6) && z.cps.toList.all fun c => decide (48 ≤ c ∧ c ≤ 57)) = true := h
    rw [Bool.and_eq_true] at h2
    exact ⟨z, rfl, (of_decide_eq_true h2.1).1, (of_decide_eq_true h2.1).2, fun c hc => of_decide_eq_true (List.all_eq_true.mp h2.2 c hc)⟩
  | _ => cases h
theorem int_sign {c : Nat} (h : 48 ≤ c ∧ c ≤ 57) : PySem.intText? ⟨#[c]⟩ = some ((c : Int) - 48) := by
  obtain ⟨k, rfl⟩ : ∃ k : Fin 10, c = 48 + k.1 := ⟨⟨c - 48, by omega⟩, by show c = 48 + (c - 48); omega⟩
  revert k
  decide +kernel
theorem enum_zip (cs : List (List Int)) : enumD (cs.map cubeD) = cs.zipIdx.map fun p => .tup [.int (p.2 : Nat), cubeD p.1] := by
  unfold enumD
  rw [List.mapIdx_eq_zipIdx_map, List.zipIdx_map, List.map_map]
  rfl
theorem facesFor_cons (f : Int) (p : Int × Int) (ts : List (Int × Int)) : facesFor f (p :: ts) = if inP f p = true then [p.1, p.2] else facesFor f ts := by
  unfold facesFor
  rw [List.find?_cons]
  cases inP f p <;> rfl
theorem facesFor_len (f : Int) (ts : List (Int × Int)) : (facesFor f ts).length ≤ 2 := by
  unfold facesFor
  split <;> simp
def kW (f : Int) (ts : List (Int × Int)) : D → Bool
  | .tup [_, .tup c] => hasF (c.map toI) f ts
  | _ => false
def fW : D → D
  | .tup [i, _] => i
  | _ => .non
theorem toI_ints (c : List Int) : (c.map D.int).map toI = c := by
  rw [List.map_map]
  exact List.map_id c
theorem kW_pair {f : Int} {ts : List (Int × Int)} {i : D} {c : List Int} : kW f ts (.tup [i, cubeD c]) = hasF c f ts := by
  show hasF ((c.map D.int).map toI) f ts = _
  rw [toI_ints]
theorem withL_eq (cs : List (List Int)) (ts : List (Int × Int)) (f : Int) : ((enumD (cs.map cubeD)).filter (kW f ts)).map fW = (withL cs ts f).map D.int := by
  rw [enum_zip, List.filter_map, List.map_map, withL, List.map_map]
  rw [show (kW f ts ∘ fun p : List Int × Nat => D.tup [.int (p.2 : Nat), cubeD p.1]) = fun p => hasF p.1 f ts from funext fun p => kW_pair]
  rfl
theorem withL_len (cs : List (List Int)) (ts : List (Int × Int)) (f : Int) : (withL cs ts f).length ≤ cs.length := by
  unfold withL
  rw [List.length_map]
  exact Nat.le_trans (List.length_filter_le _ _) (by rw [List.length_zipIdx]; exact Nat.le_refl _)
theorem stepW_len {found : List (List Int)} {cubes : List Int} (h : cubes.length ≤ 6) : (stepW found cubes).length ≤ found.length * 6 := by
  unfold stepW
  induction found with
  | nil => exact Nat.zero_le _
  | cons w ws ih =>
    rw [List.flatMap_cons, List.length_append, List.length_cons, List.length_map]
    have := List.length_filter_le (fun c => !decide (c ∈ w)) cubes
    omega
theorem waysBy_snoc (ls : List (List Int)) (l : List Int) : waysBy (ls ++ [l]) = stepW (waysBy ls) l := by
  unfold waysBy
  rw [List.foldl_append]; rfl
theorem waysBy_len : ∀ (n : Nat) (ls : List (List Int)), ls.length = n → (∀ l ∈ ls, l.length ≤ 6) → (waysBy ls).length ≤ 6 ^ n
  | 0, ls, h, _ => by
    rw [List.length_eq_zero_iff.mp h]
    exact Nat.le_refl _
  | n + 1, ls, h, hb => by
    obtain ⟨l2, l, rfl⟩ : ∃ l2 l, ls = l2 ++ [l] := ⟨ls.dropLast, ls.getLast (by intro e; rw [e] at h; cases h), (List.dropLast_concat_getLast _).symm⟩
    rw [waysBy_snoc]
    have h1 := stepW_len (found := waysBy l2) (hb l (by simp))
    have h2 := waysBy_len n l2 (by simp at h; omega) fun x hx => hb x (by simp [hx])
    rw [Nat.pow_succ]
    omega
theorem waysBy_mem : ∀ (n : Nat) (ls : List (List Int)), ls.length = n → ∀ w ∈ waysBy ls, w.length = n
  | 0, ls, h, w, hw => by
    rw [List.length_eq_zero_iff.mp h] at hw
    rw [List.mem_singleton.mp hw]; rfl
  | n + 1, ls, h, w, hw => by
    obtain ⟨l2, l, rfl⟩ : ∃ l2 l, ls = l2 ++ [l] := ⟨ls.dropLast, ls.getLast (by intro e; rw [e] at h; cases h), (List.dropLast_concat_getLast _).symm⟩
    rw [waysBy_snoc] at hw
    unfold stepW at hw
    obtain ⟨w2, h2, h3⟩ := List.mem_flatMap.mp hw
    obtain ⟨c, _, rfl⟩ := List.mem_map.mp h3
    have := waysBy_mem n l2 (by simp at h; omega) w2 h2
    simp [this]
def kA (d e : D) : Bool := !inL e (itsOf d)
def fA (d e : D) : D := .tup (itsOf d ++ [e])
theorem stepW_eq (found : List (List Int)) (cubes : List Int) : [] ++ (found.map intsT).flatMap (fun d => ((cubes.map D.int).filter (kA d)).map (fA d)) = (stepW found cubes).map intsT := by
  rw [List.nil_append, List.flatMap_map, stepW, List.map_flatMap]
  congr 1
  funext way
  rw [List.filter_map, List.map_map, List.map_map]
  rw [show (kA (intsT way) ∘ D.int) = fun c => !decide (c ∈ way) from funext fun c => by show (!inL (.int c) (way.map D.int)) = _; rw [inL_ints]]
  exact List.map_congr_left fun c _ => by show D.tup (way.map D.int ++ [.int c]) = D.tup _; rw [List.map_append]; rfl
/-! the law's own side -/
def EqOk : Nat → D → Prop
  | 0, d => d.flat = true ∧ d.lays = true
  | n + 1, d => (d.flat = true ∧ d.lays = true) ∨ ∃ es, (d = .tup es ∨ d = .lst es) ∧ es.length ≤ 1000000 ∧ ∀ e ∈ es, EqOk n e
def gEq (n : Nat) : DF := fun ds P _ => ∃ d, ds = [d, d] ∧ EqOk n d ∧ P (.bl true)
/-- what the call within may be asked -/
def gIn : Nat → DF
  | 0 => fun _ _ _ => False
  | n + 1 => gEq n
def TSs : List (List (Int × Int)) := [[(6, 9)], [], [(0, 8)], [(2, 5), (6, 9)], [(1, 7), (3, 8), (6, 9)]]
def gTurnsL : DF := fun ds P _ => ds = [.rnd] ∧ ∀ ts, ts ∈ TSs → P (turnsD ts)
def gCubeL : DF := fun ds P _ => ∃ fs : List Int, ds = [.rnd, intsL fs] ∧ fs ≠ [] ∧ fs.length ≤ 10 ∧ ∀ c : List Int, c ≠ [] → c.Sublist fs → P (cubeD c)
structure GoodV (cs : List (List Int)) (ts : List (Int × Int)) : Prop where
  ne : cs ≠ []
  few : cs.length ≤ 6
  cub : ∀ c ∈ cs, c ≠ [] ∧ c.Pairwise (· < ·) ∧ ∀ x ∈ c, 0 ≤ x ∧ x ≤ 9
  trn : ts ∈ TSs
def gSetL (C : Addr) : DF := fun ds P _ => ∃ m : Int, ds = [.rnd, .int m] ∧ 1 ≤ m ∧ m ≤ 6 ∧ ∀ cs ts, GoodV cs ts → (cs.length : Int) ≤ m → P (setD C cs ts)
def gNumL : DF := fun ds P _ => ∃ m : Int, ds = [.rnd, .int m] ∧ 1 ≤ m ∧ m ≤ 6 ∧ ∀ z, isNum (.str z) = true → P (.str z)
def gHasL : DF := fun ds P _ => ∃ c ts, ∃ k : Nat, ds = [cubeD c, turnsD ts, .str ⟨#[k]⟩] ∧ 48 ≤ k ∧ k ≤ 57 ∧ c.length ≤ 10 ∧ ts.length ≤ 5 ∧ (figsOf ts).Nodup ∧ P (.bl (hasF c ((k : Int) - 48) ts))
def gWaysL (C : Addr) : DF := fun ds P _ => ∃ cs ts d, ds = [setD C cs ts, d] ∧ Good cs ts ∧ isNum d = true ∧ P (.lst ((waysOf cs ts (digs d)).map intsT))
section
variable {X : Cx} {E : XK} {sts : List Stmt}
theorem ss_dead : PSs X sts (tS X.K E (fun _ _ => False)) := ⟨fun pins s σ H D I h => by
  obtain ⟨r, A, H0, δ, P, R, h, L⟩ := h
  exact h.elim⟩
end
theorem eqBl {a b : Bool} : eqD (.bl a) (.bl b) = (a == b) := by cases a <;> cases b <;> decide +kernel
theorem okBl {a : Bool} : (D.bl a).eqOk = true := D.eqOk_of rfl (Nat.zero_le _)
theorem all_true {α : Type} (l : List α) : (l.map fun _ => true).all id = true := by
  rw [List.all_map]
  exact List.all_eq_true.mpr fun _ _ => rfl
def isDic : D → Bool
  | .dic => true
  | _ => false
def isLst : D → Bool
  | .lst _ => true
  | .rnd => true
  | _ => false
theorem isT_dict {d : D} {P : DP} (h : D.any1 d) (hp : P (.bl (isDic d))) : isTD "dict" d P := by
  cases d <;> first | (obtain ⟨t, ht⟩ := h; cases ht; done) | exact ⟨_, true, rfl, by decide +kernel, hp⟩ | exact ⟨_, false, rfl, by decide +kernel, hp⟩
theorem isT_list {d : D} {P : DP} (h : D.any1 d) (hp : P (.bl (isLst d))) : isTD "list" d P := by
  cases d <;> first | (obtain ⟨t, ht⟩ := h; cases ht; done) | exact ⟨_, true, rfl, by decide +kernel, hp⟩ | exact ⟨_, false, rfl, by decide +kernel, hp⟩
theorem rng_mem {n : Nat} {d : D} (h : d ∈ rngD 0 n) : ∃ i : Nat, i < n ∧ d = .int i := by
  unfold rngD at h
  obtain ⟨i, hi, rfl⟩ := List.mem_map.mp h
  exact ⟨i, List.mem_range.mp hi, by rw [Int.zero_add]⟩
theorem rng_len {lo : Int} {n : Nat} : (rngD lo n).length = n := by
  unfold rngD
  rw [List.length_map, List.length_range]
theorem sub_step {fs pre c rs : List Int} {x : Int} (e : fs = pre ++ x :: rs) (h : c.Sublist pre) : (c ++ [x]).Sublist (pre ++ [x]) ∧ c.Sublist (pre ++ [x]) :=
  ⟨h.append (List.Sublist.refl _), h.trans (List.sublist_append_left _ _)⟩
theorem isCube_ok {c : List Int} (h1 : c ≠ []) (h2 : c.Pairwise (· < ·)) (h3 : ∀ x ∈ c, 0 ≤ x ∧ x ≤ 9) : isCube (cubeD c) = true := by
  rw [isCube_tup, toI_ints, decide_eq_true h2, Bool.and_true, List.isEmpty_map]
  rw [show (c.map D.int).all isFig = true from by
    rw [List.all_map, List.all_eq_true]
    exact fun x hx => decide_eq_true (h3 x hx), Bool.and_true]
  cases c with
  | nil => exact absurd rfl h1
  | cons _ _ => rfl
theorem asc_len : ∀ {c : List Int} {lo : Int}, c.Pairwise (· < ·) → (∀ x ∈ c, lo ≤ x ∧ x ≤ 9) → (c.length : Int) ≤ max 0 (10 - lo)
  | [], _, _, _ => by simp; omega
  | x :: c, lo, h, hb => by
    have h1 := List.pairwise_cons.mp h
    have hx := hb x List.mem_cons_self
    have := asc_len (lo := x + 1) h1.2 fun y hy => ⟨by have := h1.1 y hy; omega, (hb y (List.mem_cons_of_mem _ hy)).2⟩
    rw [List.length_cons]
    omega
theorem GoodV.good {cs : List (List Int)} {ts : List (Int × Int)} (h : GoodV cs ts) : Good cs ts where
  ne := h.ne
  few := h.few
  cub := fun c hc => by
    have := asc_len (lo := 0) (h.cub c hc).2.1 (h.cub c hc).2.2
    omega
  trn := by
    have : ∀ t ∈ TSs, t.length ≤ 5 := by decide
    exact this ts h.trn
  nod := by
    have : ∀ t ∈ TSs, (figsOf t).Nodup := by decide
    exact this ts h.trn
theorem szz {n : Nat} (h : Nat.ble n sizeLine = true) : n ≤ sizeLine := Nat.le_of_ble_eq_true h
theorem ne_empty {c : List Int} : (!eqD (intsL c) (.lst [])) = !c.isEmpty := by
  show (!eqD (intsL c) (intsL [])) = _
  rw [eqE (b := c.isEmpty) (Eqs.intsL c) (Eqs.intsL []) (by cases c with
    | nil => exact ⟨fun _ => rfl, fun _ => rfl⟩
    | cons x c => exact ⟨fun h => (by cases h), fun h => (by cases h)⟩)]
def kH (f : Int) (d : D) : Bool := inP f (toP d)
def fH (f : Int) (d : D) : D := .int ((toP d).1 + (toP d).2 - f)
def likes (f : Int) (ts : List (Int × Int)) : List Int := [f] ++ (ts.filter (inP f)).map fun p => p.1 + p.2 - f
theorem likes_eq (f : Int) (ts : List (Int × Int)) : [D.int f] ++ ([] ++ ((ts.map Q.pairD).filter (kH f)).map (fH f)) = (likes f ts).map D.int := by
  rw [List.nil_append, List.filter_map, List.map_map, likes, List.map_append, List.map_map]
  rfl
theorem figs_cons (p : Int × Int) (ts : List (Int × Int)) : figsOf (p :: ts) = p.1 :: p.2 :: figsOf ts := rfl
theorem none_in {f : Int} {ts : List (Int × Int)} (h : f ∉ figsOf ts) : ts.filter (inP f) = [] ∧ facesFor f ts = [f] := by
  induction ts with
  | nil => exact ⟨rfl, rfl⟩
  | cons p ts ih =>
    rw [figs_cons] at h
    have h1 : f ≠ p.1 := fun e => h (by rw [e]; exact List.mem_cons_self)
    have h2 : f ≠ p.2 := fun e => h (by rw [e]; exact List.mem_cons_of_mem _ List.mem_cons_self)
    have h3 : inP f p = false := decide_eq_false fun z => z.elim h1 h2
    have i := ih fun z => h (List.mem_cons_of_mem _ (List.mem_cons_of_mem _ z))
    exact ⟨by rw [List.filter_cons, h3]; exact i.1, by rw [facesFor_cons, h3]; exact i.2⟩
theorem likes_mem {f : Int} : ∀ {ts : List (Int × Int)}, (figsOf ts).Nodup → ∀ x, x ∈ likes f ts ↔ x ∈ facesFor f ts
  | [], _, x => Iff.rfl
  | p :: ts, h, x => by
    rw [figs_cons, List.nodup_cons, List.nodup_cons] at h
    rw [facesFor_cons, likes, List.filter_cons]
    cases hp : inP f p with
    | true =>
      rw [if_pos rfl, if_pos rfl]
      have hp' : f = p.1 ∨ f = p.2 := of_decide_eq_true hp
      have hf : f ∉ figsOf ts := by
        rcases hp' with rfl | rfl
        · exact fun z => h.1 (List.mem_cons_of_mem _ z)
        · exact h.2.1
      rw [(none_in hf).1]
      simp only [List.map_cons, List.map_nil, List.singleton_append, List.mem_cons, List.not_mem_nil, or_false]
      omega
    | false =>
      rw [if_neg Bool.false_ne_true, if_neg Bool.false_ne_true]
      exact likes_mem h.2.2 x
theorem likes_has {c : List Int} {f : Int} {ts : List (Int × Int)} (h : (figsOf ts).Nodup) : (!((likes f ts).filter fun x => decide (x ∈ c)).isEmpty) = hasF c f ts := by
  rw [Bool.eq_iff_iff, Bool.not_eq_true', hasF, List.any_eq_true]
  constructor
  · intro e
    cases hl : (likes f ts).filter fun x => decide (x ∈ c) with
    | nil => rw [hl] at e; cases e
    | cons x xs =>
      have hx : x ∈ (likes f ts).filter fun x => decide (x ∈ c) := by rw [hl]; exact List.mem_cons_self
      exact ⟨x, (likes_mem h x).mp (List.mem_filter.mp hx).1, (List.mem_filter.mp hx).2⟩
  · rintro ⟨x, h1, h2⟩
    have hx : x ∈ (likes f ts).filter fun x => decide (x ∈ c) := List.mem_filter.mpr ⟨(likes_mem h x).mpr h1, h2⟩
    cases hl : (likes f ts).filter fun x => decide (x ∈ c) with
    | nil => rw [hl] at hx; cases hx
    | cons _ _ => rfl
def kO (c : List Int) (d : D) : Bool := inL d (c.map D.int)
theorem kept_ints (c ns : List Int) : [] ++ ((ns.map D.int).filter (kO c)).map (fun d => d) = (ns.filter fun x => decide (x ∈ c)).map D.int := by
  rw [List.nil_append, List.map_id', List.filter_map]
  rw [show kO c ∘ D.int = fun x => decide (x ∈ c) from funext fun x => inL_ints]
/-! texts of digits -/
def sig (c : Nat) : Str := ⟨#[c]⟩
theorem joinL_one : ∀ cs : List Nat, TL.joinL [] (cs.map fun c => [c]) = cs
  | [] => rfl
  | [_] => rfl
  | a :: b :: r => by
    show [a] ++ ([] ++ TL.joinL [] ((b :: r).map fun c => [c])) = _
    rw [joinL_one (b :: r)]; rfl
theorem join_sig (cs : List Nat) : Txt.join "" (cs.map sig) = ⟨cs.toArray⟩ := by
  have e : TL.tl (Txt.join "" (cs.map sig)) = cs := by
    rw [TL.join_eq, TL.tl_join, List.map_map]
    exact joinL_one cs
  rw [← TL.mk_tl (Txt.join "" (cs.map sig)), e]
theorem isNum_of {cs : List Nat} (h1 : 1 ≤ cs.length) (h6 : cs.length ≤ 6) (h : ∀ c ∈ cs, 48 ≤ c ∧ c ≤ 57) : isNum (.str ⟨cs.toArray⟩) = true := by
  show (decide (1 ≤ cs.toArray.size ∧ cs.toArray.size ≤ 6) && cs.all fun c => decide (48 ≤ c ∧ c ≤ 57)) = true
  rw [List.size_toArray, decide_eq_true ⟨h1, h6⟩, Bool.true_and, List.all_eq_true]
  exact fun c hc => decide_eq_true (h c hc)
def SgOk (z : Str) : Prop := 1 ≤ z.length ∧ z.length ≤ 10 ∧ ∀ c ∈ z.cps.toList, 48 ≤ c ∧ c ≤ 57
theorem sum_ones (cs : List Nat) : ((cs.map sig).map (·.length)).sum = cs.length := by
  rw [List.map_map, show ((fun z : Str => z.length) ∘ sig) = fun _ => 1 from rfl, List.map_const', List.sum_replicate_nat, Nat.mul_one]
/-! ways, cube by cube -/
theorem zip_range (cs : List (List Int)) : cs.zipIdx = (List.range cs.length).map fun j => (cs.getD j [], j) := by
  apply List.ext_getElem
  · simp
  · intro i h1 h2
    have : i < cs.length := by simpa using h1
    simp [this]
def withT (cs : List (List Int)) (ts : List (Int × Int)) (f : Int) (i : Nat) : List Int := ((List.range i).filter fun j => hasF (cs.getD j []) f ts).map fun j : Nat => (j : Int)
theorem withT_all (cs : List (List Int)) (ts : List (Int × Int)) (f : Int) : withT cs ts f cs.length = withL cs ts f := by
  unfold withT withL
  rw [zip_range, List.filter_map, List.map_map]
  rfl
def partW (cubes way : List Int) : List (List Int) := (cubes.filter fun c => !decide (c ∈ way)).map fun c => way ++ [c]
theorem part_len (cubes way : List Int) : (partW cubes way).length ≤ cubes.length := by
  unfold partW
  rw [List.length_map]
  exact List.length_filter_le _ _
theorem step_snoc (ws : List (List Int)) (w cubes : List Int) : stepW (ws ++ [w]) cubes = stepW ws cubes ++ partW cubes w := by
  unfold stepW partW
  rw [List.flatMap_append, List.flatMap_singleton]
theorem withT_succ (cs : List (List Int)) (ts : List (Int × Int)) (f : Int) (i : Nat) : withT cs ts f (i + 1) = withT cs ts f i ++ if hasF (cs.getD i []) f ts = true then [(i : Int)] else [] := by
  unfold withT
  rw [List.range_succ, List.filter_append, List.map_append]
  congr 1
  rw [List.filter_cons, List.filter_nil]
  split <;> rfl
theorem part_succ (cs : List (List Int)) (ts : List (Int × Int)) (f : Int) (i : Nat) (way : List Int) : partW (withT cs ts f (i + 1)) way = partW (withT cs ts f i) way ++ if (!decide ((i : Int) ∈ way) && hasF (cs.getD i []) f ts) = true then [way ++ [(i : Int)]] else [] := by
  rw [withT_succ]
  unfold partW
  rw [List.filter_append, List.map_append]
  congr 1
  cases hasF (cs.getD i []) f ts with
  | false => rw [Bool.and_false]; rfl
  | true =>
    rw [Bool.and_true, if_pos rfl, List.filter_cons, List.filter_nil]
    split <;> rfl
theorem withT_len (cs : List (List Int)) (ts : List (Int × Int)) (f : Int) (i : Nat) : (withT cs ts f i).length ≤ i := by
  unfold withT
  rw [List.length_map]
  exact Nat.le_trans (List.length_filter_le _ _) (Nat.le_of_eq List.length_range)
theorem rng_drop {n i : Nat} {d : D} {rest : List D} (h : d :: rest = (rngD 0 n).drop i) : i < n ∧ d = .int (i : Nat) ∧ rest = (rngD 0 n).drop (i + 1) := by
  have hi : i < n := by
    have := congrArg List.length h
    rw [List.length_cons, List.length_drop, rng_len] at this
    omega
  refine ⟨hi, ?_, by rw [← List.drop_drop, ← h]; rfl⟩
  have := congrArg (fun l => l[0]?) h
  rw [List.getElem?_drop, Nat.add_zero] at this
  unfold rngD at this
  rw [List.getElem?_map, List.getElem?_range hi] at this
  injection this with this
  rw [this]
  show D.int (0 + (i : Int)) = _
  rw [Int.zero_add]
theorem GoodV.cubes {cs : List (List Int)} {ts : List (Int × Int)} (h : GoodV cs ts) : cubesErr (cubesD cs) = none ∧ CubesOk (cubesD cs) := by
  constructor
  · show (if (cs.map cubeD).isEmpty || decide (6 < (cs.map cubeD).length) then some D.non else ((cs.map cubeD).findIdx? fun d => !isCube d).map fun i => D.int (i : Nat)) = none
    have hf := h.few
    rw [List.length_map, decide_eq_false (by omega), Bool.or_false, List.isEmpty_map]
    rw [show cs.isEmpty = false from by
      cases cs with
      | nil => exact absurd rfl h.ne
      | cons _ _ => rfl, if_neg Bool.false_ne_true]
    rw [List.findIdx?_eq_none_iff.mpr fun d hd => by
      obtain ⟨c, hc, rfl⟩ := List.mem_map.mp hd
      obtain ⟨a, b, e⟩ := h.cub c hc
      rw [isCube_ok a b e]; rfl]
    rfl
  · refine ⟨⟨_, rfl⟩, fun es he => ?_⟩
    injection he with he
    subst he
    have hf := h.few
    refine ⟨by rw [List.length_map]; omega, fun e hc => ?_⟩
    obtain ⟨c, hc', rfl⟩ := List.mem_map.mp hc
    refine ⟨⟨_, rfl⟩, fun es he => ?_⟩
    injection he with he
    subst he
    have := h.good.cub c hc'
    exact ⟨by rw [List.length_map]; omega, fun e he => by
      obtain ⟨x, _, rfl⟩ := List.mem_map.mp he
      exact ⟨_, rfl⟩⟩
theorem GoodV.turns {cs : List (List Int)} {ts : List (Int × Int)} (h : GoodV cs ts) : isTurns (turnsD ts) = true ∧ TurnsOk (turnsD ts) := by
  constructor
  · have : ∀ t ∈ TSs, isTurns (turnsD t) = true := by decide +kernel
    exact this ts h.trn
  · refine ⟨⟨_, rfl⟩, fun es he => ?_⟩
    injection he with he
    subst he
    have hf := h.good.trn
    refine ⟨by rw [List.length_map]; omega, fun e hc => ?_⟩
    obtain ⟨p, hc, rfl⟩ := List.mem_map.mp hc
    refine ⟨⟨_, rfl⟩, fun es he => ?_⟩
    injection he with he
    subst he
    exact ⟨by show 2 < 64; decide, fun e he => by
      rcases List.mem_cons.mp he with rfl | he
      · exact ⟨_, rfl⟩
      · rw [List.mem_singleton.mp he]; exact ⟨_, rfl⟩⟩
structure Figs (fs : List Int) : Prop where
  ne : fs ≠ []
  len : fs.length ≤ 10
  asc : fs.Pairwise (· < ·)
  bd : ∀ x ∈ fs, 0 ≤ x ∧ x ≤ 9
theorem Figs.sub {fs c : List Int} (h : Figs fs) (hs : c.Sublist fs) (hc : c ≠ []) : c ≠ [] ∧ c.Pairwise (· < ·) ∧ ∀ x ∈ c, 0 ≤ x ∧ x ≤ 9 :=
  ⟨hc, h.asc.sublist hs, fun x hx => h.bd x (hs.subset hx)⟩
theorem figs_rng {n : Int} (h : n = 3 ∨ n = 5 ∨ n = 10) : ∃ fs, D.lst (rngD 0 n.toNat) = intsL fs ∧ Figs fs := by
  rcases h with rfl | rfl | rfl
  · exact ⟨[0, 1, 2], rfl, by decide, by decide, by decide, by decide⟩
  · exact ⟨[0, 1, 2, 3, 4], rfl, by decide, by decide, by decide, by decide⟩
  · exact ⟨[0, 1, 2, 3, 4, 5, 6, 7, 8, 9], rfl, by decide, by decide, by decide, by decide⟩
/-- the law -/
def spLaw (K : PySem.W.Frag) : Sp := fun vs H Q _ => ∃ (a : Addr) (ns : List Int), vs = [.ref a] ∧ SqL K H a (ns.map V.int) ∧ ns.length ≤ 63 ∧ ∀ H', Q (.bl true) H'
theorem ways_E (ws : List (List Int)) : D.Eqs 2 (.lst (ws.map intsT)) := Eqs.lst fun w _ => Eqs.ints w
theorem ways_ne (ws : List (List Int)) : (!eqD (.lst (ws.map intsT)) (.lst [])) = !ws.isEmpty := by
  show (!eqD _ (intsL [])) = _
  rw [eqE (b := ws.isEmpty) (ways_E ws) (Eqs.intsL []) (by cases ws with
    | nil => exact ⟨fun _ => rfl, fun _ => rfl⟩
    | cons x c => exact ⟨fun h => (by cases h), fun h => (by cases h)⟩)]
theorem how_ok (ws : List (List Int)) (h : ∀ w ∈ ws, w.length ≤ 6) : EqOk 1 (howD ws) := by
  cases ws with
  | nil => exact .inl ⟨rfl, rfl⟩
  | cons w ws =>
    refine .inr ⟨_, .inl rfl, ?_, fun e he => ?_⟩
    · have := h w List.mem_cons_self
      rw [List.length_map]; omega
    · obtain ⟨x, _, rfl⟩ := List.mem_map.mp he
      exact ⟨rfl, rfl⟩
theorem eqok_bl {b : Bool} : EqOk 1 (.bl b) := .inl ⟨rfl, rfl⟩
theorem eqok_int {i : Int} : EqOk 1 (.int i) := .inl ⟨rfl, rfl⟩
def gMk (CC CT : Addr) : List D → Prop → XP → Prop := fun ds P Z => ∃ d e, ds = [d, e] ∧ CubesOk d ∧ TurnsOk e ∧ match cubesErr d with
  | none => if isTurns e = true then P else Z ⟨CT, none⟩
  | some i => Z ⟨CC, some ("index", i)⟩
theorem er_lawN {K : PySem.W.Frag} {p : Addr} {H : Hp} {v0 : Option V} {ms : List Int} (n : Nat) (e : H p = some (.lst (ms.map V.int))) (rn : Rnd ms) (hl : ms.length ≤ 65) : ER K p (fun b => b = p) (v0 :: some (.ref p) :: List.replicate n none) H (.emp :: .val .rnd :: List.replicate n .emp) where
  rnd := ⟨ms, e, rn, hl⟩
  ar := rfl
  all := fun b hb => by rw [hb, e]; simp
  len := by simp
  val := fun i x h => by
    match i, h with
    | 0, h => cases h
    | 1, h => cases h; exact ⟨_, rfl, .rnd⟩
    | i + 2, h =>
      rw [List.getElem?_cons_succ, List.getElem?_cons_succ, List.getElem?_replicate] at h
      split at h <;> cases h
  own := fun i x h => by
    match i, h with
    | 0, h => cases h
    | 1, h => cases h
    | i + 2, h =>
      rw [List.getElem?_cons_succ, List.getElem?_cons_succ, List.getElem?_replicate] at h
      split at h <;> cases h
  sep := fun i j x y l _ h => by
    match i, h with
    | 0, h => cases h
    | 1, h => cases h
    | i + 2, h =>
      rw [List.getElem?_cons_succ, List.getElem?_cons_succ, List.getElem?_replicate] at h
      split at h <;> cases h
theorem no_own {n : Nat} {i : Nat} {ds : List D} (h : (Sl.emp :: .val .rnd :: List.replicate n .emp)[i]? = some (.own ds)) : False := by
  match i, h with
  | 0, h => cases h
  | 1, h => cases h
  | i + 2, h =>
    rw [List.getElem?_cons_succ, List.getElem?_cons_succ, List.getElem?_replicate] at h
    split at h <;> cases h
theorem eqok_turns (ts : List (Int × Int)) (h : ts.length ≤ 5) : EqOk 2 (turnsD ts) := .inr ⟨_, .inl rfl, by rw [List.length_map]; omega, fun e he => by
  obtain ⟨p, _, rfl⟩ := List.mem_map.mp he
  exact .inr ⟨_, .inl rfl, by show 2 ≤ 1000000; decide, fun x hx => by
    rcases List.mem_cons.mp hx with rfl | hx
    · exact ⟨rfl, rfl⟩
    · rw [List.mem_singleton.mp hx]; exact ⟨rfl, rfl⟩⟩⟩
theorem eqok_cubes (cs : List (List Int)) (h : cs.length ≤ 6) (h2 : ∀ c ∈ cs, c.length ≤ 10) : EqOk 2 (cubesD cs) := .inr ⟨_, .inl rfl, by rw [List.length_map]; omega, fun e he => by
  obtain ⟨c, hc, rfl⟩ := List.mem_map.mp he
  refine .inr ⟨_, .inl rfl, ?_, fun x hx => ?_⟩
  · have := h2 c hc
    rw [List.length_map]; omega
  · obtain ⟨i, _, rfl⟩ := List.mem_map.mp hx
    exact ⟨rfl, rfl⟩⟩
end Q

/-! Errors apart. -/
namespace Q
open PySem PySem.Spec PyProof.Rows L2 L3 PySem.W
def vals5 : List D := [.int 0, .int (-1), .non, .str (Str.ofString "a"), .tup []]
def gOne (CC CN CS CW CT : Addr) : DF := fun ds P _ => ds = [.rnd] ∧ ∀ v ∈ vals5, P (.tup [.exc CC ["index"] [v], .bl true]) ∧ P (.tup [.exc CN ["index"] [v], .bl true]) ∧ P (.tup [.exc CS ["index"] [v], .bl true]) ∧ P (.tup [.exc CW ["index"] [v], .bl true]) ∧ P (.tup [.exc CT ["word"] [v], .bl true])
def gCls (l : List Addr) : DF := fun ds P _ => ∃ C ns es, ds = [.exc C ns es] ∧ C ∈ l ∧ P (.int 1)
theorem vals_ok : ∀ v ∈ vals5, v.fmt = true ∧ v.eqOk = true ∧ eqD v v = true := by
  have h : ∀ v ∈ vals5, v.fmt = true ∧ D.Eqs 1 v := by
    intro v hv
    simp only [vals5, List.mem_cons, List.not_mem_nil, or_false] at hv
    rcases hv with rfl | rfl | rfl | rfl | rfl
    · exact ⟨by decide +kernel, Eqs.int⟩
    · exact ⟨by decide +kernel, Eqs.int⟩
    · exact ⟨rfl, Eqs.non⟩
    · exact ⟨by decide +kernel, ⟨by decide +kernel, Nat.zero_le _, rfl⟩⟩
    · exact ⟨rfl, Eqs.ints []⟩
  intro v hv
  obtain ⟨h1, h2⟩ := h v hv
  exact ⟨h1, okE h2, eqE h2 h2 (by simp)⟩
end Q
namespace Q
open PySem PySem.Spec PyProof.Rows L2 L3 PySem.W
theorem lcD_bls {g : DG} {tt : DT} {te : DE} {δw : L3.Env} {Q : List D → Prop} (L : List Bool) (h : ∀ b : Bool, ∀ (R : D → Prop) (S : Prop), (if b = true then R (.bl b) else S) → g (.bl b) δw fun δ2 => tt δ2 (fun b => if b = true then te δ2 R XF else S) XF) (hq : Q ((L.filter id).map D.bl)) : lcD g tt te δw (L.map D.bl) [] Q := by
  refine lcD_of (k := fun d => match d with | .bl b => b | _ => false) (f := fun d => d) _ _ (fun d hd R S q => ?_) ?_
  · obtain ⟨b, _, rfl⟩ := List.mem_map.mp hd
    exact h b R S q
  · rw [List.nil_append, List.map_id', List.filter_map]
    exact hq
theorem gneg {P : DP} {i : Int} (h : P (.int (-i))) : negD (.int i) P := h
end Q

namespace K18
open PySem PySem.Spec PyProof.Rows L2 L3 Q
def top (i : Nat) : Stmt := PySem.Challenge.pw_daycubes_k18_errors_apart.main.body.getD i (.Pass ⟨0, 0, 0, 0⟩)
structure Txt (K : PySem.W.Frag) (mg : Str → Option Value) (P : Program) (w : World) (base : Heap) : Prop where
  b_abs : mg "abs" = none
  b_int : mg "int" = none
  b_isinstance : mg "isinstance" = none
  b_len : mg "len" = none
  b_range : mg "range" = none
  b_ValueError : mg "ValueError" = none
structure TxtX (K : PySem.W.Frag) (mg : Str → Option Value) (P : Program) (w : World) (base : Heap) (C_CubeError C_BadCubes C_BadTurns C_BadFigures C_BadWidth C_BadRange C_BadNeeded C_BadNumber C_TooMany C_BadSeen C_BadWays C_NotShown C_BadText : Addr) : Prop extends Txt K mg P w base where
  m_CubeError : mg "CubeError" = some (.ref C_CubeError)
  m_BadCubes : mg "BadCubes" = some (.ref C_BadCubes)
  e_BadCubes : ExcC K C_BadCubes
  k_BadCubes_CubeError : PySem.W.kitOne K (.ref C_BadCubes) (.ref C_CubeError) = some true
  v_BadCubes : PySem.W.kitOne K (.ref C_BadCubes) (.type "ValueError") = some true
  f_BadCubes : XfC K C_BadCubes ∧ PySem.W.findIn K (.ref C_BadCubes) "index" = some none
  k_BadCubes_BadCubes : PySem.W.kitOne K (.ref C_BadCubes) (.ref C_BadCubes) = some true
  k_BadCubes_BadTurns : PySem.W.kitOne K (.ref C_BadCubes) (.ref C_BadTurns) = some false
  k_BadCubes_BadFigures : PySem.W.kitOne K (.ref C_BadCubes) (.ref C_BadFigures) = some false
  k_BadCubes_BadWidth : PySem.W.kitOne K (.ref C_BadCubes) (.ref C_BadWidth) = some false
  k_BadCubes_BadRange : PySem.W.kitOne K (.ref C_BadCubes) (.ref C_BadRange) = some false
  k_BadCubes_BadNeeded : PySem.W.kitOne K (.ref C_BadCubes) (.ref C_BadNeeded) = some false
  k_BadCubes_BadNumber : PySem.W.kitOne K (.ref C_BadCubes) (.ref C_BadNumber) = some false
  k_BadCubes_TooMany : PySem.W.kitOne K (.ref C_BadCubes) (.ref C_TooMany) = some false
  k_BadCubes_BadSeen : PySem.W.kitOne K (.ref C_BadCubes) (.ref C_BadSeen) = some false
  k_BadCubes_BadWays : PySem.W.kitOne K (.ref C_BadCubes) (.ref C_BadWays) = some false
  k_BadCubes_NotShown : PySem.W.kitOne K (.ref C_BadCubes) (.ref C_NotShown) = some false
  k_BadCubes_BadText : PySem.W.kitOne K (.ref C_BadCubes) (.ref C_BadText) = some false
  m_BadTurns : mg "BadTurns" = some (.ref C_BadTurns)
  e_BadTurns : ExcC K C_BadTurns
  k_BadTurns_CubeError : PySem.W.kitOne K (.ref C_BadTurns) (.ref C_CubeError) = some true
  v_BadTurns : PySem.W.kitOne K (.ref C_BadTurns) (.type "ValueError") = some true
  k_BadTurns_BadCubes : PySem.W.kitOne K (.ref C_BadTurns) (.ref C_BadCubes) = some false
  k_BadTurns_BadTurns : PySem.W.kitOne K (.ref C_BadTurns) (.ref C_BadTurns) = some true
  k_BadTurns_BadFigures : PySem.W.kitOne K (.ref C_BadTurns) (.ref C_BadFigures) = some false
  k_BadTurns_BadWidth : PySem.W.kitOne K (.ref C_BadTurns) (.ref C_BadWidth) = some false
  k_BadTurns_BadRange : PySem.W.kitOne K (.ref C_BadTurns) (.ref C_BadRange) = some false
  k_BadTurns_BadNeeded : PySem.W.kitOne K (.ref C_BadTurns) (.ref C_BadNeeded) = some false
  k_BadTurns_BadNumber : PySem.W.kitOne K (.ref C_BadTurns) (.ref C_BadNumber) = some false
  k_BadTurns_TooMany : PySem.W.kitOne K (.ref C_BadTurns) (.ref C_TooMany) = some false
  k_BadTurns_BadSeen : PySem.W.kitOne K (.ref C_BadTurns) (.ref C_BadSeen) = some false
  k_BadTurns_BadWays : PySem.W.kitOne K (.ref C_BadTurns) (.ref C_BadWays) = some false
  k_BadTurns_NotShown : PySem.W.kitOne K (.ref C_BadTurns) (.ref C_NotShown) = some false
  k_BadTurns_BadText : PySem.W.kitOne K (.ref C_BadTurns) (.ref C_BadText) = some false
  m_BadFigures : mg "BadFigures" = some (.ref C_BadFigures)
  e_BadFigures : ExcC K C_BadFigures
  k_BadFigures_CubeError : PySem.W.kitOne K (.ref C_BadFigures) (.ref C_CubeError) = some true
  v_BadFigures : PySem.W.kitOne K (.ref C_BadFigures) (.type "ValueError") = some true
  k_BadFigures_BadCubes : PySem.W.kitOne K (.ref C_BadFigures) (.ref C_BadCubes) = some false
  k_BadFigures_BadTurns : PySem.W.kitOne K (.ref C_BadFigures) (.ref C_BadTurns) = some false
  k_BadFigures_BadFigures : PySem.W.kitOne K (.ref C_BadFigures) (.ref C_BadFigures) = some true
  k_BadFigures_BadWidth : PySem.W.kitOne K (.ref C_BadFigures) (.ref C_BadWidth) = some false
  k_BadFigures_BadRange : PySem.W.kitOne K (.ref C_BadFigures) (.ref C_BadRange) = some false
  k_BadFigures_BadNeeded : PySem.W.kitOne K (.ref C_BadFigures) (.ref C_BadNeeded) = some false
  k_BadFigures_BadNumber : PySem.W.kitOne K (.ref C_BadFigures) (.ref C_BadNumber) = some false
  k_BadFigures_TooMany : PySem.W.kitOne K (.ref C_BadFigures) (.ref C_TooMany) = some false
  k_BadFigures_BadSeen : PySem.W.kitOne K (.ref C_BadFigures) (.ref C_BadSeen) = some false
  k_BadFigures_BadWays : PySem.W.kitOne K (.ref C_BadFigures) (.ref C_BadWays) = some false
  k_BadFigures_NotShown : PySem.W.kitOne K (.ref C_BadFigures) (.ref C_NotShown) = some false
  k_BadFigures_BadText : PySem.W.kitOne K (.ref C_BadFigures) (.ref C_BadText) = some false
  m_BadWidth : mg "BadWidth" = some (.ref C_BadWidth)
  e_BadWidth : ExcC K C_BadWidth
  k_BadWidth_CubeError : PySem.W.kitOne K (.ref C_BadWidth) (.ref C_CubeError) = some true
  v_BadWidth : PySem.W.kitOne K (.ref C_BadWidth) (.type "ValueError") = some true
  k_BadWidth_BadCubes : PySem.W.kitOne K (.ref C_BadWidth) (.ref C_BadCubes) = some false
  k_BadWidth_BadTurns : PySem.W.kitOne K (.ref C_BadWidth) (.ref C_BadTurns) = some false
  k_BadWidth_BadFigures : PySem.W.kitOne K (.ref C_BadWidth) (.ref C_BadFigures) = some false
  k_BadWidth_BadWidth : PySem.W.kitOne K (.ref C_BadWidth) (.ref C_BadWidth) = some true
  k_BadWidth_BadRange : PySem.W.kitOne K (.ref C_BadWidth) (.ref C_BadRange) = some false
  k_BadWidth_BadNeeded : PySem.W.kitOne K (.ref C_BadWidth) (.ref C_BadNeeded) = some false
  k_BadWidth_BadNumber : PySem.W.kitOne K (.ref C_BadWidth) (.ref C_BadNumber) = some false
  k_BadWidth_TooMany : PySem.W.kitOne K (.ref C_BadWidth) (.ref C_TooMany) = some false
  k_BadWidth_BadSeen : PySem.W.kitOne K (.ref C_BadWidth) (.ref C_BadSeen) = some false
  k_BadWidth_BadWays : PySem.W.kitOne K (.ref C_BadWidth) (.ref C_BadWays) = some false
  k_BadWidth_NotShown : PySem.W.kitOne K (.ref C_BadWidth) (.ref C_NotShown) = some false
  k_BadWidth_BadText : PySem.W.kitOne K (.ref C_BadWidth) (.ref C_BadText) = some false
  m_BadRange : mg "BadRange" = some (.ref C_BadRange)
  e_BadRange : ExcC K C_BadRange
  k_BadRange_CubeError : PySem.W.kitOne K (.ref C_BadRange) (.ref C_CubeError) = some true
  v_BadRange : PySem.W.kitOne K (.ref C_BadRange) (.type "ValueError") = some true
  k_BadRange_BadCubes : PySem.W.kitOne K (.ref C_BadRange) (.ref C_BadCubes) = some false
  k_BadRange_BadTurns : PySem.W.kitOne K (.ref C_BadRange) (.ref C_BadTurns) = some false
  k_BadRange_BadFigures : PySem.W.kitOne K (.ref C_BadRange) (.ref C_BadFigures) = some false
  k_BadRange_BadWidth : PySem.W.kitOne K (.ref C_BadRange) (.ref C_BadWidth) = some false
  k_BadRange_BadRange : PySem.W.kitOne K (.ref C_BadRange) (.ref C_BadRange) = some true
  k_BadRange_BadNeeded : PySem.W.kitOne K (.ref C_BadRange) (.ref C_BadNeeded) = some false
  k_BadRange_BadNumber : PySem.W.kitOne K (.ref C_BadRange) (.ref C_BadNumber) = some false
  k_BadRange_TooMany : PySem.W.kitOne K (.ref C_BadRange) (.ref C_TooMany) = some false
  k_BadRange_BadSeen : PySem.W.kitOne K (.ref C_BadRange) (.ref C_BadSeen) = some false
  k_BadRange_BadWays : PySem.W.kitOne K (.ref C_BadRange) (.ref C_BadWays) = some false
  k_BadRange_NotShown : PySem.W.kitOne K (.ref C_BadRange) (.ref C_NotShown) = some false
  k_BadRange_BadText : PySem.W.kitOne K (.ref C_BadRange) (.ref C_BadText) = some false
  m_BadNeeded : mg "BadNeeded" = some (.ref C_BadNeeded)
  e_BadNeeded : ExcC K C_BadNeeded
  k_BadNeeded_CubeError : PySem.W.kitOne K (.ref C_BadNeeded) (.ref C_CubeError) = some true
  v_BadNeeded : PySem.W.kitOne K (.ref C_BadNeeded) (.type "ValueError") = some true
  f_BadNeeded : XfC K C_BadNeeded ∧ PySem.W.findIn K (.ref C_BadNeeded) "index" = some none
  k_BadNeeded_BadCubes : PySem.W.kitOne K (.ref C_BadNeeded) (.ref C_BadCubes) = some false
  k_BadNeeded_BadTurns : PySem.W.kitOne K (.ref C_BadNeeded) (.ref C_BadTurns) = some false
  k_BadNeeded_BadFigures : PySem.W.kitOne K (.ref C_BadNeeded) (.ref C_BadFigures) = some false
  k_BadNeeded_BadWidth : PySem.W.kitOne K (.ref C_BadNeeded) (.ref C_BadWidth) = some false
  k_BadNeeded_BadRange : PySem.W.kitOne K (.ref C_BadNeeded) (.ref C_BadRange) = some false
  k_BadNeeded_BadNeeded : PySem.W.kitOne K (.ref C_BadNeeded) (.ref C_BadNeeded) = some true
  k_BadNeeded_BadNumber : PySem.W.kitOne K (.ref C_BadNeeded) (.ref C_BadNumber) = some false
  k_BadNeeded_TooMany : PySem.W.kitOne K (.ref C_BadNeeded) (.ref C_TooMany) = some false
  k_BadNeeded_BadSeen : PySem.W.kitOne K (.ref C_BadNeeded) (.ref C_BadSeen) = some false
  k_BadNeeded_BadWays : PySem.W.kitOne K (.ref C_BadNeeded) (.ref C_BadWays) = some false
  k_BadNeeded_NotShown : PySem.W.kitOne K (.ref C_BadNeeded) (.ref C_NotShown) = some false
  k_BadNeeded_BadText : PySem.W.kitOne K (.ref C_BadNeeded) (.ref C_BadText) = some false
  m_BadNumber : mg "BadNumber" = some (.ref C_BadNumber)
  e_BadNumber : ExcC K C_BadNumber
  k_BadNumber_CubeError : PySem.W.kitOne K (.ref C_BadNumber) (.ref C_CubeError) = some true
  v_BadNumber : PySem.W.kitOne K (.ref C_BadNumber) (.type "ValueError") = some true
  k_BadNumber_BadCubes : PySem.W.kitOne K (.ref C_BadNumber) (.ref C_BadCubes) = some false
  k_BadNumber_BadTurns : PySem.W.kitOne K (.ref C_BadNumber) (.ref C_BadTurns) = some false
  k_BadNumber_BadFigures : PySem.W.kitOne K (.ref C_BadNumber) (.ref C_BadFigures) = some false
  k_BadNumber_BadWidth : PySem.W.kitOne K (.ref C_BadNumber) (.ref C_BadWidth) = some false
  k_BadNumber_BadRange : PySem.W.kitOne K (.ref C_BadNumber) (.ref C_BadRange) = some false
  k_BadNumber_BadNeeded : PySem.W.kitOne K (.ref C_BadNumber) (.ref C_BadNeeded) = some false
  k_BadNumber_BadNumber : PySem.W.kitOne K (.ref C_BadNumber) (.ref C_BadNumber) = some true
  k_BadNumber_TooMany : PySem.W.kitOne K (.ref C_BadNumber) (.ref C_TooMany) = some false
  k_BadNumber_BadSeen : PySem.W.kitOne K (.ref C_BadNumber) (.ref C_BadSeen) = some false
  k_BadNumber_BadWays : PySem.W.kitOne K (.ref C_BadNumber) (.ref C_BadWays) = some false
  k_BadNumber_NotShown : PySem.W.kitOne K (.ref C_BadNumber) (.ref C_NotShown) = some false
  k_BadNumber_BadText : PySem.W.kitOne K (.ref C_BadNumber) (.ref C_BadText) = some false
  m_TooMany : mg "TooMany" = some (.ref C_TooMany)
  e_TooMany : ExcC K C_TooMany
  k_TooMany_CubeError : PySem.W.kitOne K (.ref C_TooMany) (.ref C_CubeError) = some true
  v_TooMany : PySem.W.kitOne K (.ref C_TooMany) (.type "ValueError") = some true
  k_TooMany_BadCubes : PySem.W.kitOne K (.ref C_TooMany) (.ref C_BadCubes) = some false
  k_TooMany_BadTurns : PySem.W.kitOne K (.ref C_TooMany) (.ref C_BadTurns) = some false
  k_TooMany_BadFigures : PySem.W.kitOne K (.ref C_TooMany) (.ref C_BadFigures) = some false
  k_TooMany_BadWidth : PySem.W.kitOne K (.ref C_TooMany) (.ref C_BadWidth) = some false
  k_TooMany_BadRange : PySem.W.kitOne K (.ref C_TooMany) (.ref C_BadRange) = some false
  k_TooMany_BadNeeded : PySem.W.kitOne K (.ref C_TooMany) (.ref C_BadNeeded) = some false
  k_TooMany_BadNumber : PySem.W.kitOne K (.ref C_TooMany) (.ref C_BadNumber) = some false
  k_TooMany_TooMany : PySem.W.kitOne K (.ref C_TooMany) (.ref C_TooMany) = some true
  k_TooMany_BadSeen : PySem.W.kitOne K (.ref C_TooMany) (.ref C_BadSeen) = some false
  k_TooMany_BadWays : PySem.W.kitOne K (.ref C_TooMany) (.ref C_BadWays) = some false
  k_TooMany_NotShown : PySem.W.kitOne K (.ref C_TooMany) (.ref C_NotShown) = some false
  k_TooMany_BadText : PySem.W.kitOne K (.ref C_TooMany) (.ref C_BadText) = some false
  m_BadSeen : mg "BadSeen" = some (.ref C_BadSeen)
  e_BadSeen : ExcC K C_BadSeen
  k_BadSeen_CubeError : PySem.W.kitOne K (.ref C_BadSeen) (.ref C_CubeError) = some true
  v_BadSeen : PySem.W.kitOne K (.ref C_BadSeen) (.type "ValueError") = some true
  f_BadSeen : XfC K C_BadSeen ∧ PySem.W.findIn K (.ref C_BadSeen) "index" = some none
  k_BadSeen_BadCubes : PySem.W.kitOne K (.ref C_BadSeen) (.ref C_BadCubes) = some false
  k_BadSeen_BadTurns : PySem.W.kitOne K (.ref C_BadSeen) (.ref C_BadTurns) = some false
  k_BadSeen_BadFigures : PySem.W.kitOne K (.ref C_BadSeen) (.ref C_BadFigures) = some false
  k_BadSeen_BadWidth : PySem.W.kitOne K (.ref C_BadSeen) (.ref C_BadWidth) = some false
  k_BadSeen_BadRange : PySem.W.kitOne K (.ref C_BadSeen) (.ref C_BadRange) = some false
  k_BadSeen_BadNeeded : PySem.W.kitOne K (.ref C_BadSeen) (.ref C_BadNeeded) = some false
  k_BadSeen_BadNumber : PySem.W.kitOne K (.ref C_BadSeen) (.ref C_BadNumber) = some false
  k_BadSeen_TooMany : PySem.W.kitOne K (.ref C_BadSeen) (.ref C_TooMany) = some false
  k_BadSeen_BadSeen : PySem.W.kitOne K (.ref C_BadSeen) (.ref C_BadSeen) = some true
  k_BadSeen_BadWays : PySem.W.kitOne K (.ref C_BadSeen) (.ref C_BadWays) = some false
  k_BadSeen_NotShown : PySem.W.kitOne K (.ref C_BadSeen) (.ref C_NotShown) = some false
  k_BadSeen_BadText : PySem.W.kitOne K (.ref C_BadSeen) (.ref C_BadText) = some false
  m_BadWays : mg "BadWays" = some (.ref C_BadWays)
  e_BadWays : ExcC K C_BadWays
  k_BadWays_CubeError : PySem.W.kitOne K (.ref C_BadWays) (.ref C_CubeError) = some true
  v_BadWays : PySem.W.kitOne K (.ref C_BadWays) (.type "ValueError") = some true
  f_BadWays : XfC K C_BadWays ∧ PySem.W.findIn K (.ref C_BadWays) "index" = some none
  k_BadWays_BadCubes : PySem.W.kitOne K (.ref C_BadWays) (.ref C_BadCubes) = some false
  k_BadWays_BadTurns : PySem.W.kitOne K (.ref C_BadWays) (.ref C_BadTurns) = some false
  k_BadWays_BadFigures : PySem.W.kitOne K (.ref C_BadWays) (.ref C_BadFigures) = some false
  k_BadWays_BadWidth : PySem.W.kitOne K (.ref C_BadWays) (.ref C_BadWidth) = some false
  k_BadWays_BadRange : PySem.W.kitOne K (.ref C_BadWays) (.ref C_BadRange) = some false
  k_BadWays_BadNeeded : PySem.W.kitOne K (.ref C_BadWays) (.ref C_BadNeeded) = some false
  k_BadWays_BadNumber : PySem.W.kitOne K (.ref C_BadWays) (.ref C_BadNumber) = some false
  k_BadWays_TooMany : PySem.W.kitOne K (.ref C_BadWays) (.ref C_TooMany) = some false
  k_BadWays_BadSeen : PySem.W.kitOne K (.ref C_BadWays) (.ref C_BadSeen) = some false
  k_BadWays_BadWays : PySem.W.kitOne K (.ref C_BadWays) (.ref C_BadWays) = some true
  k_BadWays_NotShown : PySem.W.kitOne K (.ref C_BadWays) (.ref C_NotShown) = some false
  k_BadWays_BadText : PySem.W.kitOne K (.ref C_BadWays) (.ref C_BadText) = some false
  m_NotShown : mg "NotShown" = some (.ref C_NotShown)
  e_NotShown : ExcC K C_NotShown
  k_NotShown_CubeError : PySem.W.kitOne K (.ref C_NotShown) (.ref C_CubeError) = some true
  v_NotShown : PySem.W.kitOne K (.ref C_NotShown) (.type "ValueError") = some true
  k_NotShown_BadCubes : PySem.W.kitOne K (.ref C_NotShown) (.ref C_BadCubes) = some false
  k_NotShown_BadTurns : PySem.W.kitOne K (.ref C_NotShown) (.ref C_BadTurns) = some false
  k_NotShown_BadFigures : PySem.W.kitOne K (.ref C_NotShown) (.ref C_BadFigures) = some false
  k_NotShown_BadWidth : PySem.W.kitOne K (.ref C_NotShown) (.ref C_BadWidth) = some false
  k_NotShown_BadRange : PySem.W.kitOne K (.ref C_NotShown) (.ref C_BadRange) = some false
  k_NotShown_BadNeeded : PySem.W.kitOne K (.ref C_NotShown) (.ref C_BadNeeded) = some false
  k_NotShown_BadNumber : PySem.W.kitOne K (.ref C_NotShown) (.ref C_BadNumber) = some false
  k_NotShown_TooMany : PySem.W.kitOne K (.ref C_NotShown) (.ref C_TooMany) = some false
  k_NotShown_BadSeen : PySem.W.kitOne K (.ref C_NotShown) (.ref C_BadSeen) = some false
  k_NotShown_BadWays : PySem.W.kitOne K (.ref C_NotShown) (.ref C_BadWays) = some false
  k_NotShown_NotShown : PySem.W.kitOne K (.ref C_NotShown) (.ref C_NotShown) = some true
  k_NotShown_BadText : PySem.W.kitOne K (.ref C_NotShown) (.ref C_BadText) = some false
  m_BadText : mg "BadText" = some (.ref C_BadText)
  e_BadText : ExcC K C_BadText
  k_BadText_CubeError : PySem.W.kitOne K (.ref C_BadText) (.ref C_CubeError) = some true
  v_BadText : PySem.W.kitOne K (.ref C_BadText) (.type "ValueError") = some true
  f_BadText : XfC K C_BadText ∧ PySem.W.findIn K (.ref C_BadText) "word" = some none
  k_BadText_BadCubes : PySem.W.kitOne K (.ref C_BadText) (.ref C_BadCubes) = some false
  k_BadText_BadTurns : PySem.W.kitOne K (.ref C_BadText) (.ref C_BadTurns) = some false
  k_BadText_BadFigures : PySem.W.kitOne K (.ref C_BadText) (.ref C_BadFigures) = some false
  k_BadText_BadWidth : PySem.W.kitOne K (.ref C_BadText) (.ref C_BadWidth) = some false
  k_BadText_BadRange : PySem.W.kitOne K (.ref C_BadText) (.ref C_BadRange) = some false
  k_BadText_BadNeeded : PySem.W.kitOne K (.ref C_BadText) (.ref C_BadNeeded) = some false
  k_BadText_BadNumber : PySem.W.kitOne K (.ref C_BadText) (.ref C_BadNumber) = some false
  k_BadText_TooMany : PySem.W.kitOne K (.ref C_BadText) (.ref C_TooMany) = some false
  k_BadText_BadSeen : PySem.W.kitOne K (.ref C_BadText) (.ref C_BadSeen) = some false
  k_BadText_BadWays : PySem.W.kitOne K (.ref C_BadText) (.ref C_BadWays) = some false
  k_BadText_NotShown : PySem.W.kitOne K (.ref C_BadText) (.ref C_NotShown) = some false
  k_BadText_BadText : PySem.W.kitOne K (.ref C_BadText) (.ref C_BadText) = some true
abbrev s_lbelow : Stmt := top 16
abbrev n_lbelow : List Str := ["_law_d", "_law_size", "_law_result"]
theorem sc_lbelow : FnScope n_lbelow ["_law_d", "_law_size"] (defScope s_lbelow) := ⟨rfl, rfl, rfl, by decide +kernel, rfl, by decide +kernel, by decide +kernel⟩
abbrev s_lrandom : Stmt := top 15
abbrev n_lrandom : List Str := ["_law_script", "_law_salt", "_law_seed", "_law_cell"]
theorem sc_lrandom : FnScope n_lrandom ["_law_script", "_law_salt"] (defScope s_lrandom) := ⟨rfl, rfl, rfl, by decide +kernel, rfl, by decide +kernel, by decide +kernel⟩
variable {P : Program} {w : World} {K : PySem.W.Frag} {mg : Str → Option Value} {base : Heap}
theorem sqL_keep {K : PySem.W.Frag} {H H' : Hp} {a : Addr} {xs : List V} (h : SqL K H a xs) (k : ∀ b o, H b = some o → H' b = some o) : SqL K H' a xs := by
  rcases h with h | h
  · rcases h with h | ⟨o, h⟩
    · exact .inl (.inl (k _ _ h))
    · exact .inl (.inr ⟨o, k _ _ h⟩)
  · exact .inr h
theorem sqL_upd {K : PySem.W.Frag} {H : Hp} {a p : Addr} {xs : List V} {o : HO} (h : SqL K H a xs) (n : H p = none) : SqL K (upd H p o) a xs := sqL_keep h fun b u e => by rw [upd_ne (ne_of_none e n)]; exact e
theorem ints_set (ns : List Int) (j : Nat) (z : Int) : (ns.map V.int).set j (.int z) = (ns.set j z).map V.int := by
  rw [List.map_set]
theorem ok_lbelow {f : Addr} {fd : FuncData} (F : Fun K "_law_below" "_law_below" s_lbelow f fd) (b_len : mg "len" = none) (b_int : mg "int" = none) :
    FnOk P w K mg base (L2.CX P w) 1 f fd ["_law_d", "_law_size"] (spD K 2 gBelow) := by
  refine F.okX sc_lbelow (fun vs H Q E h => ?_) (fun cdv A outer s H vs Q E hr h => ?_)
  · obtain ⟨r, A, ds, P', Z, _, t, hl, _⟩ := h
    rw [t.length, hl]; rfl
  · obtain ⟨r, A0, ds, P', Z, wd, t, hl, ⟨n, rfl, hn0, hn1, hk⟩, hq, _⟩ := h
    obtain ⟨v1, v2, rfl, r1, r2⟩ := t.two
    cases r1 with
    | rnd =>
    cases r2
    obtain ⟨⟨ns, e1, ⟨a, b, l, rfl, ha0, ha1, hb0, hl0⟩, hlen⟩, ar, all⟩ := wd
    have fin : ∀ (k : Int) (ms : List Int) (H' : Hp), 0 ≤ k → k < n → (∀ c o, c ≠ r → H c = some o → H' c = some o) → H' r = some (.lst (ms.map V.int)) → Rnd ms → ms.length ≤ 65 → Q (.int k) H' := fun k ms H' h0 h1 keep e rn hm =>
      hq _ _ _ (hk k h0 h1) keep ⟨ms, e, rn, hm⟩ (.int k)
    have um : ∀ {H' : Hp} {o : HO}, (∀ c o, c ≠ r → H c = some o → H' c = some o) → ∀ c u, c ≠ r → H c = some u → upd H' r o c = some u := fun k c u hc q => by rw [upd_ne hc]; exact k c u hc q
    refine ⟨_, pss_cons (ps_if (PW.pt (pw_and (pt_cmpR op_eq (pe_ix ix_list (pv 0) pe_int (fun _ _ => rfl)) pe_int (nomark _)) (pw_and1 (pt_cmpR op_gt (pe_callB call_len_seq rfl b_len (by decide +kernel) (pa_cons (pv 0) pa_nil)) pe_int (nomark _)))))
        (pss_one (ps_asg (pe_bm PySem.F.plainAttrs_list PySem.F.slot_list_pop PySem.F.type_list_pop mt_popAt (pv 0) (pa_cons pe_int pa_nil)) (pg_sub (pv 0) pe_int set_list))) pss_nil)
      (pss_cons (ps_if (pt_cmpR op_gt (pe_ix ix_list (pv 0) pe_int (fun _ _ => rfl)) pe_int (nomark _))
        (pss_cons (ps_set (i := 2) sc_lbelow.nd rfl (Or.inl rfl) (pe_op op_mod (pe_callTy call_int1 rfl b_int (by decide +kernel) (pa_cons (pe_ix ix_list (pv 0) pe_int (fun _ _ => rfl)) pa_nil)) (pv 1)))
        (pss_cons (ps_asg (pe_op op_fdivW (pe_ix ix_list (pv 0) pe_int (fun _ _ => rfl)) (pv 1)) (pg_sub (pv 0) pe_int set_list))
        (pss_one (ps_ret (pv 2))))) pss_nil)
      (pss_cons (ps_asg (pe_op op_mod (pe_callTy call_int1 rfl b_int (by decide +kernel) (pa_cons (pe_op op_add (pe_op op_mul (pe_ix ix_list (pv 0) pe_int (fun _ _ => rfl)) pe_int) pe_int) pa_nil)) pe_int) (pg_sub (pv 0) pe_int set_list))
      (pss_one (ps_ret (pe_op op_mod (pe_callTy call_int1 rfl b_int (by decide +kernel) (pa_cons (pe_op op_fdivW (pe_ix ix_list (pv 0) pe_int (fun _ _ => rfl)) pe_int) pa_nil)) (pv 1)))))), ?_⟩
    -- behind the first if: the list is a, b', l'
    have rest : ∀ (b' : Int) (l' : List Int) (H' : Hp), 0 ≤ b' → (∀ x ∈ l', 0 ≤ x) → l'.length ≤ 63 → (∀ c o, c ≠ r → H c = some o → H' c = some o) → H' r = some (.lst ((a :: b' :: l').map V.int)) →
        (tSeq (tIfS (tTest (tOp (rI0 fun i j => .bl (decide (j < i))) (tOp (rIxL K) (tVar 0) (tC (.int 1))) (tC (.int 0)))) (tSeq (tAsg (tOp (rI (fun _ j => 0 < j) fun i j => .int (i % j)) (tCB (fun xs H Q => (∃ i, xs = [.int i] ∧ Q (.int i) H) ∨ ∃ k, xs = [.bl k] ∧ Q (.int (if k then 1 else 0)) H) (tCons (tOp (rIxL K) (tVar 0) (tC (.int 1))) tNil)) (tVar 1)) (gName 2)) (tSeq (tAsg (tOp (rI CDivW fun i j => .int (i / j)) (tOp (rIxL K) (tVar 0) (tC (.int 1))) (tVar 1)) (gSub (tVar 0) (tC (.int 1)) rSetL)) (tRet (tVar 2)))) tNext)
          (tSeq (tAsg (tOp (rI (fun _ j => 0 < j) fun i j => .int (i % j)) (tCB (fun xs H Q => (∃ i, xs = [.int i] ∧ Q (.int i) H) ∨ ∃ k, xs = [.bl k] ∧ Q (.int (if k then 1 else 0)) H) (tCons (tOp (rI0 fun i j => .int (i + j)) (tOp (rI CMul fun i j => .int (i * j)) (tOp (rIxL K) (tVar 0) (tC (.int 0))) (tC (.int 48271))) (tC (.int 11))) tNil)) (tC (.int 2147483647))) (gSub (tVar 0) (tC (.int 0)) rSetL))
          (tRet (tOp (rI (fun _ j => 0 < j) fun i j => .int (i % j)) (tCB (fun xs H Q => (∃ i, xs = [.int i] ∧ Q (.int i) H) ∨ ∃ k, xs = [.bl k] ∧ Q (.int (if k then 1 else 0)) H) (tCons (tOp (rI CDivW fun i j => .int (i / j)) (tOp (rIxL K) (tVar 0) (tC (.int 0))) (tC (.int 64))) tNil)) (tVar 1)))))
          { nx := fun _ H' => Q .non H', rt := Q } [some (.ref r), some (.int n), none] H' := by
      intro b' l' H' hb' hl' hlen' keep e
      have i1 : atI ((a :: b' :: l').map V.int) 1 = some (.int b') := atI_nat (j := 1) rfl
      have i0 : atI ((a :: b' :: l').map V.int) 0 = some (.int a) := atI_nat (j := 0) rfl
      have x0 : ixN ((a :: b' :: l').map V.int).length 0 = some 0 := by unfold ixN; rw [if_pos (by decide), if_pos (by simp; omega)]; rfl
      have x1 : ixN ((a :: b' :: l').map V.int).length 1 = some 1 := by unfold ixN; rw [if_pos (by decide), if_pos (by simp; omega)]; rfl
      have n64 : n.natAbs.log2 < 9000 := by
        by_cases h0 : n.natAbs = 0
        · rw [h0]; decide
        · exact Nat.lt_trans ((Nat.log2_lt h0).mpr (show n.natAbs < 2 ^ 20 by omega)) (by decide)
      refine ⟨.ref r, rfl, r, _, 1, .int b', rfl, rfl, SqL.of e, i1, b', 0, rfl, rfl, decide (0 < b'), rfl, ?_⟩
      by_cases hb : 0 < b'
      · refine if_so (decide_eq_true hb) ?_
        refine ⟨.ref r, rfl, r, _, 1, .int b', rfl, rfl, SqL.of e, i1, .inl ⟨b', rfl, .int n, rfl, b', n, rfl, rfl, hn0, ?_⟩⟩
        refine ⟨.ref r, rfl, r, _, 1, .int b', rfl, rfl, SqL.of e, i1, .int n, rfl, b', n, rfl, rfl, ⟨hn0, n64⟩, .ref r, rfl, r, _, 1, 1, rfl, rfl, e, x1, .int (b' % n), rfl, ?_⟩
        refine fin (b' % n) (a :: (b' / n) :: l') _ (Int.emod_nonneg _ (by omega)) (Int.emod_lt_of_pos _ hn0) (um keep) upd_same ⟨a, b' / n, l', rfl, ha0, ha1, Int.ediv_nonneg hb' (by omega), hl'⟩ (by simp; omega)
      · refine if_no (decide_eq_false hb) ?_
        have hs0 : (0 : Int) ≤ (a * 48271 + 11) % 2147483647 := Int.emod_nonneg _ (by decide)
        have hs1 : (a * 48271 + 11) % 2147483647 < 2147483647 := Int.emod_lt_of_pos _ (by decide)
        refine ⟨.ref r, rfl, r, _, 0, .int a, rfl, rfl, SqL.of e, i0, a, 48271, rfl, rfl, .inl ⟨by omega, by omega⟩, _, _, rfl, rfl, .inl ⟨_, rfl, _, _, rfl, rfl, (by show (0 : Int) < 2147483647; decide), .ref r, rfl, r, _, 0, 0, rfl, rfl, e, x0, ?_⟩⟩
        have i2 : atI ((((a * 48271 + 11) % 2147483647) :: b' :: l').map V.int) 0 = some (.int ((a * 48271 + 11) % 2147483647)) := atI_nat (j := 0) rfl
        refine ⟨.ref r, rfl, r, _, 0, _, rfl, rfl, SqL.of upd_same, i2, _, 64, rfl, rfl, ⟨by decide, by decide +kernel⟩, .inl ⟨_, rfl, .int n, rfl, _, n, rfl, rfl, hn0, ?_⟩⟩
        exact fin _ (((a * 48271 + 11) % 2147483647) :: b' :: l') _ (Int.emod_nonneg _ (by omega)) (Int.emod_lt_of_pos _ hn0) (um keep) upd_same ⟨_, b', l', rfl, hs0, hs1, hb', hl'⟩ (by simp; omega)
    have i1 : atI ((a :: b :: l).map V.int) 1 = some (.int b) := atI_nat (j := 1) rfl
    have ll : l.length ≤ 63 := by simp at hlen; omega
    refine ⟨.ref r, rfl, r, _, 1, .int b, rfl, rfl, SqL.of e1, i1, rfl, _, rfl, ?_⟩
    by_cases hb : b = 0
    · refine if_so (by rw [hb]; exact decide_eq_true rfl) ?_
      refine ⟨.ref r, rfl, r, _, rfl, .inl (SqL.of e1), _, _, rfl, rfl, _, rfl, ?_⟩
      by_cases hll : 0 < l.length
      · refine if_so (decide_eq_true (by simp; omega)) ?_
        match l, hll with
        | c :: l, _ =>
          have sx : seqIndex? 2 ((a :: b :: c :: l).map V.int).length = some 2 := by
            unfold seqIndex?; simp; omega
          refine ⟨.ref r, rfl, .inl ⟨rfl, _, SqL.of e1⟩, r, _, 2, 2, .int c, rfl, rfl, e1, by decide, by decide, sx, rfl, .ref r, rfl, r, _, 1, 1, rfl, rfl, upd_same, by unfold ixN; rw [if_pos (by decide), if_pos (by simp; omega)]; rfl, ?_⟩
          exact rest c l _ (hl0 c List.mem_cons_self) (fun x hx => hl0 x (List.mem_cons_of_mem _ hx)) (by simp at ll; omega) (um (um fun _ _ _ q => q)) upd_same
      · refine if_no (decide_eq_false (by simp; omega)) ?_
        exact rest b l H hb0 hl0 ll (fun _ _ _ q => q) e1
    · refine if_no (decide_eq_false (fun z => hb (by cases z; rfl))) ?_
      exact rest b l H hb0 hl0 ll (fun _ _ _ q => q) e1

/-- _law_random(script, salt): a source of draws -/
def spRandom (K : PySem.W.Frag) : Sp := fun vs H Q _ => ∃ (a : Addr) (ns : List Int) (z : Int), vs = [.ref a, .int z] ∧ SqL K H a (ns.map V.int) ∧ ns.length ≤ 63 ∧ 0 ≤ z ∧ z < 2147483647 ∧
  ∀ (p : Addr) (ms : List Int) (H' : Hp), H p = none → H' p = some (.lst (ms.map V.int)) → Rnd ms → ms.length ≤ 65 → (∀ b o, H b = some o → H' b = some o) → Q (.ref p) H'
theorem at_int {ns : List Int} {i : Nat} {y : V} (h : (ns.map V.int)[i]? = some y) : ∃ z, ns[i]? = some z ∧ y = .int z := by
  rw [List.getElem?_map] at h
  cases e : ns[i]? with
  | none => rw [e] at h; cases h
  | some z => rw [e] at h; exact ⟨z, rfl, (Option.some.inj h).symm⟩
theorem ok_lrandom {f : Addr} {fd : FuncData} (F : Fun K "_law_random" "_law_random" s_lrandom f fd) (b_int : mg "int" = none) (b_abs : mg "abs" = none) :
    FnOk P w K mg base (L2.CX P w) 1 f fd ["_law_script", "_law_salt"] (spRandom K) := by
  refine F.okX sc_lrandom (fun vs H Q E h => ?_) (fun cdv A outer s H vs Q E hr h => ?_)
  · obtain ⟨a, ns, z, rfl, _⟩ := h; rfl
  · obtain ⟨a, ns, z, rfl, hS, hlen, hz0, hz1, hq⟩ := h
    refine ⟨_, pss_cons (ps_set (i := 2) sc_lrandom.nd rfl (Or.inl rfl) (pv 1))
      (pss_cons (ps_for (passes_of rfl) rfl (pi_list (pv 0)) (pg_name (i := 3) sc_lrandom.nd rfl (Or.inl rfl))
        (pss_one (ps_set (i := 2) sc_lrandom.nd rfl (Or.inl rfl) (pe_op op_mod (pe_callTy call_int1 rfl b_int (by decide +kernel) (pa_cons (pe_op op_add (pe_op op_mul (pv 2) pe_int) (pe_callB call_abs rfl b_abs (by decide +kernel) (pa_cons (pv 3) pa_nil))) pa_nil)) pe_int))))
      (pss_one (ps_ret (pe_op op_cat (pe_lst (pa_cons (pv 2) (pa_cons pe_int pa_nil)))
        (pe_lc (own := [("_law_cell", 3)]) rfl sc_lrandom.nd (pi_list (pv 0)) (blkOk_by (own := [("_law_cell", 3)]) (N := n_lrandom) (sc := defScope s_lrandom) (by decide +kernel)) (fun _ _ _ _ _ => pg_name (i := 3) sc_lrandom.nd rfl (Or.inl rfl))
          (fun _ _ _ _ _ => pts_one (pt_cmpR op_ge (pv 3) (pe_op op_pow pe_int pe_int) (nomark _))) (fun _ _ _ _ _ => pv 3)))))), ?_⟩
    refine ⟨.int z, rfl, .ref a, rfl, a, rfl, ⟨_, hS⟩, for_list (K := K) (a := a) (xs := ns.map V.int) (fun i σ H' => H = H' ∧ ∃ (t : Int) (v : Option V), σ = [some (.ref a), some (.int z), some (.int t), v] ∧ 0 ≤ t ∧ t < 2147483647)
      ⟨rfl, z, none, rfl, hz0, hz1⟩ (fun i σ H' _ ⟨e, _⟩ => by rw [← e]; exact hS) ?_ ?_⟩
    · rintro i y σ H' hi ⟨rfl, t, v, rfl, ht0, ht1⟩
      obtain ⟨c, hc, rfl⟩ := at_int hi
      refine ⟨_, rfl, _, _, rfl, rfl, .inl ⟨by omega, by omega⟩, _, rfl, _, rfl, _, _, rfl, rfl, .inl ⟨_, rfl, _, _, rfl, rfl, (by show (0 : Int) < 2147483647; decide), rfl, _, _, rfl, Int.emod_nonneg _ (by decide), Int.emod_lt_of_pos _ (by decide)⟩⟩
    · rintro σ H' ⟨rfl, t, v, rfl, ht0, ht1⟩
      refine ⟨_, rfl, (by show 2 ≤ sizeLine; decide), fun p hp => ?_⟩
      refine ⟨_, rfl, a, rfl, ⟨_, (show SqL K (upd H p _) a (ns.map V.int) from sqL_upd hS hp)⟩, fun c hc => lc_list (K := K) (a := a) (xs := ns.map V.int)
        (fun i H2 => ∃ ms : List Int, H2 c = some (.lst (ms.map V.int)) ∧ ms.length ≤ i ∧ (∀ x ∈ ms, 0 ≤ x) ∧ ∀ b o, b ≠ c → upd H p (.lst [.int t, .int 0]) b = some o → H2 b = some o)
        ⟨[], upd_same, Nat.le_refl _, fun _ h => (by cases h), fun b o hb e => by rw [upd_ne hb]; exact e⟩ (fun i H2 hi ⟨ms, _, _, _, k⟩ => ?_) ?_ ?_⟩
      · exact sqL_keep hS (fun b o e => k b o (ne_of_none (show upd H p (.lst [.int t, .int 0]) b = some o from by rw [upd_ne (ne_of_none e hp)]; exact e) hc) (by rw [upd_ne (ne_of_none e hp)]; exact e))
      · rintro i y H2 hi ⟨ms, e, hl, h0, k⟩
        obtain ⟨d, hd, rfl⟩ := at_int hi
        refine ⟨rfl, _, rfl, _, _, rfl, rfl, ⟨by decide, by decide, by decide⟩, _, _, rfl, rfl, _, rfl, ?_⟩
        by_cases hd0 : (10 : Int) ^ (18 : Int).toNat ≤ d
        · refine if_so (decide_eq_true hd0) ?_
          have hi' := (List.getElem?_eq_some_iff.mp hd).1
          refine ⟨_, rfl, _, e, by rw [List.length_map, sizeLine_eq]; omega, ms ++ [d], by rw [upd_same, List.map_append]; rfl, by rw [List.length_append, List.length_singleton]; omega, fun x hx => ?_, fun b o hb q => by rw [upd_ne hb]; exact k b o hb q⟩
          rcases List.mem_append.mp hx with hx | hx
          · exact h0 x hx
          · rw [List.mem_singleton.mp hx]
            exact Int.le_trans (by decide) hd0
        · refine if_no (decide_eq_false hd0) ?_
          exact ⟨ms, e, by omega, h0, k⟩
      · rintro H2 ⟨ms, e, hl, h0, k⟩
        have hpc : p ≠ c := ne_of_none (show upd H p (.lst [.int t, .int 0]) p = some _ from upd_same) hc
        have ep : H2 p = some (.lst [.int t, .int 0]) := k p _ hpc upd_same
        rw [List.length_map] at hl
        refine ⟨p, c, _, _, rfl, rfl, ep, e, by rw [List.length_map, sizeLine_eq]; show 2 + _ ≤ _; omega, fun q hq2 => ?_⟩
        have hall : ∀ b o, H b = some o → H2 b = some o := fun b o e => k b o (ne_of_none (show upd H p (.lst [.int t, .int 0]) b = some o from by rw [upd_ne (ne_of_none e hp)]; exact e) hc) (by rw [upd_ne (ne_of_none e hp)]; exact e)
        refine hq q (t :: 0 :: ms) _ ?_ upd_same ⟨t, 0, ms, rfl, ht0, ht1, Int.le_refl _, h0⟩ (by simp; omega) fun b o e => by rw [upd_ne (ne_of_none (hall b o e) hq2)]; exact hall b o e
        cases z : H q with
        | none => rfl
        | some o => rw [hall q o z] at hq2; cases hq2

variable {P : Program} {w : World} {K : PySem.W.Frag} {mg : Str → Option Value} {base : Heap} {C_Set C_CubeError C_BadCubes C_BadTurns C_BadFigures C_BadWidth C_BadRange C_BadNeeded C_BadNumber C_TooMany C_BadSeen C_BadWays C_NotShown C_BadText : Addr}
abbrev s_iBadCubes : Stmt := inClass (top 2) 0
theorem sc_iBadCubes : FnScope ["self", "index"] ["self", "index"] (defScope s_iBadCubes) := ⟨rfl, rfl, rfl, by decide +kernel, rfl, by decide +kernel, by decide +kernel⟩
theorem ok_iBadCubes {f C : Addr} {fd : FuncData} (F : Fun K "__init__" "BadCubes.__init__" s_iBadCubes f fd) (B : BaseE K mg "CubeError") (T : OexC K C) (hno : PySem.W.findIn K (.ref C) "index" = some none) : FnOk P w K mg base (L2.CX P w) 1 f fd ["self", "index"] (spI1 K C "index") := by
  refine F.okX sc_iBadCubes (fun vs H Q E h => ?_) (fun cdv A outer s H vs Q E hr h => ?_)
  · obtain ⟨a, v, rfl, _⟩ := h; rfl
  · obtain ⟨a, v, rfl, e, hf, q⟩ := h
    refine ⟨_, pss_cons (ps_expr (pe_cinit B rfl (pa_cons (pv 0) (pa_cons (pe_joined (.cons pe_str (.cons (pe_fmtA hr (pv 1)) .nil))) pa_nil)))) (pss_one (ps_ost (pv 0) (pv 1))), ?_⟩
    refine ⟨.ref a, rfl, _, rfl, by decide +kernel, v, rfl, hf, fun m hm => ⟨m, rfl, ?_, a, C, _, rfl, by show 1 ≤ 1000; decide, T, e, v, rfl, .ref a, rfl, a, C, rfl, T, hno, .inl ⟨e, fun dx n ne => q dx n ne⟩⟩⟩
    rw [sizeLine_eq]
    have e2 : ((Str.empty ++ "wrong cubes, index " : Str) ++ m).length = (Str.empty ++ "wrong cubes, index " : Str).length + m.length := Str.length_append _ _
    have e3 : (Str.empty ++ "wrong cubes, index " : Str).length = 19 := by decide +kernel
    omega
abbrev s_iBadTurns : Stmt := inClass (top 3) 0
theorem sc_iBadTurns : FnScope ["self"] ["self"] (defScope s_iBadTurns) := ⟨rfl, rfl, rfl, by decide +kernel, rfl, by decide +kernel, by decide +kernel⟩
theorem ok_iBadTurns {f C : Addr} {fd : FuncData} (F : Fun K "__init__" "BadTurns.__init__" s_iBadTurns f fd) (B : BaseE K mg "CubeError") (T : OexC K C) : FnOk P w K mg base (L2.CX P w) 1 f fd ["self"] (spI0 C) := by
  refine F.okX sc_iBadTurns (fun vs H Q E h => ?_) (fun cdv A outer s H vs Q E hr h => ?_)
  · obtain ⟨a, rfl, _⟩ := h; rfl
  · obtain ⟨a, rfl, e, q⟩ := h
    exact ⟨_, pss_one (ps_expr (pe_cinit B rfl (pa_cons (pv 0) (pa_cons pe_str pa_nil)))), .ref a, rfl, a, C, _, rfl, by decide, T, e, q⟩
abbrev s_iBadFigures : Stmt := inClass (top 4) 0
theorem sc_iBadFigures : FnScope ["self"] ["self"] (defScope s_iBadFigures) := ⟨rfl, rfl, rfl, by decide +kernel, rfl, by decide +kernel, by decide +kernel⟩
theorem ok_iBadFigures {f C : Addr} {fd : FuncData} (F : Fun K "__init__" "BadFigures.__init__" s_iBadFigures f fd) (B : BaseE K mg "CubeError") (T : OexC K C) : FnOk P w K mg base (L2.CX P w) 1 f fd ["self"] (spI0 C) := by
  refine F.okX sc_iBadFigures (fun vs H Q E h => ?_) (fun cdv A outer s H vs Q E hr h => ?_)
  · obtain ⟨a, rfl, _⟩ := h; rfl
  · obtain ⟨a, rfl, e, q⟩ := h
    exact ⟨_, pss_one (ps_expr (pe_cinit B rfl (pa_cons (pv 0) (pa_cons pe_str pa_nil)))), .ref a, rfl, a, C, _, rfl, by decide, T, e, q⟩
abbrev s_iBadWidth : Stmt := inClass (top 5) 0
theorem sc_iBadWidth : FnScope ["self"] ["self"] (defScope s_iBadWidth) := ⟨rfl, rfl, rfl, by decide +kernel, rfl, by decide +kernel, by decide +kernel⟩
theorem ok_iBadWidth {f C : Addr} {fd : FuncData} (F : Fun K "__init__" "BadWidth.__init__" s_iBadWidth f fd) (B : BaseE K mg "CubeError") (T : OexC K C) : FnOk P w K mg base (L2.CX P w) 1 f fd ["self"] (spI0 C) := by
  refine F.okX sc_iBadWidth (fun vs H Q E h => ?_) (fun cdv A outer s H vs Q E hr h => ?_)
  · obtain ⟨a, rfl, _⟩ := h; rfl
  · obtain ⟨a, rfl, e, q⟩ := h
    exact ⟨_, pss_one (ps_expr (pe_cinit B rfl (pa_cons (pv 0) (pa_cons pe_str pa_nil)))), .ref a, rfl, a, C, _, rfl, by decide, T, e, q⟩
abbrev s_iBadRange : Stmt := inClass (top 6) 0
theorem sc_iBadRange : FnScope ["self"] ["self"] (defScope s_iBadRange) := ⟨rfl, rfl, rfl, by decide +kernel, rfl, by decide +kernel, by decide +kernel⟩
theorem ok_iBadRange {f C : Addr} {fd : FuncData} (F : Fun K "__init__" "BadRange.__init__" s_iBadRange f fd) (B : BaseE K mg "CubeError") (T : OexC K C) : FnOk P w K mg base (L2.CX P w) 1 f fd ["self"] (spI0 C) := by
  refine F.okX sc_iBadRange (fun vs H Q E h => ?_) (fun cdv A outer s H vs Q E hr h => ?_)
  · obtain ⟨a, rfl, _⟩ := h; rfl
  · obtain ⟨a, rfl, e, q⟩ := h
    exact ⟨_, pss_one (ps_expr (pe_cinit B rfl (pa_cons (pv 0) (pa_cons pe_str pa_nil)))), .ref a, rfl, a, C, _, rfl, by decide, T, e, q⟩
abbrev s_iBadNeeded : Stmt := inClass (top 7) 0
theorem sc_iBadNeeded : FnScope ["self", "index"] ["self", "index"] (defScope s_iBadNeeded) := ⟨rfl, rfl, rfl, by decide +kernel, rfl, by decide +kernel, by decide +kernel⟩
theorem ok_iBadNeeded {f C : Addr} {fd : FuncData} (F : Fun K "__init__" "BadNeeded.__init__" s_iBadNeeded f fd) (B : BaseE K mg "CubeError") (T : OexC K C) (hno : PySem.W.findIn K (.ref C) "index" = some none) : FnOk P w K mg base (L2.CX P w) 1 f fd ["self", "index"] (spI1 K C "index") := by
  refine F.okX sc_iBadNeeded (fun vs H Q E h => ?_) (fun cdv A outer s H vs Q E hr h => ?_)
  · obtain ⟨a, v, rfl, _⟩ := h; rfl
  · obtain ⟨a, v, rfl, e, hf, q⟩ := h
    refine ⟨_, pss_cons (ps_expr (pe_cinit B rfl (pa_cons (pv 0) (pa_cons (pe_joined (.cons pe_str (.cons (pe_fmtA hr (pv 1)) .nil))) pa_nil)))) (pss_one (ps_ost (pv 0) (pv 1))), ?_⟩
    refine ⟨.ref a, rfl, _, rfl, by decide +kernel, v, rfl, hf, fun m hm => ⟨m, rfl, ?_, a, C, _, rfl, by show 1 ≤ 1000; decide, T, e, v, rfl, .ref a, rfl, a, C, rfl, T, hno, .inl ⟨e, fun dx n ne => q dx n ne⟩⟩⟩
    rw [sizeLine_eq]
    have e2 : ((Str.empty ++ "wrong needed numbers, index " : Str) ++ m).length = (Str.empty ++ "wrong needed numbers, index " : Str).length + m.length := Str.length_append _ _
    have e3 : (Str.empty ++ "wrong needed numbers, index " : Str).length = 28 := by decide +kernel
    omega
abbrev s_iBadNumber : Stmt := inClass (top 8) 0
theorem sc_iBadNumber : FnScope ["self"] ["self"] (defScope s_iBadNumber) := ⟨rfl, rfl, rfl, by decide +kernel, rfl, by decide +kernel, by decide +kernel⟩
theorem ok_iBadNumber {f C : Addr} {fd : FuncData} (F : Fun K "__init__" "BadNumber.__init__" s_iBadNumber f fd) (B : BaseE K mg "CubeError") (T : OexC K C) : FnOk P w K mg base (L2.CX P w) 1 f fd ["self"] (spI0 C) := by
  refine F.okX sc_iBadNumber (fun vs H Q E h => ?_) (fun cdv A outer s H vs Q E hr h => ?_)
  · obtain ⟨a, rfl, _⟩ := h; rfl
  · obtain ⟨a, rfl, e, q⟩ := h
    exact ⟨_, pss_one (ps_expr (pe_cinit B rfl (pa_cons (pv 0) (pa_cons pe_str pa_nil)))), .ref a, rfl, a, C, _, rfl, by decide, T, e, q⟩
abbrev s_iTooMany : Stmt := inClass (top 9) 0
theorem sc_iTooMany : FnScope ["self"] ["self"] (defScope s_iTooMany) := ⟨rfl, rfl, rfl, by decide +kernel, rfl, by decide +kernel, by decide +kernel⟩
theorem ok_iTooMany {f C : Addr} {fd : FuncData} (F : Fun K "__init__" "TooMany.__init__" s_iTooMany f fd) (B : BaseE K mg "CubeError") (T : OexC K C) : FnOk P w K mg base (L2.CX P w) 1 f fd ["self"] (spI0 C) := by
  refine F.okX sc_iTooMany (fun vs H Q E h => ?_) (fun cdv A outer s H vs Q E hr h => ?_)
  · obtain ⟨a, rfl, _⟩ := h; rfl
  · obtain ⟨a, rfl, e, q⟩ := h
    exact ⟨_, pss_one (ps_expr (pe_cinit B rfl (pa_cons (pv 0) (pa_cons pe_str pa_nil)))), .ref a, rfl, a, C, _, rfl, by decide, T, e, q⟩
abbrev s_iBadSeen : Stmt := inClass (top 10) 0
theorem sc_iBadSeen : FnScope ["self", "index"] ["self", "index"] (defScope s_iBadSeen) := ⟨rfl, rfl, rfl, by decide +kernel, rfl, by decide +kernel, by decide +kernel⟩
theorem ok_iBadSeen {f C : Addr} {fd : FuncData} (F : Fun K "__init__" "BadSeen.__init__" s_iBadSeen f fd) (B : BaseE K mg "CubeError") (T : OexC K C) (hno : PySem.W.findIn K (.ref C) "index" = some none) : FnOk P w K mg base (L2.CX P w) 1 f fd ["self", "index"] (spI1 K C "index") := by
  refine F.okX sc_iBadSeen (fun vs H Q E h => ?_) (fun cdv A outer s H vs Q E hr h => ?_)
  · obtain ⟨a, v, rfl, _⟩ := h; rfl
  · obtain ⟨a, v, rfl, e, hf, q⟩ := h
    refine ⟨_, pss_cons (ps_expr (pe_cinit B rfl (pa_cons (pv 0) (pa_cons (pe_joined (.cons pe_str (.cons (pe_fmtA hr (pv 1)) .nil))) pa_nil)))) (pss_one (ps_ost (pv 0) (pv 1))), ?_⟩
    refine ⟨.ref a, rfl, _, rfl, by decide +kernel, v, rfl, hf, fun m hm => ⟨m, rfl, ?_, a, C, _, rfl, by show 1 ≤ 1000; decide, T, e, v, rfl, .ref a, rfl, a, C, rfl, T, hno, .inl ⟨e, fun dx n ne => q dx n ne⟩⟩⟩
    rw [sizeLine_eq]
    have e2 : ((Str.empty ++ "wrong things seen, index " : Str) ++ m).length = (Str.empty ++ "wrong things seen, index " : Str).length + m.length := Str.length_append _ _
    have e3 : (Str.empty ++ "wrong things seen, index " : Str).length = 25 := by decide +kernel
    omega
abbrev s_iBadWays : Stmt := inClass (top 11) 0
theorem sc_iBadWays : FnScope ["self", "index"] ["self", "index"] (defScope s_iBadWays) := ⟨rfl, rfl, rfl, by decide +kernel, rfl, by decide +kernel, by decide +kernel⟩
theorem ok_iBadWays {f C : Addr} {fd : FuncData} (F : Fun K "__init__" "BadWays.__init__" s_iBadWays f fd) (B : BaseE K mg "CubeError") (T : OexC K C) (hno : PySem.W.findIn K (.ref C) "index" = some none) : FnOk P w K mg base (L2.CX P w) 1 f fd ["self", "index"] (spI1 K C "index") := by
  refine F.okX sc_iBadWays (fun vs H Q E h => ?_) (fun cdv A outer s H vs Q E hr h => ?_)
  · obtain ⟨a, v, rfl, _⟩ := h; rfl
  · obtain ⟨a, v, rfl, e, hf, q⟩ := h
    refine ⟨_, pss_cons (ps_expr (pe_cinit B rfl (pa_cons (pv 0) (pa_cons (pe_joined (.cons pe_str (.cons (pe_fmtA hr (pv 1)) .nil))) pa_nil)))) (pss_one (ps_ost (pv 0) (pv 1))), ?_⟩
    refine ⟨.ref a, rfl, _, rfl, by decide +kernel, v, rfl, hf, fun m hm => ⟨m, rfl, ?_, a, C, _, rfl, by show 1 ≤ 1000; decide, T, e, v, rfl, .ref a, rfl, a, C, rfl, T, hno, .inl ⟨e, fun dx n ne => q dx n ne⟩⟩⟩
    rw [sizeLine_eq]
    have e2 : ((Str.empty ++ "wrong ways, index " : Str) ++ m).length = (Str.empty ++ "wrong ways, index " : Str).length + m.length := Str.length_append _ _
    have e3 : (Str.empty ++ "wrong ways, index " : Str).length = 18 := by decide +kernel
    omega
abbrev s_iNotShown : Stmt := inClass (top 12) 0
theorem sc_iNotShown : FnScope ["self"] ["self"] (defScope s_iNotShown) := ⟨rfl, rfl, rfl, by decide +kernel, rfl, by decide +kernel, by decide +kernel⟩
theorem ok_iNotShown {f C : Addr} {fd : FuncData} (F : Fun K "__init__" "NotShown.__init__" s_iNotShown f fd) (B : BaseE K mg "CubeError") (T : OexC K C) : FnOk P w K mg base (L2.CX P w) 1 f fd ["self"] (spI0 C) := by
  refine F.okX sc_iNotShown (fun vs H Q E h => ?_) (fun cdv A outer s H vs Q E hr h => ?_)
  · obtain ⟨a, rfl, _⟩ := h; rfl
  · obtain ⟨a, rfl, e, q⟩ := h
    exact ⟨_, pss_one (ps_expr (pe_cinit B rfl (pa_cons (pv 0) (pa_cons pe_str pa_nil)))), .ref a, rfl, a, C, _, rfl, by decide, T, e, q⟩
abbrev s_iBadText : Stmt := inClass (top 13) 0
theorem sc_iBadText : FnScope ["self", "word"] ["self", "word"] (defScope s_iBadText) := ⟨rfl, rfl, rfl, by decide +kernel, rfl, by decide +kernel, by decide +kernel⟩
theorem ok_iBadText {f C : Addr} {fd : FuncData} (F : Fun K "__init__" "BadText.__init__" s_iBadText f fd) (B : BaseE K mg "CubeError") (T : OexC K C) (hno : PySem.W.findIn K (.ref C) "word" = some none) : FnOk P w K mg base (L2.CX P w) 1 f fd ["self", "word"] (spI1 K C "word") := by
  refine F.okX sc_iBadText (fun vs H Q E h => ?_) (fun cdv A outer s H vs Q E hr h => ?_)
  · obtain ⟨a, v, rfl, _⟩ := h; rfl
  · obtain ⟨a, v, rfl, e, hf, q⟩ := h
    refine ⟨_, pss_cons (ps_expr (pe_cinit B rfl (pa_cons (pv 0) (pa_cons (pe_joined (.cons pe_str (.cons (pe_fmtA hr (pv 1)) .nil))) pa_nil)))) (pss_one (ps_ost (pv 0) (pv 1))), ?_⟩
    refine ⟨.ref a, rfl, _, rfl, by decide +kernel, v, rfl, hf, fun m hm => ⟨m, rfl, ?_, a, C, _, rfl, by show 1 ≤ 1000; decide, T, e, v, rfl, .ref a, rfl, a, C, rfl, T, hno, .inl ⟨e, fun dx n ne => q dx n ne⟩⟩⟩
    rw [sizeLine_eq]
    have e2 : ((Str.empty ++ "no text of a set, word " : Str) ++ m).length = (Str.empty ++ "no text of a set, word " : Str).length + m.length := Str.length_append _ _
    have e3 : (Str.empty ++ "no text of a set, word " : Str).length = 23 := by decide +kernel
    omega
end K18

namespace K18
open PySem PySem.Spec PyProof.Rows L2 L3 Q
variable {P : Program} {w : World} {K : PySem.W.Frag} {mg : Str → Option Value} {base : Heap} {C_Set C_CubeError C_BadCubes C_BadTurns C_BadFigures C_BadWidth C_BadRange C_BadNeeded C_BadNumber C_TooMany C_BadSeen C_BadWays C_NotShown C_BadText : Addr}
abbrev s_lpick : Stmt := top 17
abbrev n_lpick : List Str := ["_law_d", "_law_items"]
theorem sc_lpick : FnScope n_lpick ["_law_d", "_law_items"] (defScope s_lpick) := ⟨rfl, rfl, rfl, by decide +kernel, rfl, by decide +kernel, by decide +kernel⟩
theorem ok_lpick {f : Addr} {fd : FuncData} (F : Fun K "_law_pick" "_law_pick" s_lpick f fd) (T : TxtX K mg P w base C_CubeError C_BadCubes C_BadTurns C_BadFigures C_BadWidth C_BadRange C_BadNeeded C_BadNumber C_TooMany C_BadSeen C_BadWays C_NotShown C_BadText) (c_lbelow : Cal P w K mg base "_law_below" 1 2 gBelow) : FnOk P w K mg base (L2.CX P w) 2 f fd ["_law_d", "_law_items"] (spD K 2 gPick) := by
  refine def_ok (k := 1) (N := n_lpick) F sc_lpick rfl (by decide) (fun cdv A outer s H E hr => by exact (s_one (s_ret (e_ix (ev 1) (e_cal c_lbelow (hr.mono (by decide)) rfl passX (a_cons (ev 0) (a_cons (e_callB cr_len cd_len rfl T.b_len (by decide +kernel) (a_cons (ev 1) a_nil)) a_nil))) (fun _ _ => rfl))))) (fun ds P Z hl h => ?_)
  obtain ⟨xs, rfl, hx, hl2, hp⟩ := h
  have hn : 0 < xs.length := by cases xs with
    | nil => exact absurd rfl hx
    | cons _ _ => exact Nat.succ_pos _
  refine ⟨_, rfl, _, rfl, _, rfl, gl_l ⟨rfl, _, rfl, by omega, by omega, fun k h0 h1 => ?_⟩⟩
  obtain ⟨i, rfl⟩ : ∃ i : Nat, k = i := ⟨k.toNat, by omega⟩
  have hi : i < xs.length := by omega
  exact gx_l (atI_nat (List.getElem?_eq_getElem hi)) (hp _ (List.getElem_mem hi))
abbrev s_lone : Stmt := top 18
abbrev n_lone : List Str := ["_law_d", "_law_one_here", "_law_kind", "_law_error"]
theorem sc_lone : FnScope n_lone ["_law_d"] (defScope s_lone) := ⟨rfl, rfl, rfl, by decide +kernel, rfl, by decide +kernel, by decide +kernel⟩
theorem ok_lone {f : Addr} {fd : FuncData} (F : Fun K "_law_one" "_law_one" s_lone f fd) (T : TxtX K mg P w base C_CubeError C_BadCubes C_BadTurns C_BadFigures C_BadWidth C_BadRange C_BadNeeded C_BadNumber C_TooMany C_BadSeen C_BadWays C_NotShown C_BadText) (x_BadCubes : Err P w K mg base "BadCubes" C_BadCubes (some "index")) (x_BadNeeded : Err P w K mg base "BadNeeded" C_BadNeeded (some "index")) (x_BadSeen : Err P w K mg base "BadSeen" C_BadSeen (some "index")) (x_BadText : Err P w K mg base "BadText" C_BadText (some "word")) (x_BadWays : Err P w K mg base "BadWays" C_BadWays (some "index")) (c_lbelow : Cal P w K mg base "_law_below" 1 2 gBelow) (c_lpick : Cal P w K mg base "_law_pick" 2 2 gPick) : FnOk P w K mg base (L2.CX P w) 3 f fd ["_law_d"] (spD K 1 (gOne C_BadCubes C_BadNeeded C_BadSeen C_BadWays C_BadText)) := by
  refine def_ok (k := 2) (N := n_lone) F sc_lone rfl (by decide) (fun cdv A outer s H E hr => by exact (s_cons (s_par (i := 1) (j := 2) rfl sc_lone.nd rfl rfl (by decide) rfl rfl (a_cons (e_cal c_lpick (hr.mono (by decide)) rfl passX (a_cons (ev 0) (a_cons (e_lst (a_cons e_int (a_cons (e_neg e_int) (a_cons e_non (a_cons e_str (a_cons (e_tup a_nil) a_nil)))))) a_nil))) (a_cons (e_cal c_lbelow (hr.mono (by decide)) rfl passX (a_cons (ev 0) (a_cons e_int a_nil))) a_nil)) (by rfl))
      (s_cons (s_if (t_cmp (op_eqD hr.units) od_eq (ev 2) e_int (nomark _))
      (s_cons (s_set (i := 3) sc_lone.nd rfl (Or.inl rfl) (e_exc1 x_BadCubes (hr.mono (by decide)) rfl (ev 1)))
      (s_one (s_ret (e_tup (a_cons (ev 3) (a_cons (e_cmp (op_eqD hr.units) od_eq (e_excF (K := K) (ev 3)) (ev 1) (nomark _)) a_nil))))))
      s_nil)
      (s_cons (s_if (t_cmp (op_eqD hr.units) od_eq (ev 2) e_int (nomark _))
      (s_cons (s_set (i := 3) sc_lone.nd rfl (Or.inl rfl) (e_exc1 x_BadNeeded (hr.mono (by decide)) rfl (ev 1)))
      (s_one (s_ret (e_tup (a_cons (ev 3) (a_cons (e_cmp (op_eqD hr.units) od_eq (e_excF (K := K) (ev 3)) (ev 1) (nomark _)) a_nil))))))
      s_nil)
      (s_cons (s_if (t_cmp (op_eqD hr.units) od_eq (ev 2) e_int (nomark _))
      (s_cons (s_set (i := 3) sc_lone.nd rfl (Or.inl rfl) (e_exc1 x_BadSeen (hr.mono (by decide)) rfl (ev 1)))
      (s_one (s_ret (e_tup (a_cons (ev 3) (a_cons (e_cmp (op_eqD hr.units) od_eq (e_excF (K := K) (ev 3)) (ev 1) (nomark _)) a_nil))))))
      s_nil)
      (s_cons (s_if (t_cmp (op_eqD hr.units) od_eq (ev 2) e_int (nomark _))
      (s_cons (s_set (i := 3) sc_lone.nd rfl (Or.inl rfl) (e_exc1 x_BadWays (hr.mono (by decide)) rfl (ev 1)))
      (s_one (s_ret (e_tup (a_cons (ev 3) (a_cons (e_cmp (op_eqD hr.units) od_eq (e_excF (K := K) (ev 3)) (ev 1) (nomark _)) a_nil))))))
      s_nil)
      (s_cons (s_set (i := 3) sc_lone.nd rfl (Or.inl rfl) (e_exc1 x_BadText (hr.mono (by decide)) rfl (ev 1)))
      (s_one (s_ret (e_tup (a_cons (ev 3) (a_cons (e_cmp (op_eqD hr.units) od_eq (e_excF (K := K) (ev 3)) (ev 1) (nomark _)) a_nil)))))))))))) (fun ds P Z hl h => ?_)
  obtain ⟨rfl, hp⟩ := h
  refine ⟨_, rfl, gneg ⟨szz rfl, szz rfl, rfl, _, rfl, List.cons_ne_nil _ _, Nat.le_of_ble_eq_true rfl, fun x hx => ?_⟩⟩
  obtain ⟨v1, v2, v3⟩ := vals_ok x hx
  obtain ⟨p1, p2, p3, p4, p5⟩ := hp x hx
  refine ⟨_, rfl, rfl, 5, rfl, by decide, by decide, fun k hk0 hk1 => ⟨_, _, rfl, ?_⟩⟩
  refine ⟨_, rfl, okI, okI, _, rfl, ?_⟩
  rw [eqI]
  by_cases h0 : k = 0
  · exact if_so (decide_eq_true h0) ⟨_, rfl, v1, _, rfl, _, rfl, rfl, T.f_BadCubes.1, T.f_BadCubes.2, _, rfl, v2, v2, szz rfl, by rw [v3]; exact p1⟩
  refine if_no (decide_eq_false h0) ?_
  refine ⟨_, rfl, okI, okI, _, rfl, ?_⟩
  rw [eqI]
  by_cases h1 : k = 1
  · exact if_so (decide_eq_true h1) ⟨_, rfl, v1, _, rfl, _, rfl, rfl, T.f_BadNeeded.1, T.f_BadNeeded.2, _, rfl, v2, v2, szz rfl, by rw [v3]; exact p2⟩
  refine if_no (decide_eq_false h1) ?_
  refine ⟨_, rfl, okI, okI, _, rfl, ?_⟩
  rw [eqI]
  by_cases h2 : k = 2
  · exact if_so (decide_eq_true h2) ⟨_, rfl, v1, _, rfl, _, rfl, rfl, T.f_BadSeen.1, T.f_BadSeen.2, _, rfl, v2, v2, szz rfl, by rw [v3]; exact p3⟩
  refine if_no (decide_eq_false h2) ?_
  refine ⟨_, rfl, okI, okI, _, rfl, ?_⟩
  rw [eqI]
  by_cases h3 : k = 3
  · exact if_so (decide_eq_true h3) ⟨_, rfl, v1, _, rfl, _, rfl, rfl, T.f_BadWays.1, T.f_BadWays.2, _, rfl, v2, v2, szz rfl, by rw [v3]; exact p4⟩
  refine if_no (decide_eq_false h3) ?_
  exact ⟨_, rfl, v1, _, rfl, _, rfl, rfl, T.f_BadText.1, T.f_BadText.2, _, rfl, v2, v2, szz rfl, by rw [v3]; exact p5⟩
abbrev s_lclasses : Stmt := top 19
abbrev n_lclasses : List Str := ["_law_error", "_law_found", "_law_one_here"]
theorem sc_lclasses : FnScope n_lclasses ["_law_error"] (defScope s_lclasses) := ⟨rfl, rfl, rfl, by decide +kernel, rfl, by decide +kernel, by decide +kernel⟩
theorem ok_lclasses {f : Addr} {fd : FuncData} (F : Fun K "_law_classes" "_law_classes" s_lclasses f fd) (T : TxtX K mg P w base C_CubeError C_BadCubes C_BadTurns C_BadFigures C_BadWidth C_BadRange C_BadNeeded C_BadNumber C_TooMany C_BadSeen C_BadWays C_NotShown C_BadText)  : FnOk P w K mg base (L2.CX P w) 1 f fd ["_law_error"] (spD K 1 (gCls [C_BadCubes, C_BadTurns, C_BadFigures, C_BadWidth, C_BadRange, C_BadNeeded, C_BadNumber, C_TooMany, C_BadSeen, C_BadWays, C_NotShown, C_BadText])) := by
  refine def_ok (k := 0) (N := n_lclasses) F sc_lclasses rfl (by decide) (fun cdv A outer s H E hr => by exact (s_cons (s_set (i := 1) sc_lclasses.nd rfl (Or.inl rfl) (e_lst a_nil))
      (s_cons (s_set (i := 1) sc_lclasses.nd rfl (Or.inl rfl) (e_op or_add od_add (ev 1) (e_lst (a_cons (e_isX (K := K) rfl T.b_isinstance rfl T.m_BadCubes (ev 0)) (a_cons (e_isX (K := K) rfl T.b_isinstance rfl T.m_BadFigures (ev 0)) (a_cons (e_isX (K := K) rfl T.b_isinstance rfl T.m_BadNeeded (ev 0)) a_nil))))))
      (s_cons (s_set (i := 1) sc_lclasses.nd rfl (Or.inl rfl) (e_op or_add od_add (ev 1) (e_lst (a_cons (e_isX (K := K) rfl T.b_isinstance rfl T.m_BadNumber (ev 0)) (a_cons (e_isX (K := K) rfl T.b_isinstance rfl T.m_BadRange (ev 0)) (a_cons (e_isX (K := K) rfl T.b_isinstance rfl T.m_BadSeen (ev 0)) a_nil))))))
      (s_cons (s_set (i := 1) sc_lclasses.nd rfl (Or.inl rfl) (e_op or_add od_add (ev 1) (e_lst (a_cons (e_isX (K := K) rfl T.b_isinstance rfl T.m_BadText (ev 0)) (a_cons (e_isX (K := K) rfl T.b_isinstance rfl T.m_BadTurns (ev 0)) (a_cons (e_isX (K := K) rfl T.b_isinstance rfl T.m_BadWays (ev 0)) a_nil))))))
      (s_cons (s_set (i := 1) sc_lclasses.nd rfl (Or.inl rfl) (e_op or_add od_add (ev 1) (e_lst (a_cons (e_isX (K := K) rfl T.b_isinstance rfl T.m_BadWidth (ev 0)) (a_cons (e_isX (K := K) rfl T.b_isinstance rfl T.m_NotShown (ev 0)) (a_cons (e_isX (K := K) rfl T.b_isinstance rfl T.m_TooMany (ev 0)) a_nil))))))
      (s_one (s_ret (e_callB cr_len cd_len rfl T.b_len (by decide +kernel) (a_cons (e_lc (own := [("_law_one_here", 2)]) rfl sc_lclasses.nd (i_list (ev 1)) (blkOk_by (own := [("_law_one_here", 2)]) (N := n_lclasses) (sc := defScope s_lclasses) (by decide +kernel)) (gc_name 2 (by simp)) (fun _ _ _ _ _ => (pg_name (i := 2) sc_lclasses.nd rfl (Or.inl rfl))) (fun _ _ _ _ _ => (ts_one (t_truth (ev 2)))) (fun _ _ _ _ _ => (ev 2))) a_nil)))))))))) (fun ds P Z hl h => ?_)
  obtain ⟨C, ns, es, rfl, hC, hp⟩ := h
  simp only [List.mem_cons, List.not_mem_nil, or_false] at hC
  rcases hC with rfl | rfl | rfl | rfl | rfl | rfl | rfl | rfl | rfl | rfl | rfl | rfl
  · refine ⟨szz rfl, _, rfl, _, rfl, _, T.k_BadCubes_BadCubes, T.e_BadCubes, _, rfl, _, T.k_BadCubes_BadFigures, T.e_BadCubes, _, rfl, _, T.k_BadCubes_BadNeeded, T.e_BadCubes, szz rfl, ga_l (szz rfl) ⟨_, rfl, _, rfl, _, T.k_BadCubes_BadNumber, T.e_BadCubes, _, rfl, _, T.k_BadCubes_BadRange, T.e_BadCubes, _, rfl, _, T.k_BadCubes_BadSeen, T.e_BadCubes, szz rfl, ga_l (szz rfl) ⟨_, rfl, _, rfl, _, T.k_BadCubes_BadText, T.e_BadCubes, _, rfl, _, T.k_BadCubes_BadTurns, T.e_BadCubes, _, rfl, _, T.k_BadCubes_BadWays, T.e_BadCubes, szz rfl, ga_l (szz rfl) ⟨_, rfl, _, rfl, _, T.k_BadCubes_BadWidth, T.e_BadCubes, _, rfl, _, T.k_BadCubes_NotShown, T.e_BadCubes, _, rfl, _, T.k_BadCubes_TooMany, T.e_BadCubes, szz rfl, ga_l (szz rfl) ⟨_, rfl, gi_l ⟨szz rfl, lcD_bls [true, false, false, false, false, false, false, false, false, false, false, false] (fun b R S q => ⟨_, rfl, gb_b ?_⟩) (gl_l hp)⟩⟩⟩⟩⟩⟩
    cases b with
    | true => exact if_so rfl ⟨_, rfl, q⟩
    | false => exact if_no rfl q
  · refine ⟨szz rfl, _, rfl, _, rfl, _, T.k_BadTurns_BadCubes, T.e_BadTurns, _, rfl, _, T.k_BadTurns_BadFigures, T.e_BadTurns, _, rfl, _, T.k_BadTurns_BadNeeded, T.e_BadTurns, szz rfl, ga_l (szz rfl) ⟨_, rfl, _, rfl, _, T.k_BadTurns_BadNumber, T.e_BadTurns, _, rfl, _, T.k_BadTurns_BadRange, T.e_BadTurns, _, rfl, _, T.k_BadTurns_BadSeen, T.e_BadTurns, szz rfl, ga_l (szz rfl) ⟨_, rfl, _, rfl, _, T.k_BadTurns_BadText, T.e_BadTurns, _, rfl, _, T.k_BadTurns_BadTurns, T.e_BadTurns, _, rfl, _, T.k_BadTurns_BadWays, T.e_BadTurns, szz rfl, ga_l (szz rfl) ⟨_, rfl, _, rfl, _, T.k_BadTurns_BadWidth, T.e_BadTurns, _, rfl, _, T.k_BadTurns_NotShown, T.e_BadTurns, _, rfl, _, T.k_BadTurns_TooMany, T.e_BadTurns, szz rfl, ga_l (szz rfl) ⟨_, rfl, gi_l ⟨szz rfl, lcD_bls [false, false, false, false, false, false, false, true, false, false, false, false] (fun b R S q => ⟨_, rfl, gb_b ?_⟩) (gl_l hp)⟩⟩⟩⟩⟩⟩
    cases b with
    | true => exact if_so rfl ⟨_, rfl, q⟩
    | false => exact if_no rfl q
  · refine ⟨szz rfl, _, rfl, _, rfl, _, T.k_BadFigures_BadCubes, T.e_BadFigures, _, rfl, _, T.k_BadFigures_BadFigures, T.e_BadFigures, _, rfl, _, T.k_BadFigures_BadNeeded, T.e_BadFigures, szz rfl, ga_l (szz rfl) ⟨_, rfl, _, rfl, _, T.k_BadFigures_BadNumber, T.e_BadFigures, _, rfl, _, T.k_BadFigures_BadRange, T.e_BadFigures, _, rfl, _, T.k_BadFigures_BadSeen, T.e_BadFigures, szz rfl, ga_l (szz rfl) ⟨_, rfl, _, rfl, _, T.k_BadFigures_BadText, T.e_BadFigures, _, rfl, _, T.k_BadFigures_BadTurns, T.e_BadFigures, _, rfl, _, T.k_BadFigures_BadWays, T.e_BadFigures, szz rfl, ga_l (szz rfl) ⟨_, rfl, _, rfl, _, T.k_BadFigures_BadWidth, T.e_BadFigures, _, rfl, _, T.k_BadFigures_NotShown, T.e_BadFigures, _, rfl, _, T.k_BadFigures_TooMany, T.e_BadFigures, szz rfl, ga_l (szz rfl) ⟨_, rfl, gi_l ⟨szz rfl, lcD_bls [false, true, false, false, false, false, false, false, false, false, false, false] (fun b R S q => ⟨_, rfl, gb_b ?_⟩) (gl_l hp)⟩⟩⟩⟩⟩⟩
    cases b with
    | true => exact if_so rfl ⟨_, rfl, q⟩
    | false => exact if_no rfl q
  · refine ⟨szz rfl, _, rfl, _, rfl, _, T.k_BadWidth_BadCubes, T.e_BadWidth, _, rfl, _, T.k_BadWidth_BadFigures, T.e_BadWidth, _, rfl, _, T.k_BadWidth_BadNeeded, T.e_BadWidth, szz rfl, ga_l (szz rfl) ⟨_, rfl, _, rfl, _, T.k_BadWidth_BadNumber, T.e_BadWidth, _, rfl, _, T.k_BadWidth_BadRange, T.e_BadWidth, _, rfl, _, T.k_BadWidth_BadSeen, T.e_BadWidth, szz rfl, ga_l (szz rfl) ⟨_, rfl, _, rfl, _, T.k_BadWidth_BadText, T.e_BadWidth, _, rfl, _, T.k_BadWidth_BadTurns, T.e_BadWidth, _, rfl, _, T.k_BadWidth_BadWays, T.e_BadWidth, szz rfl, ga_l (szz rfl) ⟨_, rfl, _, rfl, _, T.k_BadWidth_BadWidth, T.e_BadWidth, _, rfl, _, T.k_BadWidth_NotShown, T.e_BadWidth, _, rfl, _, T.k_BadWidth_TooMany, T.e_BadWidth, szz rfl, ga_l (szz rfl) ⟨_, rfl, gi_l ⟨szz rfl, lcD_bls [false, false, false, false, false, false, false, false, false, true, false, false] (fun b R S q => ⟨_, rfl, gb_b ?_⟩) (gl_l hp)⟩⟩⟩⟩⟩⟩
    cases b with
    | true => exact if_so rfl ⟨_, rfl, q⟩
    | false => exact if_no rfl q
  · refine ⟨szz rfl, _, rfl, _, rfl, _, T.k_BadRange_BadCubes, T.e_BadRange, _, rfl, _, T.k_BadRange_BadFigures, T.e_BadRange, _, rfl, _, T.k_BadRange_BadNeeded, T.e_BadRange, szz rfl, ga_l (szz rfl) ⟨_, rfl, _, rfl, _, T.k_BadRange_BadNumber, T.e_BadRange, _, rfl, _, T.k_BadRange_BadRange, T.e_BadRange, _, rfl, _, T.k_BadRange_BadSeen, T.e_BadRange, szz rfl, ga_l (szz rfl) ⟨_, rfl, _, rfl, _, T.k_BadRange_BadText, T.e_BadRange, _, rfl, _, T.k_BadRange_BadTurns, T.e_BadRange, _, rfl, _, T.k_BadRange_BadWays, T.e_BadRange, szz rfl, ga_l (szz rfl) ⟨_, rfl, _, rfl, _, T.k_BadRange_BadWidth, T.e_BadRange, _, rfl, _, T.k_BadRange_NotShown, T.e_BadRange, _, rfl, _, T.k_BadRange_TooMany, T.e_BadRange, szz rfl, ga_l (szz rfl) ⟨_, rfl, gi_l ⟨szz rfl, lcD_bls [false, false, false, false, true, false, false, false, false, false, false, false] (fun b R S q => ⟨_, rfl, gb_b ?_⟩) (gl_l hp)⟩⟩⟩⟩⟩⟩
    cases b with
    | true => exact if_so rfl ⟨_, rfl, q⟩
    | false => exact if_no rfl q
  · refine ⟨szz rfl, _, rfl, _, rfl, _, T.k_BadNeeded_BadCubes, T.e_BadNeeded, _, rfl, _, T.k_BadNeeded_BadFigures, T.e_BadNeeded, _, rfl, _, T.k_BadNeeded_BadNeeded, T.e_BadNeeded, szz rfl, ga_l (szz rfl) ⟨_, rfl, _, rfl, _, T.k_BadNeeded_BadNumber, T.e_BadNeeded, _, rfl, _, T.k_BadNeeded_BadRange, T.e_BadNeeded, _, rfl, _, T.k_BadNeeded_BadSeen, T.e_BadNeeded, szz rfl, ga_l (szz rfl) ⟨_, rfl, _, rfl, _, T.k_BadNeeded_BadText, T.e_BadNeeded, _, rfl, _, T.k_BadNeeded_BadTurns, T.e_BadNeeded, _, rfl, _, T.k_BadNeeded_BadWays, T.e_BadNeeded, szz rfl, ga_l (szz rfl) ⟨_, rfl, _, rfl, _, T.k_BadNeeded_BadWidth, T.e_BadNeeded, _, rfl, _, T.k_BadNeeded_NotShown, T.e_BadNeeded, _, rfl, _, T.k_BadNeeded_TooMany, T.e_BadNeeded, szz rfl, ga_l (szz rfl) ⟨_, rfl, gi_l ⟨szz rfl, lcD_bls [false, false, true, false, false, false, false, false, false, false, false, false] (fun b R S q => ⟨_, rfl, gb_b ?_⟩) (gl_l hp)⟩⟩⟩⟩⟩⟩
    cases b with
    | true => exact if_so rfl ⟨_, rfl, q⟩
    | false => exact if_no rfl q
  · refine ⟨szz rfl, _, rfl, _, rfl, _, T.k_BadNumber_BadCubes, T.e_BadNumber, _, rfl, _, T.k_BadNumber_BadFigures, T.e_BadNumber, _, rfl, _, T.k_BadNumber_BadNeeded, T.e_BadNumber, szz rfl, ga_l (szz rfl) ⟨_, rfl, _, rfl, _, T.k_BadNumber_BadNumber, T.e_BadNumber, _, rfl, _, T.k_BadNumber_BadRange, T.e_BadNumber, _, rfl, _, T.k_BadNumber_BadSeen, T.e_BadNumber, szz rfl, ga_l (szz rfl) ⟨_, rfl, _, rfl, _, T.k_BadNumber_BadText, T.e_BadNumber, _, rfl, _, T.k_BadNumber_BadTurns, T.e_BadNumber, _, rfl, _, T.k_BadNumber_BadWays, T.e_BadNumber, szz rfl, ga_l (szz rfl) ⟨_, rfl, _, rfl, _, T.k_BadNumber_BadWidth, T.e_BadNumber, _, rfl, _, T.k_BadNumber_NotShown, T.e_BadNumber, _, rfl, _, T.k_BadNumber_TooMany, T.e_BadNumber, szz rfl, ga_l (szz rfl) ⟨_, rfl, gi_l ⟨szz rfl, lcD_bls [false, false, false, true, false, false, false, false, false, false, false, false] (fun b R S q => ⟨_, rfl, gb_b ?_⟩) (gl_l hp)⟩⟩⟩⟩⟩⟩
    cases b with
    | true => exact if_so rfl ⟨_, rfl, q⟩
    | false => exact if_no rfl q
  · refine ⟨szz rfl, _, rfl, _, rfl, _, T.k_TooMany_BadCubes, T.e_TooMany, _, rfl, _, T.k_TooMany_BadFigures, T.e_TooMany, _, rfl, _, T.k_TooMany_BadNeeded, T.e_TooMany, szz rfl, ga_l (szz rfl) ⟨_, rfl, _, rfl, _, T.k_TooMany_BadNumber, T.e_TooMany, _, rfl, _, T.k_TooMany_BadRange, T.e_TooMany, _, rfl, _, T.k_TooMany_BadSeen, T.e_TooMany, szz rfl, ga_l (szz rfl) ⟨_, rfl, _, rfl, _, T.k_TooMany_BadText, T.e_TooMany, _, rfl, _, T.k_TooMany_BadTurns, T.e_TooMany, _, rfl, _, T.k_TooMany_BadWays, T.e_TooMany, szz rfl, ga_l (szz rfl) ⟨_, rfl, _, rfl, _, T.k_TooMany_BadWidth, T.e_TooMany, _, rfl, _, T.k_TooMany_NotShown, T.e_TooMany, _, rfl, _, T.k_TooMany_TooMany, T.e_TooMany, szz rfl, ga_l (szz rfl) ⟨_, rfl, gi_l ⟨szz rfl, lcD_bls [false, false, false, false, false, false, false, false, false, false, false, true] (fun b R S q => ⟨_, rfl, gb_b ?_⟩) (gl_l hp)⟩⟩⟩⟩⟩⟩
    cases b with
    | true => exact if_so rfl ⟨_, rfl, q⟩
    | false => exact if_no rfl q
  · refine ⟨szz rfl, _, rfl, _, rfl, _, T.k_BadSeen_BadCubes, T.e_BadSeen, _, rfl, _, T.k_BadSeen_BadFigures, T.e_BadSeen, _, rfl, _, T.k_BadSeen_BadNeeded, T.e_BadSeen, szz rfl, ga_l (szz rfl) ⟨_, rfl, _, rfl, _, T.k_BadSeen_BadNumber, T.e_BadSeen, _, rfl, _, T.k_BadSeen_BadRange, T.e_BadSeen, _, rfl, _, T.k_BadSeen_BadSeen, T.e_BadSeen, szz rfl, ga_l (szz rfl) ⟨_, rfl, _, rfl, _, T.k_BadSeen_BadText, T.e_BadSeen, _, rfl, _, T.k_BadSeen_BadTurns, T.e_BadSeen, _, rfl, _, T.k_BadSeen_BadWays, T.e_BadSeen, szz rfl, ga_l (szz rfl) ⟨_, rfl, _, rfl, _, T.k_BadSeen_BadWidth, T.e_BadSeen, _, rfl, _, T.k_BadSeen_NotShown, T.e_BadSeen, _, rfl, _, T.k_BadSeen_TooMany, T.e_BadSeen, szz rfl, ga_l (szz rfl) ⟨_, rfl, gi_l ⟨szz rfl, lcD_bls [false, false, false, false, false, true, false, false, false, false, false, false] (fun b R S q => ⟨_, rfl, gb_b ?_⟩) (gl_l hp)⟩⟩⟩⟩⟩⟩
    cases b with
    | true => exact if_so rfl ⟨_, rfl, q⟩
    | false => exact if_no rfl q
  · refine ⟨szz rfl, _, rfl, _, rfl, _, T.k_BadWays_BadCubes, T.e_BadWays, _, rfl, _, T.k_BadWays_BadFigures, T.e_BadWays, _, rfl, _, T.k_BadWays_BadNeeded, T.e_BadWays, szz rfl, ga_l (szz rfl) ⟨_, rfl, _, rfl, _, T.k_BadWays_BadNumber, T.e_BadWays, _, rfl, _, T.k_BadWays_BadRange, T.e_BadWays, _, rfl, _, T.k_BadWays_BadSeen, T.e_BadWays, szz rfl, ga_l (szz rfl) ⟨_, rfl, _, rfl, _, T.k_BadWays_BadText, T.e_BadWays, _, rfl, _, T.k_BadWays_BadTurns, T.e_BadWays, _, rfl, _, T.k_BadWays_BadWays, T.e_BadWays, szz rfl, ga_l (szz rfl) ⟨_, rfl, _, rfl, _, T.k_BadWays_BadWidth, T.e_BadWays, _, rfl, _, T.k_BadWays_NotShown, T.e_BadWays, _, rfl, _, T.k_BadWays_TooMany, T.e_BadWays, szz rfl, ga_l (szz rfl) ⟨_, rfl, gi_l ⟨szz rfl, lcD_bls [false, false, false, false, false, false, false, false, true, false, false, false] (fun b R S q => ⟨_, rfl, gb_b ?_⟩) (gl_l hp)⟩⟩⟩⟩⟩⟩
    cases b with
    | true => exact if_so rfl ⟨_, rfl, q⟩
    | false => exact if_no rfl q
  · refine ⟨szz rfl, _, rfl, _, rfl, _, T.k_NotShown_BadCubes, T.e_NotShown, _, rfl, _, T.k_NotShown_BadFigures, T.e_NotShown, _, rfl, _, T.k_NotShown_BadNeeded, T.e_NotShown, szz rfl, ga_l (szz rfl) ⟨_, rfl, _, rfl, _, T.k_NotShown_BadNumber, T.e_NotShown, _, rfl, _, T.k_NotShown_BadRange, T.e_NotShown, _, rfl, _, T.k_NotShown_BadSeen, T.e_NotShown, szz rfl, ga_l (szz rfl) ⟨_, rfl, _, rfl, _, T.k_NotShown_BadText, T.e_NotShown, _, rfl, _, T.k_NotShown_BadTurns, T.e_NotShown, _, rfl, _, T.k_NotShown_BadWays, T.e_NotShown, szz rfl, ga_l (szz rfl) ⟨_, rfl, _, rfl, _, T.k_NotShown_BadWidth, T.e_NotShown, _, rfl, _, T.k_NotShown_NotShown, T.e_NotShown, _, rfl, _, T.k_NotShown_TooMany, T.e_NotShown, szz rfl, ga_l (szz rfl) ⟨_, rfl, gi_l ⟨szz rfl, lcD_bls [false, false, false, false, false, false, false, false, false, false, true, false] (fun b R S q => ⟨_, rfl, gb_b ?_⟩) (gl_l hp)⟩⟩⟩⟩⟩⟩
    cases b with
    | true => exact if_so rfl ⟨_, rfl, q⟩
    | false => exact if_no rfl q
  · refine ⟨szz rfl, _, rfl, _, rfl, _, T.k_BadText_BadCubes, T.e_BadText, _, rfl, _, T.k_BadText_BadFigures, T.e_BadText, _, rfl, _, T.k_BadText_BadNeeded, T.e_BadText, szz rfl, ga_l (szz rfl) ⟨_, rfl, _, rfl, _, T.k_BadText_BadNumber, T.e_BadText, _, rfl, _, T.k_BadText_BadRange, T.e_BadText, _, rfl, _, T.k_BadText_BadSeen, T.e_BadText, szz rfl, ga_l (szz rfl) ⟨_, rfl, _, rfl, _, T.k_BadText_BadText, T.e_BadText, _, rfl, _, T.k_BadText_BadTurns, T.e_BadText, _, rfl, _, T.k_BadText_BadWays, T.e_BadText, szz rfl, ga_l (szz rfl) ⟨_, rfl, _, rfl, _, T.k_BadText_BadWidth, T.e_BadText, _, rfl, _, T.k_BadText_NotShown, T.e_BadText, _, rfl, _, T.k_BadText_TooMany, T.e_BadText, szz rfl, ga_l (szz rfl) ⟨_, rfl, gi_l ⟨szz rfl, lcD_bls [false, false, false, false, false, false, true, false, false, false, false, false] (fun b R S q => ⟨_, rfl, gb_b ?_⟩) (gl_l hp)⟩⟩⟩⟩⟩⟩
    cases b with
    | true => exact if_so rfl ⟨_, rfl, q⟩
    | false => exact if_no rfl q
end K18

namespace K18
open PySem PySem.Spec PyProof.Rows L2 L3 Q
variable {P : Program} {w : World} {K : PySem.W.Frag} {mg : Str → Option Value} {base : Heap} {C_Set C_CubeError C_BadCubes C_BadTurns C_BadFigures C_BadWidth C_BadRange C_BadNeeded C_BadNumber C_TooMany C_BadSeen C_BadWays C_NotShown C_BadText : Addr}
abbrev s_law : Stmt := top 20
abbrev n_law : List Str := ["_law_script", "_law_d", "_law_turn", "_law_error", "_law_is_right", "_law_errors", "_law_one_here"]
theorem sc_law : FnScope n_law ["_law_script"] (defScope s_law) := ⟨rfl, rfl, rfl, by decide +kernel, rfl, by decide +kernel, by decide +kernel⟩
theorem ok_law {f fR : Addr} {fd fdR : FuncData} (F : Fun K "law" "law" s_law f fd) (T : TxtX K mg P w base C_CubeError C_BadCubes C_BadTurns C_BadFigures C_BadWidth C_BadRange C_BadNeeded C_BadNumber C_TooMany C_BadSeen C_BadWays C_NotShown C_BadText) (FR : FnOk P w K mg base (L2.CX P w) 1 fR fdR ["_law_script", "_law_salt"] (spRandom K)) (mR : mg "_law_random" = some (.ref fR)) (kR : PySem.W.keepIn K (.ref fR) = true) (bR : Binds K fdR ["_law_script", "_law_salt"] [])
    (x_BadFigures : Err P w K mg base "BadFigures" C_BadFigures none) (x_BadNumber : Err P w K mg base "BadNumber" C_BadNumber none) (x_BadRange : Err P w K mg base "BadRange" C_BadRange none) (x_BadTurns : Err P w K mg base "BadTurns" C_BadTurns none) (x_BadWidth : Err P w K mg base "BadWidth" C_BadWidth none) (x_NotShown : Err P w K mg base "NotShown" C_NotShown none) (x_TooMany : Err P w K mg base "TooMany" C_TooMany none) (c_lclasses : Cal P w K mg base "_law_classes" 1 1 (gCls [C_BadCubes, C_BadTurns, C_BadFigures, C_BadWidth, C_BadRange, C_BadNeeded, C_BadNumber, C_TooMany, C_BadSeen, C_BadWays, C_NotShown, C_BadText])) (c_lone : Cal P w K mg base "_law_one" 3 1 (gOne C_BadCubes C_BadNeeded C_BadSeen C_BadWays C_BadText)) : FnOk P w K mg base (L2.CX P w) 4 f fd ["_law_script"] (spLaw K) := by
  refine F.okX sc_law (fun vs H Q E h => ?_) (fun cdv A outer s H vs Q E hr h => ?_)
  · obtain ⟨a, ns, rfl, _⟩ := h; rfl
  · obtain ⟨a, ns, rfl, hS, hl, hq⟩ := h
    refine ⟨_, pss_cons (ps_set (i := 1) sc_law.nd rfl (by first | exact Or.inl rfl | exact Or.inr rfl) (pe_call FR (hr.mono (by decide)) rfl mR kR bR .nil passX (pa_cons (pv 0) (pa_cons pe_int pa_nil)))) (by exact (s_cons (s_for (passes_of rfl) rfl (i_range1 rfl T.b_range (a_cons e_int a_nil)) (gs_name 2) (pg_name (i := 2) sc_law.nd rfl (Or.inl rfl))
      (s_cons (s_asg (e_cal c_lone (hr.mono (by decide)) rfl passX (a_cons (ev 1) a_nil)) (gs_two 3 4) (pg_tup rfl (pgs_cons (pg_name (i := 3) sc_law.nd rfl (Or.inl rfl)) (pgs_cons (pg_name (i := 4) sc_law.nd rfl (Or.inl rfl)) pgs_nil))))
      (s_cons (s_if (PW.pt (w_or (t_not (t_truth (ev 4))) (w_or (t_cmp (op_neD hr.units) od_ne (e_cal c_lclasses (hr.mono (by decide)) rfl passX (a_cons (ev 3) a_nil)) e_int (nomark _)) (w_one_or (t_not (t_truth (e_isX (K := K) rfl T.b_isinstance rfl T.m_CubeError (ev 3))))))))
      (s_one (s_ret e_bl))
      s_nil)
      (s_one (s_if (t_not (t_truth (e_isXB (K := K) (T := "ValueError") rfl T.b_isinstance rfl T.b_ValueError (by decide +kernel) (ev 3))))
      (s_one (s_ret e_bl))
      s_nil)))))
      (s_cons (s_set (i := 5) sc_law.nd rfl (Or.inl rfl) (e_lst (a_cons (e_exc0 x_BadTurns (hr.mono (by decide)) rfl) (a_cons (e_exc0 x_BadFigures (hr.mono (by decide)) rfl) (a_cons (e_exc0 x_BadWidth (hr.mono (by decide)) rfl) (a_cons (e_exc0 x_BadRange (hr.mono (by decide)) rfl) (a_cons (e_exc0 x_BadNumber (hr.mono (by decide)) rfl) (a_cons (e_exc0 x_TooMany (hr.mono (by decide)) rfl) (a_cons (e_exc0 x_NotShown (hr.mono (by decide)) rfl) a_nil)))))))))
      (s_one (s_ret (e_cmp (op_eqD hr.units) od_eq (e_lc (own := [("_law_one_here", 6)]) rfl sc_law.nd (i_list (ev 5)) (blkOk_by (own := [("_law_one_here", 6)]) (N := n_law) (sc := defScope s_law) (by decide +kernel)) (gc_name 6 (by simp)) (fun _ _ _ _ _ => (pg_name (i := 6) sc_law.nd rfl (Or.inl rfl))) (fun _ _ _ _ _ => (ts_one (PW.pt (w_or (t_cmp (op_neD hr.units) od_ne (e_cal c_lclasses (hr.mono (by decide)) rfl pass0 (a_cons (ev 6) a_nil)) e_int (nomark _)) (w_one_or (t_not (t_truth (e_isX (K := K) rfl T.b_isinstance rfl T.m_CubeError (ev 6))))))))) (fun _ _ _ _ _ => (ev 6))) (e_lst a_nil) (nomark _))))))), ?_⟩
    refine ⟨_, rfl, a, ns, 2918, rfl, hS, hl, by decide, by decide, fun p ms H' np e rn hm keep => ?_⟩
    refine ⟨p, fun b => b = p, H', .emp :: .val .rnd :: List.replicate 5 .emp, ⟨fun _ => False, fun d => d = .bl true, fun _ => False, fun _ => False, fun _ => False⟩, SR.of (er_lawN 5 e rn hm) (fun b hb => hb) .refl (fun _ _ _ h => (no_own h).elim) (fun b hb => by rw [hb, e]; simp), ?_,
      ⟨fun _ _ _ q => q.elim, fun d v H2 hd _ _ r => by cases (show d = .bl true from hd); cases r; exact hq _, fun _ _ _ q => q.elim, fun _ _ _ q => q.elim, fun _ _ _ _ q => q.elim⟩⟩
    dsimp only
    refine gr_1 (by decide) (by decide) ?_
    refine forD_inv (fun rest δ => ∃ x2 x3 x4 x5 x6, δ = [.emp, .val .rnd, x2, x3, x4, x5, x6]) _ _ ⟨_, _, _, _, _, rfl⟩ ?_ ?_
    · rintro d0 rest δ ⟨x2, x3, x4, x5, x6, rfl⟩ N hN
      refine ⟨_, rfl, rfl, rfl, fun v hv => ⟨?_, ?_, ?_, ?_, ?_⟩⟩
      · exact ⟨_, rfl, gb_b (if_no rfl ⟨_, rfl, rfl, C_BadCubes, _, _, rfl, by simp, okI, okI, _, rfl, if_no (by rw [eqI, decide_eq_true rfl]; rfl) ⟨_, rfl, _, T.k_BadCubes_CubeError, T.e_BadCubes, gb_b (if_no rfl ⟨_, rfl, _, T.v_BadCubes, T.e_BadCubes, gb_b (if_no rfl (hN _ ⟨_, _, _, _, _, rfl⟩))⟩)⟩⟩)⟩
      · exact ⟨_, rfl, gb_b (if_no rfl ⟨_, rfl, rfl, C_BadNeeded, _, _, rfl, by simp, okI, okI, _, rfl, if_no (by rw [eqI, decide_eq_true rfl]; rfl) ⟨_, rfl, _, T.k_BadNeeded_CubeError, T.e_BadNeeded, gb_b (if_no rfl ⟨_, rfl, _, T.v_BadNeeded, T.e_BadNeeded, gb_b (if_no rfl (hN _ ⟨_, _, _, _, _, rfl⟩))⟩)⟩⟩)⟩
      · exact ⟨_, rfl, gb_b (if_no rfl ⟨_, rfl, rfl, C_BadSeen, _, _, rfl, by simp, okI, okI, _, rfl, if_no (by rw [eqI, decide_eq_true rfl]; rfl) ⟨_, rfl, _, T.k_BadSeen_CubeError, T.e_BadSeen, gb_b (if_no rfl ⟨_, rfl, _, T.v_BadSeen, T.e_BadSeen, gb_b (if_no rfl (hN _ ⟨_, _, _, _, _, rfl⟩))⟩)⟩⟩)⟩
      · exact ⟨_, rfl, gb_b (if_no rfl ⟨_, rfl, rfl, C_BadWays, _, _, rfl, by simp, okI, okI, _, rfl, if_no (by rw [eqI, decide_eq_true rfl]; rfl) ⟨_, rfl, _, T.k_BadWays_CubeError, T.e_BadWays, gb_b (if_no rfl ⟨_, rfl, _, T.v_BadWays, T.e_BadWays, gb_b (if_no rfl (hN _ ⟨_, _, _, _, _, rfl⟩))⟩)⟩⟩)⟩
      · exact ⟨_, rfl, gb_b (if_no rfl ⟨_, rfl, rfl, C_BadText, _, _, rfl, by simp, okI, okI, _, rfl, if_no (by rw [eqI, decide_eq_true rfl]; rfl) ⟨_, rfl, _, T.k_BadText_CubeError, T.e_BadText, gb_b (if_no rfl ⟨_, rfl, _, T.v_BadText, T.e_BadText, gb_b (if_no rfl (hN _ ⟨_, _, _, _, _, rfl⟩))⟩)⟩⟩)⟩
    · rintro δ ⟨x2, x3, x4, x5, x6, rfl⟩
      refine ⟨szz rfl, _, rfl, gi_l ⟨szz rfl, lcD_of (k := fun _ => false) (f := fun d => d) _ [] (fun d h R Q q => ?_) ?_⟩⟩
      · have q : Q := q
        simp only [List.mem_cons, List.not_mem_nil, or_false] at h
        rcases h with rfl | rfl | rfl | rfl | rfl | rfl | rfl
        · exact ⟨_, rfl, rfl, C_BadTurns, _, _, rfl, by simp, okI, okI, _, rfl, if_no (by rw [eqI, decide_eq_true rfl]; rfl) ⟨_, rfl, _, T.k_BadTurns_CubeError, T.e_BadTurns, gb_b q⟩⟩
        · exact ⟨_, rfl, rfl, C_BadFigures, _, _, rfl, by simp, okI, okI, _, rfl, if_no (by rw [eqI, decide_eq_true rfl]; rfl) ⟨_, rfl, _, T.k_BadFigures_CubeError, T.e_BadFigures, gb_b q⟩⟩
        · exact ⟨_, rfl, rfl, C_BadWidth, _, _, rfl, by simp, okI, okI, _, rfl, if_no (by rw [eqI, decide_eq_true rfl]; rfl) ⟨_, rfl, _, T.k_BadWidth_CubeError, T.e_BadWidth, gb_b q⟩⟩
        · exact ⟨_, rfl, rfl, C_BadRange, _, _, rfl, by simp, okI, okI, _, rfl, if_no (by rw [eqI, decide_eq_true rfl]; rfl) ⟨_, rfl, _, T.k_BadRange_CubeError, T.e_BadRange, gb_b q⟩⟩
        · exact ⟨_, rfl, rfl, C_BadNumber, _, _, rfl, by simp, okI, okI, _, rfl, if_no (by rw [eqI, decide_eq_true rfl]; rfl) ⟨_, rfl, _, T.k_BadNumber_CubeError, T.e_BadNumber, gb_b q⟩⟩
        · exact ⟨_, rfl, rfl, C_TooMany, _, _, rfl, by simp, okI, okI, _, rfl, if_no (by rw [eqI, decide_eq_true rfl]; rfl) ⟨_, rfl, _, T.k_TooMany_CubeError, T.e_TooMany, gb_b q⟩⟩
        · exact ⟨_, rfl, rfl, C_NotShown, _, _, rfl, by simp, okI, okI, _, rfl, if_no (by rw [eqI, decide_eq_true rfl]; rfl) ⟨_, rfl, _, T.k_NotShown_CubeError, T.e_NotShown, gb_b q⟩⟩
      · exact ⟨szz rfl, okE (Eqs.intsL []), okE (Eqs.intsL []), congrArg D.bl (show eqD (.lst []) (.lst []) = true by decide +kernel)⟩

end K18

namespace K18
open PySem PySem.Spec PyProof.Rows L2 L3 Q
theorem all_mk {P : Program} {w : World} {K : PySem.W.Frag} {h : Heap} {mg : Str → Option Value} {fa : Addr} (X : K.In h) (G : h.Ns mainGlobals mg) (hfa : mg "law" = some (.ref fa))
    {CB : Addr}
    {CBadCubes : Addr} {nmBadCubes qBadCubes : Str} {NBadCubes : Addr} {bsBadCubes bmBadCubes : List Value} {snBadCubes : List Str} {subBadCubes : List Value} {abBadCubes : Bool} {colBadCubes : Option Bool} {ddBadCubes : Option Addr} {m0BadCubes m1BadCubes m2BadCubes m3BadCubes m5BadCubes : Option Value}
    {odIBadCubes anIBadCubes : Option Addr} {slIBadCubes : Array (Option Value)} {ocIBadCubes kVIBadCubes dcIBadCubes pmIBadCubes cdIBadCubes ctIBadCubes : Value} {fIBadCubes : Addr}
    {CBadTurns : Addr} {nmBadTurns qBadTurns : Str} {NBadTurns : Addr} {bsBadTurns bmBadTurns : List Value} {snBadTurns : List Str} {subBadTurns : List Value} {abBadTurns : Bool} {colBadTurns : Option Bool} {ddBadTurns : Option Addr} {m0BadTurns m1BadTurns m2BadTurns m3BadTurns m5BadTurns : Option Value}
    {odIBadTurns anIBadTurns : Option Addr} {slIBadTurns : Array (Option Value)} {ocIBadTurns kVIBadTurns dcIBadTurns pmIBadTurns cdIBadTurns ctIBadTurns : Value} {fIBadTurns : Addr}
    {CBadFigures : Addr} {nmBadFigures qBadFigures : Str} {NBadFigures : Addr} {bsBadFigures bmBadFigures : List Value} {snBadFigures : List Str} {subBadFigures : List Value} {abBadFigures : Bool} {colBadFigures : Option Bool} {ddBadFigures : Option Addr} {m0BadFigures m1BadFigures m2BadFigures m3BadFigures m5BadFigures : Option Value}
    {odIBadFigures anIBadFigures : Option Addr} {slIBadFigures : Array (Option Value)} {ocIBadFigures kVIBadFigures dcIBadFigures pmIBadFigures cdIBadFigures ctIBadFigures : Value} {fIBadFigures : Addr}
    {CBadWidth : Addr} {nmBadWidth qBadWidth : Str} {NBadWidth : Addr} {bsBadWidth bmBadWidth : List Value} {snBadWidth : List Str} {subBadWidth : List Value} {abBadWidth : Bool} {colBadWidth : Option Bool} {ddBadWidth : Option Addr} {m0BadWidth m1BadWidth m2BadWidth m3BadWidth m5BadWidth : Option Value}
    {odIBadWidth anIBadWidth : Option Addr} {slIBadWidth : Array (Option Value)} {ocIBadWidth kVIBadWidth dcIBadWidth pmIBadWidth cdIBadWidth ctIBadWidth : Value} {fIBadWidth : Addr}
    {CBadRange : Addr} {nmBadRange qBadRange : Str} {NBadRange : Addr} {bsBadRange bmBadRange : List Value} {snBadRange : List Str} {subBadRange : List Value} {abBadRange : Bool} {colBadRange : Option Bool} {ddBadRange : Option Addr} {m0BadRange m1BadRange m2BadRange m3BadRange m5BadRange : Option Value}
    {odIBadRange anIBadRange : Option Addr} {slIBadRange : Array (Option Value)} {ocIBadRange kVIBadRange dcIBadRange pmIBadRange cdIBadRange ctIBadRange : Value} {fIBadRange : Addr}
    {CBadNeeded : Addr} {nmBadNeeded qBadNeeded : Str} {NBadNeeded : Addr} {bsBadNeeded bmBadNeeded : List Value} {snBadNeeded : List Str} {subBadNeeded : List Value} {abBadNeeded : Bool} {colBadNeeded : Option Bool} {ddBadNeeded : Option Addr} {m0BadNeeded m1BadNeeded m2BadNeeded m3BadNeeded m5BadNeeded : Option Value}
    {odIBadNeeded anIBadNeeded : Option Addr} {slIBadNeeded : Array (Option Value)} {ocIBadNeeded kVIBadNeeded dcIBadNeeded pmIBadNeeded cdIBadNeeded ctIBadNeeded : Value} {fIBadNeeded : Addr}
    {CBadNumber : Addr} {nmBadNumber qBadNumber : Str} {NBadNumber : Addr} {bsBadNumber bmBadNumber : List Value} {snBadNumber : List Str} {subBadNumber : List Value} {abBadNumber : Bool} {colBadNumber : Option Bool} {ddBadNumber : Option Addr} {m0BadNumber m1BadNumber m2BadNumber m3BadNumber m5BadNumber : Option Value}
    {odIBadNumber anIBadNumber : Option Addr} {slIBadNumber : Array (Option Value)} {ocIBadNumber kVIBadNumber dcIBadNumber pmIBadNumber cdIBadNumber ctIBadNumber : Value} {fIBadNumber : Addr}
    {CTooMany : Addr} {nmTooMany qTooMany : Str} {NTooMany : Addr} {bsTooMany bmTooMany : List Value} {snTooMany : List Str} {subTooMany : List Value} {abTooMany : Bool} {colTooMany : Option Bool} {ddTooMany : Option Addr} {m0TooMany m1TooMany m2TooMany m3TooMany m5TooMany : Option Value}
    {odITooMany anITooMany : Option Addr} {slITooMany : Array (Option Value)} {ocITooMany kVITooMany dcITooMany pmITooMany cdITooMany ctITooMany : Value} {fITooMany : Addr}
    {CBadSeen : Addr} {nmBadSeen qBadSeen : Str} {NBadSeen : Addr} {bsBadSeen bmBadSeen : List Value} {snBadSeen : List Str} {subBadSeen : List Value} {abBadSeen : Bool} {colBadSeen : Option Bool} {ddBadSeen : Option Addr} {m0BadSeen m1BadSeen m2BadSeen m3BadSeen m5BadSeen : Option Value}
    {odIBadSeen anIBadSeen : Option Addr} {slIBadSeen : Array (Option Value)} {ocIBadSeen kVIBadSeen dcIBadSeen pmIBadSeen cdIBadSeen ctIBadSeen : Value} {fIBadSeen : Addr}
    {CBadWays : Addr} {nmBadWays qBadWays : Str} {NBadWays : Addr} {bsBadWays bmBadWays : List Value} {snBadWays : List Str} {subBadWays : List Value} {abBadWays : Bool} {colBadWays : Option Bool} {ddBadWays : Option Addr} {m0BadWays m1BadWays m2BadWays m3BadWays m5BadWays : Option Value}
    {odIBadWays anIBadWays : Option Addr} {slIBadWays : Array (Option Value)} {ocIBadWays kVIBadWays dcIBadWays pmIBadWays cdIBadWays ctIBadWays : Value} {fIBadWays : Addr}
    {CNotShown : Addr} {nmNotShown qNotShown : Str} {NNotShown : Addr} {bsNotShown bmNotShown : List Value} {snNotShown : List Str} {subNotShown : List Value} {abNotShown : Bool} {colNotShown : Option Bool} {ddNotShown : Option Addr} {m0NotShown m1NotShown m2NotShown m3NotShown m5NotShown : Option Value}
    {odINotShown anINotShown : Option Addr} {slINotShown : Array (Option Value)} {ocINotShown kVINotShown dcINotShown pmINotShown cdINotShown ctINotShown : Value} {fINotShown : Addr}
    {CBadText : Addr} {nmBadText qBadText : Str} {NBadText : Addr} {bsBadText bmBadText : List Value} {snBadText : List Str} {subBadText : List Value} {abBadText : Bool} {colBadText : Option Bool} {ddBadText : Option Addr} {m0BadText m1BadText m2BadText m3BadText m5BadText : Option Value}
    {odIBadText anIBadText : Option Addr} {slIBadText : Array (Option Value)} {ocIBadText kVIBadText dcIBadText pmIBadText cdIBadText ctIBadText : Value} {fIBadText : Addr}
    {od_lbelow an_lbelow : Option Addr} {sl_lbelow : Array (Option Value)} {oc_lbelow kV_lbelow dc_lbelow pm_lbelow cd_lbelow ct_lbelow : Value} {f_lbelow : Addr}
    {od_lrandom an_lrandom : Option Addr} {sl_lrandom : Array (Option Value)} {oc_lrandom kV_lrandom dc_lrandom pm_lrandom cd_lrandom ct_lrandom : Value} {f_lrandom : Addr}
    {od_lpick an_lpick : Option Addr} {sl_lpick : Array (Option Value)} {oc_lpick kV_lpick dc_lpick pm_lpick cd_lpick ct_lpick : Value} {f_lpick : Addr}
    {od_lone an_lone : Option Addr} {sl_lone : Array (Option Value)} {oc_lone kV_lone dc_lone pm_lone cd_lone ct_lone : Value} {f_lone : Addr}
    {od_lclasses an_lclasses : Option Addr} {sl_lclasses : Array (Option Value)} {oc_lclasses kV_lclasses dc_lclasses pm_lclasses cd_lclasses ct_lclasses : Value} {f_lclasses : Addr}
    {od_law an_law : Option Addr} {sl_law : Array (Option Value)} {oc_law kV_law dc_law pm_law cd_law ct_law : Value} {f_law : Addr}
    (aB : PySem.W.nsIn K mainGlobals "CubeError" = some (some (.ref CB)))
    (rB : PySem.W.readsIn K CB (.type "type") = true)
    (sB : PySem.W.specialIn K (.ref CB) "__getattribute__" = some (some (.builtin "type.__getattribute__")))
    (iB : PySem.W.findCls K (.ref CB) (.type "type") "__init__" = some (.val (.builtin "ValueError.__init__")))
    (aEBadCubes : PySem.W.nsIn K mainGlobals "BadCubes" = some (some (.ref CBadCubes)))
    (xEBadCubes : K.lookup CBadCubes = some (excClassObj nmBadCubes qBadCubes CBadCubes NBadCubes bsBadCubes bmBadCubes true snBadCubes subBadCubes abBadCubes colBadCubes ddBadCubes m0BadCubes m1BadCubes m2BadCubes m3BadCubes m5BadCubes "ValueError.__new__"))
    (vEBadCubes : PySem.HandSPX.refsVE bmBadCubes = true)
    (saEBadCubes : PySem.W.findIn K (.ref CBadCubes) "__setattr__" = some (some (.builtin "object.__setattr__")))
    (exEBadCubes : PySem.W.subIn K (.ref CBadCubes) (.type "BaseException") = some true)
    (tyEBadCubes : PySem.W.typeIn K (.ref CBadCubes) = some (.type "type"))
    (kcEBadCubes : PySem.W.keepIn K (.ref CBadCubes) = true)
    (iEBadCubes : PySem.W.findIn K (.ref CBadCubes) "__init__" = some (some (.ref fIBadCubes)))
    (tiEBadCubes : PySem.W.typeIn K (.ref fIBadCubes) = some (.type "function"))
    (lIBadCubes : K.lookup fIBadCubes = some ⟨ocIBadCubes, odIBadCubes, .func (PySem.W.fnOf "__init__" "BadCubes.__init__" (defArgs s_iBadCubes) (defBody s_iBadCubes) (defScope s_iBadCubes) .none kVIBadCubes dcIBadCubes pmIBadCubes anIBadCubes cdIBadCubes ctIBadCubes), slIBadCubes⟩)
    (cIBadCubes : PySem.W.codeIn K cdIBadCubes "BadCubes.__init__" = true)
    (kIBadCubes : PySem.W.keepIn K (.ref fIBadCubes) = true)
    (nEBadCubes : PySem.W.findIn K (.ref CBadCubes) "index" = some none)
    (aEBadTurns : PySem.W.nsIn K mainGlobals "BadTurns" = some (some (.ref CBadTurns)))
    (xEBadTurns : K.lookup CBadTurns = some (excClassObj nmBadTurns qBadTurns CBadTurns NBadTurns bsBadTurns bmBadTurns true snBadTurns subBadTurns abBadTurns colBadTurns ddBadTurns m0BadTurns m1BadTurns m2BadTurns m3BadTurns m5BadTurns "ValueError.__new__"))
    (vEBadTurns : PySem.HandSPX.refsVE bmBadTurns = true)
    (saEBadTurns : PySem.W.findIn K (.ref CBadTurns) "__setattr__" = some (some (.builtin "object.__setattr__")))
    (exEBadTurns : PySem.W.subIn K (.ref CBadTurns) (.type "BaseException") = some true)
    (tyEBadTurns : PySem.W.typeIn K (.ref CBadTurns) = some (.type "type"))
    (kcEBadTurns : PySem.W.keepIn K (.ref CBadTurns) = true)
    (iEBadTurns : PySem.W.findIn K (.ref CBadTurns) "__init__" = some (some (.ref fIBadTurns)))
    (tiEBadTurns : PySem.W.typeIn K (.ref fIBadTurns) = some (.type "function"))
    (lIBadTurns : K.lookup fIBadTurns = some ⟨ocIBadTurns, odIBadTurns, .func (PySem.W.fnOf "__init__" "BadTurns.__init__" (defArgs s_iBadTurns) (defBody s_iBadTurns) (defScope s_iBadTurns) .none kVIBadTurns dcIBadTurns pmIBadTurns anIBadTurns cdIBadTurns ctIBadTurns), slIBadTurns⟩)
    (cIBadTurns : PySem.W.codeIn K cdIBadTurns "BadTurns.__init__" = true)
    (kIBadTurns : PySem.W.keepIn K (.ref fIBadTurns) = true)
    (aEBadFigures : PySem.W.nsIn K mainGlobals "BadFigures" = some (some (.ref CBadFigures)))
    (xEBadFigures : K.lookup CBadFigures = some (excClassObj nmBadFigures qBadFigures CBadFigures NBadFigures bsBadFigures bmBadFigures true snBadFigures subBadFigures abBadFigures colBadFigures ddBadFigures m0BadFigures m1BadFigures m2BadFigures m3BadFigures m5BadFigures "ValueError.__new__"))
    (vEBadFigures : PySem.HandSPX.refsVE bmBadFigures = true)
    (saEBadFigures : PySem.W.findIn K (.ref CBadFigures) "__setattr__" = some (some (.builtin "object.__setattr__")))
    (exEBadFigures : PySem.W.subIn K (.ref CBadFigures) (.type "BaseException") = some true)
    (tyEBadFigures : PySem.W.typeIn K (.ref CBadFigures) = some (.type "type"))
    (kcEBadFigures : PySem.W.keepIn K (.ref CBadFigures) = true)
    (iEBadFigures : PySem.W.findIn K (.ref CBadFigures) "__init__" = some (some (.ref fIBadFigures)))
    (tiEBadFigures : PySem.W.typeIn K (.ref fIBadFigures) = some (.type "function"))
    (lIBadFigures : K.lookup fIBadFigures = some ⟨ocIBadFigures, odIBadFigures, .func (PySem.W.fnOf "__init__" "BadFigures.__init__" (defArgs s_iBadFigures) (defBody s_iBadFigures) (defScope s_iBadFigures) .none kVIBadFigures dcIBadFigures pmIBadFigures anIBadFigures cdIBadFigures ctIBadFigures), slIBadFigures⟩)
    (cIBadFigures : PySem.W.codeIn K cdIBadFigures "BadFigures.__init__" = true)
    (kIBadFigures : PySem.W.keepIn K (.ref fIBadFigures) = true)
    (aEBadWidth : PySem.W.nsIn K mainGlobals "BadWidth" = some (some (.ref CBadWidth)))
    (xEBadWidth : K.lookup CBadWidth = some (excClassObj nmBadWidth qBadWidth CBadWidth NBadWidth bsBadWidth bmBadWidth true snBadWidth subBadWidth abBadWidth colBadWidth ddBadWidth m0BadWidth m1BadWidth m2BadWidth m3BadWidth m5BadWidth "ValueError.__new__"))
    (vEBadWidth : PySem.HandSPX.refsVE bmBadWidth = true)
    (saEBadWidth : PySem.W.findIn K (.ref CBadWidth) "__setattr__" = some (some (.builtin "object.__setattr__")))
    (exEBadWidth : PySem.W.subIn K (.ref CBadWidth) (.type "BaseException") = some true)
    (tyEBadWidth : PySem.W.typeIn K (.ref CBadWidth) = some (.type "type"))
    (kcEBadWidth : PySem.W.keepIn K (.ref CBadWidth) = true)
    (iEBadWidth : PySem.W.findIn K (.ref CBadWidth) "__init__" = some (some (.ref fIBadWidth)))
    (tiEBadWidth : PySem.W.typeIn K (.ref fIBadWidth) = some (.type "function"))
    (lIBadWidth : K.lookup fIBadWidth = some ⟨ocIBadWidth, odIBadWidth, .func (PySem.W.fnOf "__init__" "BadWidth.__init__" (defArgs s_iBadWidth) (defBody s_iBadWidth) (defScope s_iBadWidth) .none kVIBadWidth dcIBadWidth pmIBadWidth anIBadWidth cdIBadWidth ctIBadWidth), slIBadWidth⟩)
    (cIBadWidth : PySem.W.codeIn K cdIBadWidth "BadWidth.__init__" = true)
    (kIBadWidth : PySem.W.keepIn K (.ref fIBadWidth) = true)
    (aEBadRange : PySem.W.nsIn K mainGlobals "BadRange" = some (some (.ref CBadRange)))
    (xEBadRange : K.lookup CBadRange = some (excClassObj nmBadRange qBadRange CBadRange NBadRange bsBadRange bmBadRange true snBadRange subBadRange abBadRange colBadRange ddBadRange m0BadRange m1BadRange m2BadRange m3BadRange m5BadRange "ValueError.__new__"))
    (vEBadRange : PySem.HandSPX.refsVE bmBadRange = true)
    (saEBadRange : PySem.W.findIn K (.ref CBadRange) "__setattr__" = some (some (.builtin "object.__setattr__")))
    (exEBadRange : PySem.W.subIn K (.ref CBadRange) (.type "BaseException") = some true)
    (tyEBadRange : PySem.W.typeIn K (.ref CBadRange) = some (.type "type"))
    (kcEBadRange : PySem.W.keepIn K (.ref CBadRange) = true)
    (iEBadRange : PySem.W.findIn K (.ref CBadRange) "__init__" = some (some (.ref fIBadRange)))
    (tiEBadRange : PySem.W.typeIn K (.ref fIBadRange) = some (.type "function"))
    (lIBadRange : K.lookup fIBadRange = some ⟨ocIBadRange, odIBadRange, .func (PySem.W.fnOf "__init__" "BadRange.__init__" (defArgs s_iBadRange) (defBody s_iBadRange) (defScope s_iBadRange) .none kVIBadRange dcIBadRange pmIBadRange anIBadRange cdIBadRange ctIBadRange), slIBadRange⟩)
    (cIBadRange : PySem.W.codeIn K cdIBadRange "BadRange.__init__" = true)
    (kIBadRange : PySem.W.keepIn K (.ref fIBadRange) = true)
    (aEBadNeeded : PySem.W.nsIn K mainGlobals "BadNeeded" = some (some (.ref CBadNeeded)))
    (xEBadNeeded : K.lookup CBadNeeded = some (excClassObj nmBadNeeded qBadNeeded CBadNeeded NBadNeeded bsBadNeeded bmBadNeeded true snBadNeeded subBadNeeded abBadNeeded colBadNeeded ddBadNeeded m0BadNeeded m1BadNeeded m2BadNeeded m3BadNeeded m5BadNeeded "ValueError.__new__"))
    (vEBadNeeded : PySem.HandSPX.refsVE bmBadNeeded = true)
    (saEBadNeeded : PySem.W.findIn K (.ref CBadNeeded) "__setattr__" = some (some (.builtin "object.__setattr__")))
    (exEBadNeeded : PySem.W.subIn K (.ref CBadNeeded) (.type "BaseException") = some true)
    (tyEBadNeeded : PySem.W.typeIn K (.ref CBadNeeded) = some (.type "type"))
    (kcEBadNeeded : PySem.W.keepIn K (.ref CBadNeeded) = true)
    (iEBadNeeded : PySem.W.findIn K (.ref CBadNeeded) "__init__" = some (some (.ref fIBadNeeded)))
    (tiEBadNeeded : PySem.W.typeIn K (.ref fIBadNeeded) = some (.type "function"))
    (lIBadNeeded : K.lookup fIBadNeeded = some ⟨ocIBadNeeded, odIBadNeeded, .func (PySem.W.fnOf "__init__" "BadNeeded.__init__" (defArgs s_iBadNeeded) (defBody s_iBadNeeded) (defScope s_iBadNeeded) .none kVIBadNeeded dcIBadNeeded pmIBadNeeded anIBadNeeded cdIBadNeeded ctIBadNeeded), slIBadNeeded⟩)
    (cIBadNeeded : PySem.W.codeIn K cdIBadNeeded "BadNeeded.__init__" = true)
    (kIBadNeeded : PySem.W.keepIn K (.ref fIBadNeeded) = true)
    (nEBadNeeded : PySem.W.findIn K (.ref CBadNeeded) "index" = some none)
    (aEBadNumber : PySem.W.nsIn K mainGlobals "BadNumber" = some (some (.ref CBadNumber)))
    (xEBadNumber : K.lookup CBadNumber = some (excClassObj nmBadNumber qBadNumber CBadNumber NBadNumber bsBadNumber bmBadNumber true snBadNumber subBadNumber abBadNumber colBadNumber ddBadNumber m0BadNumber m1BadNumber m2BadNumber m3BadNumber m5BadNumber "ValueError.__new__"))
    (vEBadNumber : PySem.HandSPX.refsVE bmBadNumber = true)
    (saEBadNumber : PySem.W.findIn K (.ref CBadNumber) "__setattr__" = some (some (.builtin "object.__setattr__")))
    (exEBadNumber : PySem.W.subIn K (.ref CBadNumber) (.type "BaseException") = some true)
    (tyEBadNumber : PySem.W.typeIn K (.ref CBadNumber) = some (.type "type"))
    (kcEBadNumber : PySem.W.keepIn K (.ref CBadNumber) = true)
    (iEBadNumber : PySem.W.findIn K (.ref CBadNumber) "__init__" = some (some (.ref fIBadNumber)))
    (tiEBadNumber : PySem.W.typeIn K (.ref fIBadNumber) = some (.type "function"))
    (lIBadNumber : K.lookup fIBadNumber = some ⟨ocIBadNumber, odIBadNumber, .func (PySem.W.fnOf "__init__" "BadNumber.__init__" (defArgs s_iBadNumber) (defBody s_iBadNumber) (defScope s_iBadNumber) .none kVIBadNumber dcIBadNumber pmIBadNumber anIBadNumber cdIBadNumber ctIBadNumber), slIBadNumber⟩)
    (cIBadNumber : PySem.W.codeIn K cdIBadNumber "BadNumber.__init__" = true)
    (kIBadNumber : PySem.W.keepIn K (.ref fIBadNumber) = true)
    (aETooMany : PySem.W.nsIn K mainGlobals "TooMany" = some (some (.ref CTooMany)))
    (xETooMany : K.lookup CTooMany = some (excClassObj nmTooMany qTooMany CTooMany NTooMany bsTooMany bmTooMany true snTooMany subTooMany abTooMany colTooMany ddTooMany m0TooMany m1TooMany m2TooMany m3TooMany m5TooMany "ValueError.__new__"))
    (vETooMany : PySem.HandSPX.refsVE bmTooMany = true)
    (saETooMany : PySem.W.findIn K (.ref CTooMany) "__setattr__" = some (some (.builtin "object.__setattr__")))
    (exETooMany : PySem.W.subIn K (.ref CTooMany) (.type "BaseException") = some true)
    (tyETooMany : PySem.W.typeIn K (.ref CTooMany) = some (.type "type"))
    (kcETooMany : PySem.W.keepIn K (.ref CTooMany) = true)
    (iETooMany : PySem.W.findIn K (.ref CTooMany) "__init__" = some (some (.ref fITooMany)))
    (tiETooMany : PySem.W.typeIn K (.ref fITooMany) = some (.type "function"))
    (lITooMany : K.lookup fITooMany = some ⟨ocITooMany, odITooMany, .func (PySem.W.fnOf "__init__" "TooMany.__init__" (defArgs s_iTooMany) (defBody s_iTooMany) (defScope s_iTooMany) .none kVITooMany dcITooMany pmITooMany anITooMany cdITooMany ctITooMany), slITooMany⟩)
    (cITooMany : PySem.W.codeIn K cdITooMany "TooMany.__init__" = true)
    (kITooMany : PySem.W.keepIn K (.ref fITooMany) = true)
    (aEBadSeen : PySem.W.nsIn K mainGlobals "BadSeen" = some (some (.ref CBadSeen)))
    (xEBadSeen : K.lookup CBadSeen = some (excClassObj nmBadSeen qBadSeen CBadSeen NBadSeen bsBadSeen bmBadSeen true snBadSeen subBadSeen abBadSeen colBadSeen ddBadSeen m0BadSeen m1BadSeen m2BadSeen m3BadSeen m5BadSeen "ValueError.__new__"))
    (vEBadSeen : PySem.HandSPX.refsVE bmBadSeen = true)
    (saEBadSeen : PySem.W.findIn K (.ref CBadSeen) "__setattr__" = some (some (.builtin "object.__setattr__")))
    (exEBadSeen : PySem.W.subIn K (.ref CBadSeen) (.type "BaseException") = some true)
    (tyEBadSeen : PySem.W.typeIn K (.ref CBadSeen) = some (.type "type"))
    (kcEBadSeen : PySem.W.keepIn K (.ref CBadSeen) = true)
    (iEBadSeen : PySem.W.findIn K (.ref CBadSeen) "__init__" = some (some (.ref fIBadSeen)))
    (tiEBadSeen : PySem.W.typeIn K (.ref fIBadSeen) = some (.type "function"))
    (lIBadSeen : K.lookup fIBadSeen = some ⟨ocIBadSeen, odIBadSeen, .func (PySem.W.fnOf "__init__" "BadSeen.__init__" (defArgs s_iBadSeen) (defBody s_iBadSeen) (defScope s_iBadSeen) .none kVIBadSeen dcIBadSeen pmIBadSeen anIBadSeen cdIBadSeen ctIBadSeen), slIBadSeen⟩)
    (cIBadSeen : PySem.W.codeIn K cdIBadSeen "BadSeen.__init__" = true)
    (kIBadSeen : PySem.W.keepIn K (.ref fIBadSeen) = true)
    (nEBadSeen : PySem.W.findIn K (.ref CBadSeen) "index" = some none)
    (aEBadWays : PySem.W.nsIn K mainGlobals "BadWays" = some (some (.ref CBadWays)))
    (xEBadWays : K.lookup CBadWays = some (excClassObj nmBadWays qBadWays CBadWays NBadWays bsBadWays bmBadWays true snBadWays subBadWays abBadWays colBadWays ddBadWays m0BadWays m1BadWays m2BadWays m3BadWays m5BadWays "ValueError.__new__"))
    (vEBadWays : PySem.HandSPX.refsVE bmBadWays = true)
    (saEBadWays : PySem.W.findIn K (.ref CBadWays) "__setattr__" = some (some (.builtin "object.__setattr__")))
    (exEBadWays : PySem.W.subIn K (.ref CBadWays) (.type "BaseException") = some true)
    (tyEBadWays : PySem.W.typeIn K (.ref CBadWays) = some (.type "type"))
    (kcEBadWays : PySem.W.keepIn K (.ref CBadWays) = true)
    (iEBadWays : PySem.W.findIn K (.ref CBadWays) "__init__" = some (some (.ref fIBadWays)))
    (tiEBadWays : PySem.W.typeIn K (.ref fIBadWays) = some (.type "function"))
    (lIBadWays : K.lookup fIBadWays = some ⟨ocIBadWays, odIBadWays, .func (PySem.W.fnOf "__init__" "BadWays.__init__" (defArgs s_iBadWays) (defBody s_iBadWays) (defScope s_iBadWays) .none kVIBadWays dcIBadWays pmIBadWays anIBadWays cdIBadWays ctIBadWays), slIBadWays⟩)
    (cIBadWays : PySem.W.codeIn K cdIBadWays "BadWays.__init__" = true)
    (kIBadWays : PySem.W.keepIn K (.ref fIBadWays) = true)
    (nEBadWays : PySem.W.findIn K (.ref CBadWays) "index" = some none)
    (aENotShown : PySem.W.nsIn K mainGlobals "NotShown" = some (some (.ref CNotShown)))
    (xENotShown : K.lookup CNotShown = some (excClassObj nmNotShown qNotShown CNotShown NNotShown bsNotShown bmNotShown true snNotShown subNotShown abNotShown colNotShown ddNotShown m0NotShown m1NotShown m2NotShown m3NotShown m5NotShown "ValueError.__new__"))
    (vENotShown : PySem.HandSPX.refsVE bmNotShown = true)
    (saENotShown : PySem.W.findIn K (.ref CNotShown) "__setattr__" = some (some (.builtin "object.__setattr__")))
    (exENotShown : PySem.W.subIn K (.ref CNotShown) (.type "BaseException") = some true)
    (tyENotShown : PySem.W.typeIn K (.ref CNotShown) = some (.type "type"))
    (kcENotShown : PySem.W.keepIn K (.ref CNotShown) = true)
    (iENotShown : PySem.W.findIn K (.ref CNotShown) "__init__" = some (some (.ref fINotShown)))
    (tiENotShown : PySem.W.typeIn K (.ref fINotShown) = some (.type "function"))
    (lINotShown : K.lookup fINotShown = some ⟨ocINotShown, odINotShown, .func (PySem.W.fnOf "__init__" "NotShown.__init__" (defArgs s_iNotShown) (defBody s_iNotShown) (defScope s_iNotShown) .none kVINotShown dcINotShown pmINotShown anINotShown cdINotShown ctINotShown), slINotShown⟩)
    (cINotShown : PySem.W.codeIn K cdINotShown "NotShown.__init__" = true)
    (kINotShown : PySem.W.keepIn K (.ref fINotShown) = true)
    (aEBadText : PySem.W.nsIn K mainGlobals "BadText" = some (some (.ref CBadText)))
    (xEBadText : K.lookup CBadText = some (excClassObj nmBadText qBadText CBadText NBadText bsBadText bmBadText true snBadText subBadText abBadText colBadText ddBadText m0BadText m1BadText m2BadText m3BadText m5BadText "ValueError.__new__"))
    (vEBadText : PySem.HandSPX.refsVE bmBadText = true)
    (saEBadText : PySem.W.findIn K (.ref CBadText) "__setattr__" = some (some (.builtin "object.__setattr__")))
    (exEBadText : PySem.W.subIn K (.ref CBadText) (.type "BaseException") = some true)
    (tyEBadText : PySem.W.typeIn K (.ref CBadText) = some (.type "type"))
    (kcEBadText : PySem.W.keepIn K (.ref CBadText) = true)
    (iEBadText : PySem.W.findIn K (.ref CBadText) "__init__" = some (some (.ref fIBadText)))
    (tiEBadText : PySem.W.typeIn K (.ref fIBadText) = some (.type "function"))
    (lIBadText : K.lookup fIBadText = some ⟨ocIBadText, odIBadText, .func (PySem.W.fnOf "__init__" "BadText.__init__" (defArgs s_iBadText) (defBody s_iBadText) (defScope s_iBadText) .none kVIBadText dcIBadText pmIBadText anIBadText cdIBadText ctIBadText), slIBadText⟩)
    (cIBadText : PySem.W.codeIn K cdIBadText "BadText.__init__" = true)
    (kIBadText : PySem.W.keepIn K (.ref fIBadText) = true)
    (nEBadText : PySem.W.findIn K (.ref CBadText) "word" = some none)
    (a_lbelow : PySem.W.nsIn K mainGlobals "_law_below" = some (some (.ref f_lbelow)))
    (l_lbelow : K.lookup f_lbelow = some ⟨oc_lbelow, od_lbelow, .func (PySem.W.fnOf "_law_below" "_law_below" (defArgs s_lbelow) (defBody s_lbelow) (defScope s_lbelow) .none kV_lbelow dc_lbelow pm_lbelow an_lbelow cd_lbelow ct_lbelow), sl_lbelow⟩)
    (c_lbelow : PySem.W.codeIn K cd_lbelow "_law_below" = true)
    (k_lbelow : PySem.W.keepIn K (.ref f_lbelow) = true)
    (a_lrandom : PySem.W.nsIn K mainGlobals "_law_random" = some (some (.ref f_lrandom)))
    (l_lrandom : K.lookup f_lrandom = some ⟨oc_lrandom, od_lrandom, .func (PySem.W.fnOf "_law_random" "_law_random" (defArgs s_lrandom) (defBody s_lrandom) (defScope s_lrandom) .none kV_lrandom dc_lrandom pm_lrandom an_lrandom cd_lrandom ct_lrandom), sl_lrandom⟩)
    (c_lrandom : PySem.W.codeIn K cd_lrandom "_law_random" = true)
    (k_lrandom : PySem.W.keepIn K (.ref f_lrandom) = true)
    (a_lpick : PySem.W.nsIn K mainGlobals "_law_pick" = some (some (.ref f_lpick)))
    (l_lpick : K.lookup f_lpick = some ⟨oc_lpick, od_lpick, .func (PySem.W.fnOf "_law_pick" "_law_pick" (defArgs s_lpick) (defBody s_lpick) (defScope s_lpick) .none kV_lpick dc_lpick pm_lpick an_lpick cd_lpick ct_lpick), sl_lpick⟩)
    (c_lpick : PySem.W.codeIn K cd_lpick "_law_pick" = true)
    (k_lpick : PySem.W.keepIn K (.ref f_lpick) = true)
    (a_lone : PySem.W.nsIn K mainGlobals "_law_one" = some (some (.ref f_lone)))
    (l_lone : K.lookup f_lone = some ⟨oc_lone, od_lone, .func (PySem.W.fnOf "_law_one" "_law_one" (defArgs s_lone) (defBody s_lone) (defScope s_lone) .none kV_lone dc_lone pm_lone an_lone cd_lone ct_lone), sl_lone⟩)
    (c_lone : PySem.W.codeIn K cd_lone "_law_one" = true)
    (k_lone : PySem.W.keepIn K (.ref f_lone) = true)
    (a_lclasses : PySem.W.nsIn K mainGlobals "_law_classes" = some (some (.ref f_lclasses)))
    (l_lclasses : K.lookup f_lclasses = some ⟨oc_lclasses, od_lclasses, .func (PySem.W.fnOf "_law_classes" "_law_classes" (defArgs s_lclasses) (defBody s_lclasses) (defScope s_lclasses) .none kV_lclasses dc_lclasses pm_lclasses an_lclasses cd_lclasses ct_lclasses), sl_lclasses⟩)
    (c_lclasses : PySem.W.codeIn K cd_lclasses "_law_classes" = true)
    (k_lclasses : PySem.W.keepIn K (.ref f_lclasses) = true)
    (a_law : PySem.W.nsIn K mainGlobals "law" = some (some (.ref f_law)))
    (l_law : K.lookup f_law = some ⟨oc_law, od_law, .func (PySem.W.fnOf "law" "law" (defArgs s_law) (defBody s_law) (defScope s_law) .none kV_law dc_law pm_law an_law cd_law ct_law), sl_law⟩)
    (c_law : PySem.W.codeIn K cd_law "law" = true)
    (k_law : PySem.W.keepIn K (.ref f_law) = true)
    (z_abs : PySem.W.nsIn K mainGlobals "abs" = some none)
    (z_int : PySem.W.nsIn K mainGlobals "int" = some none)
    (z_isinstance : PySem.W.nsIn K mainGlobals "isinstance" = some none)
    (z_len : PySem.W.nsIn K mainGlobals "len" = some none)
    (z_range : PySem.W.nsIn K mainGlobals "range" = some none)
    (z_ValueError : PySem.W.nsIn K mainGlobals "ValueError" = some none)
    (hnX : PySem.W.specialIn K (.builtin "object.__class__") "__get__" = some (some (.builtin "getset_descriptor.__get__")))
    (htX : PySem.W.takesIn K (.builtin "object.__class__") = some true)
    (gaBadCubes : PySem.W.findIn K (.ref CBadCubes) "__getattribute__" = some (some (.builtin "BaseException.__getattribute__")))
    (ggBadCubes : PySem.W.findIn K (.ref CBadCubes) "__getattr__" = some none)
    (hdiBadCubes : PySem.W.hasDictIn K CBadCubes = true)
    (hacBadCubes : PySem.W.findIn K (.ref CBadCubes) "__class__" = some (some (.builtin "object.__class__")))
    (hmrBadCubes : PySem.W.mroIn K CBadCubes (.type "object") = some true)
    (kbBadCubes : PySem.W.kitOne K (.ref CBadCubes) (.ref CB) = some true)
    (kvBadCubes : PySem.W.kitOne K (.ref CBadCubes) (.type "ValueError") = some true)
    (kk_BadCubes_BadCubes : PySem.W.kitOne K (.ref CBadCubes) (.ref CBadCubes) = some true)
    (kk_BadCubes_BadTurns : PySem.W.kitOne K (.ref CBadCubes) (.ref CBadTurns) = some false)
    (kk_BadCubes_BadFigures : PySem.W.kitOne K (.ref CBadCubes) (.ref CBadFigures) = some false)
    (kk_BadCubes_BadWidth : PySem.W.kitOne K (.ref CBadCubes) (.ref CBadWidth) = some false)
    (kk_BadCubes_BadRange : PySem.W.kitOne K (.ref CBadCubes) (.ref CBadRange) = some false)
    (kk_BadCubes_BadNeeded : PySem.W.kitOne K (.ref CBadCubes) (.ref CBadNeeded) = some false)
    (kk_BadCubes_BadNumber : PySem.W.kitOne K (.ref CBadCubes) (.ref CBadNumber) = some false)
    (kk_BadCubes_TooMany : PySem.W.kitOne K (.ref CBadCubes) (.ref CTooMany) = some false)
    (kk_BadCubes_BadSeen : PySem.W.kitOne K (.ref CBadCubes) (.ref CBadSeen) = some false)
    (kk_BadCubes_BadWays : PySem.W.kitOne K (.ref CBadCubes) (.ref CBadWays) = some false)
    (kk_BadCubes_NotShown : PySem.W.kitOne K (.ref CBadCubes) (.ref CNotShown) = some false)
    (kk_BadCubes_BadText : PySem.W.kitOne K (.ref CBadCubes) (.ref CBadText) = some false)
    (gaBadTurns : PySem.W.findIn K (.ref CBadTurns) "__getattribute__" = some (some (.builtin "BaseException.__getattribute__")))
    (ggBadTurns : PySem.W.findIn K (.ref CBadTurns) "__getattr__" = some none)
    (hdiBadTurns : PySem.W.hasDictIn K CBadTurns = true)
    (hacBadTurns : PySem.W.findIn K (.ref CBadTurns) "__class__" = some (some (.builtin "object.__class__")))
    (hmrBadTurns : PySem.W.mroIn K CBadTurns (.type "object") = some true)
    (kbBadTurns : PySem.W.kitOne K (.ref CBadTurns) (.ref CB) = some true)
    (kvBadTurns : PySem.W.kitOne K (.ref CBadTurns) (.type "ValueError") = some true)
    (kk_BadTurns_BadCubes : PySem.W.kitOne K (.ref CBadTurns) (.ref CBadCubes) = some false)
    (kk_BadTurns_BadTurns : PySem.W.kitOne K (.ref CBadTurns) (.ref CBadTurns) = some true)
    (kk_BadTurns_BadFigures : PySem.W.kitOne K (.ref CBadTurns) (.ref CBadFigures) = some false)
    (kk_BadTurns_BadWidth : PySem.W.kitOne K (.ref CBadTurns) (.ref CBadWidth) = some false)
    (kk_BadTurns_BadRange : PySem.W.kitOne K (.ref CBadTurns) (.ref CBadRange) = some false)
    (kk_BadTurns_BadNeeded : PySem.W.kitOne K (.ref CBadTurns) (.ref CBadNeeded) = some false)
    (kk_BadTurns_BadNumber : PySem.W.kitOne K (.ref CBadTurns) (.ref CBadNumber) = some false)
    (kk_BadTurns_TooMany : PySem.W.kitOne K (.ref CBadTurns) (.ref CTooMany) = some false)
    (kk_BadTurns_BadSeen : PySem.W.kitOne K (.ref CBadTurns) (.ref CBadSeen) = some false)
    (kk_BadTurns_BadWays : PySem.W.kitOne K (.ref CBadTurns) (.ref CBadWays) = some false)
    (kk_BadTurns_NotShown : PySem.W.kitOne K (.ref CBadTurns) (.ref CNotShown) = some false)
    (kk_BadTurns_BadText : PySem.W.kitOne K (.ref CBadTurns) (.ref CBadText) = some false)
    (gaBadFigures : PySem.W.findIn K (.ref CBadFigures) "__getattribute__" = some (some (.builtin "BaseException.__getattribute__")))
    (ggBadFigures : PySem.W.findIn K (.ref CBadFigures) "__getattr__" = some none)
    (hdiBadFigures : PySem.W.hasDictIn K CBadFigures = true)
    (hacBadFigures : PySem.W.findIn K (.ref CBadFigures) "__class__" = some (some (.builtin "object.__class__")))
    (hmrBadFigures : PySem.W.mroIn K CBadFigures (.type "object") = some true)
    (kbBadFigures : PySem.W.kitOne K (.ref CBadFigures) (.ref CB) = some true)
    (kvBadFigures : PySem.W.kitOne K (.ref CBadFigures) (.type "ValueError") = some true)
    (kk_BadFigures_BadCubes : PySem.W.kitOne K (.ref CBadFigures) (.ref CBadCubes) = some false)
    (kk_BadFigures_BadTurns : PySem.W.kitOne K (.ref CBadFigures) (.ref CBadTurns) = some false)
    (kk_BadFigures_BadFigures : PySem.W.kitOne K (.ref CBadFigures) (.ref CBadFigures) = some true)
    (kk_BadFigures_BadWidth : PySem.W.kitOne K (.ref CBadFigures) (.ref CBadWidth) = some false)
    (kk_BadFigures_BadRange : PySem.W.kitOne K (.ref CBadFigures) (.ref CBadRange) = some false)
    (kk_BadFigures_BadNeeded : PySem.W.kitOne K (.ref CBadFigures) (.ref CBadNeeded) = some false)
    (kk_BadFigures_BadNumber : PySem.W.kitOne K (.ref CBadFigures) (.ref CBadNumber) = some false)
    (kk_BadFigures_TooMany : PySem.W.kitOne K (.ref CBadFigures) (.ref CTooMany) = some false)
    (kk_BadFigures_BadSeen : PySem.W.kitOne K (.ref CBadFigures) (.ref CBadSeen) = some false)
    (kk_BadFigures_BadWays : PySem.W.kitOne K (.ref CBadFigures) (.ref CBadWays) = some false)
    (kk_BadFigures_NotShown : PySem.W.kitOne K (.ref CBadFigures) (.ref CNotShown) = some false)
    (kk_BadFigures_BadText : PySem.W.kitOne K (.ref CBadFigures) (.ref CBadText) = some false)
    (gaBadWidth : PySem.W.findIn K (.ref CBadWidth) "__getattribute__" = some (some (.builtin "BaseException.__getattribute__")))
    (ggBadWidth : PySem.W.findIn K (.ref CBadWidth) "__getattr__" = some none)
    (hdiBadWidth : PySem.W.hasDictIn K CBadWidth = true)
    (hacBadWidth : PySem.W.findIn K (.ref CBadWidth) "__class__" = some (some (.builtin "object.__class__")))
    (hmrBadWidth : PySem.W.mroIn K CBadWidth (.type "object") = some true)
    (kbBadWidth : PySem.W.kitOne K (.ref CBadWidth) (.ref CB) = some true)
    (kvBadWidth : PySem.W.kitOne K (.ref CBadWidth) (.type "ValueError") = some true)
    (kk_BadWidth_BadCubes : PySem.W.kitOne K (.ref CBadWidth) (.ref CBadCubes) = some false)
    (kk_BadWidth_BadTurns : PySem.W.kitOne K (.ref CBadWidth) (.ref CBadTurns) = some false)
    (kk_BadWidth_BadFigures : PySem.W.kitOne K (.ref CBadWidth) (.ref CBadFigures) = some false)
    (kk_BadWidth_BadWidth : PySem.W.kitOne K (.ref CBadWidth) (.ref CBadWidth) = some true)
    (kk_BadWidth_BadRange : PySem.W.kitOne K (.ref CBadWidth) (.ref CBadRange) = some false)
    (kk_BadWidth_BadNeeded : PySem.W.kitOne K (.ref CBadWidth) (.ref CBadNeeded) = some false)
    (kk_BadWidth_BadNumber : PySem.W.kitOne K (.ref CBadWidth) (.ref CBadNumber) = some false)
    (kk_BadWidth_TooMany : PySem.W.kitOne K (.ref CBadWidth) (.ref CTooMany) = some false)
    (kk_BadWidth_BadSeen : PySem.W.kitOne K (.ref CBadWidth) (.ref CBadSeen) = some false)
    (kk_BadWidth_BadWays : PySem.W.kitOne K (.ref CBadWidth) (.ref CBadWays) = some false)
    (kk_BadWidth_NotShown : PySem.W.kitOne K (.ref CBadWidth) (.ref CNotShown) = some false)
    (kk_BadWidth_BadText : PySem.W.kitOne K (.ref CBadWidth) (.ref CBadText) = some false)
    (gaBadRange : PySem.W.findIn K (.ref CBadRange) "__getattribute__" = some (some (.builtin "BaseException.__getattribute__")))
    (ggBadRange : PySem.W.findIn K (.ref CBadRange) "__getattr__" = some none)
    (hdiBadRange : PySem.W.hasDictIn K CBadRange = true)
    (hacBadRange : PySem.W.findIn K (.ref CBadRange) "__class__" = some (some (.builtin "object.__class__")))
    (hmrBadRange : PySem.W.mroIn K CBadRange (.type "object") = some true)
    (kbBadRange : PySem.W.kitOne K (.ref CBadRange) (.ref CB) = some true)
    (kvBadRange : PySem.W.kitOne K (.ref CBadRange) (.type "ValueError") = some true)
    (kk_BadRange_BadCubes : PySem.W.kitOne K (.ref CBadRange) (.ref CBadCubes) = some false)
    (kk_BadRange_BadTurns : PySem.W.kitOne K (.ref CBadRange) (.ref CBadTurns) = some false)
    (kk_BadRange_BadFigures : PySem.W.kitOne K (.ref CBadRange) (.ref CBadFigures) = some false)
    (kk_BadRange_BadWidth : PySem.W.kitOne K (.ref CBadRange) (.ref CBadWidth) = some false)
    (kk_BadRange_BadRange : PySem.W.kitOne K (.ref CBadRange) (.ref CBadRange) = some true)
    (kk_BadRange_BadNeeded : PySem.W.kitOne K (.ref CBadRange) (.ref CBadNeeded) = some false)
    (kk_BadRange_BadNumber : PySem.W.kitOne K (.ref CBadRange) (.ref CBadNumber) = some false)
    (kk_BadRange_TooMany : PySem.W.kitOne K (.ref CBadRange) (.ref CTooMany) = some false)
    (kk_BadRange_BadSeen : PySem.W.kitOne K (.ref CBadRange) (.ref CBadSeen) = some false)
    (kk_BadRange_BadWays : PySem.W.kitOne K (.ref CBadRange) (.ref CBadWays) = some false)
    (kk_BadRange_NotShown : PySem.W.kitOne K (.ref CBadRange) (.ref CNotShown) = some false)
    (kk_BadRange_BadText : PySem.W.kitOne K (.ref CBadRange) (.ref CBadText) = some false)
    (gaBadNeeded : PySem.W.findIn K (.ref CBadNeeded) "__getattribute__" = some (some (.builtin "BaseException.__getattribute__")))
    (ggBadNeeded : PySem.W.findIn K (.ref CBadNeeded) "__getattr__" = some none)
    (hdiBadNeeded : PySem.W.hasDictIn K CBadNeeded = true)
    (hacBadNeeded : PySem.W.findIn K (.ref CBadNeeded) "__class__" = some (some (.builtin "object.__class__")))
    (hmrBadNeeded : PySem.W.mroIn K CBadNeeded (.type "object") = some true)
    (kbBadNeeded : PySem.W.kitOne K (.ref CBadNeeded) (.ref CB) = some true)
    (kvBadNeeded : PySem.W.kitOne K (.ref CBadNeeded) (.type "ValueError") = some true)
    (kk_BadNeeded_BadCubes : PySem.W.kitOne K (.ref CBadNeeded) (.ref CBadCubes) = some false)
    (kk_BadNeeded_BadTurns : PySem.W.kitOne K (.ref CBadNeeded) (.ref CBadTurns) = some false)
    (kk_BadNeeded_BadFigures : PySem.W.kitOne K (.ref CBadNeeded) (.ref CBadFigures) = some false)
    (kk_BadNeeded_BadWidth : PySem.W.kitOne K (.ref CBadNeeded) (.ref CBadWidth) = some false)
    (kk_BadNeeded_BadRange : PySem.W.kitOne K (.ref CBadNeeded) (.ref CBadRange) = some false)
    (kk_BadNeeded_BadNeeded : PySem.W.kitOne K (.ref CBadNeeded) (.ref CBadNeeded) = some true)
    (kk_BadNeeded_BadNumber : PySem.W.kitOne K (.ref CBadNeeded) (.ref CBadNumber) = some false)
    (kk_BadNeeded_TooMany : PySem.W.kitOne K (.ref CBadNeeded) (.ref CTooMany) = some false)
    (kk_BadNeeded_BadSeen : PySem.W.kitOne K (.ref CBadNeeded) (.ref CBadSeen) = some false)
    (kk_BadNeeded_BadWays : PySem.W.kitOne K (.ref CBadNeeded) (.ref CBadWays) = some false)
    (kk_BadNeeded_NotShown : PySem.W.kitOne K (.ref CBadNeeded) (.ref CNotShown) = some false)
    (kk_BadNeeded_BadText : PySem.W.kitOne K (.ref CBadNeeded) (.ref CBadText) = some false)
    (gaBadNumber : PySem.W.findIn K (.ref CBadNumber) "__getattribute__" = some (some (.builtin "BaseException.__getattribute__")))
    (ggBadNumber : PySem.W.findIn K (.ref CBadNumber) "__getattr__" = some none)
    (hdiBadNumber : PySem.W.hasDictIn K CBadNumber = true)
    (hacBadNumber : PySem.W.findIn K (.ref CBadNumber) "__class__" = some (some (.builtin "object.__class__")))
    (hmrBadNumber : PySem.W.mroIn K CBadNumber (.type "object") = some true)
    (kbBadNumber : PySem.W.kitOne K (.ref CBadNumber) (.ref CB) = some true)
    (kvBadNumber : PySem.W.kitOne K (.ref CBadNumber) (.type "ValueError") = some true)
    (kk_BadNumber_BadCubes : PySem.W.kitOne K (.ref CBadNumber) (.ref CBadCubes) = some false)
    (kk_BadNumber_BadTurns : PySem.W.kitOne K (.ref CBadNumber) (.ref CBadTurns) = some false)
    (kk_BadNumber_BadFigures : PySem.W.kitOne K (.ref CBadNumber) (.ref CBadFigures) = some false)
    (kk_BadNumber_BadWidth : PySem.W.kitOne K (.ref CBadNumber) (.ref CBadWidth) = some false)
    (kk_BadNumber_BadRange : PySem.W.kitOne K (.ref CBadNumber) (.ref CBadRange) = some false)
    (kk_BadNumber_BadNeeded : PySem.W.kitOne K (.ref CBadNumber) (.ref CBadNeeded) = some false)
    (kk_BadNumber_BadNumber : PySem.W.kitOne K (.ref CBadNumber) (.ref CBadNumber) = some true)
    (kk_BadNumber_TooMany : PySem.W.kitOne K (.ref CBadNumber) (.ref CTooMany) = some false)
    (kk_BadNumber_BadSeen : PySem.W.kitOne K (.ref CBadNumber) (.ref CBadSeen) = some false)
    (kk_BadNumber_BadWays : PySem.W.kitOne K (.ref CBadNumber) (.ref CBadWays) = some false)
    (kk_BadNumber_NotShown : PySem.W.kitOne K (.ref CBadNumber) (.ref CNotShown) = some false)
    (kk_BadNumber_BadText : PySem.W.kitOne K (.ref CBadNumber) (.ref CBadText) = some false)
    (gaTooMany : PySem.W.findIn K (.ref CTooMany) "__getattribute__" = some (some (.builtin "BaseException.__getattribute__")))
    (ggTooMany : PySem.W.findIn K (.ref CTooMany) "__getattr__" = some none)
    (hdiTooMany : PySem.W.hasDictIn K CTooMany = true)
    (hacTooMany : PySem.W.findIn K (.ref CTooMany) "__class__" = some (some (.builtin "object.__class__")))
    (hmrTooMany : PySem.W.mroIn K CTooMany (.type "object") = some true)
    (kbTooMany : PySem.W.kitOne K (.ref CTooMany) (.ref CB) = some true)
    (kvTooMany : PySem.W.kitOne K (.ref CTooMany) (.type "ValueError") = some true)
    (kk_TooMany_BadCubes : PySem.W.kitOne K (.ref CTooMany) (.ref CBadCubes) = some false)
    (kk_TooMany_BadTurns : PySem.W.kitOne K (.ref CTooMany) (.ref CBadTurns) = some false)
    (kk_TooMany_BadFigures : PySem.W.kitOne K (.ref CTooMany) (.ref CBadFigures) = some false)
    (kk_TooMany_BadWidth : PySem.W.kitOne K (.ref CTooMany) (.ref CBadWidth) = some false)
    (kk_TooMany_BadRange : PySem.W.kitOne K (.ref CTooMany) (.ref CBadRange) = some false)
    (kk_TooMany_BadNeeded : PySem.W.kitOne K (.ref CTooMany) (.ref CBadNeeded) = some false)
    (kk_TooMany_BadNumber : PySem.W.kitOne K (.ref CTooMany) (.ref CBadNumber) = some false)
    (kk_TooMany_TooMany : PySem.W.kitOne K (.ref CTooMany) (.ref CTooMany) = some true)
    (kk_TooMany_BadSeen : PySem.W.kitOne K (.ref CTooMany) (.ref CBadSeen) = some false)
    (kk_TooMany_BadWays : PySem.W.kitOne K (.ref CTooMany) (.ref CBadWays) = some false)
    (kk_TooMany_NotShown : PySem.W.kitOne K (.ref CTooMany) (.ref CNotShown) = some false)
    (kk_TooMany_BadText : PySem.W.kitOne K (.ref CTooMany) (.ref CBadText) = some false)
    (gaBadSeen : PySem.W.findIn K (.ref CBadSeen) "__getattribute__" = some (some (.builtin "BaseException.__getattribute__")))
    (ggBadSeen : PySem.W.findIn K (.ref CBadSeen) "__getattr__" = some none)
    (hdiBadSeen : PySem.W.hasDictIn K CBadSeen = true)
    (hacBadSeen : PySem.W.findIn K (.ref CBadSeen) "__class__" = some (some (.builtin "object.__class__")))
    (hmrBadSeen : PySem.W.mroIn K CBadSeen (.type "object") = some true)
    (kbBadSeen : PySem.W.kitOne K (.ref CBadSeen) (.ref CB) = some true)
    (kvBadSeen : PySem.W.kitOne K (.ref CBadSeen) (.type "ValueError") = some true)
    (kk_BadSeen_BadCubes : PySem.W.kitOne K (.ref CBadSeen) (.ref CBadCubes) = some false)
    (kk_BadSeen_BadTurns : PySem.W.kitOne K (.ref CBadSeen) (.ref CBadTurns) = some false)
    (kk_BadSeen_BadFigures : PySem.W.kitOne K (.ref CBadSeen) (.ref CBadFigures) = some false)
    (kk_BadSeen_BadWidth : PySem.W.kitOne K (.ref CBadSeen) (.ref CBadWidth) = some false)
    (kk_BadSeen_BadRange : PySem.W.kitOne K (.ref CBadSeen) (.ref CBadRange) = some false)
    (kk_BadSeen_BadNeeded : PySem.W.kitOne K (.ref CBadSeen) (.ref CBadNeeded) = some false)
    (kk_BadSeen_BadNumber : PySem.W.kitOne K (.ref CBadSeen) (.ref CBadNumber) = some false)
    (kk_BadSeen_TooMany : PySem.W.kitOne K (.ref CBadSeen) (.ref CTooMany) = some false)
    (kk_BadSeen_BadSeen : PySem.W.kitOne K (.ref CBadSeen) (.ref CBadSeen) = some true)
    (kk_BadSeen_BadWays : PySem.W.kitOne K (.ref CBadSeen) (.ref CBadWays) = some false)
    (kk_BadSeen_NotShown : PySem.W.kitOne K (.ref CBadSeen) (.ref CNotShown) = some false)
    (kk_BadSeen_BadText : PySem.W.kitOne K (.ref CBadSeen) (.ref CBadText) = some false)
    (gaBadWays : PySem.W.findIn K (.ref CBadWays) "__getattribute__" = some (some (.builtin "BaseException.__getattribute__")))
    (ggBadWays : PySem.W.findIn K (.ref CBadWays) "__getattr__" = some none)
    (hdiBadWays : PySem.W.hasDictIn K CBadWays = true)
    (hacBadWays : PySem.W.findIn K (.ref CBadWays) "__class__" = some (some (.builtin "object.__class__")))
    (hmrBadWays : PySem.W.mroIn K CBadWays (.type "object") = some true)
    (kbBadWays : PySem.W.kitOne K (.ref CBadWays) (.ref CB) = some true)
    (kvBadWays : PySem.W.kitOne K (.ref CBadWays) (.type "ValueError") = some true)
    (kk_BadWays_BadCubes : PySem.W.kitOne K (.ref CBadWays) (.ref CBadCubes) = some false)
    (kk_BadWays_BadTurns : PySem.W.kitOne K (.ref CBadWays) (.ref CBadTurns) = some false)
    (kk_BadWays_BadFigures : PySem.W.kitOne K (.ref CBadWays) (.ref CBadFigures) = some false)
    (kk_BadWays_BadWidth : PySem.W.kitOne K (.ref CBadWays) (.ref CBadWidth) = some false)
    (kk_BadWays_BadRange : PySem.W.kitOne K (.ref CBadWays) (.ref CBadRange) = some false)
    (kk_BadWays_BadNeeded : PySem.W.kitOne K (.ref CBadWays) (.ref CBadNeeded) = some false)
    (kk_BadWays_BadNumber : PySem.W.kitOne K (.ref CBadWays) (.ref CBadNumber) = some false)
    (kk_BadWays_TooMany : PySem.W.kitOne K (.ref CBadWays) (.ref CTooMany) = some false)
    (kk_BadWays_BadSeen : PySem.W.kitOne K (.ref CBadWays) (.ref CBadSeen) = some false)
    (kk_BadWays_BadWays : PySem.W.kitOne K (.ref CBadWays) (.ref CBadWays) = some true)
    (kk_BadWays_NotShown : PySem.W.kitOne K (.ref CBadWays) (.ref CNotShown) = some false)
    (kk_BadWays_BadText : PySem.W.kitOne K (.ref CBadWays) (.ref CBadText) = some false)
    (gaNotShown : PySem.W.findIn K (.ref CNotShown) "__getattribute__" = some (some (.builtin "BaseException.__getattribute__")))
    (ggNotShown : PySem.W.findIn K (.ref CNotShown) "__getattr__" = some none)
    (hdiNotShown : PySem.W.hasDictIn K CNotShown = true)
    (hacNotShown : PySem.W.findIn K (.ref CNotShown) "__class__" = some (some (.builtin "object.__class__")))
    (hmrNotShown : PySem.W.mroIn K CNotShown (.type "object") = some true)
    (kbNotShown : PySem.W.kitOne K (.ref CNotShown) (.ref CB) = some true)
    (kvNotShown : PySem.W.kitOne K (.ref CNotShown) (.type "ValueError") = some true)
    (kk_NotShown_BadCubes : PySem.W.kitOne K (.ref CNotShown) (.ref CBadCubes) = some false)
    (kk_NotShown_BadTurns : PySem.W.kitOne K (.ref CNotShown) (.ref CBadTurns) = some false)
    (kk_NotShown_BadFigures : PySem.W.kitOne K (.ref CNotShown) (.ref CBadFigures) = some false)
    (kk_NotShown_BadWidth : PySem.W.kitOne K (.ref CNotShown) (.ref CBadWidth) = some false)
    (kk_NotShown_BadRange : PySem.W.kitOne K (.ref CNotShown) (.ref CBadRange) = some false)
    (kk_NotShown_BadNeeded : PySem.W.kitOne K (.ref CNotShown) (.ref CBadNeeded) = some false)
    (kk_NotShown_BadNumber : PySem.W.kitOne K (.ref CNotShown) (.ref CBadNumber) = some false)
    (kk_NotShown_TooMany : PySem.W.kitOne K (.ref CNotShown) (.ref CTooMany) = some false)
    (kk_NotShown_BadSeen : PySem.W.kitOne K (.ref CNotShown) (.ref CBadSeen) = some false)
    (kk_NotShown_BadWays : PySem.W.kitOne K (.ref CNotShown) (.ref CBadWays) = some false)
    (kk_NotShown_NotShown : PySem.W.kitOne K (.ref CNotShown) (.ref CNotShown) = some true)
    (kk_NotShown_BadText : PySem.W.kitOne K (.ref CNotShown) (.ref CBadText) = some false)
    (gaBadText : PySem.W.findIn K (.ref CBadText) "__getattribute__" = some (some (.builtin "BaseException.__getattribute__")))
    (ggBadText : PySem.W.findIn K (.ref CBadText) "__getattr__" = some none)
    (hdiBadText : PySem.W.hasDictIn K CBadText = true)
    (hacBadText : PySem.W.findIn K (.ref CBadText) "__class__" = some (some (.builtin "object.__class__")))
    (hmrBadText : PySem.W.mroIn K CBadText (.type "object") = some true)
    (kbBadText : PySem.W.kitOne K (.ref CBadText) (.ref CB) = some true)
    (kvBadText : PySem.W.kitOne K (.ref CBadText) (.type "ValueError") = some true)
    (kk_BadText_BadCubes : PySem.W.kitOne K (.ref CBadText) (.ref CBadCubes) = some false)
    (kk_BadText_BadTurns : PySem.W.kitOne K (.ref CBadText) (.ref CBadTurns) = some false)
    (kk_BadText_BadFigures : PySem.W.kitOne K (.ref CBadText) (.ref CBadFigures) = some false)
    (kk_BadText_BadWidth : PySem.W.kitOne K (.ref CBadText) (.ref CBadWidth) = some false)
    (kk_BadText_BadRange : PySem.W.kitOne K (.ref CBadText) (.ref CBadRange) = some false)
    (kk_BadText_BadNeeded : PySem.W.kitOne K (.ref CBadText) (.ref CBadNeeded) = some false)
    (kk_BadText_BadNumber : PySem.W.kitOne K (.ref CBadText) (.ref CBadNumber) = some false)
    (kk_BadText_TooMany : PySem.W.kitOne K (.ref CBadText) (.ref CTooMany) = some false)
    (kk_BadText_BadSeen : PySem.W.kitOne K (.ref CBadText) (.ref CBadSeen) = some false)
    (kk_BadText_BadWays : PySem.W.kitOne K (.ref CBadText) (.ref CBadWays) = some false)
    (kk_BadText_NotShown : PySem.W.kitOne K (.ref CBadText) (.ref CNotShown) = some false)
    (kk_BadText_BadText : PySem.W.kitOne K (.ref CBadText) (.ref CBadText) = some true)
    : ∃ fd : FuncData, (∀ (s : Shared) (v : Value), BindsTo s fd ⟨[v], []⟩ [("_law_script", v)]) ∧ ∀ base : Heap, K.In base → base.Ns mainGlobals mg → FnOk P w K mg base (L2.CX P w) 4 fa fd ["_law_script"] (spLaw K) := by
  have e := hfa.symm.trans (PySem.W.mg_of X G a_law)
  cases e
  have BE : BaseE K mg "CubeError" := ⟨⟨CB, _, PySem.W.mg_of X G aB, rB, sB, iB⟩⟩
  have FIBadCubes := fun_mk (st := s_iBadCubes) lIBadCubes cIBadCubes kIBadCubes
  have bIBadCubes := FIBadCubes.binds (ps := ["self", "index"]) fun _ _ _ _ _ _ us hl => match us, hl with | [_, _], _ => rfl
  have OEBadCubes : OexC K CBadCubes := ⟨⟨_, _, _, _, _, _, _, _, _, _, _, _, _, _, _, xEBadCubes, vEBadCubes⟩, saEBadCubes, exEBadCubes, tyEBadCubes, kcEBadCubes⟩
  have FIBadTurns := fun_mk (st := s_iBadTurns) lIBadTurns cIBadTurns kIBadTurns
  have bIBadTurns := FIBadTurns.binds (ps := ["self"]) fun _ _ _ _ _ _ us hl => match us, hl with | [_], _ => rfl
  have OEBadTurns : OexC K CBadTurns := ⟨⟨_, _, _, _, _, _, _, _, _, _, _, _, _, _, _, xEBadTurns, vEBadTurns⟩, saEBadTurns, exEBadTurns, tyEBadTurns, kcEBadTurns⟩
  have FIBadFigures := fun_mk (st := s_iBadFigures) lIBadFigures cIBadFigures kIBadFigures
  have bIBadFigures := FIBadFigures.binds (ps := ["self"]) fun _ _ _ _ _ _ us hl => match us, hl with | [_], _ => rfl
  have OEBadFigures : OexC K CBadFigures := ⟨⟨_, _, _, _, _, _, _, _, _, _, _, _, _, _, _, xEBadFigures, vEBadFigures⟩, saEBadFigures, exEBadFigures, tyEBadFigures, kcEBadFigures⟩
  have FIBadWidth := fun_mk (st := s_iBadWidth) lIBadWidth cIBadWidth kIBadWidth
  have bIBadWidth := FIBadWidth.binds (ps := ["self"]) fun _ _ _ _ _ _ us hl => match us, hl with | [_], _ => rfl
  have OEBadWidth : OexC K CBadWidth := ⟨⟨_, _, _, _, _, _, _, _, _, _, _, _, _, _, _, xEBadWidth, vEBadWidth⟩, saEBadWidth, exEBadWidth, tyEBadWidth, kcEBadWidth⟩
  have FIBadRange := fun_mk (st := s_iBadRange) lIBadRange cIBadRange kIBadRange
  have bIBadRange := FIBadRange.binds (ps := ["self"]) fun _ _ _ _ _ _ us hl => match us, hl with | [_], _ => rfl
  have OEBadRange : OexC K CBadRange := ⟨⟨_, _, _, _, _, _, _, _, _, _, _, _, _, _, _, xEBadRange, vEBadRange⟩, saEBadRange, exEBadRange, tyEBadRange, kcEBadRange⟩
  have FIBadNeeded := fun_mk (st := s_iBadNeeded) lIBadNeeded cIBadNeeded kIBadNeeded
  have bIBadNeeded := FIBadNeeded.binds (ps := ["self", "index"]) fun _ _ _ _ _ _ us hl => match us, hl with | [_, _], _ => rfl
  have OEBadNeeded : OexC K CBadNeeded := ⟨⟨_, _, _, _, _, _, _, _, _, _, _, _, _, _, _, xEBadNeeded, vEBadNeeded⟩, saEBadNeeded, exEBadNeeded, tyEBadNeeded, kcEBadNeeded⟩
  have FIBadNumber := fun_mk (st := s_iBadNumber) lIBadNumber cIBadNumber kIBadNumber
  have bIBadNumber := FIBadNumber.binds (ps := ["self"]) fun _ _ _ _ _ _ us hl => match us, hl with | [_], _ => rfl
  have OEBadNumber : OexC K CBadNumber := ⟨⟨_, _, _, _, _, _, _, _, _, _, _, _, _, _, _, xEBadNumber, vEBadNumber⟩, saEBadNumber, exEBadNumber, tyEBadNumber, kcEBadNumber⟩
  have FITooMany := fun_mk (st := s_iTooMany) lITooMany cITooMany kITooMany
  have bITooMany := FITooMany.binds (ps := ["self"]) fun _ _ _ _ _ _ us hl => match us, hl with | [_], _ => rfl
  have OETooMany : OexC K CTooMany := ⟨⟨_, _, _, _, _, _, _, _, _, _, _, _, _, _, _, xETooMany, vETooMany⟩, saETooMany, exETooMany, tyETooMany, kcETooMany⟩
  have FIBadSeen := fun_mk (st := s_iBadSeen) lIBadSeen cIBadSeen kIBadSeen
  have bIBadSeen := FIBadSeen.binds (ps := ["self", "index"]) fun _ _ _ _ _ _ us hl => match us, hl with | [_, _], _ => rfl
  have OEBadSeen : OexC K CBadSeen := ⟨⟨_, _, _, _, _, _, _, _, _, _, _, _, _, _, _, xEBadSeen, vEBadSeen⟩, saEBadSeen, exEBadSeen, tyEBadSeen, kcEBadSeen⟩
  have FIBadWays := fun_mk (st := s_iBadWays) lIBadWays cIBadWays kIBadWays
  have bIBadWays := FIBadWays.binds (ps := ["self", "index"]) fun _ _ _ _ _ _ us hl => match us, hl with | [_, _], _ => rfl
  have OEBadWays : OexC K CBadWays := ⟨⟨_, _, _, _, _, _, _, _, _, _, _, _, _, _, _, xEBadWays, vEBadWays⟩, saEBadWays, exEBadWays, tyEBadWays, kcEBadWays⟩
  have FINotShown := fun_mk (st := s_iNotShown) lINotShown cINotShown kINotShown
  have bINotShown := FINotShown.binds (ps := ["self"]) fun _ _ _ _ _ _ us hl => match us, hl with | [_], _ => rfl
  have OENotShown : OexC K CNotShown := ⟨⟨_, _, _, _, _, _, _, _, _, _, _, _, _, _, _, xENotShown, vENotShown⟩, saENotShown, exENotShown, tyENotShown, kcENotShown⟩
  have FIBadText := fun_mk (st := s_iBadText) lIBadText cIBadText kIBadText
  have bIBadText := FIBadText.binds (ps := ["self", "word"]) fun _ _ _ _ _ _ us hl => match us, hl with | [_, _], _ => rfl
  have OEBadText : OexC K CBadText := ⟨⟨_, _, _, _, _, _, _, _, _, _, _, _, _, _, _, xEBadText, vEBadText⟩, saEBadText, exEBadText, tyEBadText, kcEBadText⟩
  have F_lbelow := fun_mk (st := s_lbelow) l_lbelow c_lbelow k_lbelow
  have b_lbelow := F_lbelow.binds (ps := ["_law_d", "_law_size"]) fun _ _ _ _ _ _ us hl => match us, hl with | [_, _], _ => rfl
  have F_lrandom := fun_mk (st := s_lrandom) l_lrandom c_lrandom k_lrandom
  have b_lrandom := F_lrandom.binds (ps := ["_law_script", "_law_salt"]) fun _ _ _ _ _ _ us hl => match us, hl with | [_, _], _ => rfl
  have F_lpick := fun_mk (st := s_lpick) l_lpick c_lpick k_lpick
  have b_lpick := F_lpick.binds (ps := ["_law_d", "_law_items"]) fun _ _ _ _ _ _ us hl => match us, hl with | [_, _], _ => rfl
  have F_lone := fun_mk (st := s_lone) l_lone c_lone k_lone
  have b_lone := F_lone.binds (ps := ["_law_d"]) fun _ _ _ _ _ _ us hl => match us, hl with | [_], _ => rfl
  have F_lclasses := fun_mk (st := s_lclasses) l_lclasses c_lclasses k_lclasses
  have b_lclasses := F_lclasses.binds (ps := ["_law_error"]) fun _ _ _ _ _ _ us hl => match us, hl with | [_], _ => rfl
  have F_law := fun_mk (st := s_law) l_law c_law k_law
  have b_law := F_law.binds (ps := ["_law_script"]) fun _ _ _ _ _ _ us hl => match us, hl with | [_], _ => rfl
  refine ⟨PySem.W.fnOf "law" "law" (defArgs s_law) (defBody s_law) (defScope s_law) .none kV_law dc_law pm_law an_law cd_law ct_law, fun s v => .of_eq rfl, fun base _ _ => ?_⟩
  have Tx0 : Txt K mg P w base := ⟨PySem.W.mg_none_of X G z_abs, PySem.W.mg_none_of X G z_int, PySem.W.mg_none_of X G z_isinstance, PySem.W.mg_none_of X G z_len, PySem.W.mg_none_of X G z_range, PySem.W.mg_none_of X G z_ValueError⟩
  have T : TxtX K mg P w base CB CBadCubes CBadTurns CBadFigures CBadWidth CBadRange CBadNeeded CBadNumber CTooMany CBadSeen CBadWays CNotShown CBadText := { Tx0 with m_CubeError := PySem.W.mg_of X G aB, m_BadCubes := PySem.W.mg_of X G aEBadCubes, e_BadCubes := ⟨gaBadCubes, ggBadCubes, exEBadCubes, hdiBadCubes, hacBadCubes, hnX, htX, hmrBadCubes⟩, k_BadCubes_CubeError := kbBadCubes, v_BadCubes := kvBadCubes, f_BadCubes := ⟨⟨gaBadCubes, ggBadCubes, exEBadCubes, hdiBadCubes⟩, nEBadCubes⟩, k_BadCubes_BadCubes := kk_BadCubes_BadCubes, k_BadCubes_BadTurns := kk_BadCubes_BadTurns, k_BadCubes_BadFigures := kk_BadCubes_BadFigures, k_BadCubes_BadWidth := kk_BadCubes_BadWidth, k_BadCubes_BadRange := kk_BadCubes_BadRange, k_BadCubes_BadNeeded := kk_BadCubes_BadNeeded, k_BadCubes_BadNumber := kk_BadCubes_BadNumber, k_BadCubes_TooMany := kk_BadCubes_TooMany, k_BadCubes_BadSeen := kk_BadCubes_BadSeen, k_BadCubes_BadWays := kk_BadCubes_BadWays, k_BadCubes_NotShown := kk_BadCubes_NotShown, k_BadCubes_BadText := kk_BadCubes_BadText, m_BadTurns := PySem.W.mg_of X G aEBadTurns, e_BadTurns := ⟨gaBadTurns, ggBadTurns, exEBadTurns, hdiBadTurns, hacBadTurns, hnX, htX, hmrBadTurns⟩, k_BadTurns_CubeError := kbBadTurns, v_BadTurns := kvBadTurns, k_BadTurns_BadCubes := kk_BadTurns_BadCubes, k_BadTurns_BadTurns := kk_BadTurns_BadTurns, k_BadTurns_BadFigures := kk_BadTurns_BadFigures, k_BadTurns_BadWidth := kk_BadTurns_BadWidth, k_BadTurns_BadRange := kk_BadTurns_BadRange, k_BadTurns_BadNeeded := kk_BadTurns_BadNeeded, k_BadTurns_BadNumber := kk_BadTurns_BadNumber, k_BadTurns_TooMany := kk_BadTurns_TooMany, k_BadTurns_BadSeen := kk_BadTurns_BadSeen, k_BadTurns_BadWays := kk_BadTurns_BadWays, k_BadTurns_NotShown := kk_BadTurns_NotShown, k_BadTurns_BadText := kk_BadTurns_BadText, m_BadFigures := PySem.W.mg_of X G aEBadFigures, e_BadFigures := ⟨gaBadFigures, ggBadFigures, exEBadFigures, hdiBadFigures, hacBadFigures, hnX, htX, hmrBadFigures⟩, k_BadFigures_CubeError := kbBadFigures, v_BadFigures := kvBadFigures, k_BadFigures_BadCubes := kk_BadFigures_BadCubes, k_BadFigures_BadTurns := kk_BadFigures_BadTurns, k_BadFigures_BadFigures := kk_BadFigures_BadFigures, k_BadFigures_BadWidth := kk_BadFigures_BadWidth, k_BadFigures_BadRange := kk_BadFigures_BadRange, k_BadFigures_BadNeeded := kk_BadFigures_BadNeeded, k_BadFigures_BadNumber := kk_BadFigures_BadNumber, k_BadFigures_TooMany := kk_BadFigures_TooMany, k_BadFigures_BadSeen := kk_BadFigures_BadSeen, k_BadFigures_BadWays := kk_BadFigures_BadWays, k_BadFigures_NotShown := kk_BadFigures_NotShown, k_BadFigures_BadText := kk_BadFigures_BadText, m_BadWidth := PySem.W.mg_of X G aEBadWidth, e_BadWidth := ⟨gaBadWidth, ggBadWidth, exEBadWidth, hdiBadWidth, hacBadWidth, hnX, htX, hmrBadWidth⟩, k_BadWidth_CubeError := kbBadWidth, v_BadWidth := kvBadWidth, k_BadWidth_BadCubes := kk_BadWidth_BadCubes, k_BadWidth_BadTurns := kk_BadWidth_BadTurns, k_BadWidth_BadFigures := kk_BadWidth_BadFigures, k_BadWidth_BadWidth := kk_BadWidth_BadWidth, k_BadWidth_BadRange := kk_BadWidth_BadRange, k_BadWidth_BadNeeded := kk_BadWidth_BadNeeded, k_BadWidth_BadNumber := kk_BadWidth_BadNumber, k_BadWidth_TooMany := kk_BadWidth_TooMany, k_BadWidth_BadSeen := kk_BadWidth_BadSeen, k_BadWidth_BadWays := kk_BadWidth_BadWays, k_BadWidth_NotShown := kk_BadWidth_NotShown, k_BadWidth_BadText := kk_BadWidth_BadText, m_BadRange := PySem.W.mg_of X G aEBadRange, e_BadRange := ⟨gaBadRange, ggBadRange, exEBadRange, hdiBadRange, hacBadRange, hnX, htX, hmrBadRange⟩, k_BadRange_CubeError := kbBadRange, v_BadRange := kvBadRange, k_BadRange_BadCubes := kk_BadRange_BadCubes, k_BadRange_BadTurns := kk_BadRange_BadTurns, k_BadRange_BadFigures := kk_BadRange_BadFigures, k_BadRange_BadWidth := kk_BadRange_BadWidth, k_BadRange_BadRange := kk_BadRange_BadRange, k_BadRange_BadNeeded := kk_BadRange_BadNeeded, k_BadRange_BadNumber := kk_BadRange_BadNumber, k_BadRange_TooMany := kk_BadRange_TooMany, k_BadRange_BadSeen := kk_BadRange_BadSeen, k_BadRange_BadWays := kk_BadRange_BadWays, k_BadRange_NotShown := kk_BadRange_NotShown, k_BadRange_BadText := kk_BadRange_BadText, m_BadNeeded := PySem.W.mg_of X G aEBadNeeded, e_BadNeeded := ⟨gaBadNeeded, ggBadNeeded, exEBadNeeded, hdiBadNeeded, hacBadNeeded, hnX, htX, hmrBadNeeded⟩, k_BadNeeded_CubeError := kbBadNeeded, v_BadNeeded := kvBadNeeded, f_BadNeeded := ⟨⟨gaBadNeeded, ggBadNeeded, exEBadNeeded, hdiBadNeeded⟩, nEBadNeeded⟩, k_BadNeeded_BadCubes := kk_BadNeeded_BadCubes, k_BadNeeded_BadTurns := kk_BadNeeded_BadTurns, k_BadNeeded_BadFigures := kk_BadNeeded_BadFigures, k_BadNeeded_BadWidth := kk_BadNeeded_BadWidth, k_BadNeeded_BadRange := kk_BadNeeded_BadRange, k_BadNeeded_BadNeeded := kk_BadNeeded_BadNeeded, k_BadNeeded_BadNumber := kk_BadNeeded_BadNumber, k_BadNeeded_TooMany := kk_BadNeeded_TooMany, k_BadNeeded_BadSeen := kk_BadNeeded_BadSeen, k_BadNeeded_BadWays := kk_BadNeeded_BadWays, k_BadNeeded_NotShown := kk_BadNeeded_NotShown, k_BadNeeded_BadText := kk_BadNeeded_BadText, m_BadNumber := PySem.W.mg_of X G aEBadNumber, e_BadNumber := ⟨gaBadNumber, ggBadNumber, exEBadNumber, hdiBadNumber, hacBadNumber, hnX, htX, hmrBadNumber⟩, k_BadNumber_CubeError := kbBadNumber, v_BadNumber := kvBadNumber, k_BadNumber_BadCubes := kk_BadNumber_BadCubes, k_BadNumber_BadTurns := kk_BadNumber_BadTurns, k_BadNumber_BadFigures := kk_BadNumber_BadFigures, k_BadNumber_BadWidth := kk_BadNumber_BadWidth, k_BadNumber_BadRange := kk_BadNumber_BadRange, k_BadNumber_BadNeeded := kk_BadNumber_BadNeeded, k_BadNumber_BadNumber := kk_BadNumber_BadNumber, k_BadNumber_TooMany := kk_BadNumber_TooMany, k_BadNumber_BadSeen := kk_BadNumber_BadSeen, k_BadNumber_BadWays := kk_BadNumber_BadWays, k_BadNumber_NotShown := kk_BadNumber_NotShown, k_BadNumber_BadText := kk_BadNumber_BadText, m_TooMany := PySem.W.mg_of X G aETooMany, e_TooMany := ⟨gaTooMany, ggTooMany, exETooMany, hdiTooMany, hacTooMany, hnX, htX, hmrTooMany⟩, k_TooMany_CubeError := kbTooMany, v_TooMany := kvTooMany, k_TooMany_BadCubes := kk_TooMany_BadCubes, k_TooMany_BadTurns := kk_TooMany_BadTurns, k_TooMany_BadFigures := kk_TooMany_BadFigures, k_TooMany_BadWidth := kk_TooMany_BadWidth, k_TooMany_BadRange := kk_TooMany_BadRange, k_TooMany_BadNeeded := kk_TooMany_BadNeeded, k_TooMany_BadNumber := kk_TooMany_BadNumber, k_TooMany_TooMany := kk_TooMany_TooMany, k_TooMany_BadSeen := kk_TooMany_BadSeen, k_TooMany_BadWays := kk_TooMany_BadWays, k_TooMany_NotShown := kk_TooMany_NotShown, k_TooMany_BadText := kk_TooMany_BadText, m_BadSeen := PySem.W.mg_of X G aEBadSeen, e_BadSeen := ⟨gaBadSeen, ggBadSeen, exEBadSeen, hdiBadSeen, hacBadSeen, hnX, htX, hmrBadSeen⟩, k_BadSeen_CubeError := kbBadSeen, v_BadSeen := kvBadSeen, f_BadSeen := ⟨⟨gaBadSeen, ggBadSeen, exEBadSeen, hdiBadSeen⟩, nEBadSeen⟩, k_BadSeen_BadCubes := kk_BadSeen_BadCubes, k_BadSeen_BadTurns := kk_BadSeen_BadTurns, k_BadSeen_BadFigures := kk_BadSeen_BadFigures, k_BadSeen_BadWidth := kk_BadSeen_BadWidth, k_BadSeen_BadRange := kk_BadSeen_BadRange, k_BadSeen_BadNeeded := kk_BadSeen_BadNeeded, k_BadSeen_BadNumber := kk_BadSeen_BadNumber, k_BadSeen_TooMany := kk_BadSeen_TooMany, k_BadSeen_BadSeen := kk_BadSeen_BadSeen, k_BadSeen_BadWays := kk_BadSeen_BadWays, k_BadSeen_NotShown := kk_BadSeen_NotShown, k_BadSeen_BadText := kk_BadSeen_BadText, m_BadWays := PySem.W.mg_of X G aEBadWays, e_BadWays := ⟨gaBadWays, ggBadWays, exEBadWays, hdiBadWays, hacBadWays, hnX, htX, hmrBadWays⟩, k_BadWays_CubeError := kbBadWays, v_BadWays := kvBadWays, f_BadWays := ⟨⟨gaBadWays, ggBadWays, exEBadWays, hdiBadWays⟩, nEBadWays⟩, k_BadWays_BadCubes := kk_BadWays_BadCubes, k_BadWays_BadTurns := kk_BadWays_BadTurns, k_BadWays_BadFigures := kk_BadWays_BadFigures, k_BadWays_BadWidth := kk_BadWays_BadWidth, k_BadWays_BadRange := kk_BadWays_BadRange, k_BadWays_BadNeeded := kk_BadWays_BadNeeded, k_BadWays_BadNumber := kk_BadWays_BadNumber, k_BadWays_TooMany := kk_BadWays_TooMany, k_BadWays_BadSeen := kk_BadWays_BadSeen, k_BadWays_BadWays := kk_BadWays_BadWays, k_BadWays_NotShown := kk_BadWays_NotShown, k_BadWays_BadText := kk_BadWays_BadText, m_NotShown := PySem.W.mg_of X G aENotShown, e_NotShown := ⟨gaNotShown, ggNotShown, exENotShown, hdiNotShown, hacNotShown, hnX, htX, hmrNotShown⟩, k_NotShown_CubeError := kbNotShown, v_NotShown := kvNotShown, k_NotShown_BadCubes := kk_NotShown_BadCubes, k_NotShown_BadTurns := kk_NotShown_BadTurns, k_NotShown_BadFigures := kk_NotShown_BadFigures, k_NotShown_BadWidth := kk_NotShown_BadWidth, k_NotShown_BadRange := kk_NotShown_BadRange, k_NotShown_BadNeeded := kk_NotShown_BadNeeded, k_NotShown_BadNumber := kk_NotShown_BadNumber, k_NotShown_TooMany := kk_NotShown_TooMany, k_NotShown_BadSeen := kk_NotShown_BadSeen, k_NotShown_BadWays := kk_NotShown_BadWays, k_NotShown_NotShown := kk_NotShown_NotShown, k_NotShown_BadText := kk_NotShown_BadText, m_BadText := PySem.W.mg_of X G aEBadText, e_BadText := ⟨gaBadText, ggBadText, exEBadText, hdiBadText, hacBadText, hnX, htX, hmrBadText⟩, k_BadText_CubeError := kbBadText, v_BadText := kvBadText, f_BadText := ⟨⟨gaBadText, ggBadText, exEBadText, hdiBadText⟩, nEBadText⟩, k_BadText_BadCubes := kk_BadText_BadCubes, k_BadText_BadTurns := kk_BadText_BadTurns, k_BadText_BadFigures := kk_BadText_BadFigures, k_BadText_BadWidth := kk_BadText_BadWidth, k_BadText_BadRange := kk_BadText_BadRange, k_BadText_BadNeeded := kk_BadText_BadNeeded, k_BadText_BadNumber := kk_BadText_BadNumber, k_BadText_TooMany := kk_BadText_TooMany, k_BadText_BadSeen := kk_BadText_BadSeen, k_BadText_BadWays := kk_BadText_BadWays, k_BadText_NotShown := kk_BadText_NotShown, k_BadText_BadText := kk_BadText_BadText }
  have x_BadCubes : Err P w K mg base "BadCubes" CBadCubes (some "index") := ⟨OEBadCubes, PySem.W.mg_of X G aEBadCubes, ⟨fIBadCubes, _, _, iEBadCubes, tiEBadCubes, bIBadCubes, ok_iBadCubes FIBadCubes BE OEBadCubes nEBadCubes⟩⟩
  have x_BadTurns : Err P w K mg base "BadTurns" CBadTurns none := ⟨OEBadTurns, PySem.W.mg_of X G aEBadTurns, ⟨fIBadTurns, _, _, iEBadTurns, tiEBadTurns, bIBadTurns, ok_iBadTurns FIBadTurns BE OEBadTurns⟩⟩
  have x_BadFigures : Err P w K mg base "BadFigures" CBadFigures none := ⟨OEBadFigures, PySem.W.mg_of X G aEBadFigures, ⟨fIBadFigures, _, _, iEBadFigures, tiEBadFigures, bIBadFigures, ok_iBadFigures FIBadFigures BE OEBadFigures⟩⟩
  have x_BadWidth : Err P w K mg base "BadWidth" CBadWidth none := ⟨OEBadWidth, PySem.W.mg_of X G aEBadWidth, ⟨fIBadWidth, _, _, iEBadWidth, tiEBadWidth, bIBadWidth, ok_iBadWidth FIBadWidth BE OEBadWidth⟩⟩
  have x_BadRange : Err P w K mg base "BadRange" CBadRange none := ⟨OEBadRange, PySem.W.mg_of X G aEBadRange, ⟨fIBadRange, _, _, iEBadRange, tiEBadRange, bIBadRange, ok_iBadRange FIBadRange BE OEBadRange⟩⟩
  have x_BadNeeded : Err P w K mg base "BadNeeded" CBadNeeded (some "index") := ⟨OEBadNeeded, PySem.W.mg_of X G aEBadNeeded, ⟨fIBadNeeded, _, _, iEBadNeeded, tiEBadNeeded, bIBadNeeded, ok_iBadNeeded FIBadNeeded BE OEBadNeeded nEBadNeeded⟩⟩
  have x_BadNumber : Err P w K mg base "BadNumber" CBadNumber none := ⟨OEBadNumber, PySem.W.mg_of X G aEBadNumber, ⟨fIBadNumber, _, _, iEBadNumber, tiEBadNumber, bIBadNumber, ok_iBadNumber FIBadNumber BE OEBadNumber⟩⟩
  have x_TooMany : Err P w K mg base "TooMany" CTooMany none := ⟨OETooMany, PySem.W.mg_of X G aETooMany, ⟨fITooMany, _, _, iETooMany, tiETooMany, bITooMany, ok_iTooMany FITooMany BE OETooMany⟩⟩
  have x_BadSeen : Err P w K mg base "BadSeen" CBadSeen (some "index") := ⟨OEBadSeen, PySem.W.mg_of X G aEBadSeen, ⟨fIBadSeen, _, _, iEBadSeen, tiEBadSeen, bIBadSeen, ok_iBadSeen FIBadSeen BE OEBadSeen nEBadSeen⟩⟩
  have x_BadWays : Err P w K mg base "BadWays" CBadWays (some "index") := ⟨OEBadWays, PySem.W.mg_of X G aEBadWays, ⟨fIBadWays, _, _, iEBadWays, tiEBadWays, bIBadWays, ok_iBadWays FIBadWays BE OEBadWays nEBadWays⟩⟩
  have x_NotShown : Err P w K mg base "NotShown" CNotShown none := ⟨OENotShown, PySem.W.mg_of X G aENotShown, ⟨fINotShown, _, _, iENotShown, tiENotShown, bINotShown, ok_iNotShown FINotShown BE OENotShown⟩⟩
  have x_BadText : Err P w K mg base "BadText" CBadText (some "word") := ⟨OEBadText, PySem.W.mg_of X G aEBadText, ⟨fIBadText, _, _, iEBadText, tiEBadText, bIBadText, ok_iBadText FIBadText BE OEBadText nEBadText⟩⟩
  have c_lbelow : Cal P w K mg base "_law_below" 1 2 gBelow := ⟨f_lbelow, _, _, ok_lbelow F_lbelow Tx0.b_len Tx0.b_int, PySem.W.mg_of X G a_lbelow, k_lbelow, b_lbelow⟩
  have c_lpick : Cal P w K mg base "_law_pick" 2 2 gPick := ⟨f_lpick, _, _, ok_lpick F_lpick T (c_lbelow := c_lbelow), PySem.W.mg_of X G a_lpick, k_lpick, b_lpick⟩
  have c_lone : Cal P w K mg base "_law_one" 3 1 (gOne CBadCubes CBadNeeded CBadSeen CBadWays CBadText) := ⟨f_lone, _, _, ok_lone F_lone T (x_BadCubes := x_BadCubes) (x_BadNeeded := x_BadNeeded) (x_BadSeen := x_BadSeen) (x_BadText := x_BadText) (x_BadWays := x_BadWays) (c_lbelow := c_lbelow) (c_lpick := c_lpick), PySem.W.mg_of X G a_lone, k_lone, b_lone⟩
  have c_lclasses : Cal P w K mg base "_law_classes" 1 1 (gCls [CBadCubes, CBadTurns, CBadFigures, CBadWidth, CBadRange, CBadNeeded, CBadNumber, CTooMany, CBadSeen, CBadWays, CNotShown, CBadText]) := ⟨f_lclasses, _, _, ok_lclasses F_lclasses T , PySem.W.mg_of X G a_lclasses, k_lclasses, b_lclasses⟩
  exact ok_law F_law T (ok_lrandom F_lrandom Tx0.b_int Tx0.b_abs) (PySem.W.mg_of X G a_lrandom) k_lrandom b_lrandom x_BadFigures x_BadNumber x_BadRange x_BadTurns x_BadWidth x_NotShown x_TooMany c_lclasses c_lone
end K18

open PySem PySem.W PyProof.Rows
set_option maxRecDepth 100000 in
set_option maxHeartbeats 0 in
theorem PySem.Challenge.cw_daycubes_k18_errors_apart_holds : PySem.Challenge.rw_daycubes_k18_errors_apart.Holds := by
  w_on; o_law; k_head; (case hw => w_witness2)
  k_fill
  refine L2.walk_of (l := PySem.Challenge.rw_daycubes_k18_errors_apart) (n := 63) (k := 4) (x := "_law_script") (CX := fun w => L2.CX PySem.Challenge.pw_daycubes_k18_errors_apart w) (sp := fun w => Q.spLaw _) rfl (by decide) rfl ⟨rfl, by decide, by decide⟩ (fun w h Y => by first | exact PySem.W.kIn_of Y | exact PySem.W.km_in_of Y) ?F (fun _ _ a ns hl _ hS => ⟨a, ns, rfl, hS, hl, fun _ => rfl⟩) (fun _ _ _ _ _ z => by obtain ⟨_, _, _, _, _, _, _, _, _, _, _, _, z⟩ := z; exact z.elim)
  case F =>
    intro w mg fa h KX G hmg
    refine' K18.all_mk KX G hmg ?aB ?rB ?sB ?iB ?aEBadCubes ?xEBadCubes ?vEBadCubes ?saEBadCubes ?exEBadCubes ?tyEBadCubes ?kcEBadCubes ?iEBadCubes ?tiEBadCubes ?lIBadCubes ?cIBadCubes ?kIBadCubes ?nEBadCubes ?aEBadTurns ?xEBadTurns ?vEBadTurns ?saEBadTurns ?exEBadTurns ?tyEBadTurns ?kcEBadTurns ?iEBadTurns ?tiEBadTurns ?lIBadTurns ?cIBadTurns ?kIBadTurns ?aEBadFigures ?xEBadFigures ?vEBadFigures ?saEBadFigures ?exEBadFigures ?tyEBadFigures ?kcEBadFigures ?iEBadFigures ?tiEBadFigures ?lIBadFigures ?cIBadFigures ?kIBadFigures ?aEBadWidth ?xEBadWidth ?vEBadWidth ?saEBadWidth ?exEBadWidth ?tyEBadWidth ?kcEBadWidth ?iEBadWidth ?tiEBadWidth ?lIBadWidth ?cIBadWidth ?kIBadWidth ?aEBadRange ?xEBadRange ?vEBadRange ?saEBadRange ?exEBadRange ?tyEBadRange ?kcEBadRange ?iEBadRange ?tiEBadRange ?lIBadRange ?cIBadRange ?kIBadRange ?aEBadNeeded ?xEBadNeeded ?vEBadNeeded ?saEBadNeeded ?exEBadNeeded ?tyEBadNeeded ?kcEBadNeeded ?iEBadNeeded ?tiEBadNeeded ?lIBadNeeded ?cIBadNeeded ?kIBadNeeded ?nEBadNeeded ?aEBadNumber ?xEBadNumber ?vEBadNumber ?saEBadNumber ?exEBadNumber ?tyEBadNumber ?kcEBadNumber ?iEBadNumber ?tiEBadNumber ?lIBadNumber ?cIBadNumber ?kIBadNumber ?aETooMany ?xETooMany ?vETooMany ?saETooMany ?exETooMany ?tyETooMany ?kcETooMany ?iETooMany ?tiETooMany ?lITooMany ?cITooMany ?kITooMany ?aEBadSeen ?xEBadSeen ?vEBadSeen ?saEBadSeen ?exEBadSeen ?tyEBadSeen ?kcEBadSeen ?iEBadSeen ?tiEBadSeen ?lIBadSeen ?cIBadSeen ?kIBadSeen ?nEBadSeen ?aEBadWays ?xEBadWays ?vEBadWays ?saEBadWays ?exEBadWays ?tyEBadWays ?kcEBadWays ?iEBadWays ?tiEBadWays ?lIBadWays ?cIBadWays ?kIBadWays ?nEBadWays ?aENotShown ?xENotShown ?vENotShown ?saENotShown ?exENotShown ?tyENotShown ?kcENotShown ?iENotShown ?tiENotShown ?lINotShown ?cINotShown ?kINotShown ?aEBadText ?xEBadText ?vEBadText ?saEBadText ?exEBadText ?tyEBadText ?kcEBadText ?iEBadText ?tiEBadText ?lIBadText ?cIBadText ?kIBadText ?nEBadText ?a_lbelow ?l_lbelow ?c_lbelow ?k_lbelow ?a_lrandom ?l_lrandom ?c_lrandom ?k_lrandom ?a_lpick ?l_lpick ?c_lpick ?k_lpick ?a_lone ?l_lone ?c_lone ?k_lone ?a_lclasses ?l_lclasses ?c_lclasses ?k_lclasses ?a_law ?l_law ?c_law ?k_law ?z_abs ?z_int ?z_isinstance ?z_len ?z_range ?z_ValueError ?hnX ?htX ?gaBadCubes ?ggBadCubes ?hdiBadCubes ?hacBadCubes ?hmrBadCubes ?kbBadCubes ?kvBadCubes ?kk_BadCubes_BadCubes ?kk_BadCubes_BadTurns ?kk_BadCubes_BadFigures ?kk_BadCubes_BadWidth ?kk_BadCubes_BadRange ?kk_BadCubes_BadNeeded ?kk_BadCubes_BadNumber ?kk_BadCubes_TooMany ?kk_BadCubes_BadSeen ?kk_BadCubes_BadWays ?kk_BadCubes_NotShown ?kk_BadCubes_BadText ?gaBadTurns ?ggBadTurns ?hdiBadTurns ?hacBadTurns ?hmrBadTurns ?kbBadTurns ?kvBadTurns ?kk_BadTurns_BadCubes ?kk_BadTurns_BadTurns ?kk_BadTurns_BadFigures ?kk_BadTurns_BadWidth ?kk_BadTurns_BadRange ?kk_BadTurns_BadNeeded ?kk_BadTurns_BadNumber ?kk_BadTurns_TooMany ?kk_BadTurns_BadSeen ?kk_BadTurns_BadWays ?kk_BadTurns_NotShown ?kk_BadTurns_BadText ?gaBadFigures ?ggBadFigures ?hdiBadFigures ?hacBadFigures ?hmrBadFigures ?kbBadFigures ?kvBadFigures ?kk_BadFigures_BadCubes ?kk_BadFigures_BadTurns ?kk_BadFigures_BadFigures ?kk_BadFigures_BadWidth ?kk_BadFigures_BadRange ?kk_BadFigures_BadNeeded ?kk_BadFigures_BadNumber ?kk_BadFigures_TooMany ?kk_BadFigures_BadSeen ?kk_BadFigures_BadWays ?kk_BadFigures_NotShown ?kk_BadFigures_BadText ?gaBadWidth ?ggBadWidth ?hdiBadWidth ?hacBadWidth ?hmrBadWidth ?kbBadWidth ?kvBadWidth ?kk_BadWidth_BadCubes ?kk_BadWidth_BadTurns ?kk_BadWidth_BadFigures ?kk_BadWidth_BadWidth ?kk_BadWidth_BadRange ?kk_BadWidth_BadNeeded ?kk_BadWidth_BadNumber ?kk_BadWidth_TooMany ?kk_BadWidth_BadSeen ?kk_BadWidth_BadWays ?kk_BadWidth_NotShown ?kk_BadWidth_BadText ?gaBadRange ?ggBadRange ?hdiBadRange ?hacBadRange ?hmrBadRange ?kbBadRange ?kvBadRange ?kk_BadRange_BadCubes ?kk_BadRange_BadTurns ?kk_BadRange_BadFigures ?kk_BadRange_BadWidth ?kk_BadRange_BadRange ?kk_BadRange_BadNeeded ?kk_BadRange_BadNumber ?kk_BadRange_TooMany ?kk_BadRange_BadSeen ?kk_BadRange_BadWays ?kk_BadRange_NotShown ?kk_BadRange_BadText ?gaBadNeeded ?ggBadNeeded ?hdiBadNeeded ?hacBadNeeded ?hmrBadNeeded ?kbBadNeeded ?kvBadNeeded ?kk_BadNeeded_BadCubes ?kk_BadNeeded_BadTurns ?kk_BadNeeded_BadFigures ?kk_BadNeeded_BadWidth ?kk_BadNeeded_BadRange ?kk_BadNeeded_BadNeeded ?kk_BadNeeded_BadNumber ?kk_BadNeeded_TooMany ?kk_BadNeeded_BadSeen ?kk_BadNeeded_BadWays ?kk_BadNeeded_NotShown ?kk_BadNeeded_BadText ?gaBadNumber ?ggBadNumber ?hdiBadNumber ?hacBadNumber ?hmrBadNumber ?kbBadNumber ?kvBadNumber ?kk_BadNumber_BadCubes ?kk_BadNumber_BadTurns ?kk_BadNumber_BadFigures ?kk_BadNumber_BadWidth ?kk_BadNumber_BadRange ?kk_BadNumber_BadNeeded ?kk_BadNumber_BadNumber ?kk_BadNumber_TooMany ?kk_BadNumber_BadSeen ?kk_BadNumber_BadWays ?kk_BadNumber_NotShown ?kk_BadNumber_BadText ?gaTooMany ?ggTooMany ?hdiTooMany ?hacTooMany ?hmrTooMany ?kbTooMany ?kvTooMany ?kk_TooMany_BadCubes ?kk_TooMany_BadTurns ?kk_TooMany_BadFigures ?kk_TooMany_BadWidth ?kk_TooMany_BadRange ?kk_TooMany_BadNeeded ?kk_TooMany_BadNumber ?kk_TooMany_TooMany ?kk_TooMany_BadSeen ?kk_TooMany_BadWays ?kk_TooMany_NotShown ?kk_TooMany_BadText ?gaBadSeen ?ggBadSeen ?hdiBadSeen ?hacBadSeen ?hmrBadSeen ?kbBadSeen ?kvBadSeen ?kk_BadSeen_BadCubes ?kk_BadSeen_BadTurns ?kk_BadSeen_BadFigures ?kk_BadSeen_BadWidth ?kk_BadSeen_BadRange ?kk_BadSeen_BadNeeded ?kk_BadSeen_BadNumber ?kk_BadSeen_TooMany ?kk_BadSeen_BadSeen ?kk_BadSeen_BadWays ?kk_BadSeen_NotShown ?kk_BadSeen_BadText ?gaBadWays ?ggBadWays ?hdiBadWays ?hacBadWays ?hmrBadWays ?kbBadWays ?kvBadWays ?kk_BadWays_BadCubes ?kk_BadWays_BadTurns ?kk_BadWays_BadFigures ?kk_BadWays_BadWidth ?kk_BadWays_BadRange ?kk_BadWays_BadNeeded ?kk_BadWays_BadNumber ?kk_BadWays_TooMany ?kk_BadWays_BadSeen ?kk_BadWays_BadWays ?kk_BadWays_NotShown ?kk_BadWays_BadText ?gaNotShown ?ggNotShown ?hdiNotShown ?hacNotShown ?hmrNotShown ?kbNotShown ?kvNotShown ?kk_NotShown_BadCubes ?kk_NotShown_BadTurns ?kk_NotShown_BadFigures ?kk_NotShown_BadWidth ?kk_NotShown_BadRange ?kk_NotShown_BadNeeded ?kk_NotShown_BadNumber ?kk_NotShown_TooMany ?kk_NotShown_BadSeen ?kk_NotShown_BadWays ?kk_NotShown_NotShown ?kk_NotShown_BadText ?gaBadText ?ggBadText ?hdiBadText ?hacBadText ?hmrBadText ?kbBadText ?kvBadText ?kk_BadText_BadCubes ?kk_BadText_BadTurns ?kk_BadText_BadFigures ?kk_BadText_BadWidth ?kk_BadText_BadRange ?kk_BadText_BadNeeded ?kk_BadText_BadNumber ?kk_BadText_TooMany ?kk_BadText_BadSeen ?kk_BadText_BadWays ?kk_BadText_NotShown ?kk_BadText_BadText
    (case aB => k_is)
    (case rB => k_is)
    (case sB => k_is)
    (case iB => k_is)
    (case aEBadCubes => k_is)
    (case xEBadCubes => k_is)
    (case vEBadCubes => first | rfl | decide +kernel)
    (case saEBadCubes => k_is)
    (case exEBadCubes => k_is)
    (case tyEBadCubes => k_is)
    (case kcEBadCubes => k_is)
    (case iEBadCubes => k_is)
    (case tiEBadCubes => k_is)
    (case lIBadCubes => k_is)
    (case cIBadCubes => k_is)
    (case kIBadCubes => k_is)
    (case nEBadCubes => k_is)
    (case aEBadTurns => k_is)
    (case xEBadTurns => k_is)
    (case vEBadTurns => first | rfl | decide +kernel)
    (case saEBadTurns => k_is)
    (case exEBadTurns => k_is)
    (case tyEBadTurns => k_is)
    (case kcEBadTurns => k_is)
    (case iEBadTurns => k_is)
    (case tiEBadTurns => k_is)
    (case lIBadTurns => k_is)
    (case cIBadTurns => k_is)
    (case kIBadTurns => k_is)
    (case aEBadFigures => k_is)
    (case xEBadFigures => k_is)
    (case vEBadFigures => first | rfl | decide +kernel)
    (case saEBadFigures => k_is)
    (case exEBadFigures => k_is)
    (case tyEBadFigures => k_is)
    (case kcEBadFigures => k_is)
    (case iEBadFigures => k_is)
    (case tiEBadFigures => k_is)
    (case lIBadFigures => k_is)
    (case cIBadFigures => k_is)
    (case kIBadFigures => k_is)
    (case aEBadWidth => k_is)
    (case xEBadWidth => k_is)
    (case vEBadWidth => first | rfl | decide +kernel)
    (case saEBadWidth => k_is)
    (case exEBadWidth => k_is)
    (case tyEBadWidth => k_is)
    (case kcEBadWidth => k_is)
    (case iEBadWidth => k_is)
    (case tiEBadWidth => k_is)
    (case lIBadWidth => k_is)
    (case cIBadWidth => k_is)
    (case kIBadWidth => k_is)
    (case aEBadRange => k_is)
    (case xEBadRange => k_is)
    (case vEBadRange => first | rfl | decide +kernel)
    (case saEBadRange => k_is)
    (case exEBadRange => k_is)
    (case tyEBadRange => k_is)
    (case kcEBadRange => k_is)
    (case iEBadRange => k_is)
    (case tiEBadRange => k_is)
    (case lIBadRange => k_is)
    (case cIBadRange => k_is)
    (case kIBadRange => k_is)
    (case aEBadNeeded => k_is)
    (case xEBadNeeded => k_is)
    (case vEBadNeeded => first | rfl | decide +kernel)
    (case saEBadNeeded => k_is)
    (case exEBadNeeded => k_is)
    (case tyEBadNeeded => k_is)
    (case kcEBadNeeded => k_is)
    (case iEBadNeeded => k_is)
    (case tiEBadNeeded => k_is)
    (case lIBadNeeded => k_is)
    (case cIBadNeeded => k_is)
    (case kIBadNeeded => k_is)
    (case nEBadNeeded => k_is)
    (case aEBadNumber => k_is)
    (case xEBadNumber => k_is)
    (case vEBadNumber => first | rfl | decide +kernel)
    (case saEBadNumber => k_is)
    (case exEBadNumber => k_is)
    (case tyEBadNumber => k_is)
    (case kcEBadNumber => k_is)
    (case iEBadNumber => k_is)
    (case tiEBadNumber => k_is)
    (case lIBadNumber => k_is)
    (case cIBadNumber => k_is)
    (case kIBadNumber => k_is)
    (case aETooMany => k_is)
    (case xETooMany => k_is)
    (case vETooMany => first | rfl | decide +kernel)
    (case saETooMany => k_is)
    (case exETooMany => k_is)
    (case tyETooMany => k_is)
    (case kcETooMany => k_is)
    (case iETooMany => k_is)
    (case tiETooMany => k_is)
    (case lITooMany => k_is)
    (case cITooMany => k_is)
    (case kITooMany => k_is)
    (case aEBadSeen => k_is)
    (case xEBadSeen => k_is)
    (case vEBadSeen => first | rfl | decide +kernel)
    (case saEBadSeen => k_is)
    (case exEBadSeen => k_is)
    (case tyEBadSeen => k_is)
    (case kcEBadSeen => k_is)
    (case iEBadSeen => k_is)
    (case tiEBadSeen => k_is)
    (case lIBadSeen => k_is)
    (case cIBadSeen => k_is)
    (case kIBadSeen => k_is)
    (case nEBadSeen => k_is)
    (case aEBadWays => k_is)
    (case xEBadWays => k_is)
    (case vEBadWays => first | rfl | decide +kernel)
    (case saEBadWays => k_is)
    (case exEBadWays => k_is)
    (case tyEBadWays => k_is)
    (case kcEBadWays => k_is)
    (case iEBadWays => k_is)
    (case tiEBadWays => k_is)
    (case lIBadWays => k_is)
    (case cIBadWays => k_is)
    (case kIBadWays => k_is)
    (case nEBadWays => k_is)
    (case aENotShown => k_is)
    (case xENotShown => k_is)
    (case vENotShown => first | rfl | decide +kernel)
    (case saENotShown => k_is)
    (case exENotShown => k_is)
    (case tyENotShown => k_is)
    (case kcENotShown => k_is)
    (case iENotShown => k_is)
    (case tiENotShown => k_is)
    (case lINotShown => k_is)
    (case cINotShown => k_is)
    (case kINotShown => k_is)
    (case aEBadText => k_is)
    (case xEBadText => k_is)
    (case vEBadText => first | rfl | decide +kernel)
    (case saEBadText => k_is)
    (case exEBadText => k_is)
    (case tyEBadText => k_is)
    (case kcEBadText => k_is)
    (case iEBadText => k_is)
    (case tiEBadText => k_is)
    (case lIBadText => k_is)
    (case cIBadText => k_is)
    (case kIBadText => k_is)
    (case nEBadText => k_is)
    (case a_lbelow => k_is)
    (case l_lbelow => k_is)
    (case c_lbelow => k_is)
    (case k_lbelow => k_is)
    (case a_lrandom => k_is)
    (case l_lrandom => k_is)
    (case c_lrandom => k_is)
    (case k_lrandom => k_is)
    (case a_lpick => k_is)
    (case l_lpick => k_is)
    (case c_lpick => k_is)
    (case k_lpick => k_is)
    (case a_lone => k_is)
    (case l_lone => k_is)
    (case c_lone => k_is)
    (case k_lone => k_is)
    (case a_lclasses => k_is)
    (case l_lclasses => k_is)
    (case c_lclasses => k_is)
    (case k_lclasses => k_is)
    (case a_law => k_is)
    (case l_law => k_is)
    (case c_law => k_is)
    (case k_law => k_is)
    (case z_abs => k_is)
    (case z_int => k_is)
    (case z_isinstance => k_is)
    (case z_len => k_is)
    (case z_range => k_is)
    (case z_ValueError => k_is)
    (case hnX => k_is)
    (case htX => k_is)
    (case gaBadCubes => k_is)
    (case ggBadCubes => k_is)
    (case hdiBadCubes => k_is)
    (case hacBadCubes => k_is)
    (case hmrBadCubes => k_is)
    (case kbBadCubes => kit_is)
    (case kvBadCubes => kit_is)
    (case kk_BadCubes_BadCubes => kit_is)
    (case kk_BadCubes_BadTurns => kit_is)
    (case kk_BadCubes_BadFigures => kit_is)
    (case kk_BadCubes_BadWidth => kit_is)
    (case kk_BadCubes_BadRange => kit_is)
    (case kk_BadCubes_BadNeeded => kit_is)
    (case kk_BadCubes_BadNumber => kit_is)
    (case kk_BadCubes_TooMany => kit_is)
    (case kk_BadCubes_BadSeen => kit_is)
    (case kk_BadCubes_BadWays => kit_is)
    (case kk_BadCubes_NotShown => kit_is)
    (case kk_BadCubes_BadText => kit_is)
    (case gaBadTurns => k_is)
    (case ggBadTurns => k_is)
    (case hdiBadTurns => k_is)
    (case hacBadTurns => k_is)
    (case hmrBadTurns => k_is)
    (case kbBadTurns => kit_is)
    (case kvBadTurns => kit_is)
    (case kk_BadTurns_BadCubes => kit_is)
    (case kk_BadTurns_BadTurns => kit_is)
    (case kk_BadTurns_BadFigures => kit_is)
    (case kk_BadTurns_BadWidth => kit_is)
    (case kk_BadTurns_BadRange => kit_is)
    (case kk_BadTurns_BadNeeded => kit_is)
    (case kk_BadTurns_BadNumber => kit_is)
    (case kk_BadTurns_TooMany => kit_is)
    (case kk_BadTurns_BadSeen => kit_is)
    (case kk_BadTurns_BadWays => kit_is)
    (case kk_BadTurns_NotShown => kit_is)
    (case kk_BadTurns_BadText => kit_is)
    (case gaBadFigures => k_is)
    (case ggBadFigures => k_is)
    (case hdiBadFigures => k_is)
    (case hacBadFigures => k_is)
    (case hmrBadFigures => k_is)
    (case kbBadFigures => kit_is)
    (case kvBadFigures => kit_is)
    (case kk_BadFigures_BadCubes => kit_is)
    (case kk_BadFigures_BadTurns => kit_is)
    (case kk_BadFigures_BadFigures => kit_is)
    (case kk_BadFigures_BadWidth => kit_is)
    (case kk_BadFigures_BadRange => kit_is)
    (case kk_BadFigures_BadNeeded => kit_is)
    (case kk_BadFigures_BadNumber => kit_is)
    (case kk_BadFigures_TooMany => kit_is)
    (case kk_BadFigures_BadSeen => kit_is)
    (case kk_BadFigures_BadWays => kit_is)
    (case kk_BadFigures_NotShown => kit_is)
    (case kk_BadFigures_BadText => kit_is)
    (case gaBadWidth => k_is)
    (case ggBadWidth => k_is)
    (case hdiBadWidth => k_is)
    (case hacBadWidth => k_is)
    (case hmrBadWidth => k_is)
    (case kbBadWidth => kit_is)
    (case kvBadWidth => kit_is)
    (case kk_BadWidth_BadCubes => kit_is)
    (case kk_BadWidth_BadTurns => kit_is)
    (case kk_BadWidth_BadFigures => kit_is)
    (case kk_BadWidth_BadWidth => kit_is)
    (case kk_BadWidth_BadRange => kit_is)
    (case kk_BadWidth_BadNeeded => kit_is)
    (case kk_BadWidth_BadNumber => kit_is)
    (case kk_BadWidth_TooMany => kit_is)
    (case kk_BadWidth_BadSeen => kit_is)
    (case kk_BadWidth_BadWays => kit_is)
    (case kk_BadWidth_NotShown => kit_is)
    (case kk_BadWidth_BadText => kit_is)
    (case gaBadRange => k_is)
    (case ggBadRange => k_is)
    (case hdiBadRange => k_is)
    (case hacBadRange => k_is)
    (case hmrBadRange => k_is)
    (case kbBadRange => kit_is)
    (case kvBadRange => kit_is)
    (case kk_BadRange_BadCubes => kit_is)
    (case kk_BadRange_BadTurns => kit_is)
    (case kk_BadRange_BadFigures => kit_is)
    (case kk_BadRange_BadWidth => kit_is)
    (case kk_BadRange_BadRange => kit_is)
    (case kk_BadRange_BadNeeded => kit_is)
    (case kk_BadRange_BadNumber => kit_is)
    (case kk_BadRange_TooMany => kit_is)
    (case kk_BadRange_BadSeen => kit_is)
    (case kk_BadRange_BadWays => kit_is)
    (case kk_BadRange_NotShown => kit_is)
    (case kk_BadRange_BadText => kit_is)
    (case gaBadNeeded => k_is)
    (case ggBadNeeded => k_is)
    (case hdiBadNeeded => k_is)
    (case hacBadNeeded => k_is)
    (case hmrBadNeeded => k_is)
    (case kbBadNeeded => kit_is)
    (case kvBadNeeded => kit_is)
    (case kk_BadNeeded_BadCubes => kit_is)
    (case kk_BadNeeded_BadTurns => kit_is)
    (case kk_BadNeeded_BadFigures => kit_is)
    (case kk_BadNeeded_BadWidth => kit_is)
    (case kk_BadNeeded_BadRange => kit_is)
    (case kk_BadNeeded_BadNeeded => kit_is)
    (case kk_BadNeeded_BadNumber => kit_is)
    (case kk_BadNeeded_TooMany => kit_is)
    (case kk_BadNeeded_BadSeen => kit_is)
    (case kk_BadNeeded_BadWays => kit_is)
    (case kk_BadNeeded_NotShown => kit_is)
    (case kk_BadNeeded_BadText => kit_is)
    (case gaBadNumber => k_is)
    (case ggBadNumber => k_is)
    (case hdiBadNumber => k_is)
    (case hacBadNumber => k_is)
    (case hmrBadNumber => k_is)
    (case kbBadNumber => kit_is)
    (case kvBadNumber => kit_is)
    (case kk_BadNumber_BadCubes => kit_is)
    (case kk_BadNumber_BadTurns => kit_is)
    (case kk_BadNumber_BadFigures => kit_is)
    (case kk_BadNumber_BadWidth => kit_is)
    (case kk_BadNumber_BadRange => kit_is)
    (case kk_BadNumber_BadNeeded => kit_is)
    (case kk_BadNumber_BadNumber => kit_is)
    (case kk_BadNumber_TooMany => kit_is)
    (case kk_BadNumber_BadSeen => kit_is)
    (case kk_BadNumber_BadWays => kit_is)
    (case kk_BadNumber_NotShown => kit_is)
    (case kk_BadNumber_BadText => kit_is)
    (case gaTooMany => k_is)
    (case ggTooMany => k_is)
    (case hdiTooMany => k_is)
    (case hacTooMany => k_is)
    (case hmrTooMany => k_is)
    (case kbTooMany => kit_is)
    (case kvTooMany => kit_is)
    (case kk_TooMany_BadCubes => kit_is)
    (case kk_TooMany_BadTurns => kit_is)
    (case kk_TooMany_BadFigures => kit_is)
    (case kk_TooMany_BadWidth => kit_is)
    (case kk_TooMany_BadRange => kit_is)
    (case kk_TooMany_BadNeeded => kit_is)
    (case kk_TooMany_BadNumber => kit_is)
    (case kk_TooMany_TooMany => kit_is)
    (case kk_TooMany_BadSeen => kit_is)
    (case kk_TooMany_BadWays => kit_is)
    (case kk_TooMany_NotShown => kit_is)
    (case kk_TooMany_BadText => kit_is)
    (case gaBadSeen => k_is)
    (case ggBadSeen => k_is)
    (case hdiBadSeen => k_is)
    (case hacBadSeen => k_is)
    (case hmrBadSeen => k_is)
    (case kbBadSeen => kit_is)
    (case kvBadSeen => kit_is)
    (case kk_BadSeen_BadCubes => kit_is)
    (case kk_BadSeen_BadTurns => kit_is)
    (case kk_BadSeen_BadFigures => kit_is)
    (case kk_BadSeen_BadWidth => kit_is)
    (case kk_BadSeen_BadRange => kit_is)
    (case kk_BadSeen_BadNeeded => kit_is)
    (case kk_BadSeen_BadNumber => kit_is)
    (case kk_BadSeen_TooMany => kit_is)
    (case kk_BadSeen_BadSeen => kit_is)
    (case kk_BadSeen_BadWays => kit_is)
    (case kk_BadSeen_NotShown => kit_is)
    (case kk_BadSeen_BadText => kit_is)
    (case gaBadWays => k_is)
    (case ggBadWays => k_is)
    (case hdiBadWays => k_is)
    (case hacBadWays => k_is)
    (case hmrBadWays => k_is)
    (case kbBadWays => kit_is)
    (case kvBadWays => kit_is)
    (case kk_BadWays_BadCubes => kit_is)
    (case kk_BadWays_BadTurns => kit_is)
    (case kk_BadWays_BadFigures => kit_is)
    (case kk_BadWays_BadWidth => kit_is)
    (case kk_BadWays_BadRange => kit_is)
    (case kk_BadWays_BadNeeded => kit_is)
    (case kk_BadWays_BadNumber => kit_is)
    (case kk_BadWays_TooMany => kit_is)
    (case kk_BadWays_BadSeen => kit_is)
    (case kk_BadWays_BadWays => kit_is)
    (case kk_BadWays_NotShown => kit_is)
    (case kk_BadWays_BadText => kit_is)
    (case gaNotShown => k_is)
    (case ggNotShown => k_is)
    (case hdiNotShown => k_is)
    (case hacNotShown => k_is)
    (case hmrNotShown => k_is)
    (case kbNotShown => kit_is)
    (case kvNotShown => kit_is)
    (case kk_NotShown_BadCubes => kit_is)
    (case kk_NotShown_BadTurns => kit_is)
    (case kk_NotShown_BadFigures => kit_is)
    (case kk_NotShown_BadWidth => kit_is)
    (case kk_NotShown_BadRange => kit_is)
    (case kk_NotShown_BadNeeded => kit_is)
    (case kk_NotShown_BadNumber => kit_is)
    (case kk_NotShown_TooMany => kit_is)
    (case kk_NotShown_BadSeen => kit_is)
    (case kk_NotShown_BadWays => kit_is)
    (case kk_NotShown_NotShown => kit_is)
    (case kk_NotShown_BadText => kit_is)
    (case gaBadText => k_is)
    (case ggBadText => k_is)
    (case hdiBadText => k_is)
    (case hacBadText => k_is)
    (case hmrBadText => k_is)
    (case kbBadText => kit_is)
    (case kvBadText => kit_is)
    (case kk_BadText_BadCubes => kit_is)
    (case kk_BadText_BadTurns => kit_is)
    (case kk_BadText_BadFigures => kit_is)
    (case kk_BadText_BadWidth => kit_is)
    (case kk_BadText_BadRange => kit_is)
    (case kk_BadText_BadNeeded => kit_is)
    (case kk_BadText_BadNumber => kit_is)
    (case kk_BadText_TooMany => kit_is)
    (case kk_BadText_BadSeen => kit_is)
    (case kk_BadText_BadWays => kit_is)
    (case kk_BadText_NotShown => kit_is)
    (case kk_BadText_BadText => kit_is)
#print axioms PySem.Challenge.cw_daycubes_k18_errors_apart_holds

