import PyProof.Rows.All
import Wide.All
import OpenK.AllK
import Wide.FinOn
import HandS.ForMost
import HandS.Walk
import HandS.TupAny
import HandS.WideBits
import HandS.IsInst
import HandS.Replace
import HandS.More
import PyProof.ListStr
import HandS.Conv
import KE.GoesMore
import KE.GoesEnum
import PyProof.Rows.SortShellAny
import HandS.SortOrd
import HandS.TupLe
import HandS.TupSets
import HandS.Small
import HandS.Strs
import HandS.Zip
import HandS.Defaults
import HandS.Ends
import HandS.EndBits
import HandS.RaiseMore
import PyProof.ReprRoads
import PyProof.Rows.RegFStrParts
import HandS.Style
import HandS.ReplaceList
import PyProof.StrLawsIn
import HandS.TupMul
import HandS.CallLocal
import HandS.SetFor
import HandS.Deep
import PyProof.CallFns
import HandS.Gcd
import KE.KMathGC
import HandS.Star
import KE.KDictZip
import PySem.Challenge.RW_webreckon_k15_whole_lot_counts_tables_an
import HandS.Wide
set_option Elab.async false
set_option linter.all false
set_option maxRecDepth 100000
/-! A data layer over the hand layer: values as deep data, a small store for what is mutable; readings without addresses of what never changes. -/
namespace DL
open PySem PySem.Spec PyProof.Rows L2
/-! ### data -/
inductive D where
  | non | bl (b : Bool) | int (i : Int) | str (x : Str) | tup (ds : List D) | lst (ds : List D) | seq (ds : List D)
  | ins (C : Addr) (fs : List (Str × D)) | adr (a : Addr)
/-- what is mutable -/
inductive MO where
  | lst (ds : List D) | dct (kvs : List (Key × D)) | ins (C : Addr) (fs : List (Str × D))
abbrev Mu := Addr → Option MO
def put (μ : Mu) (a : Addr) (o : MO) : Mu := fun b => if b = a then some o else μ b
def del (μ : Mu) (a : Addr) : Mu := fun b => if b = a then none else μ b
theorem put_same {μ : Mu} {a : Addr} {o : MO} : put μ a o a = some o := by unfold put; rw [if_pos rfl]
theorem put_ne {μ : Mu} {a b : Addr} {o : MO} (h : b ≠ a) : put μ a o b = μ b := by unfold put; rw [if_neg h]
theorem del_same {μ : Mu} {a : Addr} : del μ a a = none := by unfold del; rw [if_pos rfl]
theorem del_ne {μ : Mu} {a b : Addr} (h : b ≠ a) : del μ a b = μ b := by unfold del; rw [if_neg h]
theorem put_put {μ : Mu} {a : Addr} {o u : MO} : put (put μ a o) a u = put μ a u := by
  funext b; unfold put; split <;> rfl
theorem del_put {μ : Mu} {a : Addr} {o : MO} (h : μ a = none) : del (put μ a o) a = μ := by
  funext b; unfold del put; split
  · rename_i e; rw [e, h]
  · rfl
theorem put_comm {μ : Mu} {a b : Addr} {o u : MO} (h : a ≠ b) : put (put μ a o) b u = put (put μ b u) a o := by
  funext c; unfold put
  by_cases h1 : c = b
  · rw [if_pos h1, if_neg (fun e => h (e.symm.trans h1)), if_pos h1]
  · rw [if_neg h1, if_neg h1]
/-! ### what stands for what -/
section
variable (K : PySem.W.Frag) (H : Hp) (μ : Mu)
/-- a tuple, a list that nobody changes -/
def ImT (a : Addr) (vs : List V) : Prop := (H a = some (.tup vs) ∧ μ a = none) ∨ ∀ H' : Hp, SqT K H' a vs
def ImQ (a : Addr) (vs : List V) : Prop := (Rd H a (.lst vs) ∧ μ a = none) ∨ ∀ H' : Hp, SqL K H' a vs
mutual
def Rep : D → V → Prop
  | .non, v => v = .non
  | .bl b, v => v = .bl b
  | .int i, v => v = .int i
  | .str x, v => v = .str x
  | .tup ds, v => ∃ a vs, v = .ref a ∧ ImT K H μ a vs ∧ RepL ds vs
  | .lst ds, v => ∃ a vs, v = .ref a ∧ H a = some (.lst vs) ∧ μ a = none ∧ RepL ds vs
  | .seq ds, v => ∃ a vs, v = .ref a ∧ ImQ K H μ a vs ∧ RepL ds vs
  | .ins C fs, v => ∃ a dx fv, v = .ref a ∧ H a = some (.ins C dx fv) ∧ μ a = none ∧ RepF fs fv
  | .adr a, v => v = .ref a
def RepL : List D → List V → Prop
  | [], vs => vs = []
  | d :: ds, vs => ∃ v r, vs = v :: r ∧ Rep d v ∧ RepL ds r
def RepF : List (Str × D) → List (Str × V) → Prop
  | [], fv => fv = []
  | (x, d) :: fs, fv => ∃ v r, fv = (x, v) :: r ∧ Rep d v ∧ RepF fs r
end
def RepK : List (Key × D) → List (Key × V) → Prop
  | [], kv => kv = []
  | (k, d) :: r, kv => ∃ v s, kv = (k, v) :: s ∧ Rep K H μ d v ∧ RepK r s
def RepO : MO → Addr → Prop
  | .lst ds, a => ∃ vs, H a = some (.lst vs) ∧ RepL K H μ ds vs
  | .dct kvs, a => ∃ kv, H a = some (.dK kv) ∧ RepK K H μ kvs kv
  | .ins C fs, a => ∃ dx fv, H a = some (.ins C dx fv) ∧ RepF K H μ fs fv
/-- the store is there -/
def RM : Prop := ∀ a o, μ a = some o → RepO K H μ o a
end
abbrev DS := List (Option D)
def RepS (K : PySem.W.Frag) (H : Hp) (μ : Mu) : DS → L2.St → Prop
  | [], σ => σ = []
  | none :: δ, σ => ∃ o r, σ = o :: r ∧ RepS K H μ δ r
  | some d :: δ, σ => ∃ v r, σ = some v :: r ∧ Rep K H μ d v ∧ RepS K H μ δ r
/-- what was tracked and not in the store stays; the store only takes what was there, or new -/
structure Kp (H : Hp) (μ : Mu) (H' : Hp) (μ' : Mu) : Prop where
  k1 : ∀ b o, H b = some o → μ b = none → H' b = some o
  k2 : ∀ b, μ' b ≠ none → μ b ≠ none ∨ H b = none
theorem Kp.refl (H : Hp) (μ : Mu) : Kp H μ H μ := ⟨fun _ _ h _ => h, fun _ h => .inl h⟩
theorem Kp.free {H H' : Hp} {μ μ' : Mu} (k : Kp H μ H' μ') {b : Addr} {o : HO} (h : H b = some o) (n : μ b = none) : μ' b = none := by
  cases q : μ' b with
  | none => rfl
  | some u =>
    rcases k.k2 b (by rw [q]; simp) with z | z
    · exact absurd n z
    · rw [h] at z; cases z
theorem Kp.trans {H H1 H2 : Hp} {μ μ1 μ2 : Mu} (a : Kp H μ H1 μ1) (b : Kp H1 μ1 H2 μ2) : Kp H μ H2 μ2 := by
  refine ⟨fun c o h n => b.k1 c o (a.k1 c o h n) (a.free h n), fun c h => ?_⟩
  rcases b.k2 c h with z | z
  · exact a.k2 c z
  · cases q : H c with
    | none => exact .inr rfl
    | some o =>
      left
      intro n
      have := a.k1 c o q n
      rw [z] at this; cases this
/-- something new, not in the store -/
theorem Kp.new {H : Hp} {μ : Mu} {p : Addr} {o : HO} (n : H p = none) : Kp H μ (upd H p o) μ :=
  ⟨fun b u e _ => by rw [upd_ne (ne_of_none e n)]; exact e, fun _ h => .inl h⟩
/-- something new, in the store -/
theorem Kp.cell {H : Hp} {μ : Mu} {p : Addr} {o : HO} {m : MO} (n : H p = none) : Kp H μ (upd H p o) (put μ p m) := by
  refine ⟨fun b u e _ => by rw [upd_ne (ne_of_none e n)]; exact e, fun b h => ?_⟩
  by_cases e : b = p
  · right; rw [e]; exact n
  · left; rw [put_ne e] at h; exact h
/-- what is in the store changes -/
theorem Kp.write {H : Hp} {μ : Mu} {p : Addr} {o : HO} {m u : MO} (n : μ p = some u) : Kp H μ (upd H p o) (put μ p m) := by
  refine ⟨fun b w e z => ?_, fun b h => ?_⟩
  · have : b ≠ p := by rintro rfl; rw [n] at z; cases z
    rw [upd_ne this]; exact e
  · by_cases e : b = p
    · left; rw [e, n]; simp
    · left; rw [put_ne e] at h; exact h
theorem Kp.drop {H : Hp} {μ : Mu} {p : Addr} : Kp H μ H (del μ p) := by
  refine ⟨fun b o e _ => e, fun b h => ?_⟩
  by_cases e : b = p
  · rw [e, del_same] at h; exact absurd rfl h
  · left; rw [del_ne e] at h; exact h
section
variable {K : PySem.W.Frag} {H H' : Hp} {μ μ' : Mu}
theorem ImT.mono {a : Addr} {vs : List V} (k : Kp H μ H' μ') (h : ImT K H μ a vs) : ImT K H' μ' a vs := by
  rcases h with ⟨h, n⟩ | h
  · exact .inl ⟨k.k1 _ _ h n, k.free h n⟩
  · exact .inr h
theorem ImQ.mono {a : Addr} {vs : List V} (k : Kp H μ H' μ') (h : ImQ K H μ a vs) : ImQ K H' μ' a vs := by
  rcases h with ⟨h, n⟩ | h
  · rcases h with h | ⟨o, h⟩
    · exact .inl ⟨.inl (k.k1 _ _ h n), k.free h n⟩
    · exact .inl ⟨.inr ⟨o, k.k1 _ _ h n⟩, k.free h n⟩
  · exact .inr h
theorem ImT.sq {a : Addr} {vs : List V} (h : ImT K H μ a vs) : SqT K H a vs := h.elim (fun h => .inl (.inl h.1)) fun h => h H
theorem ImQ.sq {a : Addr} {vs : List V} (h : ImQ K H μ a vs) : SqL K H a vs := h.elim (fun h => .inl h.1) fun h => h H
mutual
theorem Rep.mono (k : Kp H μ H' μ') : ∀ (d : D) (v : V), Rep K H μ d v → Rep K H' μ' d v
  | .non, _, h => by unfold Rep at h ⊢; exact h
  | .bl _, _, h => by unfold Rep at h ⊢; exact h
  | .int _, _, h => by unfold Rep at h ⊢; exact h
  | .str _, _, h => by unfold Rep at h ⊢; exact h
  | .tup ds, _, h => by
    unfold Rep at h ⊢
    obtain ⟨a, vs, e, i, r⟩ := h
    exact ⟨a, vs, e, i.mono k, RepL.mono k ds vs r⟩
  | .lst ds, _, h => by
    unfold Rep at h ⊢
    obtain ⟨a, vs, e, i, n, r⟩ := h
    exact ⟨a, vs, e, k.k1 _ _ i n, k.free i n, RepL.mono k ds vs r⟩
  | .seq ds, _, h => by
    unfold Rep at h ⊢
    obtain ⟨a, vs, e, i, r⟩ := h
    exact ⟨a, vs, e, i.mono k, RepL.mono k ds vs r⟩
  | .ins C fs, _, h => by
    unfold Rep at h ⊢
    obtain ⟨a, dx, fv, e, i, n, r⟩ := h
    exact ⟨a, dx, fv, e, k.k1 _ _ i n, k.free i n, RepF.mono k fs fv r⟩
  | .adr _, _, h => by unfold Rep at h ⊢; exact h
theorem RepL.mono (k : Kp H μ H' μ') : ∀ (ds : List D) (vs : List V), RepL K H μ ds vs → RepL K H' μ' ds vs
  | [], _, h => by unfold RepL at h ⊢; exact h
  | d :: ds, _, h => by
    unfold RepL at h ⊢
    obtain ⟨v, r, e, h1, h2⟩ := h
    exact ⟨v, r, e, Rep.mono k d v h1, RepL.mono k ds r h2⟩
theorem RepF.mono (k : Kp H μ H' μ') : ∀ (fs : List (Str × D)) (fv : List (Str × V)), RepF K H μ fs fv → RepF K H' μ' fs fv
  | [], _, h => by unfold RepF at h ⊢; exact h
  | (x, d) :: fs, _, h => by
    unfold RepF at h ⊢
    obtain ⟨v, r, e, h1, h2⟩ := h
    exact ⟨v, r, e, Rep.mono k d v h1, RepF.mono k fs r h2⟩
end
theorem RepK.mono (k : Kp H μ H' μ') : ∀ (fs : List (Key × D)) (fv : List (Key × V)), RepK K H μ fs fv → RepK K H' μ' fs fv
  | [], _, h => by unfold RepK at h ⊢; exact h
  | (x, d) :: fs, _, h => by
    unfold RepK at h ⊢
    obtain ⟨v, r, e, h1, h2⟩ := h
    exact ⟨v, r, e, Rep.mono k d v h1, RepK.mono k fs r h2⟩
theorem RepS.mono (k : Kp H μ H' μ') : ∀ (δ : DS) (σ : L2.St), RepS K H μ δ σ → RepS K H' μ' δ σ
  | [], _, h => by unfold RepS at h ⊢; exact h
  | none :: δ, _, h => by
    unfold RepS at h ⊢
    obtain ⟨o, r, e, h2⟩ := h
    exact ⟨o, r, e, RepS.mono k δ r h2⟩
  | some d :: δ, _, h => by
    unfold RepS at h ⊢
    obtain ⟨v, r, e, h1, h2⟩ := h
    exact ⟨v, r, e, h1.mono k, RepS.mono k δ r h2⟩
end
section
variable {K : PySem.W.Frag} {H H' : Hp} {μ μ' : Mu}
theorem RepL.length : ∀ {ds : List D} {vs : List V}, RepL K H μ ds vs → vs.length = ds.length
  | [], _, h => by
    unfold RepL at h
    rw [h] <;> rfl
  | d :: ds, _, h => by
    unfold RepL at h
    obtain ⟨v, r, rfl, _, h2⟩ := h
    show r.length + 1 = ds.length + 1
    rw [RepL.length h2]
theorem RepL.at_ : ∀ {ds : List D} {vs : List V} {i : Nat} {d : D}, RepL K H μ ds vs → ds[i]? = some d → ∃ v, vs[i]? = some v ∧ Rep K H μ d v
  | [], _, _, _, h, e => by simp at e
  | d :: ds, _, 0, x, h, e => by
    unfold RepL at h
    obtain ⟨v, r, rfl, h1, _⟩ := h
    have e' : d = x := by simpa using e
    subst e'
    exact ⟨v, rfl, h1⟩
  | d :: ds, _, i + 1, x, h, e => by
    unfold RepL at h
    obtain ⟨v, r, rfl, _, h2⟩ := h
    obtain ⟨u, e1, h3⟩ := RepL.at_ (i := i) h2 (by simpa using e)
    exact ⟨u, by simpa using e1, h3⟩
theorem RepL.atV : ∀ {ds : List D} {vs : List V} {i : Nat} {v : V}, RepL K H μ ds vs → vs[i]? = some v → ∃ d, ds[i]? = some d ∧ Rep K H μ d v
  | [], _, _, _, h, e => by
    unfold RepL at h
    rw [h] at e
    simp at e
  | d :: ds, _, 0, x, h, e => by
    unfold RepL at h
    obtain ⟨v, r, rfl, h1, _⟩ := h
    have e' : v = x := by simpa using e
    subst e'
    exact ⟨d, rfl, h1⟩
  | d :: ds, _, i + 1, x, h, e => by
    unfold RepL at h
    obtain ⟨v, r, rfl, _, h2⟩ := h
    obtain ⟨u, e1, h3⟩ := RepL.atV (i := i) h2 (by simpa using e)
    exact ⟨u, by simpa using e1, h3⟩
theorem RepL.nil : RepL K H μ [] [] := by unfold RepL; rfl
theorem RepL.cons {d : D} {v : V} {ds : List D} {vs : List V} (h : Rep K H μ d v) (h2 : RepL K H μ ds vs) : RepL K H μ (d :: ds) (v :: vs) := by
  unfold RepL; exact ⟨v, vs, rfl, h, h2⟩
theorem RepL.append : ∀ {ds es : List D} {vs us : List V}, RepL K H μ ds vs → RepL K H μ es us → RepL K H μ (ds ++ es) (vs ++ us)
  | [], _, _, _, h, h' => by
    unfold RepL at h
    rw [h]
    exact h'
  | d :: ds, _, _, _, h, h' => by
    unfold RepL at h
    obtain ⟨v, r, rfl, h1, h2⟩ := h
    exact RepL.cons h1 (RepL.append h2 h')
theorem RepL.take : ∀ {ds : List D} {vs : List V} (n : Nat), RepL K H μ ds vs → RepL K H μ (ds.take n) (vs.take n)
  | _, _, 0, _ => by simpa using RepL.nil
  | [], _, n + 1, h => by
    unfold RepL at h
    rw [h]
    simpa using RepL.nil
  | d :: ds, _, n + 1, h => by
    unfold RepL at h
    obtain ⟨v, r, rfl, h1, h2⟩ := h
    simpa using RepL.cons h1 (RepL.take n h2)
theorem RepL.drop : ∀ {ds : List D} {vs : List V} (n : Nat), RepL K H μ ds vs → RepL K H μ (ds.drop n) (vs.drop n)
  | _, _, 0, h => by simpa using h
  | [], _, n + 1, h => by
    unfold RepL at h
    rw [h]
    simpa using RepL.nil
  | d :: ds, _, n + 1, h => by
    unfold RepL at h
    obtain ⟨v, r, rfl, h1, h2⟩ := h
    simpa using RepL.drop n h2
theorem RepL.set : ∀ {ds : List D} {vs : List V} {d : D} {v : V} (i : Nat), RepL K H μ ds vs → Rep K H μ d v → RepL K H μ (ds.set i d) (vs.set i v)
  | [], _, _, _, _, h, _ => by
    unfold RepL at h
    rw [h]
    simpa using RepL.nil
  | e :: ds, _, d, v, 0, h, h' => by
    unfold RepL at h
    obtain ⟨u, r, rfl, h1, h2⟩ := h
    simpa using RepL.cons h' h2
  | e :: ds, _, d, v, i + 1, h, h' => by
    unfold RepL at h
    obtain ⟨u, r, rfl, h1, h2⟩ := h
    simpa using RepL.cons h1 (RepL.set i h2 h')
theorem RepL.erase : ∀ {ds : List D} {vs : List V} (i : Nat), RepL K H μ ds vs → RepL K H μ (ds.eraseIdx i) (vs.eraseIdx i)
  | [], _, _, h => by
    unfold RepL at h
    rw [h]
    simpa using RepL.nil
  | e :: ds, _, 0, h => by
    unfold RepL at h
    obtain ⟨u, r, rfl, h1, h2⟩ := h
    simpa using h2
  | e :: ds, _, i + 1, h => by
    unfold RepL at h
    obtain ⟨u, r, rfl, h1, h2⟩ := h
    simpa using RepL.cons h1 (RepL.erase i h2)
theorem RepL.ints : ∀ {ns : List Int} {vs : List V}, RepL K H μ (ns.map D.int) vs → vs = ns.map V.int
  | [], _, h => by unfold RepL at h; exact h
  | n :: ns, _, h => by
    unfold RepL at h
    obtain ⟨v, r, rfl, h1, h2⟩ := h
    unfold Rep at h1
    rw [h1, RepL.ints h2]
    rfl
theorem RepL.bools : ∀ {ns : List Bool} {vs : List V}, RepL K H μ (ns.map D.bl) vs → vs = ns.map V.bl
  | [], _, h => by unfold RepL at h; exact h
  | n :: ns, _, h => by
    unfold RepL at h
    obtain ⟨v, r, rfl, h1, h2⟩ := h
    unfold Rep at h1
    rw [h1, RepL.bools h2]
    rfl
theorem RepL.strs : ∀ {ns : List Str} {vs : List V}, RepL K H μ (ns.map D.str) vs → vs = ns.map V.str
  | [], _, h => by unfold RepL at h; exact h
  | n :: ns, _, h => by
    unfold RepL at h
    obtain ⟨v, r, rfl, h1, h2⟩ := h
    unfold Rep at h1
    rw [h1, RepL.strs h2]
    rfl
theorem RepL.of_ints : ∀ (ns : List Int), RepL K H μ (ns.map D.int) (ns.map V.int)
  | [] => RepL.nil
  | n :: ns => RepL.cons (by unfold Rep; rfl) (RepL.of_ints ns)
theorem RepL.of_strs : ∀ (ns : List Str), RepL K H μ (ns.map D.str) (ns.map V.str)
  | [] => RepL.nil
  | n :: ns => RepL.cons (by unfold Rep; rfl) (RepL.of_strs ns)
/-! ### slots -/
theorem RepS.get : ∀ {δ : DS} {σ : L2.St} {i : Nat} {d : D}, RepS K H μ δ σ → δ[i]? = some (some d) → ∃ v, σ[i]? = some (some v) ∧ Rep K H μ d v
  | [], _, _, _, h, e => by simp at e
  | none :: δ, _, 0, x, h, e => by simp at e
  | some y :: δ, _, 0, x, h, e => by
    unfold RepS at h
    obtain ⟨v, r, rfl, h1, _⟩ := h
    have e' : y = x := by simpa using e
    subst e'
    exact ⟨v, rfl, h1⟩
  | none :: δ, _, i + 1, x, h, e => by
    unfold RepS at h
    obtain ⟨v, r, rfl, h2⟩ := h
    obtain ⟨u, e1, h3⟩ := RepS.get (i := i) h2 (by simpa using e)
    exact ⟨u, by simpa using e1, h3⟩
  | some y :: δ, _, i + 1, x, h, e => by
    unfold RepS at h
    obtain ⟨v, r, rfl, _, h2⟩ := h
    obtain ⟨u, e1, h3⟩ := RepS.get (i := i) h2 (by simpa using e)
    exact ⟨u, by simpa using e1, h3⟩
theorem RepS.set : ∀ {δ : DS} {σ : L2.St} {d : D} {v : V} (i : Nat), RepS K H μ δ σ → Rep K H μ d v → RepS K H μ (δ.set i (some d)) (σ.set i (some v))
  | [], _, _, _, _, h, _ => by
    unfold RepS at h
    rw [h]
    simp [RepS]
  | none :: δ, _, d, v, 0, h, h' => by
    unfold RepS at h
    obtain ⟨o, r, rfl, h2⟩ := h
    show RepS K H μ (some d :: δ) (some v :: r)
    unfold RepS
    exact ⟨v, r, rfl, h', h2⟩
  | some y :: δ, _, d, v, 0, h, h' => by
    unfold RepS at h
    obtain ⟨o, r, rfl, _, h2⟩ := h
    show RepS K H μ (some d :: δ) (some v :: r)
    unfold RepS
    exact ⟨v, r, rfl, h', h2⟩
  | none :: δ, _, d, v, i + 1, h, h' => by
    unfold RepS at h
    obtain ⟨o, r, rfl, h2⟩ := h
    show RepS K H μ (none :: δ.set i (some d)) (o :: r.set i (some v))
    unfold RepS
    exact ⟨o, _, rfl, RepS.set i h2 h'⟩
  | some y :: δ, _, d, v, i + 1, h, h' => by
    unfold RepS at h
    obtain ⟨o, r, rfl, h1, h2⟩ := h
    show RepS K H μ (some y :: δ.set i (some d)) (some o :: r.set i (some v))
    unfold RepS
    exact ⟨o, _, rfl, h1, RepS.set i h2 h'⟩
theorem RepS.unset : ∀ {δ : DS} {σ : L2.St} (i : Nat), RepS K H μ δ σ → RepS K H μ (δ.set i none) (σ.set i none)
  | [], _, _, h => by
    unfold RepS at h
    rw [h]
    simp [RepS]
  | none :: δ, _, 0, h => by
    unfold RepS at h
    obtain ⟨o, r, rfl, h2⟩ := h
    show RepS K H μ (none :: δ) (none :: r)
    unfold RepS
    exact ⟨none, r, rfl, h2⟩
  | some y :: δ, _, 0, h => by
    unfold RepS at h
    obtain ⟨o, r, rfl, _, h2⟩ := h
    show RepS K H μ (none :: δ) (none :: r)
    unfold RepS
    exact ⟨none, r, rfl, h2⟩
  | none :: δ, _, i + 1, h => by
    unfold RepS at h
    obtain ⟨o, r, rfl, h2⟩ := h
    show RepS K H μ (none :: δ.set i none) (o :: r.set i none)
    unfold RepS
    exact ⟨o, _, rfl, RepS.unset i h2⟩
  | some y :: δ, _, i + 1, h => by
    unfold RepS at h
    obtain ⟨o, r, rfl, h1, h2⟩ := h
    show RepS K H μ (some y :: δ.set i none) (some o :: r.set i none)
    unfold RepS
    exact ⟨o, _, rfl, h1, RepS.unset i h2⟩
/-- the slots of a block's own names forgotten -/
def wiped (δ : DS) : List Nat → DS
  | [] => δ
  | v :: vs => (wiped δ vs).set v none
theorem RepS.wipe {δ : DS} {σ : L2.St} (h : RepS K H μ δ σ) : ∀ vs : List Nat, RepS K H μ (wiped δ vs) (L2.wipe σ vs)
  | [] => h
  | v :: vs => (RepS.wipe h vs).unset v
/-- a def's slots at its start -/
def begin_ (N : List Str) (ds : List D) : DS := ds.map some ++ List.replicate (N.length - ds.length) none
end
end DL
set_option Elab.async false
set_option linter.all false
set_option maxRecDepth 100000
namespace DL
open PySem PySem.Spec PyProof.Rows L2
/-! ### readings over data -/
abbrev KD := D → Mu → Prop
abbrev GE := DS → Mu → KD → Prop
abbrev GT := DS → Mu → (Bool → Mu → Prop) → Prop
abbrev GA := DS → Mu → (List D → Mu → Prop) → Prop
structure DEnds where
  nx : DS → Mu → Prop
  rt : KD
  bk : DS → Mu → Prop := fun _ _ => False
  ct : DS → Mu → Prop := fun _ _ => False
abbrev GS := DEnds → DS → Mu → Prop
/-- what must be shown of a value's continuation -/
def Fw (K : PySem.W.Frag) (H : Hp) (μ : Mu) (R : KD) (Q : VK) : Prop := ∀ v d H' μ', Kp H μ H' μ' → RM K H' μ' → Rep K H' μ' d v → R d μ' → Q v H'
theorem Fw.re {K : PySem.W.Frag} {H H1 : Hp} {μ μ1 : Mu} {R : KD} {Q : VK} (k : Kp H μ H1 μ1) (f : Fw K H μ R Q) : Fw K H1 μ1 R Q := fun v d H' μ' k' => f v d H' μ' (k.trans k')
def SimE (K : PySem.W.Frag) (t : TE) (g : GE) : Prop := ∀ σ H δ μ (Q : VK) (R : KD), RM K H μ → RepS K H μ δ σ → g δ μ R → Fw K H μ R Q → t σ H Q
def SimT (K : PySem.W.Frag) (t : TT) (g : GT) : Prop := ∀ σ H δ μ (Q : Bool → Hp → Prop) (R : Bool → Mu → Prop), RM K H μ → RepS K H μ δ σ → g δ μ R →
  (∀ b H' μ', Kp H μ H' μ' → RM K H' μ' → R b μ' → Q b H') → t σ H Q
def SimA (K : PySem.W.Frag) (t : TA) (g : GA) : Prop := ∀ σ H δ μ (Q : List V → Hp → Prop) (R : List D → Mu → Prop), RM K H μ → RepS K H μ δ σ → g δ μ R →
  (∀ vs ds H' μ', Kp H μ H' μ' → RM K H' μ' → RepL K H' μ' ds vs → R ds μ' → Q vs H') → t σ H Q
structure EOk (K : PySem.W.Frag) (H0 : Hp) (μ0 : Mu) (E : Ends) (F : DEnds) : Prop where
  nx : ∀ σ H δ μ, Kp H0 μ0 H μ → RM K H μ → RepS K H μ δ σ → F.nx δ μ → E.nx σ H
  rt : Fw K H0 μ0 F.rt E.rt
  bk : ∀ σ H δ μ, Kp H0 μ0 H μ → RM K H μ → RepS K H μ δ σ → F.bk δ μ → E.bk σ H
  ct : ∀ σ H δ μ, Kp H0 μ0 H μ → RM K H μ → RepS K H μ δ σ → F.ct δ μ → E.ct σ H
theorem EOk.re {K : PySem.W.Frag} {H H1 : Hp} {μ μ1 : Mu} {E : Ends} {F : DEnds} (k : Kp H μ H1 μ1) (e : EOk K H μ E F) : EOk K H1 μ1 E F :=
  ⟨fun σ H δ μ k' => e.nx σ H δ μ (k.trans k'), e.rt.re k, fun σ H δ μ k' => e.bk σ H δ μ (k.trans k'), fun σ H δ μ k' => e.ct σ H δ μ (k.trans k')⟩
def SimS (K : PySem.W.Frag) (t : TS) (g : GS) : Prop := ∀ σ H δ μ (E : Ends) (F : DEnds), RM K H μ → RepS K H μ δ σ → EOk K H μ E F → g F δ μ → t E σ H
structure DE (X : Cx) (e : Expr) (g : GE) : Prop where
  ex : ∃ t, PE X e t ∧ SimE X.K t g
structure DT (X : Cx) (e : Expr) (g : GT) : Prop where
  ex : ∃ t, PT X e t ∧ SimT X.K t g
structure DW (X : Cx) (e : Expr) (g : GT) : Prop where
  ex : ∃ t, PW X e t ∧ SimT X.K t g
structure DA (X : Cx) (es : List Expr) (g : GA) : Prop where
  ex : ∃ t, PA X es t ∧ SimA X.K t g
structure DSt (X : Cx) (st : Stmt) (g : GS) : Prop where
  ex : ∃ t, PS X st t ∧ SimS X.K t g
structure DSs (X : Cx) (st : List Stmt) (g : GS) : Prop where
  ex : ∃ t, PSs X st t ∧ SimS X.K t g
theorem DW.dt {X : Cx} {e : Expr} {g : GT} (h : DW X e g) : DT X e g := let ⟨t, a, b⟩ := h.ex; ⟨t, a.pt, b⟩
/-! ### by values -/
abbrev G1 := D → Mu → KD → Prop
abbrev G2 := D → D → Mu → KD → Prop
abbrev GC := List D → Mu → KD → Prop
def SimU (K : PySem.W.Frag) (r : V → Hp → VK → Prop) (g : G1) : Prop := ∀ x dx H μ (Q : VK) (R : KD), RM K H μ → Rep K H μ dx x → g dx μ R → Fw K H μ R Q → r x H Q
def SimO (K : PySem.W.Frag) (r : R2) (g : G2) : Prop := ∀ x y dx dy H μ (Q : VK) (R : KD), RM K H μ → Rep K H μ dx x → Rep K H μ dy y → g dx dy μ R → Fw K H μ R Q → r x y H Q
def SimC (K : PySem.W.Frag) (r : List V → Hp → VK → Prop) (g : GC) : Prop := ∀ vs ds H μ (Q : VK) (R : KD), RM K H μ → RepL K H μ ds vs → g ds μ R → Fw K H μ R Q → r vs H Q
/-! ### expressions -/
def gVar (i : Nat) : GE := fun δ μ R => match δ.getD i none with
  | some d => R d μ
  | none => False
def gC (d : D) : GE := fun _ μ R => R d μ
section
variable {X : Cx}
theorem dv (i : Nat) {x : Str} {pos : Pos} (hN : X.N[i]? = some x := by rfl) (hv : Vis X.env.scope x := by first | exact Or.inl rfl | exact Or.inr (Or.inl rfl) | exact Or.inr (Or.inr rfl)) (hd : (x == ("__debug__" : Str)) = false := by decide)
    (hcd : (x == ("__classdict__" : Str)) = false := by decide) : DE X (.Name x pos) (gVar i) := by
  refine ⟨tVar i, pe_var hN hv hd hcd, fun σ H δ μ Q R rm rs g f => ?_⟩
  unfold gVar at g
  rw [List.getD_eq_getElem?_getD] at g
  cases e : δ[i]? with
  | none => rw [e] at g; exact False.elim g
  | some o =>
    cases o with
    | none => rw [e] at g; exact False.elim g
    | some d =>
      rw [e] at g
      obtain ⟨v, e2, rv⟩ := rs.get e
      exact ⟨v, e2, f v d H μ (Kp.refl _ _) rm rv g⟩
theorem de_c {e : Expr} {v : V} {d : D} (h : PE X e (tC v)) (r : ∀ H μ, Rep X.K H μ d v) : DE X e (gC d) := ⟨tC v, h, fun σ H δ μ Q R rm rs g f => f v d H μ (Kp.refl _ _) rm (r H μ) g⟩
theorem de_int {i j pos} : DE X (.Constant (.int i) j pos) (gC (.int i)) := de_c pe_int fun _ _ => by unfold Rep; rfl
theorem de_bl {i j pos} : DE X (.Constant (.bool i) j pos) (gC (.bl i)) := de_c pe_bl fun _ _ => by unfold Rep; rfl
theorem de_non {j pos} : DE X (.Constant .none j pos) (gC .non) := de_c pe_non fun _ _ => by unfold Rep; rfl
theorem de_str {x j pos} : DE X (.Constant (.str x) j pos) (gC (.str x)) := de_c pe_str fun _ _ => by unfold Rep; rfl
theorem de_globI {x : Str} {i : Int} {t : Tok} {pos : Pos} (hg : Gl X x) (hm : X.mg x = some (.int i t)) (hd : (x == ("__debug__" : Str)) = false := by decide) : DE X (.Name x pos) (gC (.int i)) :=
  de_c (pe_glob (v := .int i) hg hm ⟨t, rfl⟩ hd) fun _ _ => by unfold Rep; rfl
theorem de_globS {x : Str} {i : Str} {t : Tok} {pos : Pos} (hg : Gl X x) (hm : X.mg x = some (.str i t)) (hd : (x == ("__debug__" : Str)) = false := by decide) : DE X (.Name x pos) (gC (.str i)) :=
  de_c (pe_glob (v := .str i) hg hm ⟨t, rfl⟩ hd) fun _ _ => by unfold Rep; rfl
def gOp (r : G2) (ga gb : GE) : GE := fun δ μ R => ga δ μ fun x μ1 => gb δ μ1 fun y μ2 => r x y μ2 R
theorem sim_op {K : PySem.W.Frag} {r : R2} {ta tb : TE} {g : G2} {ga gb : GE} (h : SimO K r g) (ha : SimE K ta ga) (hb : SimE K tb gb) : SimE K (tOp r ta tb) (gOp g ga gb) := by
  intro σ H δ μ Q R rm rs q f
  refine ha σ H δ μ _ _ rm rs q fun v d H1 μ1 k1 rm1 r1 q1 => ?_
  refine hb σ H1 δ μ1 _ _ rm1 (rs.mono k1) q1 fun v2 d2 H2 μ2 k2 rm2 r2 q2 => ?_
  exact h v v2 d d2 H2 μ2 Q R rm2 (r1.mono k2) r2 q2 (f.re (k1.trans k2))
theorem de_op {op : Operator} {a b : Expr} {ga gb : GE} {r : R2} {g : G2} {pos : Pos} (ho : OpR X (binaryOp op) r) (h : SimO X.K r g) (ha : DE X a ga) (hb : DE X b gb) : DE X (.BinOp a op b pos) (gOp g ga gb) :=
  let ⟨_, a1, a2⟩ := ha.ex; let ⟨_, b1, b2⟩ := hb.ex; ⟨_, pe_op ho a1 b1, sim_op h a2 b2⟩
theorem de_cmp {op : CmpOp} {a b : Expr} {ga gb : GE} {r : R2} {g : G2} {pos : Pos} (ho : OpR X (compareOp op) r) (h : SimO X.K r g) (ha : DE X a ga) (hb : DE X b gb) (hm : behindInMarks op b = false) : DE X (.Compare a [op] [b] pos) (gOp g ga gb) :=
  let ⟨_, a1, a2⟩ := ha.ex; let ⟨_, b1, b2⟩ := hb.ex; ⟨_, pe_cmpR ho a1 b1 hm, sim_op h a2 b2⟩
theorem de_ix {a b : Expr} {ga gb : GE} {r : R2} {g : G2} {pos : Pos} (ho : IxR X r) (h : SimO X.K r g) (ha : DE X a ga) (hb : DE X b gb) (hs : PlainIx b) : DE X (.Subscript a b pos) (gOp g ga gb) :=
  let ⟨_, a1, a2⟩ := ha.ex; let ⟨_, b1, b2⟩ := hb.ex; ⟨_, pe_ix ho a1 b1 hs, sim_op h a2 b2⟩
def gUn (r : G1) (ga : GE) : GE := fun δ μ R => ga δ μ fun x μ1 => r x μ1 R
theorem sim_un {K : PySem.W.Frag} {r : V → Hp → VK → Prop} {ta : TE} {g : G1} {ga : GE} (h : SimU K r g) (ha : SimE K ta ga) : SimE K (tUn r ta) (gUn g ga) := by
  intro σ H δ μ Q R rm rs q f
  exact ha σ H δ μ _ _ rm rs q fun v d H1 μ1 k1 rm1 r1 q1 => h v d H1 μ1 Q R rm1 r1 q1 (f.re k1)
theorem de_un {op : UnaryOp} {a : Expr} {ga : GE} {r : V → Hp → VK → Prop} {g : G1} {pos : Pos} (ho : UnR X (unaryOp op) r) (h : SimU X.K r g) (ha : DE X a ga) : DE X (.UnaryOp op a pos) (gUn g ga) :=
  let ⟨_, a1, a2⟩ := ha.ex; ⟨_, pe_un ho a1, sim_un h a2⟩
/-- a value that is a bool, as a test -/
def bK (R : Bool → Mu → Prop) : KD := fun d μ => match d with
  | .bl b => R b μ
  | _ => False
def gB (g : GE) : GT := fun δ μ R => g δ μ (bK R)
theorem sim_b {K : PySem.W.Frag} {t : TE} {g : GE} (h : SimE K t g) : SimT K (fun σ H Q => t σ H fun x H1 => ∃ c, x = .bl c ∧ Q c H1) (gB g) := by
  intro σ H δ μ Q R rm rs q f
  refine h σ H δ μ _ _ rm rs q fun v d H1 μ1 k1 rm1 r1 q1 => ?_
  cases d <;> try exact False.elim q1
  rename_i b
  unfold Rep at r1
  exact ⟨b, r1, f b H1 μ1 k1 rm1 q1⟩
theorem dt_cmp {op : CmpOp} {a b : Expr} {ga gb : GE} {r : R2} {g : G2} {pos : Pos} (ho : OpR X (compareOp op) r) (h : SimO X.K r g) (ha : DE X a ga) (hb : DE X b gb) (hm : behindInMarks op b = false) : DT X (.Compare a [op] [b] pos) (gB (gOp g ga gb)) :=
  let ⟨_, a1, a2⟩ := ha.ex; let ⟨_, b1, b2⟩ := hb.ex; ⟨_, pt_cmpR ho a1 b1 hm, sim_b (sim_op h a2 b2)⟩
theorem dt_val {e : Expr} {g : GE} (h : DE X e g) (he : ∀ whole, isTrue e X.env whole = (do let v ← whole; standAt e.pos; holding [v] (truthy v)) := by intro _; rfl) : DT X e (gB g) :=
  let ⟨_, a1, a2⟩ := h.ex; ⟨_, pt_val a1 he, sim_b a2⟩
def gAnd (t u : GT) : GT := fun δ μ R => t δ μ fun c μ1 => if c = true then u δ μ1 R else R false μ1
def gOr (t u : GT) : GT := fun δ μ R => t δ μ fun c μ1 => if c = true then R true μ1 else u δ μ1 R
def gNot (t : GT) : GT := fun δ μ R => t δ μ fun c μ1 => R (!c) μ1
variable {a b : Expr} {rest : List Expr} {pos : Pos} {gt gu : GT} {ga gb : GE}
theorem dw_and1 (h : DT X a gt) : DW X (.BoolOp .And [a] pos) gt := let ⟨_, a1, a2⟩ := h.ex; ⟨_, pw_and1 a1, a2⟩
theorem dw_or1 (h : DT X a gt) : DW X (.BoolOp .Or [a] pos) gt := let ⟨_, a1, a2⟩ := h.ex; ⟨_, pw_or1 a1, a2⟩
theorem dw_and (h : DT X a gt) (h2 : DW X (.BoolOp .And (b :: rest) pos) gu) : DW X (.BoolOp .And (a :: b :: rest) pos) (gAnd gt gu) := by
  obtain ⟨t, a1, a2⟩ := h.ex
  obtain ⟨u, b1, b2⟩ := h2.ex
  refine ⟨_, pw_and a1 b1, fun σ H δ μ Q R rm rs q f => ?_⟩
  refine a2 σ H δ μ _ _ rm rs q fun c H1 μ1 k1 rm1 q1 => ?_
  cases c with
  | true => exact b2 σ H1 δ μ1 Q R rm1 (rs.mono k1) q1 fun b H2 μ2 k2 => f b H2 μ2 (k1.trans k2)
  | false => exact f false H1 μ1 k1 rm1 q1
theorem dw_or (h : DT X a gt) (h2 : DW X (.BoolOp .Or (b :: rest) pos) gu) : DW X (.BoolOp .Or (a :: b :: rest) pos) (gOr gt gu) := by
  obtain ⟨t, a1, a2⟩ := h.ex
  obtain ⟨u, b1, b2⟩ := h2.ex
  refine ⟨_, pw_or a1 b1, fun σ H δ μ Q R rm rs q f => ?_⟩
  refine a2 σ H δ μ _ _ rm rs q fun c H1 μ1 k1 rm1 q1 => ?_
  cases c with
  | false => exact b2 σ H1 δ μ1 Q R rm1 (rs.mono k1) q1 fun b H2 μ2 k2 => f b H2 μ2 (k1.trans k2)
  | true => exact f true H1 μ1 k1 rm1 q1
theorem dt_not (h : DT X a gt) : DT X (.UnaryOp .Not a pos) (gNot gt) := by
  obtain ⟨t, a1, a2⟩ := h.ex
  exact ⟨_, pt_not a1, fun σ H δ μ Q R rm rs q f => a2 σ H δ μ _ _ rm rs q fun c H1 μ1 k1 rm1 q1 => f (!c) H1 μ1 k1 rm1 q1⟩
/-- and, or, not as values (bools) -/
def gAndV (t u : GE) : GE := fun δ μ R => t δ μ (bK fun c μ1 => if c = true then u δ μ1 R else R (.bl false) μ1)
def gNotV (t : GE) : GE := fun δ μ R => t δ μ (bK fun c μ1 => R (.bl (!c)) μ1)
theorem de_one {op} (h : DE X a ga) : DE X (.BoolOp op [a] pos) ga := let ⟨_, a1, a2⟩ := h.ex; ⟨_, pe_one a1, a2⟩
theorem de_and (h : DE X a ga) (h2 : DE X (.BoolOp .And (b :: rest) pos) gb) : DE X (.BoolOp .And (a :: b :: rest) pos) (gAndV ga gb) := by
  obtain ⟨t, a1, a2⟩ := h.ex
  obtain ⟨u, b1, b2⟩ := h2.ex
  refine ⟨_, pe_and a1 b1, fun σ H δ μ Q R rm rs q f => ?_⟩
  refine a2 σ H δ μ _ _ rm rs q fun v d H1 μ1 k1 rm1 r1 q1 => ?_
  cases d <;> try exact False.elim q1
  rename_i c
  unfold Rep at r1
  refine ⟨c, r1, ?_⟩
  cases c with
  | true => exact b2 σ H1 δ μ1 Q R rm1 (rs.mono k1) q1 (f.re k1)
  | false => exact f (.bl false) (.bl false) H1 μ1 k1 rm1 (by unfold Rep; rfl) q1
theorem de_not (h : DE X a ga) : DE X (.UnaryOp .Not a pos) (gNotV ga) := by
  obtain ⟨t, a1, a2⟩ := h.ex
  refine ⟨_, pe_not a1, fun σ H δ μ Q R rm rs q f => ?_⟩
  refine a2 σ H δ μ _ _ rm rs q fun v d H1 μ1 k1 rm1 r1 q1 => ?_
  cases d <;> try exact False.elim q1
  rename_i c
  unfold Rep at r1
  exact ⟨c, r1, f (.bl (!c)) (.bl (!c)) H1 μ1 k1 rm1 (by unfold Rep; rfl) q1⟩
def gIf (t : GT) (ga gb : GE) : GE := fun δ μ R => t δ μ fun c μ1 => if c = true then ga δ μ1 R else gb δ μ1 R
theorem de_if {c : Expr} (h : DT X c gt) (ha : DE X a ga) (hb : DE X b gb) : DE X (.IfExp c a b pos) (gIf gt ga gb) := by
  obtain ⟨t, c1, c2⟩ := h.ex
  obtain ⟨u, a1, a2⟩ := ha.ex
  obtain ⟨w, b1, b2⟩ := hb.ex
  refine ⟨_, pe_ifExp c1 a1 b1, fun σ H δ μ Q R rm rs q f => ?_⟩
  refine c2 σ H δ μ _ _ rm rs q fun c H1 μ1 k1 rm1 q1 => ?_
  cases c with
  | true => exact a2 σ H1 δ μ1 Q R rm1 (rs.mono k1) q1 (f.re k1)
  | false => exact b2 σ H1 δ μ1 Q R rm1 (rs.mono k1) q1 (f.re k1)
/-- a op1 b op2 c -/
def gChain (r r' : G2) (ga gb gc : GE) : GE := fun δ μ R => ga δ μ fun x μ1 => gb δ μ1 fun y μ2 => r x y μ2 (bK fun k μ3 => if k = true then gc δ μ3 fun z μ4 => r' y z μ4 R else R (.bl false) μ3)
theorem de_chain {op op' : CmpOp} {c : Expr} {r r' : R2} {g g' : G2} {gc : GE} (ho : OpR X (compareOp op) r) (h : SimO X.K r g) (ho' : OpR X (compareOp op') r') (h' : SimO X.K r' g') (ha : DE X a ga) (hb : DE X b gb) (hc : DE X c gc)
    (hm : lastMarks [op, op'] [b, c] = false := by with_unfolding_all rfl) : DE X (.Compare a [op, op'] [b, c] pos) (gChain g g' ga gb gc) := by
  obtain ⟨t, a1, a2⟩ := ha.ex
  obtain ⟨u, b1, b2⟩ := hb.ex
  obtain ⟨w, c1, c2⟩ := hc.ex
  refine ⟨_, pe_chain ho ho' a1 b1 c1 hm, fun σ H δ μ Q R rm rs q f => ?_⟩
  refine a2 σ H δ μ _ _ rm rs q fun v d H1 μ1 k1 rm1 r1 q1 => ?_
  refine b2 σ H1 δ μ1 _ _ rm1 (rs.mono k1) q1 fun v2 d2 H2 μ2 k2 rm2 r2 q2 => ?_
  refine h v v2 d d2 H2 μ2 _ _ rm2 (r1.mono k2) r2 q2 fun v3 d3 H3 μ3 k3 rm3 r3 q3 => ?_
  cases d3 <;> try exact False.elim q3
  rename_i k
  unfold Rep at r3
  refine ⟨k, r3, ?_⟩
  cases k with
  | false => exact f (.bl false) (.bl false) H3 μ3 (k1.trans (k2.trans k3)) rm3 (by unfold Rep; rfl) q3
  | true => exact c2 σ H3 δ μ3 _ _ rm3 (rs.mono (k1.trans (k2.trans k3))) q3 fun v4 d4 H4 μ4 k4 rm4 r4 q4 => h' v2 v4 d2 d4 H4 μ4 Q R rm4 (r2.mono (k3.trans k4)) r4 q4 (f.re (k1.trans (k2.trans (k3.trans k4))))
/-! ### arguments, displays -/
def gNil : GA := fun _ μ R => R [] μ
def gCons (ga : GE) (gr : GA) : GA := fun δ μ R => ga δ μ fun x μ1 => gr δ μ1 fun xs μ2 => R (x :: xs) μ2
variable {e : Expr} {es : List Expr} {gr : GA}
theorem da_nil : DA X [] gNil := ⟨_, pa_nil, fun σ H δ μ Q R rm rs q f => f [] [] H μ (Kp.refl _ _) rm RepL.nil q⟩
theorem da_cons (ha : DE X e ga) (hr : DA X es gr) (hs : starEach (e :: es) X.env = (false, eval e X.env) :: starEach es X.env := by rfl) : DA X (e :: es) (gCons ga gr) := by
  obtain ⟨t, a1, a2⟩ := ha.ex
  obtain ⟨u, b1, b2⟩ := hr.ex
  refine ⟨_, pa_cons a1 b1 hs, fun σ H δ μ Q R rm rs q f => ?_⟩
  refine a2 σ H δ μ _ _ rm rs q fun v d H1 μ1 k1 rm1 r1 q1 => ?_
  exact b2 σ H1 δ μ1 _ _ rm1 (rs.mono k1) q1 fun vs ds H2 μ2 k2 rm2 r2 q2 => f (v :: vs) (d :: ds) H2 μ2 (k1.trans k2) rm2 (RepL.cons (r1.mono k2) r2) q2
def gTup (g : GA) : GE := fun δ μ R => g δ μ fun ds μ1 => ds.length ≤ sizeLine ∧ R (.tup ds) μ1
def gLst (g : GA) : GE := fun δ μ R => g δ μ fun ds μ1 => ds.length ≤ sizeLine ∧ R (.lst ds) μ1
/-- a list that will change -/
def gCell (g : GA) : GE := fun δ μ R => g δ μ fun ds μ1 => ds.length ≤ sizeLine ∧ ∀ a, μ1 a = none → R (.adr a) (put μ1 a (.lst ds))
theorem RM.new {K : PySem.W.Frag} {H H' : Hp} {μ : Mu} (rm : RM K H μ) (k : Kp H μ H' μ) (h : ∀ a o, μ a = some o → H' a = H a) : RM K H' μ := fun a o e => by
  have q := rm a o e
  cases o with
  | lst ds => obtain ⟨vs, h1, h2⟩ := q; exact ⟨vs, (h _ _ e).trans h1, h2.mono k _ _⟩
  | dct kvs => obtain ⟨vs, h1, h2⟩ := q; exact ⟨vs, (h _ _ e).trans h1, h2.mono k _ _⟩
  | ins C fs => obtain ⟨dx, vs, h1, h2⟩ := q; exact ⟨dx, vs, (h _ _ e).trans h1, h2.mono k _ _⟩
theorem RM.has {K : PySem.W.Frag} {H : Hp} {μ : Mu} (rm : RM K H μ) {a : Addr} {o : MO} (e : μ a = some o) : H a ≠ none := by
  have q := rm a o e
  cases o with
  | lst ds => obtain ⟨vs, h1, h2⟩ := q; rw [h1]; simp
  | dct kvs => obtain ⟨vs, h1, h2⟩ := q; rw [h1]; simp
  | ins C fs => obtain ⟨dx, vs, h1, h2⟩ := q; rw [h1]; simp
theorem RM.free {K : PySem.W.Frag} {H : Hp} {μ : Mu} (rm : RM K H μ) {a : Addr} (e : H a = none) : μ a = none := by
  cases q : μ a with
  | none => rfl
  | some o => exact absurd e (rm.has q)
theorem RM.laid {K : PySem.W.Frag} {H : Hp} {μ : Mu} {p : Addr} {o : HO} (rm : RM K H μ) (n : H p = none) : RM K (upd H p o) μ :=
  rm.new (Kp.new n) fun a u e => upd_ne (fun z => rm.has e (by rw [z]; exact n))
/-- the store with p's new content -/
theorem RM.put {K : PySem.W.Frag} {H H' : Hp} {μ : Mu} {p : Addr} {m : MO} (rm : RM K H μ) (k : Kp H μ H' (put μ p m)) (h : ∀ a o, a ≠ p → μ a = some o → H' a = H a) (hp : RepO K H' (put μ p m) m p) : RM K H' (put μ p m) := fun a o e => by
  by_cases ea : a = p
  · rw [ea, put_same] at e
    cases e
    rw [ea]; exact hp
  · rw [put_ne ea] at e
    have q := rm a o e
    cases o with
    | lst ds => obtain ⟨vs, h1, h2⟩ := q; exact ⟨vs, (h _ _ ea e).trans h1, h2.mono k _ _⟩
    | dct kvs => obtain ⟨vs, h1, h2⟩ := q; exact ⟨vs, (h _ _ ea e).trans h1, h2.mono k _ _⟩
    | ins C fs => obtain ⟨dx, vs, h1, h2⟩ := q; exact ⟨dx, vs, (h _ _ ea e).trans h1, h2.mono k _ _⟩
theorem RM.drop {K : PySem.W.Frag} {H : Hp} {μ : Mu} {p : Addr} (rm : RM K H μ) : RM K H (del μ p) := fun a o e => by
  by_cases ea : a = p
  · rw [ea, del_same] at e; cases e
  · rw [del_ne ea] at e
    have q := rm a o e
    cases o with
    | lst ds => obtain ⟨vs, h1, h2⟩ := q; exact ⟨vs, h1, h2.mono Kp.drop _ _⟩
    | dct kvs => obtain ⟨vs, h1, h2⟩ := q; exact ⟨vs, h1, h2.mono Kp.drop _ _⟩
    | ins C fs => obtain ⟨dx, vs, h1, h2⟩ := q; exact ⟨dx, vs, h1, h2.mono Kp.drop _ _⟩
theorem de_tup {x1} (h : DA X es gr) : DE X (.Tuple es x1 pos) (gTup gr) := by
  obtain ⟨t, a1, a2⟩ := h.ex
  refine ⟨_, pe_tup a1, fun σ H δ μ Q R rm rs q f => ?_⟩
  refine a2 σ H δ μ _ _ rm rs q fun vs ds H1 μ1 k1 rm1 r1 q1 => ⟨by rw [r1.length]; exact q1.1, fun p n => ?_⟩
  refine f (.ref p) (.tup ds) _ μ1 (k1.trans (Kp.new n)) (rm1.laid n) ?_ q1.2
  unfold Rep
  exact ⟨p, vs, rfl, .inl ⟨upd_same, rm1.free n⟩, r1.mono (Kp.new n) _ _⟩
theorem de_lst (h : DA X es gr) : DE X (.List es pos) (gLst gr) := by
  obtain ⟨t, a1, a2⟩ := h.ex
  refine ⟨_, pe_lst a1, fun σ H δ μ Q R rm rs q f => ?_⟩
  refine a2 σ H δ μ _ _ rm rs q fun vs ds H1 μ1 k1 rm1 r1 q1 => ⟨by rw [r1.length]; exact q1.1, fun p n => ?_⟩
  refine f (.ref p) (.lst ds) _ μ1 (k1.trans (Kp.new n)) (rm1.laid n) ?_ q1.2
  unfold Rep
  exact ⟨p, vs, rfl, upd_same, rm1.free n, r1.mono (Kp.new n) _ _⟩
theorem RM.cell {K : PySem.W.Frag} {H : Hp} {μ : Mu} {p : Addr} {vs : List V} {ds : List D} (rm : RM K H μ) (n : H p = none) (r : RepL K H μ ds vs) : RM K (upd H p (.lst vs)) (DL.put μ p (.lst ds)) :=
  rm.put (Kp.cell n) (fun a o ea e => upd_ne ea) ⟨vs, upd_same, r.mono (Kp.cell n) _ _⟩
theorem de_cell (h : DA X es gr) : DE X (.List es pos) (gCell gr) := by
  obtain ⟨t, a1, a2⟩ := h.ex
  refine ⟨_, pe_lst a1, fun σ H δ μ Q R rm rs q f => ?_⟩
  refine a2 σ H δ μ _ _ rm rs q fun vs ds H1 μ1 k1 rm1 r1 q1 => ⟨by rw [r1.length]; exact q1.1, fun p n => ?_⟩
  exact f (.ref p) (.adr p) _ _ (k1.trans (Kp.cell n)) (rm1.cell n r1) (by unfold Rep; rfl) (q1.2 p (rm1.free n))
end
end DL
set_option Elab.async false
set_option linter.all false
set_option maxRecDepth 100000
namespace DL
open PySem PySem.Spec PyProof.Rows L2
/-! ### the one reading of a data reading -/
def tOf (K : PySem.W.Frag) (g : GE) : TE := fun σ H Q => ∃ δ μ R, RM K H μ ∧ RepS K H μ δ σ ∧ g δ μ R ∧ Fw K H μ R Q
def tTOf (K : PySem.W.Frag) (g : GT) : TT := fun σ H Q => ∃ δ μ R, RM K H μ ∧ RepS K H μ δ σ ∧ g δ μ R ∧ ∀ b H' μ', Kp H μ H' μ' → RM K H' μ' → R b μ' → Q b H'
theorem sim_of {K : PySem.W.Frag} {g : GE} : SimE K (tOf K g) g := fun σ H δ μ Q R rm rs q f => ⟨δ, μ, R, rm, rs, q, f⟩
theorem simT_of {K : PySem.W.Frag} {g : GT} : SimT K (tTOf K g) g := fun σ H δ μ Q R rm rs q f => ⟨δ, μ, R, rm, rs, q, f⟩
theorem DE.pe {X : Cx} {e : Expr} {g : GE} (h : DE X e g) : PE X e (tOf X.K g) := by
  obtain ⟨t, a, b⟩ := h.ex
  refine ⟨fun pins s σ H Q I ⟨δ, μ, R, rm, rs, q, f⟩ => a.run pins s σ H Q I (b σ H δ μ Q R rm rs q f)⟩
structure DTs (X : Cx) (es : List Expr) (g : GT) : Prop where
  ex : ∃ t, PTs X es t ∧ SimT X.K t g
theorem DTs.pt {X : Cx} {e : List Expr} {g : GT} (h : DTs X e g) : PTs X e (tTOf X.K g) := by
  obtain ⟨t, a, b⟩ := h.ex
  refine ⟨fun pins s σ H Q I ⟨δ, μ, R, rm, rs, q, f⟩ => a.run pins s σ H Q I (b σ H δ μ Q R rm rs q f)⟩
def gYes : GT := fun _ μ R => R true μ
theorem dts_nil {X : Cx} : DTs X [] gYes := ⟨_, pts_nil, fun σ H δ μ Q R rm rs q f => f true H μ (Kp.refl _ _) rm q⟩
theorem dts_one {X : Cx} {c : Expr} {g : GT} (h : DT X c g) : DTs X [c] g := let ⟨_, a, b⟩ := h.ex; ⟨_, pts_one a, b⟩
/-! ### targets -/
abbrev GG := D → DS → (DS → Prop) → Prop
abbrev GGs := List D → DS → (DS → Prop) → Prop
/-- ow: the slots that it stores -/
def SimG (K : PySem.W.Frag) (t : TG) (g : GG) (ow : List Nat) : Prop := ∀ v d σ H δ μ (Q : L2.St → Hp → Prop) (R : DS → Prop), RM K H μ → RepS K H μ δ σ → Rep K H μ d v → g d δ R →
  (∀ σ' δ', RepS K H μ δ' σ' → R δ' → (∀ vs : List Nat, (∀ i ∈ ow, i ∈ vs) → L2.wipe σ' vs = L2.wipe σ vs) → Q σ' H) → t v σ H Q
def SimGs (K : PySem.W.Frag) (t : TGs) (g : GGs) (ow : List Nat) : Prop := ∀ vs ds σ H δ μ (Q : L2.St → Hp → Prop) (R : DS → Prop), RM K H μ → RepS K H μ δ σ → RepL K H μ ds vs → g ds δ R →
  (∀ σ' δ', RepS K H μ δ' σ' → R δ' → (∀ vs : List Nat, (∀ i ∈ ow, i ∈ vs) → L2.wipe σ' vs = L2.wipe σ vs) → Q σ' H) → t vs σ H Q
theorem wipe_get (σ : L2.St) (j : Nat) : ∀ vs : List Nat, (L2.wipe σ vs)[j]? = if j ∈ vs then (if j < σ.length then some none else none) else σ[j]?
  | [] => by simp [L2.wipe]
  | v :: vs => by
    unfold L2.wipe
    by_cases h : v = j
    · subst h
      by_cases hl : v < σ.length
      · rw [List.getElem?_set_self (by rw [L2.wipe_length]; exact hl)]
        simp [hl]
      · rw [List.getElem?_eq_none (by rw [List.length_set, L2.wipe_length]; omega)]
        simp [hl]
    · rw [List.getElem?_set_ne h, wipe_get σ j vs]
      have h' : ¬ j = v := fun e => h e.symm
      simp [h']
theorem wipe_set {σ : L2.St} {i : Nat} {o : Option V} {vs : List Nat} (h : i ∈ vs) : L2.wipe (σ.set i o) vs = L2.wipe σ vs := by
  apply List.ext_getElem?
  intro j
  rw [wipe_get, wipe_get, List.length_set]
  by_cases hj : j ∈ vs
  · rw [if_pos hj, if_pos hj]
  · rw [if_neg hj, if_neg hj]
    rw [List.getElem?_set_ne]
    rintro rfl
    exact hj h
theorem wipe_wipe {σ : L2.St} {vs : List Nat} : L2.wipe (L2.wipe σ vs) vs = L2.wipe σ vs := by
  apply List.ext_getElem?
  intro j
  rw [wipe_get, wipe_get, L2.wipe_length]
  by_cases hj : j ∈ vs
  · rw [if_pos hj, if_pos hj]
  · rw [if_neg hj, if_neg hj]
def gNm (i : Nat) : GG := fun d δ R => R (δ.set i (some d))
theorem sim_nm {K : PySem.W.Frag} {i : Nat} : SimG K (gName i) (gNm i) [i] := fun v d σ H δ μ Q R rm rs r q f =>
  f _ _ (rs.set i r) q fun vs h => wipe_set (h i (List.mem_singleton.mpr rfl))
def gNilT : GGs := fun ds δ R => match ds with
  | [] => R δ
  | _ :: _ => False
def gConsT (t : GG) (u : GGs) : GGs := fun ds δ R => match ds with
  | d :: r => t d δ fun δ' => u r δ' R
  | [] => False
theorem sim_nilT {K : PySem.W.Frag} : SimGs K L2.gNil gNilT [] := by
  intro vs ds σ H δ μ Q R rm rs r q f
  cases ds with
  | nil =>
    unfold RepL at r
    exact ⟨r, f σ δ rs q fun _ _ => rfl⟩
  | cons d ds => exact False.elim q
theorem sim_consT {K : PySem.W.Frag} {t : TG} {u : TGs} {g : GG} {gs : GGs} {o os : List Nat} (h : SimG K t g o) (h2 : SimGs K u gs os) : SimGs K (L2.gCons t u) (gConsT g gs) (o ++ os) := by
  intro vs ds σ H δ μ Q R rm rs r q f
  cases ds with
  | nil => exact False.elim q
  | cons d ds =>
    unfold RepL at r
    obtain ⟨v, w, rfl, r1, r2⟩ := r
    refine ⟨v, w, rfl, h v d σ H δ μ _ _ rm rs r1 q fun σ' δ' rs' q' w1 => ?_⟩
    exact h2 w ds σ' H δ' μ _ _ rm rs' r2 q' fun σ2 δ2 rs2 q2 w2 => f σ2 δ2 rs2 q2 fun vs hv => (w2 vs fun i hi => hv i (List.mem_append_right _ hi)).trans (w1 vs fun i hi => hv i (List.mem_append_left _ hi))
def gTupT (n : Nat) (t : GGs) : GG := fun d δ R => match d with
  | .tup ds => ds.length = n ∧ t ds δ R
  | _ => False
theorem sim_tupT {K : PySem.W.Frag} {n : Nat} {t : TGs} {g : GGs} {o : List Nat} (h : SimGs K t g o) : SimG K (L2.gTup K n t) (gTupT n g) o := by
  intro v d σ H δ μ Q R rm rs r q f
  cases d <;> try exact False.elim q
  rename_i ds
  unfold Rep at r
  obtain ⟨a, vs, rfl, im, rl⟩ := r
  exact ⟨a, vs, rfl, im.sq, by rw [rl.length]; exact q.1, h vs ds σ H δ μ Q R rm rs rl q.2 f⟩
/-! ### what is walked -/
abbrev GI := DS → Mu → (List D → Mu → Prop) → Prop
abbrev WalkD (K : PySem.W.Frag) (J : It) (items : List D) (H1 : Hp) (μ1 : Mu) : Prop :=
  Walk J items.length (fun H => ∃ μ, Kp H1 μ1 H μ ∧ RM K H μ) (fun i H x H' => ∀ μ, Kp H1 μ1 H μ → RM K H μ → ∃ d, items[i]? = some d ∧ Rep K H' μ d x ∧ Kp H μ H' μ ∧ RM K H' μ)
def SimI (K : PySem.W.Frag) (t : TI) (g : GI) : Prop := ∀ σ H δ μ (Q : It → Hp → Prop) (R : List D → Mu → Prop), RM K H μ → RepS K H μ δ σ → g δ μ R →
  (∀ J items H' μ', Kp H μ H' μ' → RM K H' μ' → WalkD K J items H' μ' → R items μ' → Q J H') → t σ H Q
structure DI (X : Cx) (tg iter : Expr) (g : GI) : Prop where
  ex : ∃ t, PI X tg iter t ∧ SimI X.K t g
def signs (x : Str) : List D := x.cps.toList.map fun c => D.str ⟨#[c]⟩
def gItemsS (g : GE) : GI := fun δ μ R => g δ μ fun d μ1 => match d with
  | .str x => R (signs x) μ1
  | _ => False
def gRange (g : GA) : GI := fun δ μ R => g δ μ fun ds μ1 => match ds with
  | [.int n] => (-(2 ^ 62) ≤ n ∧ n < 2 ^ 62) ∧ R ((List.range n.toNat).map fun i => D.int (i : Nat)) μ1
  | _ => False
section
variable {X : Cx} {tg e : Expr} {g : GE} {ga : GA}
theorem walk_seq {K : PySem.W.Frag} {a : Addr} {vs : List V} {ds : List D} {H : Hp} {μ : Mu} (hq : ∀ H' μ', Kp H μ H' μ' → SqL K H' a vs) (r : RepL K H μ ds vs) : WalkD K (Itl K a) ds H μ := by
  have e := r.length
  rw [WalkD, ← e]
  refine (walk_list (K := K) (a := a) (xs := vs)).mono (fun H' ⟨μ', k, _⟩ => hq H' μ' k) fun i H' x H2 hi _ ⟨e1, e2⟩ μ' k rm => ?_
  subst e1
  obtain ⟨d, e3, r1⟩ := (r.mono k).atV e2
  exact ⟨d, e3, r1, Kp.refl _ _, rm⟩
theorem di_str (h : DE X e g) : DI X tg e (gItemsS g) := by
  obtain ⟨t, a1, a2⟩ := h.ex
  refine ⟨_, pi_str a1, fun σ H δ μ Q R rm rs q f => ?_⟩
  refine a2 σ H δ μ _ _ rm rs q fun v d H1 μ1 k1 rm1 r1 q1 => ?_
  cases d <;> try exact False.elim q1
  rename_i x
  unfold Rep at r1
  refine ⟨x, r1, f _ (signs x) H1 μ1 k1 rm1 ?_ q1⟩
  have e : x.cps.size = (signs x).length := by simp [signs]
  rw [WalkD, ← e]
  refine (walk_str (z := x)).mono (fun H' _ => True.intro) fun i H' y H2 hi _ ⟨e1, c, e2, e3⟩ μ' k rm => ?_
  subst e1
  subst e3
  refine ⟨.str ⟨#[c]⟩, ?_, by unfold Rep; rfl, Kp.refl _ _, rm⟩
  unfold signs
  rw [List.getElem?_map, Array.getElem?_toList, e2]
  rfl
theorem di_range {p pos : Pos} (hg : Gl X "range") (hm : X.mg "range" = none) (h : DA X [e] ga) (hs : starEach [e] X.env = [(false, eval e X.env)] := by rfl) : DI X tg (.Call (.Name "range" p) [e] [] pos) (gRange ga) := by
  obtain ⟨t, a1, a2⟩ := h.ex
  refine ⟨_, pi_range1 hg hm a1 hs, fun σ H δ μ Q R rm rs q f => ?_⟩
  refine a2 σ H δ μ _ _ rm rs q fun vs ds H1 μ1 k1 rm1 r1 q1 => ?_
  unfold gRange at q
  match ds, q1, r1 with
  | [.int n], q1, r1 =>
    unfold RepL at r1
    obtain ⟨v, r, rfl, r2, r3⟩ := r1
    unfold RepL at r3
    unfold Rep at r2
    subst r2 r3
    refine ⟨n, rfl, q1.1.1, q1.1.2, f _ _ H1 μ1 k1 rm1 ?_ q1.2⟩
    have e : n.toNat = ((List.range n.toNat).map fun i => D.int (i : Nat)).length := by simp
    rw [WalkD, ← e]
    refine (walk_range (lo := 0) (n := n.toNat)).mono (fun H' _ => True.intro) fun i H' y H2 hi _ ⟨e1, e2⟩ μ' k rm => ?_
    subst e1 e2
    refine ⟨.int (0 + (i : Nat)), ?_, by unfold Rep; rfl, Kp.refl _ _, rm⟩
    rw [List.getElem?_map, List.getElem?_range hi]
    simp
end
/-! ### statements -/
def gNext : GS := fun F δ μ => F.nx δ μ
def gSeq (t u : GS) : GS := fun F δ μ => t { F with nx := u F } δ μ
section
variable {X : Cx} {st : Stmt} {rest body : List Stmt} {t u : GS} {e : Expr} {ge : GE} {pos : Pos} {a b : List Stmt}
theorem dss_nil : DSs X [] gNext := ⟨_, pss_nil, fun σ H δ μ E F rm rs e q => e.nx σ H δ μ (Kp.refl _ _) rm rs q⟩
theorem dss_one (h : DSt X st t) : DSs X [st] t := let ⟨_, a, b⟩ := h.ex; ⟨_, pss_one a, b⟩
theorem dss_cons (h : DSt X st t) (h2 : DSs X rest u) : DSs X (st :: rest) (gSeq t u) := by
  obtain ⟨t1, a1, a2⟩ := h.ex
  obtain ⟨u1, b1, b2⟩ := h2.ex
  refine ⟨_, pss_cons a1 b1, fun σ H δ μ E F rm rs e q => ?_⟩
  exact a2 σ H δ μ _ { F with nx := u F } rm rs ⟨fun σ1 H1 δ1 μ1 k1 rm1 rs1 q1 => b2 σ1 H1 δ1 μ1 E F rm1 rs1 (e.re k1) q1, e.rt, e.bk, e.ct⟩ q
def gDrop (g : GE) : GS := fun F δ μ => g δ μ fun _ μ1 => F.nx δ μ1
theorem ds_expr (h : DE X e ge) (hs : swapsWith e none pos.line X.env = pure false := by rfl) : DSt X (.Expr e pos) (gDrop ge) := by
  obtain ⟨t1, a1, a2⟩ := h.ex
  refine ⟨_, ps_expr a1 hs, fun σ H δ μ E F rm rs e q => ?_⟩
  exact a2 σ H δ μ _ _ rm rs q fun v d H1 μ1 k1 rm1 r1 q1 => e.nx σ H1 δ μ1 k1 rm1 (rs.mono k1) q1
def gRet (g : GE) : GS := fun F δ μ => g δ μ F.rt
theorem ds_ret (h : DE X e ge) : DSt X (.Return (some e) pos) (gRet ge) := by
  obtain ⟨t1, a1, a2⟩ := h.ex
  exact ⟨_, ps_ret a1, fun σ H δ μ E F rm rs e q => a2 σ H δ μ _ _ rm rs q e.rt⟩
def gIfS (c : GT) (t u : GS) : GS := fun F δ μ => c δ μ fun k μ1 => if k = true then t F δ μ1 else u F δ μ1
theorem ds_if {c : Expr} {gc : GT} (hc : DT X c gc) (ha : DSs X a t) (hb : DSs X b u) : DSt X (.If c a b pos) (gIfS gc t u) := by
  obtain ⟨t0, c1, c2⟩ := hc.ex
  obtain ⟨t1, a1, a2⟩ := ha.ex
  obtain ⟨u1, b1, b2⟩ := hb.ex
  refine ⟨_, ps_if c1 a1 b1, fun σ H δ μ E F rm rs e q => ?_⟩
  refine c2 σ H δ μ _ _ rm rs q fun k H1 μ1 k1 rm1 q1 => ?_
  cases k with
  | true => exact a2 σ H1 δ μ1 E F rm1 (rs.mono k1) (e.re k1) q1
  | false => exact b2 σ H1 δ μ1 E F rm1 (rs.mono k1) (e.re k1) q1
def gNever : GS := fun _ _ _ => False
theorem ds_never : DSt X st gNever := ⟨_, ps_never, fun _ _ _ _ _ _ _ _ _ q => q.elim⟩
def gAsg (g : GE) (t : GG) : GS := fun F δ μ => g δ μ fun d μ1 => t d δ fun δ' => F.nx δ' μ1
theorem sim_asg {K : PySem.W.Frag} {te : TE} {tg : TG} {g : GE} {gg : GG} {ow : List Nat} (h : SimE K te g) (hg : SimG K tg gg ow) : SimS K (tAsg te tg) (gAsg g gg) := by
  intro σ H δ μ E F rm rs e q
  refine h σ H δ μ _ _ rm rs q fun v d H1 μ1 k1 rm1 r1 q1 => ?_
  exact hg v d σ H1 δ μ1 _ _ rm1 (rs.mono k1) r1 q1 fun σ2 δ2 rs2 q2 _ => e.nx σ2 H1 δ2 μ1 k1 rm1 rs2 q2
theorem ds_asg {tg : Expr} {g : TG} {gg : GG} {ow : List Nat} (he : DE X e ge) (hg : PG X tg g) (sg : SimG X.K g gg ow) (hs : swapsWithSole [tg] e pos.line X.env = pure false := by rfl) (hw : swappedStores [tg] e X.env = pure none := by rfl)
    (h1 : (assignEach [tg] X.env).map (·.2) = [assign tg X.env] := by rfl) : DSt X (.Assign [tg] e pos) (gAsg ge gg) := by
  obtain ⟨t1, a1, a2⟩ := he.ex
  exact ⟨_, ps_asg a1 hg hs hw h1, sim_asg a2 sg⟩
theorem ds_set {i : Nat} {x : Str} {pos' : Pos} (hN : X.N.Nodup) (hi : X.N[i]? = some x) (hx : Loc X.env.scope x) (he : DE X e ge) (hs : swapsWith e (some (.Name x pos')) pos.line X.env = pure false := by rfl) (hf : X.fn x = true ∨ X.env.scope.names.lookup x = some .local := by first | exact .inl rfl | exact .inr rfl | assumption) :
    DSt X (.Assign [.Name x pos'] e pos) (gAsg ge (gNm i)) := by
  obtain ⟨t1, a1, a2⟩ := he.ex
  exact ⟨_, ps_set hN hi hx a1 hs hf, sim_asg a2 sim_nm⟩
/-- a, b = x, y -/
def gPar (i j : Nat) (ga : GA) : GS := fun F δ μ => ga δ μ fun ds μ1 => match ds with
  | [d, e] => F.nx ((δ.set i (some d)).set j (some e)) μ1
  | _ => False
theorem ds_par {i j : Nat} {x y : Str} {a b : Expr} {ga : GA} {px py pt : Pos} {kt k2 pt2} (hc : X.calm = true) (hN : X.N.Nodup) (hi : X.N[i]? = some x) (hj : X.N[j]? = some y) (hij : i ≠ j)
    (hx : X.env.scope.names.lookup x = some .local) (hy : X.env.scope.names.lookup y = some .local) (ha : DA X [a, b] ga)
    (hw : swappedStores [.Tuple [.Name x px, .Name y py] kt pt] (.Tuple [a, b] k2 pt2) X.env = pure (some [x, y]))
    (hs : swapsWithSole [.Tuple [.Name x px, .Name y py] kt pt] (.Tuple [a, b] k2 pt2) pos.line X.env = pure false := by rfl) :
    DSt X (.Assign [.Tuple [.Name x px, .Name y py] kt pt] (.Tuple [a, b] k2 pt2) pos) (gPar i j ga) := by
  obtain ⟨t1, a1, a2⟩ := ha.ex
  refine ⟨_, ps_par hc hN hi hj hij hx hy a1 hw hs, fun σ H δ μ E F rm rs e q => ?_⟩
  refine a2 σ H δ μ _ _ rm rs q fun vs ds H1 μ1 k1 rm1 r1 q1 => ?_
  match ds, r1, q1 with
  | [d, d2], r1, q1 =>
    unfold RepL at r1
    obtain ⟨v, r, rfl, r2, r3⟩ := r1
    unfold RepL at r3
    obtain ⟨v2, r, rfl, r4, r5⟩ := r3
    unfold RepL at r5
    subst r5
    exact ⟨v, v2, rfl, e.nx _ H1 _ μ1 k1 rm1 (((rs.mono k1).set i r2).set j r4) q1⟩
/-- name op= e -/
def gAug (i : Nat) (g : GE) (r : G2) : GS := fun F δ μ => match δ.getD i none with
  | some d => g δ μ fun y μ1 => r d y μ1 fun z μ2 => F.nx (δ.set i (some z)) μ2
  | none => False
theorem ds_aug {i : Nat} {x : Str} {op : Operator} {ti : TIp} {g2 : G2} {pos' : Pos} (hN : X.N.Nodup) (hi : X.N[i]? = some x) (hx : Loc X.env.scope x) (he : DE X e ge) (ho : PIp X op ti) (h : SimO X.K ti g2) (hf : X.fn x = true ∨ X.env.scope.names.lookup x = some .local := by first | exact .inl rfl | exact .inr rfl | assumption) :
    DSt X (.AugAssign (.Name x pos') op e pos) (gAug i ge g2) := by
  obtain ⟨t1, a1, a2⟩ := he.ex
  refine ⟨_, ps_aug hN hi hx a1 ho hf, fun σ H δ μ E F rm rs e q => ?_⟩
  unfold gAug at q
  rw [List.getD_eq_getElem?_getD] at q
  cases e0 : δ[i]? with
  | none => rw [e0] at q; exact False.elim q
  | some o =>
    cases o with
    | none => rw [e0] at q; exact False.elim q
    | some d =>
      rw [e0] at q
      obtain ⟨v, e2, rv⟩ := rs.get e0
      refine ⟨v, e2, a2 σ H δ μ _ _ rm rs q fun w d2 H1 μ1 k1 rm1 r1 q1 => ?_⟩
      exact h v w d d2 H1 μ1 _ _ rm1 (rv.mono k1) r1 q1 fun z d3 H2 μ2 k2 rm2 r2 q2 => e.nx _ H2 _ μ2 (k1.trans k2) rm2 ((rs.mono (k1.trans k2)).set i r2) q2
/-- for -/
def gFor (gi : GI) (gt : GG) (gb : GS) : GS := fun F δ μ => gi δ μ fun items μ1 => ∃ Iv : Nat → DS → Mu → Prop, Iv 0 δ μ1 ∧
  (∀ i x δ' μ', items[i]? = some x → Iv i δ' μ' → gt x δ' fun δ2 => gb { F with nx := Iv (i + 1), ct := Iv (i + 1), bk := F.nx } δ2 μ') ∧ ∀ δ' μ', Iv items.length δ' μ' → F.nx δ' μ'
theorem ds_for {tg iter : Expr} {gi : GI} {g : TG} {gg : GG} {ow : List Nat} {gb : GS} (hp : PassesOwn (model X.prog X.w) X.A X.env X.xe) (hc : X.calm = true) (hi : DI X tg iter gi) (hg : PG X tg g) (sg : SimG X.K g gg ow) (hb : DSs X body gb)
    (hs : ∀ x, foldedSetIterable iter X.env x = pure x := by intro _; rfl) : DSt X (.For tg iter body [] pos) (gFor gi gg gb) := by
  obtain ⟨ti, i1, i2⟩ := hi.ex
  obtain ⟨tb, b1, b2⟩ := hb.ex
  refine ⟨_, ps_for hp hc i1 hg b1 hs, fun σ H δ μ E F rm rs e q => ?_⟩
  refine i2 σ H δ μ _ _ rm rs q fun J items H1 μ1 k1 rm1 wk ⟨Iv, h0, hstep, hend⟩ => ?_
  refine for_it wk (fun i σ H => ∃ δ μ, Kp H1 μ1 H μ ∧ RM X.K H μ ∧ RepS X.K H μ δ σ ∧ Iv i δ μ) ⟨δ, μ1, Kp.refl _ _, rm1, rs.mono k1, h0⟩ (fun i σ H _ ⟨_, μ, k, rm, _⟩ => ⟨μ, k, rm⟩) ?_ ?_
  · rintro i x σ2 H2 H3 hi ⟨δ2, μ2, k2, rm2, rs2, iv⟩ y
    obtain ⟨d, e1, r1, k3, rm3⟩ := y μ2 k2 rm2
    refine sg x d σ2 H3 δ2 μ2 _ _ rm3 (rs2.mono k3) r1 (hstep i d δ2 μ2 e1 iv) fun σ4 δ4 rs4 q4 _ => ?_
    refine b2 σ4 H3 δ4 μ2 _ _ rm3 rs4 ⟨?_, ?_, ?_, ?_⟩ q4
    · exact fun σ5 H5 δ5 μ5 k5 rm5 rs5 q5 => ⟨δ5, μ5, k2.trans (k3.trans k5), rm5, rs5, q5⟩
    · exact e.rt.re (k1.trans (k2.trans k3))
    · exact fun σ5 H5 δ5 μ5 k5 rm5 rs5 q5 => e.nx σ5 H5 δ5 μ5 (k1.trans (k2.trans (k3.trans k5))) rm5 rs5 q5
    · exact fun σ5 H5 δ5 μ5 k5 rm5 rs5 q5 => ⟨δ5, μ5, k2.trans (k3.trans k5), rm5, rs5, q5⟩
  · rintro σ2 H2 ⟨δ2, μ2, k2, rm2, rs2, iv⟩
    exact e.nx σ2 H2 δ2 μ2 (k1.trans k2) rm2 rs2 (hend δ2 μ2 iv)
/-- what a comprehension asks over its items -/
structure LcB (gt : GG) (gc : GT) (ge : GE) (own : List Nat) (δ : DS) (R : KD) (items : List D) (μ1 : Mu) : Prop where
  ex : ∀ a, μ1 a = none → ∃ Iv : Nat → Mu → Prop, Iv 0 (put μ1 a (.lst [])) ∧
  (∀ i x μ', items[i]? = some x → Iv i μ' → gt x (wiped δ own) fun δ2 => gc δ2 μ' fun b μ2 => if b = true then ge δ2 μ2 fun y μ3 => ∃ acc, μ3 a = some (.lst acc) ∧ acc.length < sizeLine ∧ Iv (i + 1) (put μ3 a (.lst (acc ++ [y]))) else Iv (i + 1) μ2) ∧
  ∀ μ', Iv items.length μ' → ∃ acc, μ' a = some (.lst acc) ∧ R (.lst acc) (del μ' a)
/-- [e for t in it if c] -/
def gLc (gi : GI) (gt : GG) (gc : GT) (ge : GE) (own : List Nat) : GE := fun δ μ R => gi δ μ (LcB gt gc ge own δ R)
theorem sim_lc {K : PySem.W.Frag} {ti : TI} {gi : GI} {g : TG} {gg : GG} {ow : List Nat} {tc : TT} {gc : GT} {te : TE} {ge : GE} {own : List Nat} (hi : SimI K ti gi) (sg : SimG K g gg ow) (ho : ∀ i ∈ ow, i ∈ own) (hc : SimT K tc gc) (he : SimE K te ge) :
    SimE K (tLc ti g tc te own) (gLc gi gg gc ge own) := by
  intro σ H δ μ Q R rm rs q f
  refine hi σ H δ μ _ _ rm rs q fun J items H1 μ1 k1 rm1 wk q1 => ?_
  intro D nD
  obtain ⟨Iv, h0, hstep, hend⟩ := q1.ex D (rm1.free nD)
  have kc : Kp H1 μ1 (upd H1 D (.lst [])) (put μ1 D (.lst [])) := Kp.cell nD
  refine lc_it wk (fun i H => ∃ μ, Kp H1 μ1 H μ ∧ RM K H μ ∧ Iv i μ) ⟨_, kc, rm1.cell nD RepL.nil, h0⟩ (fun i H _ ⟨μ, k, rm, _⟩ => ⟨μ, k, rm⟩) ?_ ?_
  · rintro i x H2 H3 hi2 ⟨μ2, k2, rm2, iv⟩ y
    obtain ⟨d, e1, r1, k3, rm3⟩ := y μ2 k2 rm2
    have rsw : RepS K H3 μ2 (wiped δ own) (L2.wipe σ own) := (rs.mono (k1.trans (k2.trans k3))).wipe own
    refine sg x d _ H3 _ μ2 _ _ rm3 rsw r1 (hstep i d μ2 e1 iv) fun σ4 δ4 rs4 q4 w4 => ⟨(w4 own ho).trans wipe_wipe, ?_⟩
    refine hc σ4 H3 δ4 μ2 _ _ rm3 rs4 q4 fun b H5 μ5 k5 rm5 q5 => ?_
    cases b with
    | false => exact ⟨μ5, k2.trans (k3.trans k5), rm5, q5⟩
    | true =>
      rw [if_pos rfl] at q5 ⊢
      refine he σ4 H5 δ4 μ5 _ _ rm5 (rs4.mono k5) q5 fun v d6 H6 μ6 k6 rm6 r6 q6 => ?_
      obtain ⟨acc, ea, hl, iv6⟩ := q6
      obtain ⟨vs, h1, h2⟩ := rm6 D _ ea
      refine ⟨vs, h1, by rw [h2.length]; exact hl, _, k2.trans (k3.trans (k5.trans (k6.trans (Kp.write ea)))), ?_, iv6⟩
      refine rm6.put (Kp.write ea) (fun a o n _ => upd_ne n) ⟨_, upd_same, ?_⟩
      exact (h2.append (RepL.cons r6 RepL.nil)).mono (Kp.write ea) _ _
  · rintro H2 ⟨μ2, k2, rm2, iv⟩
    obtain ⟨acc, ea, q3⟩ := hend μ2 iv
    obtain ⟨vs, h1, h2⟩ := rm2 D _ ea
    refine f (.ref D) (.lst acc) H2 (del μ2 D) (k1.trans (k2.trans Kp.drop)) rm2.drop ?_ q3
    unfold Rep
    exact ⟨D, vs, rfl, h1, del_same, h2.mono Kp.drop _ _⟩
theorem de_lc {elt tg iter : Expr} {ifs : List Expr} {scope : Scope} {own : List (Str × Nat)} {pos : Pos} {gi : GI} {g : TG} {gg : GG} {ow : List Nat} {gc : GT} {ge : GE} (hc : X.calm = true) (hN : X.N.Nodup) (hi : DI X tg iter gi) (ok : BlkOk X.N X.env.scope scope own)
    (hg : ∀ (s : Shared) (H : Hp) (C : Addr) (cl : List (Str × Addr)) (fp : List Addr), PG (X.blk s H scope (compEnvC scope cl C X.env) fp) tg g) (sg : SimG X.K g gg ow) (ht : ∀ (s : Shared) (H : Hp) (C : Addr) (cl : List (Str × Addr)) (fp : List Addr), DTs (X.blk s H scope (compEnvC scope cl C X.env) fp) ifs gc)
    (he : ∀ (s : Shared) (H : Hp) (C : Addr) (cl : List (Str × Addr)) (fp : List Addr), DE (X.blk s H scope (compEnvC scope cl C X.env) fp) elt ge) (ho : ∀ i ∈ ow, i ∈ own.map (·.2) := by decide) (hs : ∀ x, foldedSetIterable iter X.env x = pure x := by intro _; rfl) :
    DE X (.ListComp elt [⟨tg, iter, ifs, 0⟩] scope pos) (gLc gi gg gc ge (own.map (·.2))) := by
  obtain ⟨ti, i1, i2⟩ := hi.ex
  exact ⟨_, pe_lc hc hN i1 ok hg (fun s H C cl fp => (ht s H C cl fp).pt) (fun s H C cl fp => (he s H C cl fp).pe) hs, sim_lc i2 sg ho simT_of sim_of⟩
theorem ds_setLc {i : Nat} {y : Str} {py : Pos} {elt tg iter : Expr} {ifs : List Expr} {scope : Scope} {own : List (Str × Nat)} {pos spos : Pos} {gi : GI} {g : TG} {gg : GG} {ow : List Nat} {gc : GT} {ge : GE} (hc : X.calm = true) (hN : X.N.Nodup) (hy : X.N[i]? = some y) (hyl : X.env.scope.names.lookup y = some .local)
    (hsw : swapsWith (.ListComp elt [⟨tg, iter, ifs, 0⟩] scope pos) (some (.Name y py)) spos.line X.env = pure true) (hi : DI X tg iter gi) (ok : BlkOk X.N X.env.scope scope own)
    (hg : ∀ (s : Shared) (H : Hp) (C : Addr) (cl : List (Str × Addr)) (fp : List Addr), PG (X.blk s H scope (compEnvC scope cl C X.env) fp) tg g) (sg : SimG X.K g gg ow) (ht : ∀ (s : Shared) (H : Hp) (C : Addr) (cl : List (Str × Addr)) (fp : List Addr), DTs (X.blk s H scope (compEnvC scope cl C X.env) fp) ifs gc)
    (he : ∀ (s : Shared) (H : Hp) (C : Addr) (cl : List (Str × Addr)) (fp : List Addr), DE (X.blk s H scope (compEnvC scope cl C X.env) fp) elt ge) (ho : ∀ i ∈ ow, i ∈ own.map (·.2) := by decide) (hs : ∀ x, foldedSetIterable iter X.env x = pure x := by intro _; rfl) :
    DSt X (.Assign [.Name y py] (.ListComp elt [⟨tg, iter, ifs, 0⟩] scope pos) spos) (gAsg (gLc gi gg gc ge (own.map (·.2))) (gNm i)) := by
  obtain ⟨ti, i1, i2⟩ := hi.ex
  exact ⟨_, ps_setLc hc hN hy hyl hsw i1 ok hg (fun s H C cl fp => (ht s H C cl fp).pt) (fun s H C cl fp => (he s H C cl fp).pe) hs, sim_asg (sim_lc i2 sg ho simT_of sim_of) sim_nm⟩
end
/-! ### defs, calls -/
def toSp (K : PySem.W.Frag) (g : GC) : Sp := fun vs H Q _ => ∃ ds μ R, RM K H μ ∧ RepL K H μ ds vs ∧ g ds μ R ∧ Fw K H μ R Q
theorem repS_some {K : PySem.W.Frag} {H : Hp} {μ : Mu} (n : Nat) : ∀ {ds : List D} {vs : List V}, RepL K H μ ds vs → RepS K H μ (ds.map some ++ List.replicate n none) (vs.map some ++ List.replicate n none)
  | [], _, h => by
    unfold RepL at h
    subst h
    show RepS K H μ (List.replicate n none) (List.replicate n none)
    induction n with
    | zero => simp [RepS]
    | succ n ih =>
      rw [List.replicate_succ, List.replicate_succ]
      unfold RepS
      exact ⟨_, _, rfl, ih⟩
  | d :: ds, _, h => by
    unfold RepL at h
    obtain ⟨v, r, rfl, h1, h2⟩ := h
    show RepS K H μ (some d :: (ds.map some ++ List.replicate n none)) (some v :: (r.map some ++ List.replicate n none))
    unfold RepS
    exact ⟨v, _, rfl, h1, repS_some n h2⟩
section
variable {P : Program} {w : World} {K : PySem.W.Frag} {mg : Str → Option Value} {base : Heap}
theorem okD {x qual : Str} {st : Stmt} {f : Addr} {fd : FuncData} {N ps : List Str} {k : Nat} {g : GC} (F : Fun K x qual st f fd) (S : FnScope N ps (defScope st)) (len : ∀ ds μ R, g ds μ R → ds.length = ps.length)
    (h : ∃ gb : GS, (∀ (cdv : Value) (A : Around) (outer : List Env) (s : Shared) (H : Hp) (E : XK), Room k (A.deeper (envOfC qual (defScope st) s.heap.objs.size f cdv)) →
        DSs (cxOf CX0 P w K mg base N qual (defScope st) f cdv A outer s H E).nox (defBody st) gb) ∧
      ∀ ds μ R, g ds μ R → gb { nx := fun _ μ' => R .non μ', rt := R } (begin_ N ds) μ) : FnOk P w K mg base CX0 (k + 1) f fd ps (toSp K g) := by
  obtain ⟨gb, hb, hg⟩ := h
  refine F.ok S (fun vs H Q E ⟨ds, μ, R, rm, rl, q, fw⟩ => by rw [rl.length]; exact len ds μ R q) fun cdv A outer s H vs Q E hr ⟨ds, μ, R, rm, rl, q, fw⟩ => ?_
  obtain ⟨t, a, b⟩ := (hb cdv A outer s H E hr).ex
  refine ⟨t, a, b _ H (begin_ N ds) μ _ { nx := fun _ μ' => R .non μ', rt := R } rm ?_ ⟨fun σ H' δ μ' k rm' _ q' => fw .non .non H' μ' k rm' (by unfold Rep; rfl) q', fw, fun _ _ _ _ _ _ _ z => z, fun _ _ _ _ _ _ _ z => z⟩ (hg ds μ R q)⟩
  show RepS K H μ (ds.map some ++ List.replicate (N.length - ds.length) none) (vs.map some ++ List.replicate (N.length - vs.length) none)
  rw [rl.length]
  exact repS_some _ rl
end
section
variable {X : Cx} {k : Nat} {f C : Addr} {fd : FuncData} {ps : List Str} {g : GC} {x : Str} {p pos : Pos} {e : Expr} {es : List Expr} {ga gk : GA}
def gCall (g : GC) (ga : GA) : GE := fun δ μ R => ga δ μ fun ds μ1 => g ds μ1 R
theorem de_call (F : FnOk X.prog X.w X.K X.mg X.base CX0 k f fd ps (toSp X.K g)) (hr : Room k X.A) (hg : Gl X x) (hm : X.mg x = some (.ref f)) (hk : PySem.W.keepIn X.K (.ref f) = true) (hb : Binds X.K fd ps [])
    (ha : DA X (e :: es) ga) (hdb : (x == ("__debug__" : Str)) = false := by decide) (he : starEach (e :: es) X.env = (false, eval e X.env) :: starEach es X.env := by rfl) (hpl : (backTo pos (starEach es X.env)).any (·.1) = false := by rfl) :
    DE X (.Call (.Name x p) (e :: es) [] pos) (gCall g ga) := by
  obtain ⟨t, a1, a2⟩ := ha.ex
  refine ⟨_, pe_call F hr hg hm hk hb .nil (pass0 (X := X)) a1 hdb he hpl, fun σ H δ μ Q R rm rs q f => ?_⟩
  refine a2 σ H δ μ _ _ rm rs q fun vs ds H1 μ1 k1 rm1 r1 q1 => ?_
  show toSp X.K g (vs ++ []) H1 Q E0
  rw [List.append_nil]
  exact ⟨ds, μ1, R, rm1, r1, q1, f.re k1⟩
/-- C(..), the new instance frozen behind its __init__ -/
def gMake (C : Addr) (g : GC) (ga : GA) : GE := fun δ μ R => ga δ μ fun ds μ1 => ∀ a, μ1 a = none → g (.adr a :: ds) (put μ1 a (.ins C [])) fun d μ2 => match d with
  | .non => ∃ fs, μ2 a = some (.ins C fs) ∧ R (.ins C fs) (del μ2 a)
  | _ => False
theorem de_make (M : Mk X.K C f) (F : FnOk X.prog X.w X.K X.mg X.base CX0 k f fd ps (toSp X.K g)) (hr : Room (k + 1) X.A) (hg : Gl X x) (hm : X.mg x = some (.ref C)) (hb : Binds X.K fd ps [])
    (ha : DA X (e :: es) ga) (hdb : (x == ("__debug__" : Str)) = false := by decide) (he : starEach (e :: es) X.env = (false, eval e X.env) :: starEach es X.env := by rfl) (hpl : (backTo pos (starEach es X.env)).any (·.1) = false := by rfl) :
    DE X (.Call (.Name x p) (e :: es) [] pos) (gMake C g ga) := by
  obtain ⟨t, a1, a2⟩ := ha.ex
  refine ⟨_, pe_make M F hr hg hm hb .nil (pass0 (X := X)) a1 hdb he hpl, fun σ H δ μ Q R rm rs q f => ?_⟩
  refine a2 σ H δ μ _ _ rm rs q fun vs ds H1 μ1 k1 rm1 r1 q1 => ?_
  intro a dx na nd ne
  have n2 : upd H1 dx (.own a) a = none := by rw [upd_ne (Ne.symm ne)]; exact na
  have rm2 : RM X.K (upd H1 dx (.own a)) μ1 := rm1.laid nd
  have kc : Kp (upd H1 dx (.own a)) μ1 (upd (upd H1 dx (.own a)) a (.ins C dx [])) (put μ1 a (.ins C [])) := Kp.cell n2
  have k2 : Kp H1 μ1 (upd (upd H1 dx (.own a)) a (.ins C dx [])) (put μ1 a (.ins C [])) := (Kp.new nd).trans kc
  have rm3 : RM X.K (upd (upd H1 dx (.own a)) a (.ins C dx [])) (put μ1 a (.ins C [])) := rm2.put kc (fun b o n _ => upd_ne n) ⟨dx, [], upd_same, by unfold RepF; rfl⟩
  show toSp X.K g (V.ref a :: (vs ++ [])) _ _ E0
  rw [List.append_nil]
  refine ⟨.adr a :: ds, _, _, rm3, RepL.cons (by unfold Rep; rfl) (r1.mono k2 _ _), q1 a (rm1.free na), fun v d H4 μ4 k4 rm4 r4 q4 => ?_⟩
  cases d <;> try exact False.elim q4
  obtain ⟨fs, e4, q4⟩ := q4
  obtain ⟨dx4, fv, h1, h2⟩ := rm4 a _ e4
  unfold Rep at r4
  refine ⟨r4, f (.ref a) (.ins C fs) H4 (del μ4 a) (k1.trans (k2.trans (k4.trans Kp.drop))) rm4.drop ?_ q4⟩
  unfold Rep
  exact ⟨a, dx4, fv, rfl, h1, del_same, h2.mono Kp.drop _ _⟩
end
end DL
set_option Elab.async false
set_option linter.all false
set_option maxRecDepth 100000
namespace DL
open PySem PySem.Spec PyProof.Rows L2
section
variable {X : Cx}
theorem OpR.or {f : Value → Value → Sem Value} {r r' : R2} (h : OpR X f r) (h' : OpR X f r') : OpR X f (fun x y H Q => r x y H Q ∨ r' x y H Q) := by
  intro pins s σ H x y v u Q I rx ry q
  rcases q with q | q
  · exact h pins s σ H x y v u Q I rx ry q
  · exact h' pins s σ H x y v u Q I rx ry q
theorem CallR.or {f : Value} {r r' : List V → Hp → VK → Prop} (h : CallR X f r) (h' : CallR X f r') : CallR X f (fun xs H Q => r xs H Q ∨ r' xs H Q) := by
  intro pins s σ H xs us Q I rx q
  rcases q with q | q
  · exact h pins s σ H xs us Q I rx q
  · exact h' pins s σ H xs us Q I rx q
end
section
variable {K : PySem.W.Frag} {H : Hp} {μ : Mu}
theorem rep_int {i : Int} {v : V} (h : Rep K H μ (.int i) v) : v = .int i := by unfold Rep at h; exact h
theorem rep_str {i : Str} {v : V} (h : Rep K H μ (.str i) v) : v = .str i := by unfold Rep at h; exact h
theorem rep_bl {i : Bool} {v : V} (h : Rep K H μ (.bl i) v) : v = .bl i := by unfold Rep at h; exact h
theorem rep_non {v : V} (h : Rep K H μ .non v) : v = .non := by unfold Rep at h; exact h
theorem rep_adr {a : Addr} {v : V} (h : Rep K H μ (.adr a) v) : v = .ref a := by unfold Rep at h; exact h
theorem rep_tup {ds : List D} {v : V} (h : Rep K H μ (.tup ds) v) : ∃ a vs, v = .ref a ∧ ImT K H μ a vs ∧ RepL K H μ ds vs := by unfold Rep at h; exact h
theorem rep_lst {ds : List D} {v : V} (h : Rep K H μ (.lst ds) v) : ∃ a vs, v = .ref a ∧ H a = some (.lst vs) ∧ μ a = none ∧ RepL K H μ ds vs := by unfold Rep at h; exact h
theorem rep_seq {ds : List D} {v : V} (h : Rep K H μ (.seq ds) v) : ∃ a vs, v = .ref a ∧ ImQ K H μ a vs ∧ RepL K H μ ds vs := by unfold Rep at h; exact h
theorem rep_ins {C : Addr} {fs : List (Str × D)} {v : V} (h : Rep K H μ (.ins C fs) v) : ∃ a dx fv, v = .ref a ∧ H a = some (.ins C dx fv) ∧ μ a = none ∧ RepF K H μ fs fv := by unfold Rep at h; exact h
theorem to_int {i : Int} : Rep K H μ (.int i) (.int i) := by unfold Rep; rfl
theorem to_str {i : Str} : Rep K H μ (.str i) (.str i) := by unfold Rep; rfl
theorem to_bl {i : Bool} : Rep K H μ (.bl i) (.bl i) := by unfold Rep; rfl
theorem to_non : Rep K H μ .non .non := by unfold Rep; rfl
theorem to_adr {a : Addr} : Rep K H μ (.adr a) (.ref a) := by unfold Rep; rfl
theorem to_tup {p : Addr} {vs : List V} {ds : List D} (h : H p = some (.tup vs)) (n : μ p = none) (r : RepL K H μ ds vs) : Rep K H μ (.tup ds) (.ref p) := by unfold Rep; exact ⟨p, vs, rfl, .inl ⟨h, n⟩, r⟩
theorem to_lst {p : Addr} {vs : List V} {ds : List D} (h : H p = some (.lst vs)) (n : μ p = none) (r : RepL K H μ ds vs) : Rep K H μ (.lst ds) (.ref p) := by unfold Rep; exact ⟨p, vs, rfl, h, n, r⟩
/-- a new tuple, a new list -/
theorem fw_tup {R : KD} {Q : VK} {p : Addr} {vs : List V} {ds : List D} (rm : RM K H μ) (n : H p = none) (r : RepL K H μ ds vs) (q : R (.tup ds) μ) (f : Fw K H μ R Q) : Q (.ref p) (upd H p (.tup vs)) :=
  f _ _ _ μ (Kp.new n) (rm.laid n) (to_tup upd_same (rm.free n) (r.mono (Kp.new n) _ _)) q
theorem fw_lst {R : KD} {Q : VK} {p : Addr} {vs : List V} {ds : List D} (rm : RM K H μ) (n : H p = none) (r : RepL K H μ ds vs) (q : R (.lst ds) μ) (f : Fw K H μ R Q) : Q (.ref p) (upd H p (.lst vs)) :=
  f _ _ _ μ (Kp.new n) (rm.laid n) (to_lst upd_same (rm.free n) (r.mono (Kp.new n) _ _)) q
theorem fw_cell {R : KD} {Q : VK} {p : Addr} {vs : List V} {ds : List D} (rm : RM K H μ) (n : H p = none) (r : RepL K H μ ds vs) (q : ∀ a, μ a = none → R (.adr a) (put μ a (.lst ds))) (f : Fw K H μ R Q) : Q (.ref p) (upd H p (.lst vs)) :=
  f _ _ _ _ (Kp.cell n) (rm.cell n r) to_adr (q p (rm.free n))
/-- a cell written -/
theorem fw_write {R : KD} {Q : VK} {p : Addr} {vs : List V} {ds es : List D} {d : D} {v : V} (rm : RM K H μ) (e : μ p = some (.lst es)) (r : RepL K H μ ds vs) (rv : Rep K H μ d v) (q : R d (put μ p (.lst ds))) (f : Fw K H μ R Q) : Q v (upd H p (.lst vs)) :=
  f v d _ (put μ p (.lst ds)) (Kp.write e) (rm.put (m := .lst ds) (Kp.write e) (fun a o n _ => upd_ne n) ⟨_, upd_same, r.mono (Kp.write e) _ _⟩) (rv.mono (Kp.write e)) q
theorem fw_now {R : KD} {Q : VK} {d : D} {v : V} (rm : RM K H μ) (rv : Rep K H μ d v) (q : R d μ) (f : Fw K H μ R Q) : Q v H := f _ _ _ _ (Kp.refl _ _) rm rv q
end
/-! ### operators -/
def gPlus : G2 := fun x y μ R => match x, y with
  | .int i, .int j => R (.int (i + j)) μ
  | .str a, .str b => a.length + b.length ≤ sizeLine ∧ R (.str (a ++ b)) μ
  | .tup a, .tup b => a.length + b.length ≤ sizeLine ∧ R (.tup (a ++ b)) μ
  | .lst a, .lst b => a.length + b.length ≤ sizeLine ∧ R (.lst (a ++ b)) μ
  | _, _ => False
def rPlus (K : PySem.W.Frag) : R2 := fun x y H Q => (rI0 fun i j => .int (i + j)) x y H Q ∨ (∃ i j, x = .str i ∧ y = .str j ∧ i.length + j.length ≤ sizeLine ∧ Q (.str (i ++ j)) H) ∨ rCatA K x y H Q ∨ rCat x y H Q
theorem op_plus {X : Cx} : OpR X (binaryOp .Add) (rPlus X.K) := OpR.or op_add (OpR.or op_add_str (OpR.or op_catA op_cat))
theorem sim_plus {K : PySem.W.Frag} : SimO K (rPlus K) gPlus := by
  intro x y dx dy H μ Q R rm rx ry q f
  cases dx <;> cases dy <;> try exact False.elim q
  · rw [rep_int rx, rep_int ry]
    exact .inl ⟨_, _, rfl, rfl, fw_now rm to_int q f⟩
  · rw [rep_str rx, rep_str ry]
    exact .inr (.inl ⟨_, _, rfl, rfl, q.1, fw_now rm to_str q.2 f⟩)
  · rename_i a b
    obtain ⟨p, vs, rfl, i1, l1⟩ := rep_tup rx
    obtain ⟨p2, vs2, rfl, i2, l2⟩ := rep_tup ry
    refine .inr (.inr (.inl ⟨p, p2, vs, vs2, rfl, rfl, i1.sq, i2.sq, by rw [l1.length, l2.length]; exact q.1, fun e => ?_, fun e e2 => ?_, fun _ _ t n => fw_tup rm n (l1.append l2) q.2 f⟩))
    · subst e
      have e0 : a = [] := List.eq_nil_of_length_eq_zero (by rw [← l1.length]; rfl)
      subst e0
      exact fw_now rm ry q.2 f
    · subst e2
      have e0 : b = [] := List.eq_nil_of_length_eq_zero (by rw [← l2.length]; rfl)
      subst e0
      have q2 := q.2
      rw [List.append_nil] at q2
      exact fw_now rm rx q2 f
  · obtain ⟨p, vs, rfl, i1, n1, l1⟩ := rep_lst rx
    obtain ⟨p2, vs2, rfl, i2, n2, l2⟩ := rep_lst ry
    exact .inr (.inr (.inr ⟨p, p2, vs, vs2, rfl, rfl, i1, i2, by rw [l1.length, l2.length]; exact q.1, fun t n => fw_lst rm n (l1.append l2) q.2 f⟩))
/-- two ints -/
def gII (C : Int → Int → Prop) (h : Int → Int → D) : G2 := fun x y μ R => match x, y with
  | .int i, .int j => C i j ∧ R (h i j) μ
  | _, _ => False
def gII0 (h : Int → Int → D) : G2 := fun x y μ R => match x, y with
  | .int i, .int j => R (h i j) μ
  | _, _ => False
theorem sim_II {K : PySem.W.Frag} {C : Int → Int → Prop} {g : Int → Int → V} {h : Int → Int → D} (e : ∀ H μ i j, Rep K H μ (h i j) (g i j)) : SimO K (rI C g) (gII C h) := by
  intro x y dx dy H μ Q R rm rx ry q f
  cases dx <;> cases dy <;> try exact False.elim q
  rw [rep_int rx, rep_int ry]
  exact ⟨_, _, rfl, rfl, q.1, fw_now rm (e _ _ _ _) q.2 f⟩
theorem sim_II0 {K : PySem.W.Frag} {g : Int → Int → V} {h : Int → Int → D} (e : ∀ H μ i j, Rep K H μ (h i j) (g i j)) : SimO K (rI0 g) (gII0 h) := by
  intro x y dx dy H μ Q R rm rx ry q f
  cases dx <;> cases dy <;> try exact False.elim q
  rw [rep_int rx, rep_int ry]
  exact ⟨_, _, rfl, rfl, fw_now rm (e _ _ _ _) q f⟩
abbrev gMinus : G2 := gII0 fun i j => .int (i - j)
abbrev gMul : G2 := gII CMul fun i j => .int (i * j)
abbrev gFdiv : G2 := gII CDivN fun i j => .int (i.fdiv j)
abbrev gMod : G2 := gII (fun _ j => j ≠ 0) fun i j => .int (i.fmod j)
abbrev gPow : G2 := gII CPow fun i j => .int (i ^ j.toNat)
theorem sim_minus {K : PySem.W.Frag} : SimO K (rI0 fun i j => .int (i - j)) gMinus := sim_II0 fun _ _ _ _ => to_int
theorem sim_mul {K : PySem.W.Frag} : SimO K (rI CMul fun i j => .int (i * j)) gMul := sim_II fun _ _ _ _ => to_int
theorem sim_fdiv {K : PySem.W.Frag} : SimO K (rI CDivN fun i j => .int (i.fdiv j)) gFdiv := sim_II fun _ _ _ _ => to_int
theorem sim_mod {K : PySem.W.Frag} : SimO K (rI (fun _ j => j ≠ 0) fun i j => .int (i.fmod j)) gMod := sim_II fun _ _ _ _ => to_int
theorem sim_pow {K : PySem.W.Frag} : SimO K (rI CPow fun i j => .int (i ^ j.toNat)) gPow := sim_II fun _ _ _ _ => to_int
/-- <, <=, >, >= of ints, of texts -/
def gOrd (h : Int → Int → Bool) (k : List Nat → List Nat → Bool) : G2 := fun x y μ R => match x, y with
  | .int i, .int j => R (.bl (h i j)) μ
  | .str a, .str b => R (.bl (k a.cps.toList b.cps.toList)) μ
  | _, _ => False
def rOrd (h : Int → Int → Bool) (k : List Nat → List Nat → Bool) : R2 := fun x y H Q => (rI0 fun i j => .bl (h i j)) x y H Q ∨ ∃ i j, x = .str i ∧ y = .str j ∧ Q (.bl (k i.cps.toList j.cps.toList)) H
theorem sim_ord {K : PySem.W.Frag} {h : Int → Int → Bool} {k : List Nat → List Nat → Bool} : SimO K (rOrd h k) (gOrd h k) := by
  intro x y dx dy H μ Q R rm rx ry q f
  cases dx <;> cases dy <;> try exact False.elim q
  · rw [rep_int rx, rep_int ry]
    exact .inl ⟨_, _, rfl, rfl, fw_now rm to_bl q f⟩
  · rw [rep_str rx, rep_str ry]
    exact .inr ⟨_, _, rfl, rfl, fw_now rm to_bl q f⟩
section
variable {X : Cx}
theorem op_ltA : OpR X (compareOp .Lt) (rOrd (fun i j => decide (i < j)) fun a b => decide (a < b)) := OpR.or op_lt op_lt_str
theorem op_leA : OpR X (compareOp .LtE) (rOrd (fun i j => decide (i ≤ j)) fun a b => !decide (b < a)) := OpR.or op_le op_le_str
theorem op_gtA : OpR X (compareOp .Gt) (rOrd (fun i j => decide (j < i)) fun a b => decide (b < a)) := OpR.or op_gt op_gt_str
theorem op_geA : OpR X (compareOp .GtE) (rOrd (fun i j => decide (j ≤ i)) fun a b => !decide (a < b)) := OpR.or op_ge op_ge_str
end
/-! ### ==, != -/
mutual
def py : D → Option PyData
  | .non => some .none
  | .bl b => some (.bool b)
  | .int i => some (.int i)
  | .str x => some (.str x)
  | .tup ds => (pyL ds).map .tuple
  | .lst ds => (pyL ds).map .list
  | .seq ds => (pyL ds).map .list
  | .ins _ _ => none
  | .adr _ => none
def pyL : List D → Option (List PyData)
  | [] => some []
  | d :: ds => match py d, pyL ds with
    | some a, some b => some (a :: b)
    | _, _ => none
end
section
variable {K : PySem.W.Frag} {H : Hp} {μ : Mu}
mutual
theorem Rep.dp : ∀ (d : D) (v : V) (e : PyData), Rep K H μ d v → py d = some e → Dp K H v e
  | .non, _, _, h, q => by
    rw [rep_non h]
    unfold py at q
    cases q
    exact .non
  | .bl _, _, _, h, q => by
    rw [rep_bl h]
    unfold py at q
    cases q
    exact .bl _
  | .int _, _, _, h, q => by
    rw [rep_int h]
    unfold py at q
    cases q
    exact .int _
  | .str _, _, _, h, q => by
    rw [rep_str h]
    unfold py at q
    cases q
    exact .str _
  | .tup ds, _, _, h, q => by
    obtain ⟨a, vs, rfl, i, r⟩ := rep_tup h
    unfold py at q
    cases e : pyL ds with
    | none => rw [e] at q; cases q
    | some es =>
      rw [e] at q
      cases q
      exact .tup i.sq (RepL.dp ds vs es r e)
  | .lst ds, _, _, h, q => by
    obtain ⟨a, vs, rfl, i, _, r⟩ := rep_lst h
    unfold py at q
    cases e : pyL ds with
    | none => rw [e] at q; cases q
    | some es =>
      rw [e] at q
      cases q
      exact .lst (SqL.of i) (RepL.dp ds vs es r e)
  | .seq ds, _, _, h, q => by
    obtain ⟨a, vs, rfl, i, r⟩ := rep_seq h
    unfold py at q
    cases e : pyL ds with
    | none => rw [e] at q; cases q
    | some es =>
      rw [e] at q
      cases q
      exact .lst i.sq (RepL.dp ds vs es r e)
  | .ins _ _, _, _, h, q => by unfold py at q; cases q
  | .adr _, _, _, h, q => by unfold py at q; cases q
theorem RepL.dp : ∀ (ds : List D) (vs : List V) (es : List PyData), RepL K H μ ds vs → pyL ds = some es → DpAll K H vs es
  | [], _, _, h, q => by
    unfold RepL at h
    unfold pyL at q
    cases q
    rw [h]
    exact .nil
  | d :: ds, _, _, h, q => by
    unfold RepL at h
    obtain ⟨v, r, rfl, h1, h2⟩ := h
    unfold pyL at q
    cases e1 : py d with
    | none => rw [e1] at q; cases q
    | some a =>
      cases e2 : pyL ds with
      | none => rw [e1, e2] at q; cases q
      | some b =>
        rw [e1, e2] at q
        cases q
        exact .cons (Rep.dp d v a h1 e1) (RepL.dp ds r b h2 e2)
end
end
def gEqD (k : Bool → Bool) : G2 := fun x y μ R => ∃ a b, py x = some a ∧ py y = some b ∧ SeqAt.shaped a = true ∧ SeqAt.shaped b = true ∧ R (.bl (k (PyData.eqv a b))) μ
def gEqK (k : Bool → Bool) : G2 := fun x y μ R => match x, y with
  | .int i, .int j => R (.bl (k (decide (i = j)))) μ
  | .str i, .str j => R (.bl (k (decide (i = j)))) μ
  | .bl i, .bl j => R (.bl (k (decide (i = j)))) μ
  | .non, .non => R (.bl (k true)) μ
  | x, y => gEqD k x y μ R
abbrev gEq : G2 := gEqK id
abbrev gNe : G2 := gEqK not
def rEqA (K : PySem.W.Frag) : R2 := fun x y H Q => rEq x y H Q ∨ rEqD K x y H Q
def rNeA (K : PySem.W.Frag) : R2 := fun x y H Q => rNe x y H Q ∨ rNeD K x y H Q
section
variable {X : Cx}
theorem op_eqA (hu : X.A.units + 64 < cLine) : OpR X (compareOp .Eq) (rEqA X.K) := OpR.or op_eq (op_eqD hu)
theorem op_neA (hu : X.A.units + 64 < cLine) : OpR X (compareOp .NotEq) (rNeA X.K) := OpR.or op_ne (op_neD hu)
end
theorem dec_ref {α β : Type} [DecidableEq α] [DecidableEq β] {f : α → β} (inj : ∀ x y, f x = f y → x = y) {i j : α} : decide (f i = f j) = decide (i = j) := by
  by_cases h : i = j
  · subst h; simp
  · rw [decide_eq_false h, decide_eq_false fun e => h (inj _ _ e)]
theorem sim_eqD {K : PySem.W.Frag} {x y : V} {dx dy : D} {H : Hp} {μ : Mu} {Q : VK} {R : KD} (rm : RM K H μ) (rx : Rep K H μ dx x) (ry : Rep K H μ dy y) (q : gEqD id dx dy μ R) (f : Fw K H μ R Q) : rEqA K x y H Q := by
  obtain ⟨a, b, e1, e2, s1, s2, q⟩ := q
  exact .inr ⟨a, b, Rep.dp _ _ _ rx e1, Rep.dp _ _ _ ry e2, s1, s2, fw_now rm to_bl q f⟩
theorem sim_neD {K : PySem.W.Frag} {x y : V} {dx dy : D} {H : Hp} {μ : Mu} {Q : VK} {R : KD} (rm : RM K H μ) (rx : Rep K H μ dx x) (ry : Rep K H μ dy y) (q : gEqD not dx dy μ R) (f : Fw K H μ R Q) : rNeA K x y H Q := by
  obtain ⟨a, b, e1, e2, s1, s2, q⟩ := q
  exact .inr ⟨a, b, Rep.dp _ _ _ rx e1, Rep.dp _ _ _ ry e2, s1, s2, fw_now rm to_bl q f⟩
theorem sim_eq {K : PySem.W.Frag} : SimO K (rEqA K) gEq := by
  intro x y dx dy H μ Q R rm rx ry q f
  cases dx <;> cases dy <;> try exact sim_eqD rm rx ry q f
  · rw [rep_non rx, rep_non ry]
    exact .inl ⟨rfl, fw_now rm to_bl q f⟩
  · rw [rep_bl rx, rep_bl ry]
    refine .inl ⟨rfl, ?_⟩
    rw [dec_ref (f := V.bl) fun _ _ e => V.bl.inj e]
    exact fw_now rm to_bl q f
  · rw [rep_int rx, rep_int ry]
    refine .inl ⟨rfl, ?_⟩
    rw [dec_ref (f := V.int) fun _ _ e => V.int.inj e]
    exact fw_now rm to_bl q f
  · rw [rep_str rx, rep_str ry]
    refine .inl ⟨rfl, ?_⟩
    rw [dec_ref (f := V.str) fun _ _ e => V.str.inj e]
    exact fw_now rm to_bl q f
theorem sim_ne {K : PySem.W.Frag} : SimO K (rNeA K) gNe := by
  intro x y dx dy H μ Q R rm rx ry q f
  cases dx <;> cases dy <;> try exact sim_neD rm rx ry q f
  · rw [rep_non rx, rep_non ry]
    exact .inl ⟨rfl, fw_now rm to_bl q f⟩
  · rw [rep_bl rx, rep_bl ry]
    refine .inl ⟨rfl, ?_⟩
    rw [dec_ref (f := V.bl) fun _ _ e => V.bl.inj e]
    exact fw_now rm to_bl q f
  · rw [rep_int rx, rep_int ry]
    refine .inl ⟨rfl, ?_⟩
    rw [dec_ref (f := V.int) fun _ _ e => V.int.inj e]
    exact fw_now rm to_bl q f
  · rw [rep_str rx, rep_str ry]
    refine .inl ⟨rfl, ?_⟩
    rw [dec_ref (f := V.str) fun _ _ e => V.str.inj e]
    exact fw_now rm to_bl q f
/-- is None, is not None -/
def D.isNon : D → Bool
  | .non => true
  | _ => false
def gIsN (k : Bool → Bool) : G2 := fun x y μ R => match y with
  | .non => R (.bl (k x.isNon)) μ
  | _ => False
theorem isNon_rep {K : PySem.W.Frag} {H : Hp} {μ : Mu} {d : D} {v : V} (h : Rep K H μ d v) : decide (v = .non) = d.isNon := by
  cases d
  · rw [rep_non h]; rfl
  · rw [rep_bl h]; rfl
  · rw [rep_int h]; rfl
  · rw [rep_str h]; rfl
  · obtain ⟨a, vs, rfl, _⟩ := rep_tup h; rfl
  · obtain ⟨a, vs, rfl, _⟩ := rep_lst h; rfl
  · obtain ⟨a, vs, rfl, _⟩ := rep_seq h; rfl
  · obtain ⟨a, dx, vs, rfl, _⟩ := rep_ins h; rfl
  · rw [rep_adr h]; rfl
theorem sim_notN {K : PySem.W.Frag} : SimO K (fun x y H Q => y = .non ∧ Q (.bl (!decide (x = .non))) H) (gIsN not) := by
  intro x y dx dy H μ Q R rm rx ry q f
  cases dy <;> try exact False.elim q
  refine ⟨rep_non ry, ?_⟩
  rw [isNon_rep rx]
  exact fw_now rm to_bl q f
/-! ### in, not in -/
def inDs (x : D) (ds : List D) (R : Bool → Prop) : Prop := (∃ i ns, x = .int i ∧ ds = List.map D.int ns ∧ R (decide (i ∈ ns))) ∨ ∃ i ns, x = .str i ∧ ds = List.map D.str ns ∧ R (decide (i ∈ ns))
def gIn (k : Bool → Bool) : G2 := fun x y μ R => match y with
  | .str z => ∃ c, x = .str ⟨#[c]⟩ ∧ R (.bl (k (decide (c ∈ z.cps.toList)))) μ
  | .tup ds => inDs x ds fun b => R (.bl (k b)) μ
  | .lst ds => inDs x ds fun b => R (.bl (k b)) μ
  | _ => False
theorem inV_int (i : Int) : ∀ ns : List Int, inV (.int i) (ns.map V.int) = decide (i ∈ ns)
  | [] => rfl
  | n :: ns => by
    have ih := inV_int i ns
    unfold inV at ih ⊢
    rw [List.map_cons, List.any_cons, ih]
    show ((n == i) || decide (i ∈ ns)) = decide (i ∈ n :: ns)
    by_cases h : n = i
    · subst h; simp
    · have h' : ¬ i = n := fun e => h e.symm
      simp [h, h']
theorem inV_str (i : Str) : ∀ ns : List Str, inV (.str i) (ns.map V.str) = decide (i ∈ ns)
  | [] => rfl
  | n :: ns => by
    have ih := inV_str i ns
    unfold inV at ih ⊢
    rw [List.map_cons, List.any_cons, ih]
    show ((n == i) || decide (i ∈ ns)) = decide (i ∈ n :: ns)
    by_cases h : n = i
    · subst h; simp
    · have h' : ¬ i = n := fun e => h e.symm
      simp [h, h']
theorem flat_ints (ns : List Int) : (ns.map V.int).all flatV = true := by
  rw [List.all_eq_true]
  intro v hv
  obtain ⟨n, _, rfl⟩ := List.mem_map.mp hv
  rfl
theorem flat_strs (ns : List Str) : (ns.map V.str).all flatV = true := by
  rw [List.all_eq_true]
  intro v hv
  obtain ⟨n, _, rfl⟩ := List.mem_map.mp hv
  rfl
theorem inDs_seq {K : PySem.W.Frag} {x : V} {dx : D} {H : Hp} {μ : Mu} {ds : List D} {vs : List V} {R : Bool → Prop} (rx : Rep K H μ dx x) (l : RepL K H μ ds vs) (q : inDs dx ds R) : flatV x = true ∧ vs.all flatV = true ∧ R (inV x vs) := by
  rcases q with ⟨i, ns, rfl, rfl, q⟩ | ⟨i, ns, rfl, rfl, q⟩
  · rw [rep_int rx, l.ints]
    exact ⟨rfl, flat_ints ns, by rw [inV_int]; exact q⟩
  · rw [rep_str rx, l.strs]
    exact ⟨rfl, flat_strs ns, by rw [inV_str]; exact q⟩
def rInA (K : PySem.W.Frag) : R2 := fun x y H Q => (∃ (c : Nat) (z : Str), x = .str ⟨#[c]⟩ ∧ y = .str z ∧ Q (.bl (decide (c ∈ z.cps.toList))) H) ∨ rIn K false x y H Q
section
variable {X : Cx}
theorem op_inA : OpR X (compareOp .In) (rInA X.K) := OpR.or op_in_sign op_in_seq
end
theorem sim_in {K : PySem.W.Frag} : SimO K (rInA K) (gIn id) := by
  intro x y dx dy H μ Q R rm rx ry q f
  cases dy <;> try exact False.elim q
  · obtain ⟨c, rfl, q⟩ := q
    rw [rep_str rx, rep_str ry]
    exact .inl ⟨c, _, rfl, rfl, fw_now rm to_bl q f⟩
  · obtain ⟨p, vs, rfl, i1, l1⟩ := rep_tup ry
    obtain ⟨a, b, q⟩ := inDs_seq (R := fun b => R (.bl b) μ) rx l1 q
    exact .inr ⟨p, vs, rfl, .inr i1.sq, a, b, fw_now rm to_bl q f⟩
  · obtain ⟨p, vs, rfl, i1, n1, l1⟩ := rep_lst ry
    obtain ⟨a, b, q⟩ := inDs_seq (R := fun b => R (.bl b) μ) rx l1 q
    exact .inr ⟨p, vs, rfl, .inl (SqL.of i1), a, b, fw_now rm to_bl q f⟩
/-! ### subscripts -/
theorem RepL.atI {K : PySem.W.Frag} {H : Hp} {μ : Mu} {ds : List D} {vs : List V} {i : Int} {d : D} (r : RepL K H μ ds vs) (e : L2.atI ds i = some d) : ∃ v, L2.atI vs i = some v ∧ Rep K H μ d v := by
  unfold L2.atI at e ⊢
  rw [r.length]
  cases q : ixN ds.length i with
  | none => rw [q] at e; cases e
  | some j =>
    rw [q] at e
    exact r.at_ (by simpa using e)
def atK (ds : List D) (i : Int) (R : D → Prop) : Prop := match L2.atI ds i with
  | some d => R d
  | none => False
def gIx : G2 := fun x y μ R => match x, y with
  | .lst ds, .int i => atK ds i fun d => R d μ
  | .seq ds, .int i => atK ds i fun d => R d μ
  | .tup ds, .int i => atK ds i fun d => R d μ
  | .adr a, .int i => match μ a with
    | some (.lst ds) => atK ds i fun d => R d μ
    | _ => False
  | .str z, .int i => z.length ≤ sizeLine ∧ match L2.atI z.cps.toList i with
    | some c => R (.str ⟨#[c]⟩) μ
    | none => False
  | _, _ => False
def rIxA (K : PySem.W.Frag) : R2 := fun x y H Q => rIxL K x y H Q ∨ rIxT K x y H Q ∨ rIxS x y H Q
theorem ix_any {X : Cx} : IxR X (rIxA X.K) := ix_list.or (ix_tup.or ix_str)
theorem atK_of {ds : List D} {i : Int} {R : D → Prop} (h : atK ds i R) : ∃ d, L2.atI ds i = some d ∧ R d := by
  unfold atK at h
  cases e : L2.atI ds i with
  | none => rw [e] at h; exact False.elim h
  | some d => rw [e] at h; exact ⟨d, rfl, h⟩
theorem sim_ix {K : PySem.W.Frag} : SimO K (rIxA K) gIx := by
  intro x y dx dy H μ Q R rm rx ry q f
  cases dx <;> cases dy <;> try exact False.elim q
  · rename_i z i
    rw [rep_str rx, rep_int ry]
    obtain ⟨h1, h2⟩ := q
    cases e : L2.atI z.cps.toList i with
    | none => rw [e] at h2; exact False.elim h2
    | some c =>
      rw [e] at h2
      exact .inr (.inr ⟨z, i, c, rfl, rfl, h1, e, fw_now rm to_str h2 f⟩)
  · obtain ⟨p, vs, rfl, i1, l1⟩ := rep_tup rx
    obtain ⟨d, e, q⟩ := atK_of q
    obtain ⟨v, e2, rv⟩ := l1.atI e
    rw [rep_int ry]
    exact .inr (.inl ⟨p, vs, _, v, rfl, rfl, i1.sq, e2, fw_now rm rv q f⟩)
  · obtain ⟨p, vs, rfl, i1, n1, l1⟩ := rep_lst rx
    obtain ⟨d, e, q⟩ := atK_of q
    obtain ⟨v, e2, rv⟩ := l1.atI e
    rw [rep_int ry]
    exact .inl ⟨p, vs, _, v, rfl, rfl, SqL.of i1, e2, fw_now rm rv q f⟩
  · obtain ⟨p, vs, rfl, i1, l1⟩ := rep_seq rx
    obtain ⟨d, e, q⟩ := atK_of q
    obtain ⟨v, e2, rv⟩ := l1.atI e
    rw [rep_int ry]
    exact .inl ⟨p, vs, _, v, rfl, rfl, i1.sq, e2, fw_now rm rv q f⟩
  · rename_i a i
    have q : (match μ a with | some (.lst ds) => atK ds i fun d => R d μ | _ => False) := q
    cases e0 : μ a with
    | none => rw [e0] at q; exact False.elim q
    | some o =>
      rw [e0] at q
      cases o <;> try exact False.elim q
      obtain ⟨vs, h1, l1⟩ := rm a _ e0
      obtain ⟨d, e, q⟩ := atK_of q
      obtain ⟨v, e2, rv⟩ := l1.atI e
      rw [rep_int ry, rep_adr rx]
      exact .inl ⟨a, vs, _, v, rfl, rfl, SqL.of h1, e2, fw_now rm rv q f⟩
end DL
set_option Elab.async false
set_option linter.all false
set_option maxRecDepth 100000
namespace DL
open PySem PySem.Spec PyProof.Rows L2
/-! ### built-ins called by name -/
section
variable {X : Cx} {id : String} {T : String} {r : List V → Hp → VK → Prop} {g : GC} {ga : GA} {x : Str} {p pos : Pos} {e : Expr} {es : List Expr}
theorem sim_cb {K : PySem.W.Frag} {t : TA} (h : SimC K r g) (a : SimA K t ga) : SimE K (tCB r t) (gCall g ga) := fun σ H δ μ Q R rm rs q f =>
  a σ H δ μ _ _ rm rs q fun vs ds H1 μ1 k1 rm1 r1 q1 => h vs ds H1 μ1 Q R rm1 r1 q1 (f.re k1)
theorem de_callB (hc : CallR X (.builtin id) r) (h : SimC X.K r g) (hg : Gl X x) (hm : X.mg x = none) (hv : bootBuiltins x = some (.builtin id)) (ha : DA X (e :: es) ga) (hn : x ≠ "__name__" := by decide) (hdb : (x == ("__debug__" : Str)) = false := by decide)
    (he : starEach (e :: es) X.env = (false, eval e X.env) :: starEach es X.env := by rfl) (hpl : (backTo pos (starEach es X.env)).any (·.1) = false := by rfl) : DE X (.Call (.Name x p) (e :: es) [] pos) (gCall g ga) :=
  let ⟨_, a, b⟩ := ha.ex; ⟨_, pe_callB hc hg hm hv a hn hdb he hpl, sim_cb h b⟩
theorem de_callTy (hc : CallR X (.type T) r) (h : SimC X.K r g) (hg : Gl X x) (hm : X.mg x = none) (hv : bootBuiltins x = some (.type T)) (ha : DA X (e :: es) ga) (hn : x ≠ "__name__" := by decide) (hdb : (x == ("__debug__" : Str)) = false := by decide)
    (he : starEach (e :: es) X.env = (false, eval e X.env) :: starEach es X.env := by rfl) (hpl : (backTo pos (starEach es X.env)).any (·.1) = false := by rfl) : DE X (.Call (.Name x p) (e :: es) [] pos) (gCall g ga) :=
  let ⟨_, a, b⟩ := ha.ex; ⟨_, pe_callTy hc hg hm hv a hn hdb he hpl, sim_cb h b⟩
end
theorem repL1 {K : PySem.W.Frag} {H : Hp} {μ : Mu} {d : D} {vs : List V} (h : RepL K H μ [d] vs) : ∃ v, vs = [v] ∧ Rep K H μ d v := by
  unfold RepL at h
  obtain ⟨v, r, rfl, h1, h2⟩ := h
  unfold RepL at h2
  subst h2
  exact ⟨v, rfl, h1⟩
theorem repL2 {K : PySem.W.Frag} {H : Hp} {μ : Mu} {d e : D} {vs : List V} (h : RepL K H μ [d, e] vs) : ∃ v w, vs = [v, w] ∧ Rep K H μ d v ∧ Rep K H μ e w := by
  unfold RepL at h
  obtain ⟨v, r, rfl, h1, h2⟩ := h
  obtain ⟨w, rfl, h3⟩ := repL1 h2
  exact ⟨v, w, rfl, h1, h3⟩
/-- one argument -/
def g1 (g : G1) : GC := fun ds μ R => match ds with
  | [d] => g d μ R
  | _ => False
def g2 (g : G2) : GC := fun ds μ R => match ds with
  | [d, e] => g d e μ R
  | _ => False
theorem sim_g1 {K : PySem.W.Frag} {r : List V → Hp → VK → Prop} {g : G1} (h : ∀ v d H μ (Q : VK) (R : KD), RM K H μ → Rep K H μ d v → g d μ R → Fw K H μ R Q → r [v] H Q) : SimC K r (g1 g) := by
  intro vs ds H μ Q R rm rl q f
  match ds, rl, q with
  | [d], rl, q =>
    obtain ⟨v, rfl, r1⟩ := repL1 rl
    exact h v d H μ Q R rm r1 q f
theorem sim_g2 {K : PySem.W.Frag} {r : List V → Hp → VK → Prop} {g : G2} (h : ∀ v w d e H μ (Q : VK) (R : KD), RM K H μ → Rep K H μ d v → Rep K H μ e w → g d e μ R → Fw K H μ R Q → r [v, w] H Q) : SimC K r (g2 g) := by
  intro vs ds H μ Q R rm rl q f
  match ds, rl, q with
  | [d, e], rl, q =>
    obtain ⟨v, w, rfl, r1, r2⟩ := repL2 rl
    exact h v w d e H μ Q R rm r1 r2 q f
/-- len -/
def gLen1 : G1 := fun x μ R => match x with
  | .lst ds => R (.int ds.length) μ
  | .seq ds => R (.int ds.length) μ
  | .tup ds => R (.int ds.length) μ
  | .str z => z.length ≤ sizeLine ∧ R (.int z.length) μ
  | .adr a => match μ a with
    | some (.lst ds) => R (.int ds.length) μ
    | _ => False
  | _ => False
def rLenA (K : PySem.W.Frag) : List V → Hp → VK → Prop := fun xs H Q => (∃ p ys, xs = [.ref p] ∧ (SqL K H p ys ∨ SqT K H p ys) ∧ Q (.int ys.length) H) ∨ ∃ z, xs = [.str z] ∧ z.length ≤ sizeLine ∧ Q (.int z.length) H
theorem cr_len {X : Cx} : CallR X (.builtin "len") (rLenA X.K) := CallR.or call_len_seq call_len_str
theorem sim_len {K : PySem.W.Frag} : SimC K (rLenA K) (g1 gLen1) := sim_g1 fun v d H μ Q R rm rv q f => by
  cases d <;> try exact False.elim q
  · rw [rep_str rv]
    exact .inr ⟨_, rfl, q.1, fw_now rm to_int q.2 f⟩
  · obtain ⟨p, vs, rfl, i, l⟩ := rep_tup rv
    exact .inl ⟨p, vs, rfl, .inr i.sq, by rw [l.length]; exact fw_now rm to_int q f⟩
  · obtain ⟨p, vs, rfl, i, _, l⟩ := rep_lst rv
    exact .inl ⟨p, vs, rfl, .inl (SqL.of i), by rw [l.length]; exact fw_now rm to_int q f⟩
  · obtain ⟨p, vs, rfl, i, l⟩ := rep_seq rv
    exact .inl ⟨p, vs, rfl, .inl i.sq, by rw [l.length]; exact fw_now rm to_int q f⟩
  · rename_i a
    have q : (match μ a with | some (.lst ds) => R (.int ds.length) μ | _ => False) := q
    cases e0 : μ a with
    | none => rw [e0] at q; exact False.elim q
    | some o =>
      rw [e0] at q
      cases o <;> try exact False.elim q
      obtain ⟨vs, h1, l⟩ := rm a _ e0
      rw [rep_adr rv]
      exact .inl ⟨a, vs, rfl, .inl (SqL.of h1), by rw [l.length]; exact fw_now rm to_int q f⟩
/-- all, any of a list of bools -/
def gBools (k : List Bool → Bool) : G1 := fun x μ R => match x with
  | .lst ds => ∃ bs, ds = List.map D.bl bs ∧ R (.bl (k bs)) μ
  | _ => False
theorem sim_all {K : PySem.W.Frag} : SimC K (rAll K) (g1 (gBools fun bs => bs.all id)) := sim_g1 fun v d H μ Q R rm rv q f => by
  cases d <;> try exact False.elim q
  obtain ⟨bs, rfl, q⟩ := q
  obtain ⟨p, vs, rfl, i, _, l⟩ := rep_lst rv
  exact ⟨p, bs, rfl, SqL.of (by rw [i, l.bools]), fw_now rm to_bl q f⟩
/-- sum, max, min of a list of ints -/
def gSum1 : G1 := fun x μ R => match x with
  | .lst ds => ∃ ns, ds = List.map D.int ns ∧ R (.int ns.sum) μ
  | _ => False
theorem sim_sum {K : PySem.W.Frag} : SimC K (rSum K) (g1 gSum1) := sim_g1 fun v d H μ Q R rm rv q f => by
  cases d <;> try exact False.elim q
  obtain ⟨bs, rfl, q⟩ := q
  obtain ⟨p, vs, rfl, i, _, l⟩ := rep_lst rv
  exact ⟨p, bs, rfl, SqL.of (by rw [i, l.ints]), fw_now rm to_int q f⟩
/-- int(n), abs(n) -/
def gInt1 : G1 := fun x μ R => match x with
  | .int i => R (.int i) μ
  | _ => False
theorem sim_int {K : PySem.W.Frag} : SimC K (fun xs H Q => (∃ i, xs = [.int i] ∧ Q (.int i) H) ∨ ∃ k, xs = [.bl k] ∧ Q (.int (if k then 1 else 0)) H) (g1 gInt1) := sim_g1 fun v d H μ Q R rm rv q f => by
  cases d <;> try exact False.elim q
  rw [rep_int rv]
  exact .inl ⟨_, rfl, fw_now rm to_int q f⟩
def gAbs1 : G1 := fun x μ R => match x with
  | .int i => R (.int (if i < 0 then -i else i)) μ
  | _ => False
theorem sim_abs {K : PySem.W.Frag} : SimC K (fun xs H Q => ∃ i, xs = [.int i] ∧ Q (.int (if i < 0 then -i else i)) H) (g1 gAbs1) := sim_g1 fun v d H μ Q R rm rv q f => by
  cases d <;> try exact False.elim q
  rw [rep_int rv]
  exact ⟨_, rfl, fw_now rm to_int q f⟩
/-- max, min of two ints -/
theorem sim_max2 {K : PySem.W.Frag} : SimC K (fun xs H Q => ∃ i j, xs = [.int i, .int j] ∧ Q (.int (if j > i then j else i)) H) (g2 (gII0 fun i j => .int (if j > i then j else i))) := sim_g2 fun v w d e H μ Q R rm rv rw q f => by
  cases d <;> cases e <;> try exact False.elim q
  rw [rep_int rv, rep_int rw]
  exact ⟨_, _, rfl, fw_now rm to_int q f⟩
theorem sim_min2 {K : PySem.W.Frag} : SimC K (fun xs H Q => ∃ i j, xs = [.int i, .int j] ∧ Q (.int (if j < i then j else i)) H) (g2 (gII0 fun i j => .int (if j < i then j else i))) := sim_g2 fun v w d e H μ Q R rm rv rw q f => by
  cases d <;> cases e <;> try exact False.elim q
  rw [rep_int rv, rep_int rw]
  exact ⟨_, _, rfl, fw_now rm to_int q f⟩
/-- tuple(list), tuple(tuple) -/
def gTuple1 : G1 := fun x μ R => match x with
  | .lst ds => R (.tup ds) μ
  | .seq ds => R (.tup ds) μ
  | .tup ds => R (.tup ds) μ
  | .adr a => match μ a with
    | some (.lst ds) => R (.tup ds) μ
    | _ => False
  | _ => False
theorem sim_tuple {K : PySem.W.Frag} : SimC K (fun xs H Q => ∃ p ys, xs = [.ref p] ∧ ((SqL K H p ys ∧ ∀ l, H l = none → Q (.ref l) (upd H l (.tup ys))) ∨ (SqT K H p ys ∧ Q (.ref p) H))) (g1 gTuple1) := sim_g1 fun v d H μ Q R rm rv q f => by
  cases d <;> try exact False.elim q
  · obtain ⟨p, vs, rfl, i, l⟩ := rep_tup rv
    exact ⟨p, vs, rfl, .inr ⟨i.sq, fw_now rm rv q f⟩⟩
  · obtain ⟨p, vs, rfl, i, _, l⟩ := rep_lst rv
    exact ⟨p, vs, rfl, .inl ⟨SqL.of i, fun t n => fw_tup rm n l q f⟩⟩
  · obtain ⟨p, vs, rfl, i, l⟩ := rep_seq rv
    exact ⟨p, vs, rfl, .inl ⟨i.sq, fun t n => fw_tup rm n l q f⟩⟩
  · rename_i a
    have q : (match μ a with | some (.lst ds) => R (.tup ds) μ | _ => False) := q
    cases e0 : μ a with
    | none => rw [e0] at q; exact False.elim q
    | some o =>
      rw [e0] at q
      cases o <;> try exact False.elim q
      obtain ⟨vs, h1, l⟩ := rm a _ e0
      rw [rep_adr rv]
      exact ⟨a, vs, rfl, .inl ⟨SqL.of h1, fun t n => fw_tup rm n l q f⟩⟩
/-- list(list), list(tuple): a new list; one that will change -/
def gList1 : G1 := fun x μ R => match x with
  | .lst ds => R (.lst ds) μ
  | .seq ds => R (.lst ds) μ
  | .tup ds => R (.lst ds) μ
  | _ => False
abbrev rListOf (K : PySem.W.Frag) : List V → Hp → VK → Prop := fun xs H Q => ∃ p ys, xs = [.ref p] ∧ (SqL K H p ys ∨ SqT K H p ys) ∧ ∀ l, H l = none → Q (.ref l) (upd H l (.lst ys))
theorem sim_list {K : PySem.W.Frag} : SimC K (rListOf K) (g1 gList1) := sim_g1 fun v d H μ Q R rm rv q f => by
  cases d <;> try exact False.elim q
  · obtain ⟨p, vs, rfl, i, l⟩ := rep_tup rv
    exact ⟨p, vs, rfl, .inr i.sq, fun t n => fw_lst rm n l q f⟩
  · obtain ⟨p, vs, rfl, i, _, l⟩ := rep_lst rv
    exact ⟨p, vs, rfl, .inl (SqL.of i), fun t n => fw_lst rm n l q f⟩
  · obtain ⟨p, vs, rfl, i, l⟩ := rep_seq rv
    exact ⟨p, vs, rfl, .inl i.sq, fun t n => fw_lst rm n l q f⟩
/-- sorted of texts -/
def gSortedS1 : G1 := fun x μ R => match x with
  | .lst ds => ∃ ss : List Str, ds = List.map D.str ss ∧ ss.length < 64 ∧ ∀ ys : List Str, ys.Perm ss → sortedS ys = true → R (.lst (List.map D.str ys)) μ
  | .adr a => match μ a with
    | some (.lst ds) => ∃ ss : List Str, ds = List.map D.str ss ∧ ss.length < 64 ∧ ∀ ys : List Str, ys.Perm ss → sortedS ys = true → R (.lst (List.map D.str ys)) μ
    | _ => False
  | _ => False
theorem sim_sortedS {K : PySem.W.Frag} : SimC K (rSortedS K) (g1 gSortedS1) := sim_g1 fun v d H μ Q R rm rv q f => by
  cases d <;> try exact False.elim q
  · obtain ⟨ss, rfl, h64, q⟩ := q
    obtain ⟨p, vs, rfl, i, _, l⟩ := rep_lst rv
    exact ⟨p, ss, rfl, SqL.of (by rw [i, l.strs]), h64, fun ys t hp hs n => fw_lst rm n (RepL.of_strs ys) (q ys hp hs) f⟩
  · rename_i a
    have q : (match μ a with | some (.lst ds) => ∃ ss : List Str, ds = List.map D.str ss ∧ ss.length < 64 ∧ ∀ ys : List Str, ys.Perm ss → sortedS ys = true → R (.lst (List.map D.str ys)) μ | _ => False) := q
    cases e0 : μ a with
    | none => rw [e0] at q; exact False.elim q
    | some o =>
      rw [e0] at q
      cases o <;> try exact False.elim q
      obtain ⟨ss, rfl, h64, q⟩ := q
      obtain ⟨vs, h1, l⟩ := rm a _ e0
      rw [rep_adr rv]
      exact ⟨a, ss, rfl, SqL.of (by rw [h1, l.strs]), h64, fun ys t hp hs n => fw_lst rm n (RepL.of_strs ys) (q ys hp hs) f⟩
/-- isinstance(x, T), T a built-in class written by its name -/
def tyName : D → Option String
  | .non => some "NoneType"
  | .bl _ => some "bool"
  | .int _ => some "int"
  | .str _ => some "str"
  | .tup _ => some "tuple"
  | .lst _ => some "list"
  | _ => none
/-! ### methods -/
abbrev GM := D → List D → Mu → KD → Prop
def gBM (ok : D → Mu → Prop) (g : GM) (go : GE) (ga : GA) : GE := fun δ μ R => go δ μ fun x μ1 => ok x μ1 ∧ ga δ μ1 fun xs μ2 => g x xs μ2 R
def okStr : D → Mu → Prop := fun d _ => match d with
  | .str _ => True
  | _ => False
def okCell : D → Mu → Prop := fun d μ => match d with
  | .adr a => match μ a with
    | some (.lst _) => True
    | _ => False
  | _ => False
def OkTy (K : PySem.W.Frag) (T : String) (ok : D → Mu → Prop) : Prop := ∀ v d H μ, RM K H μ → Rep K H μ d v → ok d μ → tyV K T v H
theorem ok_str {K : PySem.W.Frag} : OkTy K "str" okStr := fun v d H μ rm r h => by
  cases d <;> try exact False.elim h
  rw [rep_str r]
  rfl
theorem ok_cell {K : PySem.W.Frag} : OkTy K "list" okCell := fun v d H μ rm r h => by
  cases d <;> try exact False.elim h
  rename_i a
  have h : (match μ a with | some (.lst _) => True | _ => False) := h
  cases e0 : μ a with
  | none => rw [e0] at h; exact False.elim h
  | some o =>
    rw [e0] at h
    cases o <;> try exact False.elim h
    obtain ⟨vs, h1, l⟩ := rm a _ e0
    rw [rep_adr r]
    exact .inl ⟨rfl, _, SqL.of h1⟩
def SimM (K : PySem.W.Frag) (r : V → List V → Hp → VK → Prop) (g : GM) : Prop := ∀ x dx vs ds H μ (Q : VK) (R : KD), RM K H μ → Rep K H μ dx x → RepL K H μ ds vs → g dx ds μ R → Fw K H μ R Q → r x vs H Q
section
variable {X : Cx} {o e : Expr} {es : List Expr} {name : Str} {apos cpos : Pos} {T id : String} {r : V → List V → Hp → VK → Prop} {ok : D → Mu → Prop} {g : GM} {go : GE} {ga : GA}
theorem de_bm (pa : PlainAttrs T) (slot : Slot T name id) (hty : typeOf (.builtin id) = pure (.type "method_descriptor")) (hm : MtR X id r) (sm : SimM X.K r g) (hok : OkTy X.K T ok) (ho : DE X o go) (ha : DA X (e :: es) ga)
    (hbase : attributeBase o name X.env (eval o X.env) = eval o X.env := by rfl)
    (hfew : ((backTo cpos (starEach (e :: es) X.env)).all (fun x => !x.1) && (backToKw cpos (keywordEach [] X.env)).all (fun x => x.1.isSome)
      && decide ((e :: es).length + ([] : List Keyword).length + (if ([] : List Keyword).isEmpty then 0 else 1) < 30)) = true := by rfl)
    (hline : (apos.endLine == cpos.line) = true := by rfl) (hs : starEach (e :: es) X.env = (false, eval e X.env) :: starEach es X.env := by rfl) (hplain : (backTo cpos (starEach es X.env)).any (·.1) = false := by rfl) :
    DE X (.Call (.Attribute o name apos) (e :: es) [] cpos) (gBM ok g go ga) := by
  obtain ⟨t, a1, a2⟩ := ho.ex
  obtain ⟨u, b1, b2⟩ := ha.ex
  refine ⟨_, pe_bm pa slot hty hm a1 b1 hbase hfew hline hs hplain, fun σ H δ μ Q R rm rs q f => ?_⟩
  refine a2 σ H δ μ _ _ rm rs q fun v d H1 μ1 k1 rm1 r1 q1 => ⟨hok v d H1 μ1 rm1 r1 q1.1, ?_⟩
  exact b2 σ H1 δ μ1 _ _ rm1 (rs.mono k1) q1.2 fun vs ds H2 μ2 k2 rm2 r2 q2 => sm v d vs ds H2 μ2 Q R rm2 (r1.mono k2) r2 q2 (f.re (k1.trans k2))
end
/-- one argument; two -/
def gM1 (g : G2) : GM := fun x xs μ R => match xs with
  | [d] => g x d μ R
  | _ => False
def gM2 (g : D → D → D → Mu → KD → Prop) : GM := fun x xs μ R => match xs with
  | [d, e] => g x d e μ R
  | _ => False
theorem sim_m1 {K : PySem.W.Frag} {r : V → List V → Hp → VK → Prop} {g : G2} (h : ∀ x v dx d H μ (Q : VK) (R : KD), RM K H μ → Rep K H μ dx x → Rep K H μ d v → g dx d μ R → Fw K H μ R Q → r x [v] H Q) : SimM K r (gM1 g) := by
  intro x dx vs ds H μ Q R rm rx rl q f
  match ds, rl, q with
  | [d], rl, q =>
    obtain ⟨v, rfl, r1⟩ := repL1 rl
    exact h x v dx d H μ Q R rm rx r1 q f
theorem sim_m2 {K : PySem.W.Frag} {r : V → List V → Hp → VK → Prop} {g : D → D → D → Mu → KD → Prop} (h : ∀ x v w dx d e H μ (Q : VK) (R : KD), RM K H μ → Rep K H μ dx x → Rep K H μ d v → Rep K H μ e w → g dx d e μ R → Fw K H μ R Q → r x [v, w] H Q) : SimM K r (gM2 g) := by
  intro x dx vs ds H μ Q R rm rx rl q f
  match ds, rl, q with
  | [d, e], rl, q =>
    obtain ⟨v, w, rfl, r1, r2⟩ := repL2 rl
    exact h x v w dx d e H μ Q R rm rx r1 r2 q f
/-- two texts -/
def gSS (h : Str → Str → KD → Mu → Prop) : G2 := fun x y μ R => match x, y with
  | .str a, .str b => h a b R μ
  | _, _ => False
/-- text.count(text) -/
abbrev gCount : GM := gM1 (gSS fun a b R μ => R (.int (Txt.count a b)) μ)
theorem sim_count {K : PySem.W.Frag} : SimM K (fun x xs H Q => ∃ a b, x = .str a ∧ xs = [.str b] ∧ Q (.int (Txt.count a b)) H) gCount := sim_m1 fun x v dx d H μ Q R rm rx rv q f => by
  cases dx <;> cases d <;> try exact False.elim q
  rw [rep_str rx, rep_str rv]
  exact ⟨_, _, rfl, rfl, fw_now rm to_int q f⟩
/-- sep.join(texts) -/
def gJoin2 : G2 := fun x y μ R => match x, y with
  | .str a, .lst ds => ∃ ys : List Str, ds = List.map D.str ys ∧ (ys.map (·.length)).sum + ys.length * a.length ≤ 16777216 ∧ R (.str (Txt.join a ys)) μ
  | _, _ => False
theorem sim_join {K : PySem.W.Frag} : SimM K (fun x xs H Q => ∃ a p, ∃ ys : List Str, x = .str a ∧ xs = [.ref p] ∧ (SqL K H p (ys.map V.str) ∨ SqT K H p (ys.map V.str)) ∧ (ys.map (·.length)).sum + ys.length * a.length ≤ 16777216 ∧ Q (.str (Txt.join a ys)) H) (gM1 gJoin2) := sim_m1 fun x v dx d H μ Q R rm rx rv q f => by
  cases dx <;> cases d <;> try exact False.elim q
  obtain ⟨ys, rfl, hz, q⟩ := q
  obtain ⟨p, vs, rfl, i, _, l⟩ := rep_lst rv
  exact ⟨_, p, ys, rep_str rx, rfl, .inl (SqL.of (by rw [i, l.strs])), hz, fw_now rm to_str q f⟩
/-- cell.append(v) -/
def gAppend2 : G2 := fun x d μ R => match x with
  | .adr a => ∃ ds, μ a = some (.lst ds) ∧ ds.length < sizeLine ∧ R .non (put μ a (.lst (ds ++ [d])))
  | _ => False
theorem sim_append {K : PySem.W.Frag} : SimM K rAppend (gM1 gAppend2) := sim_m1 fun x v dx d H μ Q R rm rx rv q f => by
  cases dx <;> try exact False.elim q
  rename_i a
  obtain ⟨ds, e0, hz, q⟩ := q
  obtain ⟨vs, h1, l⟩ := rm a _ e0
  exact ⟨a, vs, v, rep_adr rx, rfl, h1, by rw [l.length]; exact hz, fw_write rm e0 (l.append (RepL.cons rv RepL.nil)) to_non q f⟩
/-- cell.pop(i), 0 ≤ i in bounds -/
def gPopAt2 : G2 := fun x y μ R => match x, y with
  | .adr a, .int i => ∃ ds, μ a = some (.lst ds) ∧ 0 ≤ i ∧ i < 2 ^ 63 ∧ ∃ d, ds[i.toNat]? = some d ∧ R d (put μ a (.lst (ds.eraseIdx i.toNat)))
  | _, _ => False
theorem sim_popAt {K : PySem.W.Frag} : SimM K rPopAt (gM1 gPopAt2) := sim_m1 fun x v dx d H μ Q R rm rx rv q f => by
  cases dx <;> cases d <;> try exact False.elim q
  rename_i a i
  obtain ⟨ds, e0, h0, hz, d, ed, q⟩ := q
  obtain ⟨vs, h1, l⟩ := rm a _ e0
  obtain ⟨y, ey, ry⟩ := l.at_ ed
  have hl : i.toNat < vs.length := (List.getElem?_eq_some_iff.mp ey).1
  rw [rep_int rv]
  exact ⟨a, vs, i, i.toNat, y, rep_adr rx, rfl, h1, by omega, hz, (ixN_seq (by unfold ixN; rw [if_pos h0, if_pos (by omega)])).1, ey, fw_write rm e0 (l.erase _) ry q f⟩
/-- cell.insert(i, v) -/
def gInsert3 : D → D → D → Mu → KD → Prop := fun x y d μ R => match x, y with
  | .adr a, .int i => ∃ ds, μ a = some (.lst ds) ∧ ds.length < sizeLine ∧ 0 ≤ i ∧ i < 2 ^ 63 ∧ R .non (put μ a (.lst (ds.take i.toNat ++ [d] ++ ds.drop i.toNat)))
  | _, _ => False
theorem sim_insert {K : PySem.W.Frag} : SimM K (fun x vs H Q => ∃ (l : Addr) (xs : List V) (i : Int) (y : V), x = .ref l ∧ vs = [.int i, y] ∧ H l = some (.lst xs) ∧ xs.length < sizeLine ∧ 0 ≤ i ∧ i < 2 ^ 63 ∧
    Q .non (upd H l (.lst (xs.take i.toNat ++ [y] ++ xs.drop i.toNat)))) (gM2 gInsert3) := sim_m2 fun x v w dx d e H μ Q R rm rx rv rw q f => by
  cases dx <;> cases d <;> try exact False.elim q
  rename_i a i
  obtain ⟨ds, e0, hz, h0, h63, q⟩ := q
  obtain ⟨vs, h1, l⟩ := rm a _ e0
  rw [rep_int rv]
  exact ⟨a, vs, i, w, rep_adr rx, rfl, h1, by rw [l.length]; exact hz, h0, h63, fw_write rm e0 (((l.take _).append (RepL.cons rw RepL.nil)).append (l.drop _)) to_non q f⟩
/-! ### fields -/
theorem RepF.look {K : PySem.W.Frag} {H : Hp} {μ : Mu} {x : Str} {d : D} : ∀ {fs : List (Str × D)} {fv : List (Str × V)}, RepF K H μ fs fv → fs.lookup x = some d → ∃ v, fv.lookup x = some v ∧ Rep K H μ d v
  | [], _, _, e => by cases e
  | (y, c) :: fs, _, h, e => by
    unfold RepF at h
    obtain ⟨v, r, rfl, h1, h2⟩ := h
    rw [List.lookup_cons] at e ⊢
    cases hb : x == y with
    | true =>
      rw [hb] at e
      have e' : c = d := Option.some.inj e
      subst e'
      exact ⟨v, rfl, h1⟩
    | false =>
      rw [hb] at e
      exact RepF.look h2 e
theorem RepF.length {K : PySem.W.Frag} {H : Hp} {μ : Mu} : ∀ {fs : List (Str × D)} {fv : List (Str × V)}, RepF K H μ fs fv → fv.length = fs.length
  | [], _, h => by
    unfold RepF at h
    rw [h] <;> rfl
  | (y, c) :: fs, _, h => by
    unfold RepF at h
    obtain ⟨v, r, rfl, h1, h2⟩ := h
    show r.length + 1 = fs.length + 1
    rw [RepF.length h2]
def dPut (f : Str) (d : D) : List (Str × D) → List (Str × D)
  | [] => [(f, d)]
  | (g, x) :: r => if g = f then (g, d) :: r else (g, x) :: dPut f d r
theorem RepF.put {K : PySem.W.Frag} {H : Hp} {μ : Mu} {x : Str} {d : D} {v : V} (rv : Rep K H μ d v) : ∀ {fs : List (Str × D)} {fv : List (Str × V)}, RepF K H μ fs fv → RepF K H μ (dPut x d fs) (putF x v fv)
  | [], _, h => by
    unfold RepF at h
    subst h
    show RepF K H μ [(x, d)] [(x, v)]
    unfold RepF
    exact ⟨v, [], rfl, rv, by unfold RepF; rfl⟩
  | (y, c) :: fs, _, h => by
    unfold RepF at h
    obtain ⟨u, r, rfl, h1, h2⟩ := h
    show RepF K H μ (if y = x then (y, d) :: fs else (y, c) :: dPut x d fs) (if y = x then (y, v) :: r else (y, u) :: putF x v r)
    by_cases e : y = x
    · rw [if_pos e, if_pos e]
      unfold RepF
      exact ⟨v, r, rfl, rv, h2⟩
    · rw [if_neg e, if_neg e]
      unfold RepF
      exact ⟨u, _, rfl, h1, RepF.put rv h2⟩
/-- o.f of an instance that stays as it is -/
def gFld (C : Addr) (f : Str) (g : GE) : GE := fun δ μ R => g δ μ fun d μ1 => match d with
  | .ins C' fs => C' = C ∧ ∃ x, fs.lookup f = some x ∧ R x μ1
  | _ => False
section
variable {X : Cx} {e o value : Expr} {f : Str} {pos pos' : Pos} {g gv : GE} {C : Addr}
theorem de_fld (c : Cls X.K C) (n : NoAttr X.K C f) (he : DE X e g) (hb : attributeBase e f X.env (eval e X.env) = eval e X.env := by rfl) : DE X (.Attribute e f pos) (gFld C f g) := by
  obtain ⟨t, a1, a2⟩ := he.ex
  refine ⟨_, pe_fld a1 hb, fun σ H δ μ Q R rm rs q fw => ?_⟩
  refine a2 σ H δ μ _ _ rm rs q fun v d H1 μ1 k1 rm1 r1 q1 => ?_
  cases d <;> try exact False.elim q1
  obtain ⟨rfl, x, e1, q1⟩ := q1
  obtain ⟨a, dx, fv, rfl, h1, _, rf⟩ := rep_ins r1
  obtain ⟨y, e2, ry⟩ := rf.look e1
  exact ⟨a, _, dx, fv, y, rfl, h1, c, n, e2, fw_now rm1 ry q1 (fw.re k1)⟩
/-- o.f = e, o an instance in the store -/
def gSetF (C : Addr) (f : Str) (go gv : GE) : GS := fun F δ μ => gv δ μ fun d μ1 => go δ μ1 fun x μ2 => match x with
  | .adr a => ∃ fs, μ2 a = some (.ins C fs) ∧ fs.length < 1000 ∧ F.nx δ (put μ2 a (.ins C (dPut f d fs)))
  | _ => False
theorem ds_fld (c : Cls X.K C) (n : NoAttr X.K C f) (ho : DE X o g) (hv : DE X value gv) (hs : swapsWith value (some (.Attribute o f pos')) pos.line X.env = pure false := by rfl) : DSt X (.Assign [.Attribute o f pos'] value pos) (gSetF C f g gv) := by
  obtain ⟨t, a1, a2⟩ := ho.ex
  obtain ⟨u, b1, b2⟩ := hv.ex
  refine ⟨_, ps_fld a1 b1 hs, fun σ H δ μ E F rm rs e q => ?_⟩
  refine b2 σ H δ μ _ _ rm rs q fun v d H1 μ1 k1 rm1 r1 q1 => ?_
  refine a2 σ H1 δ μ1 _ _ rm1 (rs.mono k1) q1 fun v2 d2 H2 μ2 k2 rm2 r2 q2 => ?_
  cases d2 <;> try exact False.elim q2
  rename_i a
  obtain ⟨fs, e0, hl, q2⟩ := q2
  obtain ⟨dx, fv, h1, rf⟩ := rm2 a _ e0
  have kw : Kp H2 μ2 (upd H2 a (.ins C dx (putF f v fv))) (put μ2 a (.ins C (dPut f d fs))) := Kp.write e0
  refine ⟨a, C, dx, fv, rep_adr r2, h1, c, n, by rw [rf.length]; exact hl, e.nx _ _ _ _ (k1.trans (k2.trans kw)) ?_ (rs.mono (k1.trans (k2.trans kw))) q2⟩
  exact rm2.put (m := .ins C (dPut f d fs)) kw (fun b o nb _ => upd_ne nb) ⟨dx, _, upd_same, (rf.put (r1.mono k2)).mono kw _ _⟩
end
end DL
set_option Elab.async false
set_option linter.all false
set_option maxRecDepth 100000
namespace DL
open PySem PySem.Spec PyProof.Rows L2
/-! ### targets that store into what is mutable -/
abbrev GH := D → DS → Mu → (DS → Mu → Prop) → Prop
abbrev GHs := List D → DS → Mu → (DS → Mu → Prop) → Prop
def SimH (K : PySem.W.Frag) (t : TG) (g : GH) : Prop := ∀ v d σ H δ μ (Q : L2.St → Hp → Prop) (R : DS → Mu → Prop), RM K H μ → RepS K H μ δ σ → Rep K H μ d v → g d δ μ R →
  (∀ σ' H' δ' μ', Kp H μ H' μ' → RM K H' μ' → RepS K H' μ' δ' σ' → R δ' μ' → Q σ' H') → t v σ H Q
def SimHs (K : PySem.W.Frag) (t : TGs) (g : GHs) : Prop := ∀ vs ds σ H δ μ (Q : L2.St → Hp → Prop) (R : DS → Mu → Prop), RM K H μ → RepS K H μ δ σ → RepL K H μ ds vs → g ds δ μ R →
  (∀ σ' H' δ' μ', Kp H μ H' μ' → RM K H' μ' → RepS K H' μ' δ' σ' → R δ' μ' → Q σ' H') → t vs σ H Q
def hNm (i : Nat) : GH := fun d δ μ R => R (δ.set i (some d)) μ
theorem simH_nm {K : PySem.W.Frag} {i : Nat} : SimH K (gName i) (hNm i) := fun v d σ H δ μ Q R rm rs r q f => f _ H _ μ (Kp.refl _ _) rm (rs.set i r) q
def hNil : GHs := fun ds δ μ R => match ds with
  | [] => R δ μ
  | _ :: _ => False
def hCons (t : GH) (u : GHs) : GHs := fun ds δ μ R => match ds with
  | d :: r => t d δ μ fun δ' μ' => u r δ' μ' R
  | [] => False
theorem simH_nil {K : PySem.W.Frag} : SimHs K L2.gNil hNil := by
  intro vs ds σ H δ μ Q R rm rs r q f
  cases ds with
  | nil =>
    unfold RepL at r
    exact ⟨r, f σ H δ μ (Kp.refl _ _) rm rs q⟩
  | cons d ds => exact False.elim q
theorem simH_cons {K : PySem.W.Frag} {t : TG} {u : TGs} {g : GH} {gs : GHs} (h : SimH K t g) (h2 : SimHs K u gs) : SimHs K (L2.gCons t u) (hCons g gs) := by
  intro vs ds σ H δ μ Q R rm rs r q f
  cases ds with
  | nil => exact False.elim q
  | cons d ds =>
    unfold RepL at r
    obtain ⟨v, w, rfl, r1, r2⟩ := r
    refine ⟨v, w, rfl, h v d σ H δ μ _ _ rm rs r1 q fun σ1 H1 δ1 μ1 k1 rm1 rs1 q1 => ?_⟩
    exact h2 w ds σ1 H1 δ1 μ1 _ _ rm1 rs1 (r2.mono k1 _ _) q1 fun σ2 H2 δ2 μ2 k2 rm2 rs2 q2 => f σ2 H2 δ2 μ2 (k1.trans k2) rm2 rs2 q2
def hTup (n : Nat) (t : GHs) : GH := fun d δ μ R => match d with
  | .tup ds => ds.length = n ∧ t ds δ μ R
  | _ => False
theorem simH_tup {K : PySem.W.Frag} {n : Nat} {t : TGs} {g : GHs} (h : SimHs K t g) : SimH K (L2.gTup K n t) (hTup n g) := by
  intro v d σ H δ μ Q R rm rs r q f
  cases d <;> try exact False.elim q
  rename_i ds
  obtain ⟨a, vs, rfl, im, rl⟩ := rep_tup r
  exact ⟨a, vs, rfl, im.sq, by rw [rl.length]; exact q.1, h vs ds σ H δ μ Q R rm rs rl q.2 f⟩
/-- cell[k] = d -/
def setK (x y d : D) (μ : Mu) (R : Mu → Prop) : Prop := match x, y with
  | .adr a, .int k => ∃ ds j, μ a = some (.lst ds) ∧ ixN ds.length k = some j ∧ R (put μ a (.lst (ds.set j d)))
  | _, _ => False
def hSub (go gi : GE) : GH := fun d δ μ R => go δ μ fun x μ1 => gi δ μ1 fun y μ2 => setK x y d μ2 fun μ3 => R δ μ3
theorem simH_sub {K : PySem.W.Frag} {to ti : TE} {go gi : GE} (h1 : SimE K to go) (h2 : SimE K ti gi) : SimH K (gSub to ti rSetL) (hSub go gi) := by
  intro v d σ H δ μ Q R rm rs r q f
  refine h1 σ H δ μ _ _ rm rs q fun x dx H1 μ1 k1 rm1 r1 q1 => ?_
  refine h2 σ H1 δ μ1 _ _ rm1 (rs.mono k1) q1 fun y dy H2 μ2 k2 rm2 r2 q2 => ?_
  cases dx <;> cases dy <;> try exact False.elim q2
  rename_i a k
  obtain ⟨ds, j, e0, ej, q2⟩ := q2
  obtain ⟨vs, e1, l⟩ := rm2 a _ e0
  have kw : Kp H2 μ2 (upd H2 a (.lst (vs.set j v))) (put μ2 a (.lst (ds.set j d))) := Kp.write e0
  refine ⟨a, vs, k, j, rep_adr (r1.mono k2), rep_int r2, e1, by rw [l.length]; exact ej, f _ _ _ _ (k1.trans (k2.trans kw)) ?_ (rs.mono (k1.trans (k2.trans kw))) q2⟩
  exact rm2.put (m := .lst (ds.set j d)) kw (fun b o n _ => upd_ne n) ⟨_, upd_same, (l.set j (r.mono (k1.trans k2))).mono kw _ _⟩
def gAsgH (g : GE) (t : GH) : GS := fun F δ μ => g δ μ fun d μ1 => t d δ μ1 F.nx
section
variable {X : Cx} {e tg o i : Expr} {pos : Pos} {ge go gi : GE} {gh : GH} {g : TG}
theorem pg_subD (ho : DE X o go) (hi : DE X i gi)
    (ha : ∀ v, assign (.Subscript o i pos) X.env v = (do
      let ov ← holding [v] (eval o X.env)
      let iv ← holding [v, ov] (eval i X.env)
      standAt pos
      holding [v, ov, iv] (setItem ov iv v)
      release [v, ov, iv] []) := by intro _; rfl) : PG X (.Subscript o i pos) (gSub (tOf X.K go) (tOf X.K gi) rSetL) := pg_sub ho.pe hi.pe set_list ha
theorem simH_subD {K : PySem.W.Frag} : SimH K (gSub (tOf K go) (tOf K gi) rSetL) (hSub go gi) := simH_sub sim_of sim_of
theorem ds_asgH (he : DE X e ge) (hg : PG X tg g) (sg : SimH X.K g gh) (hs : swapsWithSole [tg] e pos.line X.env = pure false := by rfl) (hw : swappedStores [tg] e X.env = pure none := by rfl)
    (h1 : (assignEach [tg] X.env).map (·.2) = [assign tg X.env] := by rfl) : DSt X (.Assign [tg] e pos) (gAsgH ge gh) := by
  obtain ⟨t1, a1, a2⟩ := he.ex
  refine ⟨_, ps_asg a1 hg hs hw h1, fun σ H δ μ E F rm rs e q => ?_⟩
  refine a2 σ H δ μ _ _ rm rs q fun v d H1 μ1 k1 rm1 r1 q1 => ?_
  exact sg v d σ H1 δ μ1 _ _ rm1 (rs.mono k1) r1 q1 fun σ2 H2 δ2 μ2 k2 rm2 rs2 q2 => e.nx σ2 H2 δ2 μ2 (k1.trans k2) rm2 rs2 q2
end
theorem sim_ipadd {K : PySem.W.Frag} : SimO K (ipI fun i j => i + j) (gII0 fun i j => .int (i + j)) := by
  intro x y dx dy H μ Q R rm rx ry q f
  cases dx <;> cases dy <;> try exact False.elim q
  rw [rep_int rx, rep_int ry]
  exact ⟨_, _, rfl, rfl, fw_now rm to_int q f⟩
/-! ### slices -/
abbrev GP := DS → Mu → (Option Int → Mu → Prop) → Prop
def SimP (K : PySem.W.Frag) (t : TO) (g : GP) : Prop := ∀ σ H δ μ (Q : Option Int → Hp → Prop) (R : Option Int → Mu → Prop), RM K H μ → RepS K H μ δ σ → g δ μ R → (∀ o H' μ', Kp H μ H' μ' → RM K H' μ' → R o μ' → Q o H') → t σ H Q
structure DP (X : Cx) (e : Option Expr) (g : GP) : Prop where
  ex : ∃ t, PO X e t ∧ SimP X.K t g
def gNoP : GP := fun _ μ R => R none μ
def gP (g : GE) : GP := fun δ μ R => g δ μ fun d μ1 => match d with
  | .int i => R (some i) μ1
  | _ => False
def cutD (ds : List D) (lo hi : Option Int) : List D := (ds.drop (HT.sIx ds.length 0 lo)).take (HT.sIx ds.length ds.length hi - HT.sIx ds.length 0 lo)
theorem RepL.cut {K : PySem.W.Frag} {H : Hp} {μ : Mu} {ds : List D} {vs : List V} (h : RepL K H μ ds vs) (lo hi : Option Int) : RepL K H μ (cutD ds lo hi) (cutV vs lo hi) := by
  unfold cutD cutV
  rw [h.length]
  exact (h.drop _).take _
def gSl (ge : GE) (gl gh : GP) : GE := fun δ μ R => ge δ μ fun x μ1 => gl δ μ1 fun lo μ2 => gh δ μ2 fun hi μ3 => match x with
  | .lst ds => R (.lst (cutD ds lo hi)) μ3
  | .seq ds => R (.lst (cutD ds lo hi)) μ3
  | .tup ds => R (.tup (cutD ds lo hi)) μ3
  | .str z => z.length ≤ sizeLine ∧ R (.str (cutS z lo hi)) μ3
  | _ => False
section
variable {X : Cx} {e i : Expr} {lo hi : Option Expr} {pos p2 : Pos} {ge : GE} {gl gh : GP}
theorem dp_none : DP X none gNoP := ⟨_, po_none, fun σ H δ μ Q R rm rs q f => f none H μ (Kp.refl _ _) rm q⟩
theorem dp_some (h : DE X i ge) : DP X (some i) (gP ge) := by
  obtain ⟨t, a1, a2⟩ := h.ex
  refine ⟨_, po_some a1, fun σ H δ μ Q R rm rs q f => ?_⟩
  refine a2 σ H δ μ _ _ rm rs q fun v d H1 μ1 k1 rm1 r1 q1 => ?_
  cases d <;> try exact False.elim q1
  exact ⟨_, rep_int r1, f _ H1 μ1 k1 rm1 q1⟩
def rSlAny (K : PySem.W.Frag) : V → Option Int → Option Int → Hp → VK → Prop := fun x lo hi H Q => rSlL K x lo hi H Q ∨ rSlA K x lo hi H Q ∨ rSlS x lo hi H Q
theorem sl_any : SlR X (rSlAny X.K) := by
  intro pins s σ H x v vl vu lo hi sl Q I rx hs pl pu h
  rcases h with h | h | h
  · exact sl_list pins s σ H x v vl vu lo hi sl Q I rx hs pl pu h
  · exact sl_tupA pins s σ H x v vl vu lo hi sl Q I rx hs pl pu h
  · exact sl_str pins s σ H x v vl vu lo hi sl Q I rx hs pl pu h
theorem cut_all {α : Type} (xs : List α) {a b : Nat} (h : a = 0) (h2 : b = xs.length) : (xs.drop a).take (b - a) = xs := by
  subst h h2
  simp
theorem de_slice (he : DE X e ge) (hl : DP X lo gl) (hu : DP X hi gh) : DE X (.Subscript e (.Slice lo hi none p2) pos) (gSl ge gl gh) := by
  obtain ⟨t, a1, a2⟩ := he.ex
  obtain ⟨u, b1, b2⟩ := hl.ex
  obtain ⟨w, c1, c2⟩ := hu.ex
  refine ⟨_, pe_slice sl_any a1 b1 c1, fun σ H δ μ Q R rm rs q f => ?_⟩
  refine a2 σ H δ μ _ _ rm rs q fun v d H1 μ1 k1 rm1 r1 q1 => ?_
  refine b2 σ H1 δ μ1 _ _ rm1 (rs.mono k1) q1 fun l H2 μ2 k2 rm2 q2 => ?_
  refine c2 σ H2 δ μ2 _ _ rm2 (rs.mono (k1.trans k2)) q2 fun h H3 μ3 k3 rm3 q3 => ?_
  have r3 := r1.mono (k2.trans k3)
  have f3 := f.re (k1.trans (k2.trans k3))
  cases d <;> try exact False.elim q3
  · exact .inr (.inr ⟨_, rep_str r3, q3.1, fw_now rm3 to_str q3.2 f3⟩)
  · rename_i ds
    obtain ⟨p, vs, rfl, im, rl⟩ := rep_tup r3
    refine .inr (.inl ⟨p, vs, rfl, im.sq, fun ⟨z1, z2⟩ => ?_, fun _ t n => fw_tup rm3 n (rl.cut l h) q3 f3⟩)
    rw [rl.length] at z1 z2
    have e : cutD ds l h = ds := cut_all ds z1 z2
    have q4 : R (.tup (cutD ds l h)) μ3 := q3
    rw [e] at q4
    exact fw_now rm3 r3 q4 f3
  · obtain ⟨p, vs, rfl, i, _, rl⟩ := rep_lst r3
    exact .inl ⟨p, vs, rfl, SqL.of i, fun t n => fw_lst rm3 n (rl.cut l h) q3 f3⟩
  · obtain ⟨p, vs, rfl, i, rl⟩ := rep_seq r3
    exact .inl ⟨p, vs, rfl, i.sq, fun t n => fw_lst rm3 n (rl.cut l h) q3 f3⟩
end
/-! ### list(text) -/
def rListS : List V → Hp → VK → Prop := fun xs H Q => ∃ x : Str, xs = [.str x] ∧ x.length ≤ sizeLine ∧ ∀ l, H l = none → Q (.ref l) (upd H l (.lst (x.cps.toList.map fun c => V.str ⟨#[c]⟩)))
theorem signs_vals (x : Str) (acc : Array Value) (h : ItemsOf (SignAt x) acc x.cps.size) : Vals (x.cps.toList.map fun c => V.str ⟨#[c]⟩) acc.toList := by
  have key : ∀ (l : List Nat) (us : List Value), us.length = l.length → (∀ (j : Nat) (v : Value), us[j]? = some v → ∃ (c : Nat) (u : Tok), l[j]? = some c ∧ v = Value.str ⟨#[c]⟩ u) → Vals (l.map fun c => V.str ⟨#[c]⟩) us := by
    intro l
    induction l with
    | nil =>
      intro us hl _
      have e : us = [] := List.eq_nil_of_length_eq_zero hl
      subst e
      exact .nil
    | cons c l ih =>
      intro us hl hs
      cases us with
      | nil => simp at hl
      | cons u us =>
        obtain ⟨c', t, e1, e2⟩ := hs 0 u rfl
        have e1' : c = c' := by simpa using e1
        subst e1'
        subst e2
        exact .cons ⟨t, rfl⟩ (ih us (by simpa using hl) fun j v hv => hs (j + 1) v (by simpa using hv))
  refine key _ _ (by rw [Array.length_toList, Array.length_toList]; exact h.1) fun j v hv => ?_
  obtain ⟨c, u, e1, e2⟩ := h.2 j v (by rw [← Array.getElem?_toList]; exact hv)
  exact ⟨c, u, by rw [Array.getElem?_toList]; exact e1, e2⟩
theorem call_listS {X : Cx} (hc : X.calm = true) : CallR X (.type "list") rListS := by
  intro pins s σ H xs us Q I r h
  obtain ⟨x, rfl, hz, q⟩ := h
  obtain ⟨u, rfl, t, rfl⟩ := vals1 r
  refine call_list_str (I.ok.hd hc) x t (fun h' tk acc c' hk ho hi => ?_) hz
  have hn : H s.heap.objs.size = none := I.hok.fresh (Nat.le_refl _)
  have new : ObjOk X.prog X.w (upd H s.heap.objs.size (.lst (x.cps.toList.map fun c => V.str ⟨#[c]⟩))) h' s.heap.objs.size (.lst (x.cps.toList.map fun c => V.str ⟨#[c]⟩)) :=
    ⟨by rw [List.length_map, Array.length_toList]; exact hz, acc.toList, c', signs_vals x acc hi, ho⟩
  exact ⟨.ref s.heap.objs.size, _, I.laid hk (Nat.le_refl _) new, rfl, q _ hn⟩
theorem signs_rep {K : PySem.W.Frag} {H : Hp} {μ : Mu} (x : Str) : RepL K H μ (signs x) (x.cps.toList.map fun c => V.str ⟨#[c]⟩) := by
  unfold signs
  generalize x.cps.toList = l
  induction l with
  | nil => exact RepL.nil
  | cons c l ih => exact RepL.cons to_str ih
def gListSC1 : G1 := fun x μ R => match x with
  | .str z => z.length ≤ sizeLine ∧ ∀ a, μ a = none → R (.adr a) (put μ a (.lst (signs z)))
  | _ => False
theorem sim_listSC {K : PySem.W.Frag} : SimC K rListS (g1 gListSC1) := sim_g1 fun v d H μ Q R rm rv q f => by
  cases d <;> try exact False.elim q
  exact ⟨_, by rw [rep_str rv], q.1, fun l n => fw_cell rm n (signs_rep _) q.2 f⟩
/-! ### isinstance -/
theorem tyX_rep {K : PySem.W.Frag} {H : Hp} {μ : Mu} {d : D} {v : V} {n : String} (h : Rep K H μ d v) (e : tyName d = some n) : TyX K H v (.type n) := by
  cases d <;> cases e
  · rw [rep_non h]; exact .base .non
  · rw [rep_bl h]; exact .base (.bl _)
  · rw [rep_int h]; exact .base (.int _)
  · rw [rep_str h]; exact .base (.str _)
  · obtain ⟨a, vs, rfl, im, _⟩ := rep_tup h
    rcases im with ⟨h1, _⟩ | h1
    · exact .base (.tup h1)
    · rcases h1 (fun _ => none) with z | ⟨o, its, m, hk, hc, _⟩
      · rcases z with z | ⟨_, z⟩ <;> cases z
      · exact .kTuple hk hc
  · obtain ⟨a, vs, rfl, i, _⟩ := rep_lst h
    exact .base (.lst i)
def gIsi (T : String) : G1 := fun x μ R => ∃ n b, tyName x = some n ∧ kitB n T = some b ∧ R (.bl b) μ
section
variable {X : Cx} {p p2 pos : Pos} {e : Expr} {g : GE} {nm : Str} {T : String}
/-- isinstance(e, T), T a built-in class by its name -/
theorem de_isi (hg : Gl X "isinstance") (hm : X.mg "isinstance" = none) (hg2 : Gl X nm) (hm2 : X.mg nm = none) (hv : bootBuiltins nm = some (.type T)) (he : DE X e g) (hn : nm ≠ "__name__" := by decide) (hd : (nm == ("__debug__" : Str)) = false := by decide)
    (hs : starEach [e, .Name nm p2] X.env = (false, eval e X.env) :: starEach [.Name nm p2] X.env := by rfl) (hpl : (backTo pos (starEach [.Name nm p2] X.env)).any (·.1) = false := by rfl) (hs2 : starEach [.Name nm p2] X.env = (false, eval (.Name nm p2) X.env) :: starEach [] X.env := by rfl) :
    DE X (.Call (.Name "isinstance" p) [e, .Name nm p2] [] pos) (gUn (gIsi T) g) := by
  obtain ⟨t, a1, a2⟩ := he.ex
  refine ⟨_, pe_callB call_isi hg hm (by decide +kernel) (pa_cons a1 (pa_cons (pe_bltn (v := .ty T) hg2 hm2 hv rfl hn hd) pa_nil hs2) hs) (by decide) (by decide) hs hpl, fun σ H δ μ Q R rm rs q f => ?_⟩
  refine a2 σ H δ μ _ _ rm rs q fun v d H1 μ1 k1 rm1 r1 ⟨n, b, e1, e2, q1⟩ => ?_
  exact ⟨v, .ty T, .type n, .type T, b, rfl, .ty T, tyX_rep r1 e1, kit_ty e2, fw_now rm1 to_bl q1 (f.re k1)⟩
/-- what isinstance asks of an own class -/
structure IsC (K : PySem.W.Frag) (C : Addr) : Prop where
  cl : Cls K C
  ha : PySem.W.findIn K (.ref C) "__class__" = some (some (.builtin "object.__class__"))
  hn : PySem.W.specialIn K (.builtin "object.__class__") "__get__" = some (some (.builtin "getset_descriptor.__get__"))
  ht : PySem.W.takesIn K (.builtin "object.__class__") = some true
  hm : PySem.W.mroIn K C (.type "object") = some true
def gIsC (C : Addr) : G1 := fun x μ R => match x with
  | .ins C' _ => C' = C ∧ R (.bl true) μ
  | _ => False
theorem de_isc {C : Addr} (hc : IsC X.K C) (hg : Gl X "isinstance") (hm : X.mg "isinstance" = none) (hg2 : Gl X nm) (hm2 : X.mg nm = some (.ref C)) (he : DE X e g) (hd : (nm == ("__debug__" : Str)) = false := by decide)
    (hs : starEach [e, .Name nm p2] X.env = (false, eval e X.env) :: starEach [.Name nm p2] X.env := by rfl) (hpl : (backTo pos (starEach [.Name nm p2] X.env)).any (·.1) = false := by rfl) (hs2 : starEach [.Name nm p2] X.env = (false, eval (.Name nm p2) X.env) :: starEach [] X.env := by rfl) :
    DE X (.Call (.Name "isinstance" p) [e, .Name nm p2] [] pos) (gUn (gIsC C) g) := by
  obtain ⟨t, a1, a2⟩ := he.ex
  refine ⟨_, pe_callB call_isi hg hm (by decide +kernel) (pa_cons a1 (pa_cons (pe_glob (v := .ref C) hg2 hm2 rfl hd) pa_nil hs2) hs) (by decide) (by decide) hs hpl, fun σ H δ μ Q R rm rs q f => ?_⟩
  refine a2 σ H δ μ _ _ rm rs q fun v d H1 μ1 k1 rm1 r1 q1 => ?_
  cases d <;> try exact False.elim q1
  obtain ⟨rfl, q1⟩ := q1
  obtain ⟨a, dx, fv, rfl, h1, _, _⟩ := rep_ins r1
  refine ⟨.ref a, .ref _, .ref _, .ref _, true, rfl, .own _, .base (.ins h1 hc.cl hc.ha hc.hn hc.ht hc.hm), ?_, fw_now rm1 to_bl q1 (f.re k1)⟩
  unfold PySem.W.kitOne
  rw [if_pos (beq_self_eq_true _)]
end
end DL
set_option Elab.async false
set_option linter.all false
set_option maxRecDepth 100000
namespace DL
open PySem PySem.Spec PyProof.Rows L2
/-! ### max, min of two texts: which object comes back -/
section
variable {prog : Program} {w : World} {A : Around} {E : Value → Shared → Prop} {s : Shared}
theorem cmpS_gt {P : Nat → Value → Prop} (val : Nat → Str) (hv : ∀ i v, P i v → ∃ t, v = .str (val i) t) : CmpOf prog w A .Gt P (fun i j => decide ((val j).cps.toList < (val i).cps.toList)) := fun i j vi vj s Q E hi hj h => by
  obtain ⟨t, rfl⟩ := hv i vi hi
  obtain ⟨u, rfl⟩ := hv j vj hj
  exact richCompare_gives (op := .Gt) (typeIs_str s _ t) (typeIs_str s _ u) F.slot_str_gt F.entry_str_gt (F.args_str_gt_2 _ _) (gives_str_gt _ _ t u) (fun x => nomatch x) h
theorem cmpS_lt {P : Nat → Value → Prop} (val : Nat → Str) (hv : ∀ i v, P i v → ∃ t, v = .str (val i) t) : CmpOf prog w A .Lt P (fun i j => decide ((val i).cps.toList < (val j).cps.toList)) := fun i j vi vj s Q E hi hj h => by
  obtain ⟨t, rfl⟩ := hv i vi hi
  obtain ⟨u, rfl⟩ := hv j vj hj
  exact richCompare_gives (op := .Lt) (typeIs_str s _ t) (typeIs_str s _ u) F.slot_str_lt F.entry_str_lt (F.args_str_lt_2 _ _) (gives_str_lt _ _ t u) (fun x => nomatch x) h
theorem two_at {a b v : Value} {bt : Nat → Nat → Bool} (h : (#[a, b] : Array Value)[argBest bt ((#[a, b] : Array Value).size - 1)]? = some v) : v = if bt 1 0 = true then b else a := by
  have e : (#[a, b] : Array Value).size - 1 = 1 := rfl
  rw [e] at h
  cases hb : bt 1 0 with
  | true =>
    have e1 : argBest bt 1 = 1 := by simp [argBest, hb]
    rw [e1] at h
    simpa using h.symm
  | false =>
    have e1 : argBest bt 1 = 0 := by simp [argBest, hb]
    rw [e1] at h
    simpa using h.symm
theorem pair_val {x y : Str} {t u : Tok} : ∀ (i : Nat) (v : Value), (#[.str x t, .str y u] : Array Value)[i]? = some v → ∃ k, v = .str (if i = 0 then x else y) k
  | 0, v, h => ⟨t, by simpa using h.symm⟩
  | 1, v, h => ⟨u, by simpa using h.symm⟩
  | i + 2, v, h => by simp at h
theorem max_strs {x y : Str} {t u : Tok} {Q : Value → Shared → Prop} (hh : A.handled = none)
    (h : ∀ h' tk, (∀ c o, s.heap.get? c = some o → h'.get? c = some o) → Q (if x.cps.toList < y.cps.toList then .str y u else .str x t) { s with heap := h', toks := tk }) :
    wpAny (model prog w) A (call (.builtin "max") [.str x t, .str y u]) Q E s := by
  have hT : (s.heap.push { cls := .type "tuple", data := .seq #[.str x t, .str y u] }).IsTuple s.heap.objs.size #[.str x t, .str y u] := ⟨_, Heap.get?_push_size _ rfl, rfl, 0, rfl⟩
  have sz : (s.heap.push { cls := .type "tuple", data := .seq #[.str x t, .str y u] }).objs.size = s.heap.objs.size + 1 := Heap.size_push ..
  refine call_max_two (wpAny_pyIter_tuple hT ?_)
  refine ⟨_, [_, s.heap.objs.size], [_], _, _, _, _, rfl, Walks.tuple (A := A.in1) hh _ s.heap.objs.size (by rw [sz]; exact Nat.ne_of_lt (Nat.lt_succ_self _)) #[.str x t, .str y u],
    ⟨⟨_, Heap.get?_push_size _ rfl, rfl, rfl⟩, hT.push _⟩, fun c hc => ?_, (by decide : 0 < 2), cmpS_gt (fun i => if i = 0 then x else y) pair_val, fun v h' tk hP hk => ?_⟩
  · show c < ((s.heap.push _).push _).objs.size
    rw [Heap.size_push, sz]
    have hc' : c = (s.heap.push { cls := .type "tuple", data := .seq #[.str x t, .str y u] }).objs.size ∨ c = s.heap.objs.size := by simpa using hc
    rcases hc' with e | e
    · rw [e, sz]; exact Nat.lt_succ_self _
    · rw [e]; exact Nat.lt_succ_of_lt (Nat.lt_succ_self _)
  · have old : ∀ c o, s.heap.get? c = some o → h'.get? c = some o := fun c o e => hk c o (fun hm => by
      have e1 : c = (s.heap.push { cls := .type "tuple", data := .seq #[.str x t, .str y u] }).objs.size := by simpa using hm
      have lt := Heap.lt_size e
      rw [e1, sz] at lt
      exact Nat.lt_irrefl _ (Nat.lt_of_succ_lt lt)) (Heap.get?_push_of_some _ (Heap.get?_push_of_some _ e))
    have q := h h' tk old
    have e := two_at (bt := fun i j => decide ((if j = 0 then x else y).cps.toList < (if i = 0 then x else y).cps.toList)) hP
    have e2 : v = if x.cps.toList < y.cps.toList then .str y u else .str x t := by
      rw [e]
      simp
    rw [e2]
    exact q
theorem min_strs {x y : Str} {t u : Tok} {Q : Value → Shared → Prop} (hh : A.handled = none)
    (h : ∀ h' tk, (∀ c o, s.heap.get? c = some o → h'.get? c = some o) → Q (if y.cps.toList < x.cps.toList then .str y u else .str x t) { s with heap := h', toks := tk }) :
    wpAny (model prog w) A (call (.builtin "min") [.str x t, .str y u]) Q E s := by
  have hT : (s.heap.push { cls := .type "tuple", data := .seq #[.str x t, .str y u] }).IsTuple s.heap.objs.size #[.str x t, .str y u] := ⟨_, Heap.get?_push_size _ rfl, rfl, 0, rfl⟩
  have sz : (s.heap.push { cls := .type "tuple", data := .seq #[.str x t, .str y u] }).objs.size = s.heap.objs.size + 1 := Heap.size_push ..
  refine call_min_two (wpAny_pyIter_tuple hT ?_)
  refine ⟨_, [_, s.heap.objs.size], [_], _, _, _, _, rfl, Walks.tuple (A := A.in1) hh _ s.heap.objs.size (by rw [sz]; exact Nat.ne_of_lt (Nat.lt_succ_self _)) #[.str x t, .str y u],
    ⟨⟨_, Heap.get?_push_size _ rfl, rfl, rfl⟩, hT.push _⟩, fun c hc => ?_, (by decide : 0 < 2), cmpS_lt (fun i => if i = 0 then x else y) pair_val, fun v h' tk hP hk => ?_⟩
  · show c < ((s.heap.push _).push _).objs.size
    rw [Heap.size_push, sz]
    have hc' : c = (s.heap.push { cls := .type "tuple", data := .seq #[.str x t, .str y u] }).objs.size ∨ c = s.heap.objs.size := by simpa using hc
    rcases hc' with e | e
    · rw [e, sz]; exact Nat.lt_succ_self _
    · rw [e]; exact Nat.lt_succ_of_lt (Nat.lt_succ_self _)
  · have old : ∀ c o, s.heap.get? c = some o → h'.get? c = some o := fun c o e => hk c o (fun hm => by
      have e1 : c = (s.heap.push { cls := .type "tuple", data := .seq #[.str x t, .str y u] }).objs.size := by simpa using hm
      have lt := Heap.lt_size e
      rw [e1, sz] at lt
      exact Nat.lt_irrefl _ (Nat.lt_of_succ_lt lt)) (Heap.get?_push_of_some _ (Heap.get?_push_of_some _ e))
    have q := h h' tk old
    have e := two_at (bt := fun i j => decide ((if i = 0 then x else y).cps.toList < (if j = 0 then x else y).cps.toList)) hP
    have e2 : v = if y.cps.toList < x.cps.toList then .str y u else .str x t := by
      rw [e]
      simp
    rw [e2]
    exact q
/-! ### text.replace(x, x), one object twice -/
open Builtin Builtin.Str
theorem gives_replace_same (x y : Str) (t u : Tok) (hu : u ≠ 0) : Gives (Builtin.«str.replace» ⟨[.str x t, .str y u, .str y u], []⟩) (.val (.str x t)) := by
  show Gives (if ((occurrences x y 0 x.length (x.length + 1)).isEmpty || (y.length == 0 && y.length == 0)) = true then (do rule "str.replace.nothing"; ret (.str x t)) else
          (do let same ← isSame (.str y u) (.str y u)
              if same = true then (do rule "str.replace.old-is-new"; ret (.str x t)) else
              if tooLong (x.length + (occurrences x y 0 x.length (x.length + 1)).length * y.length) = true then unsupported "str.replace:memory" else
              retStr (glued y (partsBetween x (occurrences x y 0 x.length (x.length + 1)) y.length)))) _
  have e : isSame (.str y u) (.str y u) = pure true := by
    show (if (u == 0 || u == 0) = true then _ else if (u == u) = true then pure true else _ : Sem Bool) = _
    have h0 : (u == 0 || u == 0) = false := by simp [hu]
    rw [h0, if_neg Bool.false_ne_true, if_pos (beq_self_eq_true u)]
  cases hc : ((occurrences x y 0 x.length (x.length + 1)).isEmpty || (y.length == 0 && y.length == 0))
  · rw [e]
    exact .rule (.of_eq rfl)
  · exact .rule (.of_eq rfl)
theorem call_replace_same {x y : Str} {t u : Tok} {Q : Value → Shared → Prop} (hu : u ≠ 0) (hq : Q (.str x t) s) : wpAny (model prog w) A (call (.builtin "str.replace") [.str x t, .str y u, .str y u]) Q E s :=
  call_gives F.slot_str_replace (typeIs_str _ _ _) F.entry_str_replace (F.args_str_replace_3 _ _ _) (gives_replace_same x y t u hu) hq
end
end DL
set_option Elab.async false
set_option linter.all false
set_option maxRecDepth 100000
namespace DL
open PySem PySem.Spec PyProof.Rows L2
section
variable {X : Cx} {pins : List (Addr × Obj)} {σ : L2.St} {H : Hp} {s : Shared} {E : Value → Shared → Prop}
/-- a local name stored; the frame's map told -/
theorem store_at {M : Model} {A : Around} {i : Nat} {x : Str} {v : V} {u : Value} {m : Str → Option Value} {Q : Unit → Shared → Prop} (I : Inv X pins σ H s) (hN : X.N.Nodup) (hi : X.N[i]? = some x) (hk : X.env.scope.names.lookup x = some .local) (r : RelV v u)
    (hn : s.heap.Ns X.env.locals m) (h : ∀ s', Inv X pins (σ.set i (some v)) H s' → s'.heap.Ns X.env.locals (fun y => if y = x then some u else m y) → s.toks ≤ s'.toks → Q () s') : wpAny M A (storeName X.env x u) Q E s := by
  obtain ⟨m0, hn0, hl⟩ := id I.loc
  obtain ⟨oL, esL, epL, hoL, hdL, hfL⟩ := id hn
  have hiσ : i < σ.length := by rw [I.len]; exact (List.getElem?_eq_some_iff.mp hi).1
  have hm0 : m0 = m := by
    obtain ⟨o2, es2, ep2, ho2, hd2, _, hf2⟩ := hn0
    rw [hoL] at ho2
    cases ho2
    rw [hdL] at hd2
    cases hd2
    exact funext fun y => (hf2 y).symm.trans (hfL.2 y)
  subst hm0
  refine wpAny_storeName_local hk hn (fun h' hn' hs => ?_) (by rw [I.ok.kind]; rfl)
  have old : ∀ b o, X.s_0.heap.get? b = some o → b ≠ X.env.locals := fun b o e => Nat.ne_of_lt (Nat.lt_of_lt_of_le (Heap.lt_size e) I.ok.above)
  have other : ∀ b, b ≠ X.env.locals → h'.get? b = s.heap.get? b := fun b hb => hs.2 b hb
  refine h { s with heap := h', toks := s.toks + 1 } ?_ hn' (Nat.le_succ _)
  refine ⟨I.ok, I.os, I.bare, ⟨?_, ?_, I.base.free, ?_, I.base.tups, I.base.frzs, I.base.tbls⟩, ⟨_, hn', ?_⟩, ?_, I.free, I.freeC, ?_, ?_, by simpa using I.len⟩
  · intro b o e n hb hx
    exact (other b (old b o e)).trans (I.base.keep b o e n hb hx)
  · intro b o e n hb hx
    obtain ⟨sl, e1⟩ := I.base.slot b o e n hb hx
    exact ⟨sl, (other b (old b o e)).trans e1⟩
  · intro b o e hx
    obtain ⟨o', e1⟩ := I.base.there b o e hx
    exact ⟨o', (other b (old b o e)).trans e1⟩
  · intro j y v' e1 e2 e3
    by_cases hj : j = i
    · subst hj
      rw [hi] at e1
      cases e1
      rw [List.getElem?_set_self hiσ] at e2
      cases e2
      exact ⟨u, r, .inl ⟨hk, by simp⟩⟩
    · rw [List.getElem?_set_ne (Ne.symm hj)] at e2
      obtain ⟨u', r', q⟩ := hl j y v' e1 e2 e3
      refine ⟨u', r', ?_⟩
      rcases q with ⟨k, e⟩ | ⟨k, c, e, z⟩
      · have ne : y ≠ x := fun e' => hj (nodup_ix hN e1 (e' ▸ hi))
        exact .inl ⟨k, by simp [ne, e]⟩
      · exact .inr ⟨k, c, e, z.sameBut hs (I.cne y c e)⟩
  · intro y c e
    obtain ⟨w', z⟩ := I.cell y c e
    exact ⟨w', z.sameBut hs (I.cne y c e)⟩
  · intro p hp
    obtain ⟨e, n, ne, nf, d⟩ := I.pin p hp
    exact ⟨(other p.1 ne).trans e, n, ne, nf, d⟩
  · intro b ob e
    refine (I.hok b ob e).stay (fun c w' hc q => (other c ?_).trans q) (fun _ q => q) fun _ _ q => q
    rintro rfl
    rcases hc with rfl | hc
    · rw [I.free] at e; cases e
    · rw [I.free] at hc; cases hc
/-- o.f, tokens alone are used -/
theorem quiet_fld {i : Nat} {x f : Str} {p pos : Pos} {a C dx : Addr} {fs : List (Str × V)} {v : V} {Q : Value → Shared → Prop} (hN : X.N[i]? = some x) (hv : Vis X.env.scope x) (I : Inv X pins σ H s) (hσ : σ[i]? = some (some (.ref a)))
    (e : H a = some (.ins C dx fs)) (c : Cls X.K C) (n : NoAttr X.K C f) (l : fs.lookup f = some v) (hb : attributeBase (.Name x p) f X.env (eval (.Name x p) X.env) = eval (.Name x p) X.env)
    (hd : (x == ("__debug__" : Str)) = false) (hcd : (x == ("__classdict__" : Str)) = false)
    (fin : ∀ u k, s.toks ≤ k → RelV v u → Q u { s with toks := k }) : wpAny (model X.prog X.w) X.A (eval (.Attribute (.Name x p) f pos) X.env) Q E s := by
  refine attr_of hb (raw_name hN hv I hσ (fun u r => ?_) hd hcd)
  have e1 : u = Value.ref a := r
  subst e1
  obtain ⟨mA, O, r2, _⟩ := ins_get I.hok e
  obtain ⟨u, hu, ru⟩ := RelO.some_of (v := v) (o := mA f) (by rw [← l]; exact r2 f)
  exact get_map I.kIn O (c.get f) c.hd n hu (handed_of ru) (fin u _ (Nat.le_succ _) ru)
/-- x[k] of a text at a written place -/
theorem quiet_sub {i : Nat} {x : Str} {k : Int} {j : Nat} {cp p1 pos : Pos} {z : Str} {c : Nat} {Q : Value → Shared → Prop} (hN : X.N[i]? = some x) (hv : Vis X.env.scope x) (I : Inv X pins σ H s) (hσ : σ[i]? = some (some (.str z)))
    (h0 : 0 ≤ k) (h63 : k < 2 ^ 63) (hk : k.toNat < z.length) (hc : z.cps[k.toNat]? = some c) (hs : PlainIx (.Constant (.int k) j cp)) (hd : (x == ("__debug__" : Str)) = false) (hcd : (x == ("__classdict__" : Str)) = false)
    (fin : ∀ t m, s.toks ≤ m → Q (.str ⟨#[c]⟩ t) { s with toks := m + 1 }) : wpAny (model X.prog X.w) X.A (eval (.Subscript (.Name x p1) (.Constant (.int k) j cp) pos) X.env) Q E s := by
  refine Subscript_ (raw_name hN hv I hσ (fun v r => ?_) hd hcd)
  obtain ⟨t, rfl⟩ := r
  refine wpAny_Constant_int ?_
  refine tail_any (typeIs_str _ z t) slot_str_getitem.lookup (P.getItem_str (c := c) ?_ ?_ (fin _ _ (Nat.le_succ _))) (hs _ _)
  · have e1 : decide (k < -(2 ^ 63 : Int)) = false := decide_eq_false (by omega)
    have e2 : decide (k ≥ 2 ^ 63) = false := decide_eq_false (by omega)
    rw [e1, e2, Bool.or_false]
  · rw [seqIndex_of h0 (by omega)]
    exact hc
/-- row[o.f.index(x[k])] -/
theorem quiet_item {ir iw it : Nat} {xr xw xt f : Str} {p1 p2 p3 p4 p5 p6 p7 p8 cp : Pos} {k : Int} {j : Nat} {r z y : Str} {c d n0 : Nat} {rest : List Nat} {a C dx : Addr} {fs : List (Str × V)} {Q : Value → Shared → Prop}
    (hNr : X.N[ir]? = some xr) (hvr : Vis X.env.scope xr) (hNw : X.N[iw]? = some xw) (hvw : Vis X.env.scope xw) (hNt : X.N[it]? = some xt) (hvt : Vis X.env.scope xt) (I : Inv X pins σ H s)
    (hr : σ[ir]? = some (some (.str r))) (hw : σ[iw]? = some (some (.ref a))) (ht : σ[it]? = some (some (.str y)))
    (e : H a = some (.ins C dx fs)) (cl : Cls X.K C) (na : NoAttr X.K C f) (l : fs.lookup f = some (.str z)) (h0 : 0 ≤ k) (h63 : k < 2 ^ 63) (hk : k.toNat < y.length) (hc : y.cps[k.toNat]? = some c)
    (ho : Builtin.Str.occurrences z ⟨#[c]⟩ 0 z.length 1 = n0 :: rest) (hl : r.length < 2 ^ 62) (hn : r.cps[n0]? = some d)
    (hb : attributeBase (.Name xw p2) f X.env (eval (.Name xw p2) X.env) = eval (.Name xw p2) X.env := by rfl)
    (hb2 : attributeBase (.Attribute (.Name xw p2) f p3) "index" X.env (eval (.Attribute (.Name xw p2) f p3) X.env) = eval (.Attribute (.Name xw p2) f p3) X.env := by rfl)
    (hfew : ((backTo p7 (starEach [.Subscript (.Name xt p5) (.Constant (.int k) j cp) p6] X.env)).all (fun x => !x.1) && (backToKw p7 (keywordEach [] X.env)).all (fun x => x.1.isSome)
      && decide (([.Subscript (.Name xt p5) (.Constant (.int k) j cp) p6] : List Expr).length + ([] : List Keyword).length + (if ([] : List Keyword).isEmpty then 0 else 1) < 30)) = true := by rfl)
    (hline : (p4.endLine == p7.line) = true := by rfl) (htr : backTo p7 (starEach [.Subscript (.Name xt p5) (.Constant (.int k) j cp) p6] X.env) = [(false, eval (.Subscript (.Name xt p5) (.Constant (.int k) j cp) p6) X.env)] := by rfl)
    (hs : PlainIx (.Constant (.int k) j cp) := by exact fun _ _ => rfl) (hs2 : PlainIx (.Call (.Attribute (.Attribute (.Name xw p2) f p3) "index" p4) [.Subscript (.Name xt p5) (.Constant (.int k) j cp) p6] [] p7) := by exact fun _ _ => rfl)
    (hdr : (xr == ("__debug__" : Str)) = false := by decide) (hcr : (xr == ("__classdict__" : Str)) = false := by decide) (hdw : (xw == ("__debug__" : Str)) = false := by decide) (hcw : (xw == ("__classdict__" : Str)) = false := by decide)
    (hdt : (xt == ("__debug__" : Str)) = false := by decide) (hct : (xt == ("__classdict__" : Str)) = false := by decide)
    (fin : ∀ t, s.toks < t → Q (.str ⟨#[d]⟩ t) { s with toks := t + 1 }) :
    wpAny (model X.prog X.w) X.A (eval (.Subscript (.Name xr p1) (.Call (.Attribute (.Attribute (.Name xw p2) f p3) "index" p4) [.Subscript (.Name xt p5) (.Constant (.int k) j cp) p6] [] p7) p8) X.env) Q E s := by
  refine Subscript_ (raw_name hNr hvr I hr (fun v rv => ?_) hdr hcr)
  obtain ⟨t0, rfl⟩ := rv
  refine wpAny_Call_method_late hb2 hfew hline htr (quiet_fld hNw hvw I hw e cl na l hb hdw hcw fun u k1 hk1 ru => ?_)
  obtain ⟨tz, rfl⟩ := ru
  refine ⟨"str", _, F.plainAttrs_str, F.slot_str_index, F.type_str_index, typeIs_str _ _ _, (fun _ e => nomatch e), Calls.callWith_builtin rfl (Calls.evalArgs_plain (Calls.spliced_cons ?_))⟩
  refine quiet_sub hNt hvt (I.tok k1) ht h0 h63 hk hc hs hdt hct fun t2 m2 hm2 => ?_
  refine Calls.spliced_nil ?_
  refine PySem.SC.index ho ?_
  have hnl : n0 < r.cps.size := (Array.getElem?_eq_some_iff.mp hn).1
  have hrl : r.length = r.cps.size := rfl
  refine tail_any (typeIs_str _ r t0) slot_str_getitem.lookup (P.getItem_str (c := d) ?_ ?_ (fin _ (by
    have h1 : k1 ≤ m2 := hm2
    show s.toks < m2 + 1 + 1
    omega))) (hs2 _ _)
  · have e1 : decide (((n0 : Nat) : Int) < -(2 ^ 63 : Int)) = false := decide_eq_false (by omega)
    have e2 : decide (((n0 : Nat) : Int) ≥ 2 ^ 63) = false := decide_eq_false (by omega)
    rw [e1, e2, Bool.or_false]
  · rw [seqIndex_of (by omega) (by omega)]
    simpa using hn
end
end DL
set_option Elab.async false
set_option linter.all false
set_option maxRecDepth 100000
namespace DL
open PySem PySem.Spec PyProof.Rows L2
section
variable {X : Cx} {pins : List (Addr × Obj)} {σ : L2.St} {H : Hp} {s : Shared} {E : Value → Shared → Prop}
/-- a plain local name whose object the frame's map tells -/
theorem map_name {x : Str} {p : Pos} {m : Str → Option Value} {u : Value} {Q : Value → Shared → Prop} (I : Inv X pins σ H s) (hn : s.heap.Ns X.env.locals m) (hm : m x = some u) (hk : X.env.scope.names.lookup x = some .local) (fin : Q u s)
    (hd : (x == ("__debug__" : Str)) = false) : wpAny (model X.prog X.w) X.A (eval (.Name x p) X.env) Q E s := wpAny_Name (wpAny_loadName_local I.ok.kind hk hn hm fin) hd
theorem ns_kept {h h' : Heap} {a : Addr} {m : Str → Option Value} (n : h.Ns a m) (k : ∀ c o, h.get? c = some o → h'.get? c = some o) : h'.Ns a m := by
  obtain ⟨o, es, ep, e, d⟩ := n
  exact ⟨o, es, ep, k _ _ e, d⟩
/-- what one, other, row hold behind: d0 and d1 the two signs -/
def swapped (r : Str) (d0 d1 : Nat) : Str := if d0 = d1 then r else Txt.replace r ⟨#[max d0 d1]⟩ ⟨#[min d0 d1]⟩
/-- one = row[web.f.index(tie[0])]; other = row[web.f.index(tie[1])]; row = row.replace(max(one, other), min(one, other)) -/
def tSwap (K : PySem.W.Frag) (C : Addr) (f : Str) (ir iw it io iu : Nat) : TS := fun D σ H => ∃ (r z y : Str) (c0 c1 d0 d1 n0 n1 : Nat) (q0 q1 : List Nat) (a dx : Addr) (fs : List (Str × V)),
  σ[ir]? = some (some (.str r)) ∧ σ[iw]? = some (some (.ref a)) ∧ σ[it]? = some (some (.str y)) ∧ H a = some (.ins C dx fs) ∧ fs.lookup f = some (.str z) ∧ y.cps[0]? = some c0 ∧ y.cps[1]? = some c1 ∧
  Builtin.Str.occurrences z ⟨#[c0]⟩ 0 z.length 1 = n0 :: q0 ∧ Builtin.Str.occurrences z ⟨#[c1]⟩ 0 z.length 1 = n1 :: q1 ∧ r.length < 1000 ∧ r.cps[n0]? = some d0 ∧ r.cps[n1]? = some d1 ∧
  D.nx (((σ.set io (some (.str ⟨#[d0]⟩))).set iu (some (.str ⟨#[d1]⟩))).set ir (some (.str (swapped r d0 d1)))) H
theorem lt_one {a b : Nat} : (([a] : List Nat) < [b]) ↔ a < b := by
  constructor
  · intro h
    cases h with
    | rel h => exact h
    | cons h => cases h
  · intro h
    exact .rel h
theorem pss_swap {C : Addr} {f xr xw xt xo xu : Str} {ir iw it io iu : Nat} {pa pb pc : Pos} {a1 a2 a3 a4 a5 a6 a7 a8 a9 ca b1 b2 b3 b4 b5 b6 b7 b8 b9 cb c1 c2 c3 c4 c5 c6 c7 c8 c9 c10 c11 : Pos} {j0 j1 : Nat}
    (cl : Cls X.K C) (na : NoAttr X.K C f) (hc : X.calm = true) (hN : X.N.Nodup) (hNr : X.N[ir]? = some xr) (hNw : X.N[iw]? = some xw) (hNt : X.N[it]? = some xt) (hNo : X.N[io]? = some xo) (hNu : X.N[iu]? = some xu)
    (lr : X.env.scope.names.lookup xr = some .local) (lw : X.env.scope.names.lookup xw = some .local) (lt : X.env.scope.names.lookup xt = some .local) (lo : X.env.scope.names.lookup xo = some .local) (lu : X.env.scope.names.lookup xu = some .local)
    (no : xo ≠ xu) (ior : io ≠ ir) (iow : io ≠ iw) (iot : io ≠ it) (iur : iu ≠ ir)
    (gmx : Gl X "max") (gmn : Gl X "min") (mmx : X.mg "max" = none) (mmn : X.mg "min" = none)
    (hdr : (xr == ("__debug__" : Str)) = false := by decide) (hcr : (xr == ("__classdict__" : Str)) = false := by decide) (hdw : (xw == ("__debug__" : Str)) = false := by decide) (hcw : (xw == ("__classdict__" : Str)) = false := by decide)
    (hdt : (xt == ("__debug__" : Str)) = false := by decide) (hct : (xt == ("__classdict__" : Str)) = false := by decide) (hdo : (xo == ("__debug__" : Str)) = false := by decide) (hdu : (xu == ("__debug__" : Str)) = false := by decide)
    (hb : attributeBase (.Name xw a2) f X.env (eval (.Name xw a2) X.env) = eval (.Name xw a2) X.env := by rfl)
    (hb2 : attributeBase (.Attribute (.Name xw a2) f a3) "index" X.env (eval (.Attribute (.Name xw a2) f a3) X.env) = eval (.Attribute (.Name xw a2) f a3) X.env := by rfl)
    (hfew : ((backTo a7 (starEach [.Subscript (.Name xt a5) (.Constant (.int 0) j0 ca) a6] X.env)).all (fun x => !x.1) && (backToKw a7 (keywordEach [] X.env)).all (fun x => x.1.isSome)
      && decide (([.Subscript (.Name xt a5) (.Constant (.int 0) j0 ca) a6] : List Expr).length + ([] : List Keyword).length + (if ([] : List Keyword).isEmpty then 0 else 1) < 30)) = true := by rfl)
    (hline : (a4.endLine == a7.line) = true := by rfl) (htr : backTo a7 (starEach [.Subscript (.Name xt a5) (.Constant (.int 0) j0 ca) a6] X.env) = [(false, eval (.Subscript (.Name xt a5) (.Constant (.int 0) j0 ca) a6) X.env)] := by rfl)
    (kb : attributeBase (.Name xw b2) f X.env (eval (.Name xw b2) X.env) = eval (.Name xw b2) X.env := by rfl)
    (kb2 : attributeBase (.Attribute (.Name xw b2) f b3) "index" X.env (eval (.Attribute (.Name xw b2) f b3) X.env) = eval (.Attribute (.Name xw b2) f b3) X.env := by rfl)
    (kfew : ((backTo b7 (starEach [.Subscript (.Name xt b5) (.Constant (.int 1) j1 cb) b6] X.env)).all (fun x => !x.1) && (backToKw b7 (keywordEach [] X.env)).all (fun x => x.1.isSome)
      && decide (([.Subscript (.Name xt b5) (.Constant (.int 1) j1 cb) b6] : List Expr).length + ([] : List Keyword).length + (if ([] : List Keyword).isEmpty then 0 else 1) < 30)) = true := by rfl)
    (kline : (b4.endLine == b7.line) = true := by rfl) (ktr : backTo b7 (starEach [.Subscript (.Name xt b5) (.Constant (.int 1) j1 cb) b6] X.env) = [(false, eval (.Subscript (.Name xt b5) (.Constant (.int 1) j1 cb) b6) X.env)] := by rfl)
    (sw1 : swapsWith (.Subscript (.Name xr a1) (.Call (.Attribute (.Attribute (.Name xw a2) f a3) "index" a4) [.Subscript (.Name xt a5) (.Constant (.int 0) j0 ca) a6] [] a7) a8) (some (.Name xo a9)) pa.line X.env = pure false := by rfl)
    (sw2 : swapsWith (.Subscript (.Name xr b1) (.Call (.Attribute (.Attribute (.Name xw b2) f b3) "index" b4) [.Subscript (.Name xt b5) (.Constant (.int 1) j1 cb) b6] [] b7) b8) (some (.Name xu b9)) pb.line X.env = pure false := by rfl)
    (lb : attributeBase (.Name xr c1) "replace" X.env (eval (.Name xr c1) X.env) = eval (.Name xr c1) X.env := by rfl) (lline : (c2.endLine == c9.line) = true := by rfl)
    (ltr : backTo c9 (starEach [.Call (.Name "max" c3) [.Name xo c4, .Name xu c5] [] c6, .Call (.Name "min" c7) [.Name xo c8, .Name xu c10] [] c11] X.env) =
      [(false, eval (.Call (.Name "max" c3) [.Name xo c4, .Name xu c5] [] c6) X.env), (false, eval (.Call (.Name "min" c7) [.Name xo c8, .Name xu c10] [] c11) X.env)] := by rfl)
    (mx : starEach [.Name xo c4, .Name xu c5] X.env = (false, eval (.Name xo c4) X.env) :: starEach [.Name xu c5] X.env := by rfl) (mx2 : (backTo c6 (starEach [.Name xu c5] X.env)).any (·.1) = false := by rfl)
    (mx3 : backTo c6 (starEach [.Name xo c4, .Name xu c5] X.env) = [(false, eval (.Name xo c4) X.env), (false, eval (.Name xu c5) X.env)] := by rfl)
    (mi : starEach [.Name xo c8, .Name xu c10] X.env = (false, eval (.Name xo c8) X.env) :: starEach [.Name xu c10] X.env := by rfl) (mi2 : (backTo c11 (starEach [.Name xu c10] X.env)).any (·.1) = false := by rfl)
    (mi3 : backTo c11 (starEach [.Name xo c8, .Name xu c10] X.env) = [(false, eval (.Name xo c8) X.env), (false, eval (.Name xu c10) X.env)] := by rfl)
    {p9 : Pos}
    (sw3 : swapsWith (.Call (.Attribute (.Name xr c1) "replace" c2) [.Call (.Name "max" c3) [.Name xo c4, .Name xu c5] [] c6, .Call (.Name "min" c7) [.Name xo c8, .Name xu c10] [] c11] [] c9) (some (.Name xr p9)) pc.line X.env = pure false := by rfl) :
    PSs X [.Assign [.Name xo a9] (.Subscript (.Name xr a1) (.Call (.Attribute (.Attribute (.Name xw a2) f a3) "index" a4) [.Subscript (.Name xt a5) (.Constant (.int 0) j0 ca) a6] [] a7) a8) pa,
      .Assign [.Name xu b9] (.Subscript (.Name xr b1) (.Call (.Attribute (.Attribute (.Name xw b2) f b3) "index" b4) [.Subscript (.Name xt b5) (.Constant (.int 1) j1 cb) b6] [] b7) b8) pb,
      .Assign [.Name xr p9] (.Call (.Attribute (.Name xr c1) "replace" c2) [.Call (.Name "max" c3) [.Name xo c4, .Name xu c5] [] c6, .Call (.Name "min" c7) [.Name xo c8, .Name xu c10] [] c11] [] c9) pc] (tSwap X.K C f ir iw it io iu) := by
  refine ⟨fun pins s σ H D I ⟨r, z, y, k0, k1, d0, d1, n0, n1, q0, q1, a, dx, fs, er, ew, et, ea, ef, e0, e1, o0, o1, hl, g0, g1, fin⟩ => ?_⟩
  have hy0 : 0 < y.length := (Array.getElem?_eq_some_iff.mp e0).1
  have hy1 : 1 < y.length := (Array.getElem?_eq_some_iff.mp e1).1
  -- one = ..
  refine wpAny_execs_cons (wpAny_Assign_Name ?_ sw1)
  refine quiet_item (k := 0) (d := d0) hNr (.inl lr) hNw (.inl lw) hNt (.inl lt) I er ew et ea cl na ef (by decide) (by decide) hy0 e0 o0 (by omega) g0 hb hb2 hfew hline htr (hdr := hdr) (hcr := hcr) (hdw := hdw) (hcw := hcw) (hdt := hdt) (hct := hct) (fin := fun t ht => ?_)
  obtain ⟨m0, hn0, _⟩ := id I.loc
  refine store_at (I.tok (t + 1)) hN hNo lo (v := .str ⟨#[d0]⟩) ⟨t, rfl⟩ hn0 fun s1 I1 N1 ht1 => ?_
  -- other = ..
  have er1 : (σ.set io (some (V.str ⟨#[d0]⟩)))[ir]? = some (some (.str r)) := by rw [List.getElem?_set_ne ior]; exact er
  have ew1 : (σ.set io (some (V.str ⟨#[d0]⟩)))[iw]? = some (some (.ref a)) := by rw [List.getElem?_set_ne iow]; exact ew
  have et1 : (σ.set io (some (V.str ⟨#[d0]⟩)))[it]? = some (some (.str y)) := by rw [List.getElem?_set_ne iot]; exact et
  refine wpAny_execs_cons (wpAny_Assign_Name ?_ sw2)
  refine quiet_item (k := 1) (d := d1) hNr (.inl lr) hNw (.inl lw) hNt (.inl lt) I1 er1 ew1 et1 ea cl na ef (by decide) (by decide) hy1 e1 o1 (by omega) g1 kb kb2 kfew kline ktr (hdr := hdr) (hcr := hcr) (hdw := hdw) (hcw := hcw) (hdt := hdt) (hct := hct) (fin := fun t2 ht2 => ?_)
  have htt : t < t2 := by
    have h1 : t + 1 ≤ s1.toks := ht1
    omega
  refine store_at (I1.tok (t2 + 1)) hN hNu lu (v := .str ⟨#[d1]⟩) ⟨t2, rfl⟩ N1 fun s2 I2 N2 ht3 => ?_
  have mo : (fun w => if w = xu then some (Value.str ⟨#[d1]⟩ t2) else (fun w => if w = xo then some (Value.str ⟨#[d0]⟩ t) else m0 w) w) xo = some (Value.str ⟨#[d0]⟩ t) := by
    show (if xo = xu then _ else if xo = xo then _ else _) = _
    rw [if_neg no, if_pos rfl]
  have mu : (fun w => if w = xu then some (Value.str ⟨#[d1]⟩ t2) else (fun w => if w = xo then some (Value.str ⟨#[d0]⟩ t) else m0 w) w) xu = some (Value.str ⟨#[d1]⟩ t2) := by
    show (if xu = xu then _ else _) = _
    rw [if_pos rfl]
  generalize (fun w => if w = xu then some (Value.str ⟨#[d1]⟩ t2) else (fun w => if w = xo then some (Value.str ⟨#[d0]⟩ t) else m0 w) w) = m2 at N2 mo mu
  have er2 : ((σ.set io (some (V.str ⟨#[d0]⟩))).set iu (some (V.str ⟨#[d1]⟩)))[ir]? = some (some (.str r)) := by rw [List.getElem?_set_ne iur]; exact er1
  -- row = row.replace(max(one, other), min(one, other))
  refine wpAny_execs_cons (wpAny_Assign_Name ?_ sw3)
  refine wpAny_Call_method2_late lb lline ltr (raw_name hNr (.inl lr) I2 er2 (fun u ru => ?_) hdr hcr)
  obtain ⟨t0, rfl⟩ := ru
  refine ⟨"str", _, F.plainAttrs_str, F.slot_str_replace, F.type_str_replace, typeIs_str _ _ _, (fun _ e => nomatch e), Calls.callWith_builtin rfl (Calls.evalArgs_plain (Calls.spliced_cons ?_))⟩
  refine wpAny_Call_Name_kw (ld_blt (u := .builtin "max") I2 gmx mmx (by decide +kernel) (PyProof.Rows.callWith_builtin1 ?_ mx mx2) (by decide) (by decide))
  rw [mx3]
  refine Calls.spliced_cons (map_name I2 N2 mo lo (Calls.spliced_cons (map_name I2 N2 mu lu (Calls.spliced_nil ?_) hdu)) hdo)
  refine max_strs (I2.ok.hd hc) fun h3 tk3 kp3 => ?_
  have I3 : Inv X pins _ H { s2 with heap := h3, toks := tk3 } := I2.kept kp3
  have N3 := ns_kept N2 kp3
  refine Calls.spliced_cons ?_
  refine wpAny_Call_Name_kw (ld_blt (u := .builtin "min") I3 gmn mmn (by decide +kernel) (PyProof.Rows.callWith_builtin1 ?_ mi mi2) (by decide) (by decide))
  rw [mi3]
  refine Calls.spliced_cons (map_name I3 N3 mo lo (Calls.spliced_cons (map_name I3 N3 mu lu (Calls.spliced_nil ?_) hdu)) hdo)
  refine min_strs (I3.ok.hd hc) fun h4 tk4 kp4 => ?_
  have I4 : Inv X pins _ H { s2 with heap := h4, toks := tk4 } := I3.kept kp4
  refine Calls.spliced_nil ?_
  have tn : t ≠ 0 := Nat.ne_of_gt (Nat.lt_of_le_of_lt (Nat.zero_le _) ht)
  have tn2 : t2 ≠ 0 := Nat.ne_of_gt (Nat.lt_of_le_of_lt (Nat.zero_le _) ht2)
  have tne : t ≠ t2 := Nat.ne_of_lt htt
  -- the end, whatever text comes back
  have last : ∀ (t' : Tok) (k : Nat), wpAny (model X.prog X.w) X.A (storeName X.env xr (.str (swapped r d0 d1) t')) (fun _ s' => wpAny (model X.prog X.w) X.A (execs [] X.env) (SP X pins D) X.xe s') X.xe { s2 with heap := h4, toks := k } := fun t' k => by
    refine store_ok (v := .str (swapped r d0 d1)) (I4.tok k) hN hNr (.inl lr) ⟨t', rfl⟩ (fun s5 I5 => wpAny_execs_nil ⟨_, H, I5, fin⟩) (.inr lr)
  have c1 : (⟨#[d0]⟩ : Str).cps.toList < (⟨#[d1]⟩ : Str).cps.toList ↔ d0 < d1 := lt_one
  have c2 : (⟨#[d1]⟩ : Str).cps.toList < (⟨#[d0]⟩ : Str).cps.toList ↔ d1 < d0 := lt_one
  by_cases eq : d0 = d1
  · subst eq
    rw [if_neg (fun h => Nat.lt_irrefl _ (c1.mp h))]
    have es : swapped r d0 d0 = r := if_pos rfl
    have l2 := last t0 tk4
    rw [es] at l2
    exact call_replace_same tn l2
  · have hz : r.length + (r.length + 1) * (⟨#[min d0 d1]⟩ : Str).length ≤ 16777216 := by
      have e1 : (⟨#[min d0 d1]⟩ : Str).length = 1 := rfl
      rw [e1]
      omega
    have es : swapped r d0 d1 = Txt.replace r ⟨#[max d0 d1]⟩ ⟨#[min d0 d1]⟩ := if_neg eq
    rw [es] at last
    have hne : ∀ x y : Nat, x ≠ y → ((⟨#[x]⟩ : Str) == ⟨#[y]⟩) = false := fun x y h => by
      rw [beq_eq_false_iff_ne]
      intro e
      exact h (by simpa using e)
    rcases Nat.lt_or_gt_of_ne eq with h | h
    · have e1 : max d0 d1 = d1 := Nat.max_eq_right (Nat.le_of_lt h)
      have e2 : min d0 d1 = d0 := Nat.min_eq_left (Nat.le_of_lt h)
      rw [e1, e2] at last
      rw [e2] at hz
      rw [if_pos (c1.mpr h), if_neg (fun q => Nat.lt_asymm h (c2.mp q))]
      exact PySem.SC.replace tn2 tn (Ne.symm tne) (hne _ _ (by omega)) hz fun t' k => last t' k
    · have e1 : max d0 d1 = d0 := Nat.max_eq_left (Nat.le_of_lt h)
      have e2 : min d0 d1 = d1 := Nat.min_eq_right (Nat.le_of_lt h)
      rw [e1, e2] at last
      rw [e2] at hz
      rw [if_neg (fun q => Nat.lt_asymm h (c1.mp q)), if_pos (c2.mpr h)]
      exact PySem.SC.replace tn tn2 tne (hne _ _ (by omega)) hz fun t' k => last t' k
end
end DL
set_option Elab.async false
set_option linter.all false
set_option maxRecDepth 100000
namespace DL
open PySem PySem.Spec PyProof.Rows L2
section
variable {X : Cx}
/-- one = row[web.f.index(tie[0])]; other = row[web.f.index(tie[1])]; row = row.replace(max(one, other), min(one, other)) -/
def gSwap (C : Addr) (f : Str) (ir iw it io iu : Nat) : GS := fun F δ μ => ∃ (r z y : Str) (c0 c1 d0 d1 n0 n1 : Nat) (q0 q1 : List Nat) (fs : List (Str × D)),
  δ[ir]? = some (some (.str r)) ∧ δ[iw]? = some (some (.ins C fs)) ∧ δ[it]? = some (some (.str y)) ∧ fs.lookup f = some (.str z) ∧ y.cps[0]? = some c0 ∧ y.cps[1]? = some c1 ∧
  Builtin.Str.occurrences z ⟨#[c0]⟩ 0 z.length 1 = n0 :: q0 ∧ Builtin.Str.occurrences z ⟨#[c1]⟩ 0 z.length 1 = n1 :: q1 ∧ r.length < 1000 ∧ r.cps[n0]? = some d0 ∧ r.cps[n1]? = some d1 ∧
  F.nx (((δ.set io (some (.str ⟨#[d0]⟩))).set iu (some (.str ⟨#[d1]⟩))).set ir (some (.str (swapped r d0 d1)))) μ
theorem sim_swap {K : PySem.W.Frag} {C : Addr} {f : Str} {ir iw it io iu : Nat} : SimS K (tSwap K C f ir iw it io iu) (gSwap C f ir iw it io iu) := by
  intro σ H δ μ E F rm rs e ⟨r, z, y, c0, c1, d0, d1, n0, n1, q0, q1, fs, er, ew, et, ef, e0, e1, o0, o1, hl, g0, g1, fin⟩
  obtain ⟨v1, s1, r1⟩ := rs.get er
  unfold Rep at r1
  subst r1
  obtain ⟨v2, s2, r2⟩ := rs.get ew
  unfold Rep at r2
  obtain ⟨a, dx, fv, rfl, h2, n2, rf⟩ := r2
  obtain ⟨v3, s3, r3⟩ := rs.get et
  unfold Rep at r3
  subst r3
  obtain ⟨v4, s4, r4⟩ := rf.look ef
  unfold Rep at r4
  subst r4
  exact ⟨r, z, y, c0, c1, d0, d1, n0, n1, q0, q1, a, dx, fv, s1, s2, s3, h2, s4, e0, e1, o0, o1, hl, g0, g1,
    e.nx _ H _ μ (Kp.refl _ _) rm (((rs.set io (by unfold Rep; rfl)).set iu (by unfold Rep; rfl)).set ir (by unfold Rep; rfl)) fin⟩
end
end DL
set_option Elab.async false
set_option linter.all false
set_option maxRecDepth 100000
namespace DL
open PySem PySem.Spec PyProof.Rows L2
/-! ### zip of two texts -/
def ItZS (x y : Str) : It :=
  ⟨fun i H => i < x.cps.size ∧ i < y.cps.size,
    fun i H v H' => ∃ T c d, v = .ref T ∧ H T = none ∧ H' = upd H T (.tup [.str ⟨#[c]⟩, .str ⟨#[d]⟩]) ∧ x.cps[i]? = some c ∧ y.cps[i]? = some d,
    fun i H => i ≤ x.cps.size ∧ i ≤ y.cps.size ∧ (i = x.cps.size ∨ i = y.cps.size)⟩
theorem turn_zipS {P : Program} {w : World} {K : PySem.W.Frag} {elts : List Expr} {kk : Nat} {tpos : Pos} {x y : Str} {tx ty : Tok} {z TI TO i1 i2 : Addr} (D : ZipSep2 z TI TO i1 i2 [i1] [i2]) :
    Turn P w K (.Tuple elts kk tpos) (ItZS x y) [z, TI, TO, i1, i2] z (fun i h => IsZip h z TI TO .none ∧ IsTupOf2 h TI (.ref i1) (.ref i2) ∧ (∃ a b, IsTupOf2 h TO a b) ∧ h.IsStrIter i1 (strIterType x) x tx i ∧ h.IsStrIter i2 (strIterType y) y ty i) where
  mem := by simp
  obj := fun i h st c hc => by
    obtain ⟨hz, hTI, ⟨x, y, hTO⟩, ⟨o1, e1, _, d1⟩, ⟨o2, e2, _, d2⟩⟩ := st
    have e' : c = z ∨ c = TI ∨ c = TO ∨ c = i1 ∨ c = i2 := by simpa using hc
    rcases e' with q | q | q | q | q
    · rw [q]; exact ⟨_, hz, fun v q => nomatch q⟩
    · rw [q]; exact ⟨_, hTI, fun v q => nomatch q⟩
    · rw [q]; exact ⟨_, hTO, fun v q => nomatch q⟩
    · rw [q]; exact ⟨o1, e1, fun v q => by rw [d1] at q; cases q⟩
    · rw [q]; exact ⟨o2, e2, fun v q => by rw [d2] at q; cases q⟩
  keep := fun i h h' st k => by
    obtain ⟨hz, hTI, ⟨x, y, hTO⟩, ⟨o1, e1, r1⟩, ⟨o2, e2, r2⟩⟩ := st
    exact ⟨k z (by simp) _ hz, k TI (by simp) _ hTI, ⟨x, y, k TO (by simp) _ hTO⟩, ⟨o1, k i1 (by simp) o1 e1, r1⟩, ⟨o2, k i2 (by simp) o2 e2, r2⟩⟩
  item := by
    intro X hP hw hK hc i pins s σ H E I hf st hg
    subst hP hw hK
    obtain ⟨hz, hTI, ⟨x0, y0, hTO⟩, h1, h2⟩ := st
    have hzl : z < s.heap.objs.size := Heap.lt_size hz
    have hh : X.A.in1.handled = none := I.ok.hd hc
    refine wpAny_pyNext_zipD2_item D (Draws.text hh i1 x tx) (Draws.text hh i2 y ty) hz hTI hTO h1 h2 hg.1 hg.2 fun u1 u2 h' tk p1 p2 z' TO' h1' h2' hT hsz hk => ?_
    obtain ⟨c, t1, ec, rfl⟩ := p1
    obtain ⟨d, t2, ed, rfl⟩ := p2
    refine ⟨_, rfl, wpAny_letOwnedTupleGo_zip (s := { s with heap := h', toks := tk }) z' fun h'' z'' sb => ?_⟩
    have hT2 : h''.get? s.heap.objs.size = some { cls := .type "tuple", data := .seq #[.str ⟨#[c]⟩ t1, .str ⟨#[d]⟩ t2] } := (sb.2 _ (Nat.ne_of_gt hzl)).trans hT
    have new : ObjOk X.prog X.w (upd H s.heap.objs.size (.tup [.str ⟨#[c]⟩, .str ⟨#[d]⟩])) h'' s.heap.objs.size (.tup [.str ⟨#[c]⟩, .str ⟨#[d]⟩]) :=
      ⟨by show 2 ≤ sizeLine; decide, [.str ⟨#[c]⟩ t1, .str ⟨#[d]⟩ t2], .cons ⟨t1, rfl⟩ (.cons ⟨t2, rfl⟩ .nil), ⟨_, hT2, rfl, _, rfl⟩⟩
    have I1 : Inv X pins σ (upd H s.heap.objs.size (.tup [.str ⟨#[c]⟩, .str ⟨#[d]⟩])) { s with heap := h'', toks := tk } :=
      I.turnedNew (t' := tk) (ch := [z, TI, TO, i1, i2]) (fun c o hb q => (sb.2 c (fun q' => hb (by simp [q']))).trans (hk c o (fun q' => hb (by simp [q'])) (fun q' => hb (by simp [q'])) (fun q' => hb (by simp [q'])) (fun q' => hb (by simp [q'])) q)) hf (Nat.le_refl _) new
    refine ⟨.ref s.heap.objs.size, _, I1, rfl, ⟨_, c, d, rfl, I.hok.fresh (Nat.le_refl _), rfl, ec, ed⟩, ⟨z'', ?_, ⟨.str ⟨#[c]⟩ t1, .str ⟨#[d]⟩ t2, ?_⟩, ?_, ?_⟩, fun c hcm => ?_⟩
    · exact (sb.2 _ D.TIz).trans (hk _ _ D.TIz D.TITO D.TIi1 D.TIi2 hTI)
    · exact (sb.2 _ D.TOz).trans TO'
    · obtain ⟨o1, e1, r1⟩ := h1'
      exact ⟨o1, (sb.2 _ (Ne.symm D.zi1)).trans e1, r1⟩
    · obtain ⟨o2, e2, r2⟩ := h2'
      exact ⟨o2, (sb.2 _ (Ne.symm D.zi2)).trans e2, r2⟩
    · have hlt : c < s.heap.objs.size := by
        have e' : c = z ∨ c = TI ∨ c = TO ∨ c = i1 ∨ c = i2 := by simpa using hcm
        rcases e' with q | q | q | q | q
        · rw [q]; exact hzl
        · rw [q]; exact Heap.lt_size hTI
        · rw [q]; exact Heap.lt_size hTO
        · rw [q]; obtain ⟨_, e1, _⟩ := h1; exact Heap.lt_size e1
        · rw [q]; obtain ⟨_, e2, _⟩ := h2; exact Heap.lt_size e2
      rw [upd_ne (Nat.ne_of_lt hlt)]
      exact (hf c hcm).1
  done := by
    intro X hP hw hK hc i pins s σ H E I hf st hg
    subst hP hw hK
    obtain ⟨hz, hTI, ⟨x0, y0, hTO⟩, h1, h2⟩ := st
    have hh : X.A.in1.handled = none := I.ok.hd hc
    exact wpAny_pyNext_zipD2_end D (Draws.text hh i1 x tx) (Draws.text hh i2 y ty) hz hTI hTO h1 h2 hg.1 hg.2.1 hg.2.2 fun h' tk hk => ⟨rfl, I.turnedL (t' := tk) (ch := [z, TI, TO, i1, i2]) (fun c o hb q =>
      hk c o (fun q' => hb (by simp [q'])) (fun q' => hb (by simp [q'])) (fun q' => hb (by simp [q'])) (fun q' => hb (by simp [q'])) q) hf⟩
  self := fun A i s Q E st h => wpAny_pyIter_zip st.1 h
def iZipS (ta : TA) : TI := fun σ H R => ta σ H fun vs H1 => ∃ x y, vs = [.str x, .str y] ∧ R (ItZS x y) H1
theorem pi_zipS {X : Cx} {e e2 : Expr} {ta : TA} {p pos tpos : Pos} {elts : List Expr} {kk : Nat} (hg : Gl X "zip") (hm : X.mg "zip" = none) (ha : PA X [e, e2] ta)
    (hs : starEach [e, e2] X.env = (false, eval e X.env) :: starEach [e2] X.env := by rfl) (hpl : (backTo pos (starEach [e2] X.env)).any (·.1) = false := by rfl) :
    PI X (.Tuple elts kk tpos) (.Call (.Name "zip" p) [e, e2] [] pos) (iZipS ta) := by
  refine ⟨fun pins s σ H R I h => ?_⟩
  refine Call_ (ld_blt I hg hm PyProof.Rows.boot_zip (PyProof.Rows.callWith_type1 (thn (ha.run pos pins s σ H _ I h) fun us s1 ⟨vs, H1, I1, r1, q1⟩ => ?_) hs hpl))
  obtain ⟨x, y, ex, q1⟩ := q1
  subst ex
  cases r1 with
  | cons r rr =>
    cases rr with
    | cons r' rr =>
      cases rr
      obtain ⟨tx, rfl⟩ := r
      obtain ⟨ty, rfl⟩ := r'
      have fresh5 : ∀ c, c ∈ [s1.heap.objs.size + 4, s1.heap.objs.size + 2, s1.heap.objs.size + 3, s1.heap.objs.size, s1.heap.objs.size + 1] → FpOk X pins H1 c := fun c hcm => by
        have e' : c = s1.heap.objs.size + 4 ∨ c = s1.heap.objs.size + 2 ∨ c = s1.heap.objs.size + 3 ∨ c = s1.heap.objs.size ∨ c = s1.heap.objs.size + 1 := by simpa using hcm
        have hle : s1.heap.objs.size ≤ c := by
          rcases e' with z | z | z | z | z
          · rw [z]; exact Nat.le_add_right _ _
          · rw [z]; exact Nat.le_add_right _ _
          · rw [z]; exact Nat.le_add_right _ _
          · rw [z]; exact Nat.le_refl _
          · rw [z]; exact Nat.le_add_right _ _
        exact I1.fpOk hle (I1.hok.fresh hle)
      refine zip_begins2 (begins_text x tx) (begins_text y ty) trivial trivial fun h' hz hTI hTO g1 g2 hsz hk => wpAny_pyIter_zip hz ?_
      have I2 : Inv X pins σ H1 { s1 with heap := h' } := I1.kept (t' := s1.toks) hk
      exact ⟨s1.heap.objs.size + 4, [s1.heap.objs.size + 4, s1.heap.objs.size + 2, s1.heap.objs.size + 3, s1.heap.objs.size, s1.heap.objs.size + 1], _, _, H1, rfl, I2,
        turn_zipS (x := x) (y := y) (tx := tx) (ty := ty) (zip_sep2 (fun _ h => by cases h) (fun _ h => by cases h)), ⟨hz, hTI, ⟨_, _, hTO⟩, ⟨_, g1, rfl, rfl⟩, ⟨_, g2, rfl, rfl⟩⟩, fresh5, q1⟩
/-- the pairs of zip -/
def pairsS (x y : Str) : List D := List.zipWith (fun c d => D.tup [.str ⟨#[c]⟩, .str ⟨#[d]⟩]) x.cps.toList y.cps.toList
def gZipS (ga : GA) : GI := fun δ μ R => ga δ μ fun ds μ1 => match ds with
  | [.str x, .str y] => R (pairsS x y) μ1
  | _ => False
theorem walk_zipS {x y : Str} : Walk (ItZS x y) (pairsS x y).length (fun _ => True) (fun i H v H' => ∃ T c d, v = .ref T ∧ H T = none ∧ H' = upd H T (.tup [.str ⟨#[c]⟩, .str ⟨#[d]⟩]) ∧ x.cps[i]? = some c ∧ y.cps[i]? = some d) := by
  have hl : (pairsS x y).length = min x.cps.size y.cps.size := by simp [pairsS]
  refine ⟨fun i _ hi _ => ?_, fun _ _ => ?_, fun _ _ _ _ _ _ q => q⟩
  · rw [hl] at hi
    exact ⟨by omega, by omega⟩
  · rw [hl]
    exact ⟨by omega, by omega, by omega⟩
section
variable {X : Cx} {e e2 : Expr} {ga : GA}
theorem di_zipS {p pos tpos : Pos} {elts : List Expr} {kk : Nat} (hg : Gl X "zip") (hm : X.mg "zip" = none) (h : DA X [e, e2] ga)
    (hs : starEach [e, e2] X.env = (false, eval e X.env) :: starEach [e2] X.env := by rfl) (hpl : (backTo pos (starEach [e2] X.env)).any (·.1) = false := by rfl) :
    DI X (.Tuple elts kk tpos) (.Call (.Name "zip" p) [e, e2] [] pos) (gZipS ga) := by
  obtain ⟨t, a1, a2⟩ := h.ex
  refine ⟨_, pi_zipS hg hm a1 hs hpl, fun σ H δ μ Q R rm rs q f => ?_⟩
  refine a2 σ H δ μ _ _ rm rs q fun vs ds H1 μ1 k1 rm1 r1 q1 => ?_
  match ds, q1, r1 with
  | [.str x, .str y], q1, r1 =>
    obtain ⟨v, w, rfl, r2, r3⟩ := repL2 r1
    unfold Rep at r2 r3
    subst r2 r3
    refine ⟨x, y, rfl, f _ (pairsS x y) H1 μ1 k1 rm1 ?_ q1⟩
    refine walk_zipS.mono (fun _ _ => True.intro) fun i H' v H2 hi _ ⟨T, c, d, ev, nT, e2, ec, ed⟩ μ' k rm => ?_
    subst ev e2
    have nm : μ' T = none := rm.free nT
    have k2 : Kp H' μ' (upd H' T (.tup [.str ⟨#[c]⟩, .str ⟨#[d]⟩])) μ' := Kp.new nT
    refine ⟨.tup [.str ⟨#[c]⟩, .str ⟨#[d]⟩], ?_, ?_, k2, rm.laid nT⟩
    · unfold pairsS
      rw [List.getElem?_zipWith, Array.getElem?_toList, Array.getElem?_toList, ec, ed]
    · unfold Rep
      exact ⟨T, _, rfl, .inl ⟨upd_same, nm⟩, by unfold RepL; exact ⟨_, _, rfl, by unfold Rep; rfl, by unfold RepL; exact ⟨_, _, rfl, by unfold Rep; rfl, RepL.nil⟩⟩⟩
end
end DL
set_option Elab.async false
set_option linter.all false
set_option maxRecDepth 100000
namespace DL
open PySem PySem.Spec PyProof.Rows L2
/-! ### enumerate of a tuple -/
set_option maxHeartbeats 1000000 in
theorem enum_new1 {v : Value} {o : Obj} {H : Heap → Prop} (B : Begins v o H) :
    Meets (Builtin.«enumerate.__new__» ⟨[.type "enumerate", v], []⟩) (fun _ R s => H s.heap ∧
      R (.ok (.ret (.ref (s.heap.push o).objs.size))) { s with heap := (s.heap.push o).push { cls := .type "enumerate", data := .fields #[.none, .bool false, .ref s.heap.objs.size, rawInt 0, .none, .none] } }) :=
  .of_wp fun prog w A R s h => by
    obtain ⟨hp, g, d, tk, os⟩ := s; obtain ⟨h1, h⟩ := h
    have hsub := sub_enumerate
    have q1 : ∀ {A' : Around} {E : Value → Shared → Prop} {Q : Value → Shared → Prop}, Q (.ref hp.objs.size) ⟨hp.push o, g, d, tk, os⟩ → wpAny (model prog w) A' (pyIter v) Q E ⟨hp, g, d, tk, os⟩ :=
      fun q => B.iter prog w _ _ ⟨hp, g, d, tk, os⟩ _ h1 q
    wp_walk using q1
    refine wpAny_stack_any fun st => wpAny_pure ?_
    split
    · rename_i c _ _ _ _ _
      cases (c == Value.type "enumerate")
      · wp_walk using q1
        exact ⟨_, rfl, h⟩
      · wp_walk using q1
        exact ⟨_, rfl, h⟩
    · wp_walk using q1
      exact ⟨_, rfl, h⟩
theorem enum_begins1 {prog : Program} {w : World} {A : Around} {E : Value → Shared → Prop} {s : Shared} {v : Value} {o : Obj} {H : Heap → Prop} {Q : Value → Shared → Prop} (B : Begins v o H) (h1 : H s.heap)
    (h : ∀ h', IsEnum h' (s.heap.objs.size + 1) s.heap.objs.size 0 .none → h'.get? s.heap.objs.size = some o → h'.objs.size = s.heap.objs.size + 2 →
      (∀ b o, s.heap.get? b = some o → h'.get? b = some o) → Q (.ref (s.heap.objs.size + 1)) { s with heap := h' }) :
    wpAny (model prog w) A (call (.type "enumerate") [v]) Q E s := by
  refine callType_new F.called_enumerate (by decide) (F.typeCall_enumerate_1 _) (F.newCall_enumerate_1 _) (fun obj => F.args_object_init_2 obj _) F.entry_enumerate_new
    (enum_new1 B) ⟨h1, ?_⟩
  have hz : (s.heap.push o).objs.size = s.heap.objs.size + 1 := Heap.size_push ..
  show _ ∧ _
  rw [hz]
  have he : IsEnum ((s.heap.push o).push { cls := .type "enumerate", data := .fields #[.none, .bool false, .ref s.heap.objs.size, rawInt 0, .none, .none] }) (s.heap.objs.size + 1) s.heap.objs.size 0 .none := by
    have := Heap.get?_push_size (s.heap.push o) (o := { cls := .type "enumerate", data := .fields #[.none, .bool false, .ref s.heap.objs.size, rawInt 0, .none, .none] }) rfl
    rw [hz] at this; exact this
  exact ⟨⟨_, he, rfl⟩, h _ he (Heap.get?_push_of_some _ (Heap.get?_push_size _ B.free)) (by rw [Heap.size_push, hz]) fun b o x => Heap.get?_push_of_some _ (Heap.get?_push_of_some _ x)⟩
def IteT (K : PySem.W.Frag) (a : Addr) : It :=
  ⟨fun i H => ∃ (xs : List V) (x : V), SqT K H a xs ∧ xs[i]? = some x, fun i H v H' => ∃ T x, v = .ref T ∧ H T = none ∧ H' = upd H T (.tup [.int (i : Nat), x]) ∧ ∀ xs, SqT K H a xs → xs[i]? = some x, fun i H => ∃ xs : List V, SqT K H a xs ∧ xs.length = i⟩
theorem turn_enumT {P : Program} {w : World} {K : PySem.W.Frag} {elts : List Expr} {kk : Nat} {tpos : Pos} (a e it : Addr) :
    Turn P w K (.Tuple elts kk tpos) (IteT K a) [e, it] e (fun i h => (∃ old, IsEnum h e it ((i : Nat) : Int) old) ∧ h.IsTupleIter it a i ∧ e ≠ it ∧ a ≠ it ∧ e ≠ a) where
  mem := by simp
  obj := fun i h st b hb => by
    obtain ⟨⟨old, he⟩, ⟨o, ho, hc, hd⟩, _⟩ := st
    have e' : b = e ∨ b = it := by simpa using hb
    rcases e' with z | z
    · rw [z]; exact ⟨_, he, fun v q => nomatch q⟩
    · rw [z]; exact ⟨o, ho, fun v q => by rw [hd] at q; cases q⟩
  keep := fun i h h' st k => let ⟨⟨old, he⟩, hi, hne⟩ := st; ⟨⟨old, k e (by simp) _ he⟩, hi.at fun o q => k it (by simp) o q, hne⟩
  item := by
    intro X hP hw hK hc i pins s σ H E I hf st hg
    subst hP hw hK
    obtain ⟨⟨old, he⟩, hit, hne, hai, hea⟩ := st
    obtain ⟨xs, x, hq, hx⟩ := hg
    obtain ⟨its, rv, p, hz⟩ := I.tuple hq
    obtain ⟨u, hu, ru⟩ := rv.get hx
    have hel : e < s.heap.objs.size := Heap.lt_size he
    have hil : it < s.heap.objs.size := by obtain ⟨_, q, _⟩ := hit; exact Heap.lt_size q
    have hh : X.A.in1.handled = none := I.ok.hd hc
    have hl : i < its.toArray.size := by simpa using (List.getElem?_eq_some_iff.mp hu).1
    refine wpAny_pyNext_enum_itemD (Draws.tuple hh it a hai its.toArray) he ⟨hit, p⟩ hl hne (by simp [hne, hea]) fun u2 h' tk pu ho hit' hT hsz hk => ?_
    have eu : u2 = u := by
      have : its.toArray[i]? = some u2 := pu
      rw [List.getElem?_toArray, hu] at this
      exact (Option.some.inj this).symm
    subst eu
    refine ⟨_, rfl, wpAny_letOwnedTupleGo_enum (s := { s with heap := h', toks := tk + 1 }) ho fun h'' he' sb => ?_⟩
    have hT2 : h''.get? s.heap.objs.size = some { cls := .type "tuple", data := .seq #[.int i tk, u2] } := (sb.2 _ (Nat.ne_of_gt hel)).trans hT
    have new : ObjOk X.prog X.w (upd H s.heap.objs.size (.tup [.int (i : Nat), x])) h'' s.heap.objs.size (.tup [.int (i : Nat), x]) :=
      ⟨by show 2 ≤ sizeLine; decide, [.int i tk, u2], .cons ⟨_, rfl⟩ (.cons ru .nil), ⟨_, hT2, rfl, _, rfl⟩⟩
    have I1 : Inv X pins σ (upd H s.heap.objs.size (.tup [.int (i : Nat), x])) { s with heap := h'', toks := tk + 1 } :=
      I.turnedNew (ch := [e, it]) (fun b ob hb q => (sb.2 b (fun z => hb (by simp [z]))).trans (hk b ob (fun z => hb (by simp [z])) (fun z => hb (by simp [z])) q)) hf (Nat.le_refl _) new
    refine ⟨.ref s.heap.objs.size, _, I1, rfl, ⟨_, x, rfl, I.hok.fresh (Nat.le_refl _), rfl, fun ys hy => by rw [I.tuple_inj hy hq]; exact hx⟩, ⟨⟨u2, ?_⟩, hit'.1.at fun o q => (sb.2 it (Ne.symm hne)).trans q, hne, hai, hea⟩, fun b hb => ?_⟩
    · have e1 : ((i + 1 : Nat) : Int) = (i : Int) + 1 := by omega
      rw [e1]; exact he'
    · have hb' : b < s.heap.objs.size := by
        have e' : b = e ∨ b = it := by simpa using hb
        rcases e' with z | z
        · rw [z]; exact hel
        · rw [z]; exact hil
      rw [upd_ne (Nat.ne_of_lt hb')]
      exact (hf b hb).1
  done := by
    intro X hP hw hK hc i pins s σ H E I hf st hg
    subst hP hw hK
    obtain ⟨⟨old, he⟩, hit, hne, hai, hea⟩ := st
    obtain ⟨xs, hq, hx⟩ := hg
    obtain ⟨its, rv, p, hz⟩ := I.tuple hq
    obtain ⟨f0, f1, f2, f3, f4, f5⟩ := hf it (by simp)
    have hl : i = its.toArray.size := by
      have := rv.length
      simp; omega
    subst hl
    have hh : X.A.in1.handled = none := I.ok.hd hc
    exact wpAny_pyNext_enum_endD (Draws.tuple hh it a hai its.toArray) he ⟨hit, p⟩ fun h' eb => ⟨rfl, I.turned (t' := s.toks) (fun b o hb q => eb b o hb q) f0 f1 f3 f4 f5⟩
  self := fun A i s Q E st h => let ⟨⟨_, he⟩, _⟩ := st; wpAny_pyIter_enum he h
def iEnumT (K : PySem.W.Frag) (ta : TA) : TI := fun σ H R => ta σ H fun vs H1 => ∃ a xs, vs = [.ref a] ∧ SqT K H1 a xs ∧ R (IteT K a) H1
theorem pi_enumT {X : Cx} {e : Expr} {ta : TA} {p pos tpos : Pos} {elts : List Expr} {kk : Nat} (hg : Gl X "enumerate") (hm : X.mg "enumerate" = none) (ha : PA X [e] ta) (hs : starEach [e] X.env = [(false, eval e X.env)] := by rfl) :
    PI X (.Tuple elts kk tpos) (.Call (.Name "enumerate" p) [e] [] pos) (iEnumT X.K ta) := by
  refine ⟨fun pins s σ H R I h => ?_⟩
  refine Call_ (ld_blt I hg hm boot_enumerate (PyProof.Rows.callWith_type1 (thn (ha.run pos pins s σ H _ I h) fun us s1 ⟨vs, H1, I1, r1, q1⟩ => ?_) hs rfl))
  obtain ⟨a, xs, ex, hq, q⟩ := q1
  subst ex
  cases r1 with
  | cons r rr =>
    cases rr
    cases r
    obtain ⟨its, rv, p', hz⟩ := I1.tuple hq
    have hal : a < s1.heap.objs.size := by obtain ⟨_, z, _⟩ := id p'; exact Heap.lt_size z
    refine enum_begins1 (begins_tuple a its.toArray) p' fun h' he hit hsz hk => wpAny_pyIter_enum he ?_
    have I2 : Inv X pins σ H1 { s1 with heap := h' } := I1.kept (t' := s1.toks) hk
    refine ⟨s1.heap.objs.size + 1, [s1.heap.objs.size + 1, s1.heap.objs.size], _, _, H1, rfl, I2, turn_enumT a (s1.heap.objs.size + 1) s1.heap.objs.size, ⟨⟨.none, he⟩, ⟨_, hit, rfl, rfl⟩, Nat.succ_ne_self _, Nat.ne_of_lt hal, Nat.ne_of_gt (Nat.lt_succ_of_lt hal)⟩, fun b hb => ?_, q⟩
    have e' : b = s1.heap.objs.size + 1 ∨ b = s1.heap.objs.size := by simpa using hb
    have hle : s1.heap.objs.size ≤ b := by
      rcases e' with z | z
      · rw [z]; exact Nat.le_add_right _ _
      · rw [z]; exact Nat.le_refl _
    exact I1.fpOk hle (I1.hok.fresh hle)
/-- i, x of enumerate -/
def numbered (ds : List D) : List D := ds.mapIdx fun i d => D.tup [.int (i : Nat), d]
def gEnumT (ga : GA) : GI := fun δ μ R => ga δ μ fun ds μ1 => match ds with
  | [.tup xs] => R (numbered xs) μ1
  | _ => False
section
variable {X : Cx} {e : Expr} {ga : GA}
theorem di_enumT {p pos tpos : Pos} {elts : List Expr} {kk : Nat} (hg : Gl X "enumerate") (hm : X.mg "enumerate" = none) (h : DA X [e] ga) (hs : starEach [e] X.env = [(false, eval e X.env)] := by rfl) :
    DI X (.Tuple elts kk tpos) (.Call (.Name "enumerate" p) [e] [] pos) (gEnumT ga) := by
  obtain ⟨t, a1, a2⟩ := h.ex
  refine ⟨_, pi_enumT hg hm a1 hs, fun σ H δ μ Q R rm rs q f => ?_⟩
  refine a2 σ H δ μ _ _ rm rs q fun vs ds H1 μ1 k1 rm1 r1 q1 => ?_
  match ds, q1, r1 with
  | [.tup xs], q1, r1 =>
    obtain ⟨v, rfl, r2⟩ := repL1 r1
    unfold Rep at r2
    obtain ⟨a, ys, rfl, im, rl⟩ := r2
    have hl : (numbered xs).length = ys.length := by rw [rl.length]; simp [numbered]
    refine ⟨a, ys, rfl, im.sq, f _ (numbered xs) H1 μ1 k1 rm1 ?_ q1⟩
    refine ⟨fun i H' hi ⟨μ', k, _⟩ => ?_, fun H' ⟨μ', k, _⟩ => ⟨ys, (im.mono k).sq, hl.symm⟩, fun i H' v H2 hi _ y => ?_⟩
    · have h1 : i < ys.length := by rw [← hl]; exact hi
      exact ⟨ys, ys[i], (im.mono k).sq, by simp [h1]⟩
    · intro μ' k rm
      obtain ⟨T, x, rfl, nT, rfl, e4⟩ := y
      have ex := e4 ys (im.mono k).sq
      obtain ⟨d, e3, r3⟩ := (rl.mono k).atV ex
      have nm : μ' T = none := rm.free nT
      have k2 : Kp H' μ' (upd H' T (.tup [.int (i : Nat), x])) μ' := Kp.new nT
      refine ⟨.tup [.int (i : Nat), d], ?_, ?_, k2, rm.laid nT⟩
      · unfold numbered
        rw [List.getElem?_mapIdx, e3]
        rfl
      · unfold Rep
        exact ⟨T, _, rfl, .inl ⟨upd_same, nm⟩, by unfold RepL; exact ⟨_, _, rfl, by unfold Rep; rfl, by unfold RepL; exact ⟨_, _, rfl, r3.mono k2, RepL.nil⟩⟩⟩
end
end DL
set_option Elab.async false
set_option linter.all false
set_option maxRecDepth 100000
namespace DL
open PySem PySem.Spec PyProof.Rows L2
/-! ### sorted of a text -/
theorem strsAre_signs (x : Str) (acc : Array Value) (h : ItemsOf (SignAt x) acc x.cps.size) : StrsAre acc.toList (x.cps.toList.map fun c => (⟨#[c]⟩ : Str)) := by
  have v := signs_vals x acc h
  have key : ∀ (l : List Nat) (us : List Value), Vals (l.map fun c => V.str ⟨#[c]⟩) us → StrsAre us (l.map fun c => (⟨#[c]⟩ : Str)) := by
    intro l
    induction l with
    | nil => intro us v; cases v; exact .nil
    | cons c l ih =>
      intro us v
      cases v with
      | cons r rr =>
        obtain ⟨t, rfl⟩ := r
        exact .cons _ t (ih _ rr)
  exact key _ _ v
theorem sorted_text {prog : Program} {w : World} {A : Around} {E : Value → Shared → Prop} {s : Shared} {x : Str} {t : Tok} {Q : Value → Shared → Prop} (hh : A.handled = none) (hz : x.cps.size ≤ sizeLine)
    (h : ∀ (h1 h2 : Heap) (tk : Nat) (out : Array Value) (n : Nat) (ss' : List Str), (∀ b o, s.heap.get? b = some o → h1.get? b = some o) → (∀ b o, h1.get? b = some o → h2.get? b = some o) → h2.get? h1.objs.size = some (seqObj "list" out n) →
      StrsAre out.toList ss' → ss'.Perm (x.cps.toList.map fun c => (⟨#[c]⟩ : Str)) → sortedS ss' = true → Q (.ref h1.objs.size) { s with heap := h2, toks := tk }) :
    wpAny (model prog w) A (call (.builtin "sorted") [.str x t]) Q E s := by
  refine Calls.call_function_entry kind_sorted plain_sorted entry_sorted (args_sorted1 _) ?_
  unfold Builtin.«sorted»
  refine wpAny_bind (m := checkCount "sorted" 1 1 _) (wpAny_pure ?_)
  refine wpAny_bind (wpAny_collect_str (show A.in1.handled = none from hh) x t (fun s' acc k g d o hi => ?_) hz)
  have es : s' = { s with heap := s'.heap, toks := s'.toks } := by
    cases s'
    cases s
    cases g
    cases d
    cases o
    rfl
  generalize s'.heap = h1 at *
  generalize s'.toks = tk at *
  subst es
  have hS := strsAre_signs x acc hi
  have hl : acc.toList.length ≤ sizeLine := by rw [Array.length_toList, hi.1]; exact hz
  refine wpAny_bind (wpAny_newList ?_)
  have hoL : (h1.push (seqObj "list" acc.toList.toArray 0)).get? h1.objs.size = some (seqObj "list" acc.toList.toArray 0) := Heap.get?_push_size _ rfl
  refine wpAny_bind (wpAny_holding (wpAny_call_entry slot_list_sort ⟨_, hoL, rfl⟩ entry_list_sort (list_sort_treeKAny strKind_oneLt hoL hS.keysOf (fun v₁ v₂ rest e => keyKind_strs (by rw [← e]; exact hS)) hl fun st' hp hs => ⟨_, rfl, ?_⟩) (args_list_sort _)))
  obtain ⟨ss', q1, q2, q3⟩ := sorted_out_str hS hp hs
  obtain ⟨n, hn⟩ := sortedHeap_at (vs := acc.toList) (out := (arrOf st').map (·.2)) hoL
  refine wpAny_pure ⟨_, rfl, h h1 _ tk _ n ss' k (fun b ob e => ?_) hn q1 q2 q3⟩
  have hb := Heap.lt_size e
  rw [sortedHeap_old (Nat.ne_of_lt hb) (by rw [Heap.size_push]; exact Nat.lt_succ_of_lt hb)]
  exact Heap.get?_push_of_some _ e
def rSortedT : List V → Hp → VK → Prop := fun vs H Q => ∃ x : Str, vs = [V.str x] ∧ x.cps.size ≤ sizeLine ∧
  ∀ (ys : List Str) (p : Addr), ys.Perm (x.cps.toList.map fun c => (⟨#[c]⟩ : Str)) → sortedS ys = true → H p = none → Q (.ref p) (upd H p (.lst (ys.map V.str)))
theorem cr_sortedT {X : Cx} (hc : X.calm = true) : CallR X (.builtin "sorted") rSortedT := by
  intro pins s σ H vs us Q I r h
  obtain ⟨x, rfl, hz, q⟩ := h
  obtain ⟨u, rfl, t, rfl⟩ := vals1 r
  refine sorted_text (I.ok.hd hc) hz fun h1 h2 tk out n ss' k1 k2 ho hS hp hs => ?_
  have I1 : Inv X pins σ H { s with heap := h1, toks := tk } := I.kept (t' := tk) k1
  have hlen : (ss'.map V.str).length ≤ sizeLine := by rw [List.length_map, hp.length_eq, List.length_map, Array.length_toList]; exact hz
  exact ⟨.ref _, upd H h1.objs.size (.lst (ss'.map V.str)), I1.laid (t' := tk) k2 (Nat.le_refl _) ⟨hlen, out.toList, n, vals_of_strs hS, ho⟩, rfl, q ss' _ hp hs (I1.hok.fresh (Nat.le_refl _))⟩
def gSortedT1 : G1 := fun x μ R => match x with
  | .str z => z.cps.size ≤ sizeLine ∧ ∀ ys : List Str, ys.Perm (z.cps.toList.map fun c => (⟨#[c]⟩ : Str)) → sortedS ys = true → R (.lst (List.map D.str ys)) μ
  | _ => False
theorem sim_sortedT {K : PySem.W.Frag} : SimC K rSortedT (g1 gSortedT1) := sim_g1 fun v d H μ Q R rm rv q f => by
  cases d <;> try exact False.elim q
  exact ⟨_, by rw [rep_str rv], q.1, fun ys p hp hs n => fw_lst rm n (RepL.of_strs ys) (q.2 ys hp hs) f⟩
end DL
set_option Elab.async false
set_option linter.all false
set_option maxRecDepth 100000
namespace DL
open PySem PySem.Spec PyProof.Rows L2
/-! ### the order of lists of ints -/
def ltI : List Int → List Int → Bool
  | [], [] => false
  | [], _ :: _ => true
  | _ :: _, [] => false
  | x :: xs, y :: ys => if x = y then ltI xs ys else decide (x < y)
theorem ltI_asym : ∀ a b, ltI a b = true → ltI b a = false
  | [], [], h => by cases h
  | [], _ :: _, _ => rfl
  | _ :: _, [], h => by cases h
  | x :: xs, y :: ys, h => by
    unfold ltI at h ⊢
    by_cases e : x = y
    · rw [if_pos e] at h
      rw [if_pos e.symm]
      exact ltI_asym xs ys h
    · rw [if_neg e] at h
      rw [if_neg (Ne.symm e)]
      have := of_decide_eq_true h
      exact decide_eq_false (by omega)
theorem ltI_tr : ∀ x y z, ltI y x = false → ltI z y = false → ltI z x = false
  | [], [], z, _, h => h
  | [], _ :: _, [], _, h => by cases h
  | [], _ :: _, _ :: _, _, _ => rfl
  | _ :: _, [], _, h, _ => by cases h
  | _ :: _, _ :: _, [], _, h => by cases h
  | x :: xs, y :: ys, z :: zs, h1, h2 => by
    unfold ltI at h1 h2 ⊢
    by_cases e1 : y = x
    · rw [if_pos e1] at h1
      by_cases e2 : z = y
      · rw [if_pos e2] at h2
        rw [if_pos (e2.trans e1)]
        exact ltI_tr xs ys zs h1 h2
      · rw [if_neg e2] at h2
        have h3 := of_decide_eq_false h2
        rw [if_neg (by omega)]
        exact decide_eq_false (by omega)
    · rw [if_neg e1] at h1
      have h3 := of_decide_eq_false h1
      by_cases e2 : z = y
      · rw [if_neg (by omega)]
        exact decide_eq_false (by omega)
      · rw [if_neg e2] at h2
        have h4 := of_decide_eq_false h2
        rw [if_neg (by omega)]
        exact decide_eq_false (by omega)
theorem swo_ltI (k : Value → List Int) : SrtO.Swo fun v u => ltI (k v) (k u) := ⟨fun x y => ltI_asym (k x) (k y), fun x y z => ltI_tr (k x) (k y) (k z)⟩
section
variable {prog : Program} {w : World} {A : Around} {E : Value → Shared → Prop} {s : Shared}
theorem kat_ints {Q : Bool → Shared → Prop} {fin : Bool} : ∀ {us vs : List Value} {ns ms : List Int} (i : Nat), IntsAre us ns → IntsAre vs ms → fin = decide (ns.length < ms.length) → Q (ltI ns ms) s → PySem.W.KatLex prog w A true fin Q (us.zip vs) i s := by
  intro us
  induction us with
  | nil =>
    intro vs ns ms i h1 h2 hf hq
    cases h1
    subst hf
    cases h2 with
    | nil => exact PySem.W.kat_nil hq
    | cons y t r => exact PySem.W.kat_nil hq
  | cons u us ih =>
    intro vs ns ms i h1 h2 hf hq
    cases h1 with
    | cons x t r1 =>
      cases h2 with
      | nil =>
        subst hf
        exact PySem.W.kat_nil hq
      | cons y t2 r2 =>
        rename_i ns' vs' ms'
        refine PySem.W.kat_cons (SeqAt.EqAt.int_int x t y t2 prog w _ _ ?_)
        refine PySem.W.kat_go (fun e1 => ?_) (fun e1 => ?_)
        · have e : x = y := by simpa using e1
          refine PySem.W.kat_yes (ih (i + 1) r1 r2 ?_ ?_)
          · subst hf
            simp
          · have e3 : ltI (x :: ns') (y :: ms') = ltI ns' ms' := if_pos e
            rw [← e3]
            exact hq
        · have e : ¬ x = y := by simpa using e1
          have e3 : ltI (x :: ns') (y :: ms') = decide (x < y) := if_neg e
          refine PySem.W.kat_no (TS.oneLt_ints _ ?_)
          rw [← e3]
          exact hq
theorem lexAt_shift {e r : Nat → Bool} {z : Bool} : ∀ (k i : Nat), Ob.lexAt (fun j => e (j + 1)) (fun j => r (j + 1)) z i k = Ob.lexAt e r z (i + 1) k
  | 0, i => rfl
  | k + 1, i => by
    unfold Ob.lexAt
    rw [lexAt_shift k (i + 1)]
theorem lexAt_ltI : ∀ ns ms : List Int, Ob.lexAt (fun j => decide (ns.getD j 0 = ms.getD j 0)) (fun j => decide (ns.getD j 0 < ms.getD j 0)) (decide (ns.length < ms.length)) 0 (min ns.length ms.length) = ltI ns ms
  | [], [] => rfl
  | [], _ :: _ => by
    show decide (0 < _ + 1) = true
    exact decide_eq_true (Nat.succ_pos _)
  | x :: xs, [] => by
    rw [show min (x :: xs).length ([] : List Int).length = 0 by simp]
    rfl
  | x :: xs, y :: ys => by
    have hm : min (x :: xs).length (y :: ys).length = min xs.length ys.length + 1 := by
      simp only [List.length_cons]
      omega
    have hl : decide ((x :: xs).length < (y :: ys).length) = decide (xs.length < ys.length) := by simp
    rw [hm, hl, Ob.lexAt_succ]
    rw [← lexAt_shift]
    have ih := lexAt_ltI xs ys
    show (if decide (x = y) = true then Ob.lexAt (fun j => decide (xs.getD j 0 = ys.getD j 0)) (fun j => decide (xs.getD j 0 < ys.getD j 0)) _ 0 _ else decide (x < y)) = _
    rw [ih]
    unfold ltI
    by_cases e : x = y
    · rw [if_pos (decide_eq_true e), if_pos e]
      conv => rhs; unfold ltI
    · rw [if_neg (by simp [e]), if_neg e]
/-- tuples of ints of one type: as their lists of ints -/
theorem one_ints {Q : Bool → Shared → Prop} {l b : Addr} {us vs : Array Value} {ns ms : List Int} (hl : s.heap.IsTuple l us) (hb : s.heap.IsTuple b vs) (i1 : IntsAre us.toList ns) (i2 : IntsAre vs.toList ms) (hu : A.units < cLine) (h : Q (ltI ns ms) s) :
    wpAny (model prog w) A (oneLt' true (.ref l) (.ref b)) Q E s := by
  rw [oneLt'_eq]
  simp only [if_true]
  refine wpAny_bind (wpAny_cRoomFor hu ?_)
  have e1 : us.size = ns.length := by rw [← i1.length, Array.length_toList]
  have e2 : vs.size = ms.length := by rw [← i2.length, Array.length_toList]
  have at1 : ∀ j (h1 : j < us.size), ∃ t, us[j] = .int (ns.getD j 0) t := fun j h1 => PyProof.Rows.IntsAre.int_at i1 _ _ (by simp [h1])
  have at2 : ∀ j (h1 : j < vs.size), ∃ t, vs[j] = .int (ms.getD j 0) t := fun j h1 => PyProof.Rows.IntsAre.int_at i2 _ _ (by simp [h1])
  have he : ∀ j (h1 : j < us.size) (h2 : j < vs.size), SeqAt.EqAt A.in1 s us[j] vs[j] ((fun j => decide (ns.getD j 0 = ms.getD j 0)) j) := fun j h1 h2 => by
    obtain ⟨t, et⟩ := at1 j h1
    obtain ⟨t', et'⟩ := at2 j h2
    rw [et, et']
    have z : (ns.getD j 0 == ms.getD j 0) = decide (ns.getD j 0 = ms.getD j 0) := by
      by_cases q : ns.getD j 0 = ms.getD j 0
      · rw [decide_eq_true q]; exact beq_iff_eq.mpr q
      · rw [decide_eq_false q]; exact beq_eq_false_iff_ne.mpr q
    show SeqAt.EqAt _ _ _ _ (decide (ns.getD j 0 = ms.getD j 0))
    rw [← z]
    exact SeqAt.EqAt.int_int _ _ _ _
  have hr : ∀ j (h1 : j < us.size) (h2 : j < vs.size), (fun j => decide (ns.getD j 0 = ms.getD j 0)) j = false → Ob.RcOp .Lt A.in1 s us[j] vs[j] ((fun j => decide (ns.getD j 0 < ms.getD j 0)) j) := fun j h1 h2 _ => by
    obtain ⟨t, et⟩ := at1 j h1
    obtain ⟨t', et'⟩ := at2 j h2
    rw [et, et']
    exact Ob.RcOp.lt_int _ _ _ _
  obtain ⟨⟨cls, dd, data, sl⟩, ho, hc, n, hd⟩ := id hl
  obtain ⟨⟨cls2, dd2, data2, sl2⟩, ho2, hc2, n2, hd2⟩ := id hb
  simp only at hc hd hc2 hd2
  subst hc hd hc2 hd2
  refine wpAny_bind (wpAny_callSpecialIfBound?_slot (name := Str.ofString "__lt__") ⟨_, ho, rfl⟩ F.slot_tuple_lt (call_meets F.slot_tuple_lt ⟨_, ho, rfl⟩ F.entry_tuple_lt (F.args_tuple_lt_2 _ _)
    (Ob.tuple_ltAt l b us vs n n2 dd dd2 sl sl2 _ _) ⟨ho, ho2, he, hr, ?_⟩))
  have lx := lexAt_ltI ns ms
  rw [← e1, ← e2] at lx
  rw [lx]
  exact wpAny_truthy_bool h
/-- the i-th is a tuple of the i-th ints -/
def TupsI (h : Heap) : List Value → List (List Int) → Prop
  | [], [] => True
  | v :: vs, ns :: r => TS.TupInts h v ns ∧ TupsI h vs r
  | _, _ => False
theorem firsts_any : ∀ (vs : List Value) (nss : List (List Int)) {Q : List (Option Value) → Shared → Prop}, TupsI s.heap vs nss → (∀ fs : List (Option Value), fs.map (·.isSome) = nss.map (fun ns => !ns.isEmpty) → Q fs s) → wpAny (model prog w) A (vs.mapM firstOfTuple') Q E s
  | [], [], _, _, h => by rw [List.mapM_nil]; exact wpAny_pure (h [] rfl)
  | [], _ :: _, _, t, _ => t.elim
  | _ :: _, [], _, t, _ => t.elim
  | v :: vs, ns :: nss, Q, t, h => by
    obtain ⟨⟨a, xs, rfl, hT, hi⟩, t⟩ := t
    obtain ⟨o, ho, hc, n, hd⟩ := hT
    rw [List.mapM_cons]
    refine wpAny_bind ?_
    rw [PySem.W.kas_first_eq]
    have hc' : o.cls = .type "tuple" := hc
    refine wpAny_bind (PySem.W.Looks.here (show PySem.W.Looks (model prog w) s.heap (typeOf (.ref a)) o.cls from (PySem.W.Looks.ld ho).andThen .now) ?_)
    rw [hc', if_neg (by first | decide | simp)]
    refine wpAny_bind (listItems_at ho hd (wpAny_pure ?_))
    refine wpAny_bind (firsts_any vs nss (Q := fun bs s' => wpAny (model prog w) A (pure (xs[0]? :: bs)) Q E s') t fun fs hf => wpAny_pure (h _ ?_))
    rw [List.map_cons, List.map_cons, hf]
    congr 1
    rw [← Array.getElem?_toList]
    generalize xs.toList = l at hi ⊢
    cases hi with
    | nil => rfl
    | cons x t r => rfl
theorem firsts_ints {h : Heap} : ∀ {vs : List Value} {nss : List (List Int)}, TupsI h vs nss → (∀ ns ∈ nss, ns ≠ []) → ∃ fs, PySem.W.KatTups h vs fs ∧ fs.length = vs.length ∧ ∀ f ∈ fs, ∃ x t, f = .int x t
  | [], [], _, _ => ⟨[], PySem.W.KatTups.nil, rfl, fun f hf => by cases hf⟩
  | v :: vs, ns :: nss, t, hn => by
    obtain ⟨⟨a, xs, rfl, hT, hi⟩, t⟩ := t
    obtain ⟨fs, h1, h2, h3⟩ := firsts_ints t fun m hm => hn m (List.mem_cons_of_mem _ hm)
    obtain ⟨o, ho, hc, n, hd⟩ := hT
    have hne := hn ns List.mem_cons_self
    have e : ∃ x t, xs.toList[0]? = some (.int x t) := by
      generalize xs.toList = l at hi ⊢
      cases hi with
      | nil => exact absurd rfl hne
      | cons x t r => exact ⟨x, t, rfl⟩
    obtain ⟨x, t, e⟩ := e
    refine ⟨.int x t :: fs, PySem.W.KatTups.cons ho hc hd (by rw [← Array.getElem?_toList]; exact e) h1, by rw [List.length_cons, List.length_cons, h2], fun f hf => ?_⟩
    rcases List.mem_cons.mp hf with e | hf
    · exact ⟨x, t, e⟩
    · exact h3 f hf
theorem TupsI.all {h : Heap} : ∀ {vs : List Value} {nss : List (List Int)}, TupsI h vs nss → ∀ v ∈ vs, ∃ ns ∈ nss, TS.TupInts h v ns
  | [], [], _, v, hv => by cases hv
  | v :: vs, ns :: nss, t, u, hu => by
    rcases List.mem_cons.mp hu with rfl | hu
    · exact ⟨ns, List.mem_cons_self, t.1⟩
    · obtain ⟨ms, h1, h2⟩ := TupsI.all t.2 u hu
      exact ⟨ms, List.mem_cons_of_mem _ h1, h2⟩
theorem TupsI.length {h : Heap} : ∀ {vs : List Value} {nss : List (List Int)}, TupsI h vs nss → vs.length = nss.length
  | [], [], _ => rfl
  | v :: vs, ns :: nss, t => by rw [List.length_cons, List.length_cons, TupsI.length t.2]
theorem kind_tups {vs : List Value} {nss : List (List Int)} {Q : SortKind → Shared → Prop} (t : TupsI s.heap vs nss) (h : (∀ ns ∈ nss, ns ≠ []) ∨ nss.head? = some []) (hne : 0 < vs.length)
    (h1 : (∀ ns ∈ nss, ns ≠ []) → Q (tuples' true) s) (h2 : nss.head? = some [] → Q oneType' s) : wpAny (model prog w) A (keyKind' vs.toArray) Q E s := by
  rcases h with h | h
  · obtain ⟨fs, q1, q2, q3⟩ := firsts_ints t h
    refine PySem.W.kat_kind (T := .type "int") q1 (by omega) (fun f hm => ?_) (by rfl) ?_
    · obtain ⟨x, t, rfl⟩ := q3 f hm
      exact PySem.W.Looks.now
    · have e : (Value.type "int" != Value.type "tuple") = true := by first | decide +kernel | rfl | decide
      rw [e]
      exact h1 h
  · rw [kat_kind_eq, List.mapM_toArray, map_eq_pure_bind]
    refine wpAny_bind (wpAny_bind (firsts_any vs nss t fun fs hf => wpAny_pure ?_))
    match nss, h, t with
    | [] :: nss, h, t =>
      match fs, hf with
      | f :: fs, hf =>
        rw [List.map_cons, List.map_cons] at hf
        injection hf with hf0 hf
        have hf0' : f = none := by
          cases f with
          | none => rfl
          | some u => cases hf0
        subst hf0'
        rw [if_neg (by simp), if_neg (by simp)]
        rw [oneTypeOnly'_eq, List.mapM_toArray, map_eq_pure_bind]
        refine wpAny_bind (wpAny_bind (wpAny_bind (PySem.W.kas_mapM (r := .type "tuple") _ (fun v hv Q' hq => ?_) (wpAny_pure ?_))))
        · obtain ⟨ns, _, a, xs, rfl, ⟨o, ho, hc, n, hd⟩, hi⟩ := TupsI.all t v hv
          have hc' : o.cls = .type "tuple" := hc
          refine PySem.W.Looks.here (show PySem.W.Looks (model prog w) s.heap (typeOf (.ref a)) o.cls from (PySem.W.Looks.ld ho).andThen .now) ?_
          rw [hc']
          exact hq
        · match vs, hne with
          | v :: vs, hne =>
            have hall : ((List.map (fun _ => Value.type "tuple") (v :: vs)).toArray.all fun x => x == Value.type "tuple") = true := by
              simp only [List.all_toArray, List.all_map, List.all_eq_true]
              intro _ _
              rfl
            have h0 : (List.map (fun _ => Value.type "tuple") (v :: vs)).toArray[0]? = some (Value.type "tuple") := by simp
            rw [h0]
            simp only [hall, if_true]
            exact wpAny_pure (wpAny_pure (h2 rfl))
theorem cmp_tups1 {vs : List Value} {k : Value → List Int} (hp : ∀ v ∈ vs, TS.TupInts s.heap v (k v)) : SrtO.Cmp prog w A s (tuples' true) (fun p => p.1 ∈ vs) (SrtO.lt2 fun v u => ltI (k v) (k u)) := by
  intro p q hm hm'
  have h1 := hp _ hm
  have h2 := hp _ hm'
  show wpAny (model prog w) A (keyLt' (tuples' true) p.1 q.1) (fun r s' => s' = s ∧ r = ltI (k p.1) (k q.1)) (fun _ _ => False) s
  generalize k p.1 = ns at h1 ⊢
  generalize k q.1 = ms at h2 ⊢
  obtain ⟨a, xs, e, ⟨o, ho, hc, n, hd⟩, hi⟩ := h1
  obtain ⟨a', xs', e', ⟨o', ho', hc', n', hd'⟩, hi'⟩ := h2
  rw [e, e']
  refine PySem.W.kat_lt ho hd ho' hd' ?_
  refine kat_ints 0 hi hi' ?_ ⟨rfl, rfl⟩
  rw [← hi.length, ← hi'.length, Array.length_toList, Array.length_toList]
theorem cmp_tups2 {vs : List Value} {k : Value → List Int} (hu : A.units < cLine) (hp : ∀ v ∈ vs, TS.TupInts s.heap v (k v)) : SrtO.Cmp prog w A s oneType' (fun p => p.1 ∈ vs) (SrtO.lt2 fun v u => ltI (k v) (k u)) := by
  intro p q hm hm'
  have h1 := hp _ hm
  have h2 := hp _ hm'
  show wpAny (model prog w) A (keyLt' oneType' p.1 q.1) (fun r s' => s' = s ∧ r = ltI (k p.1) (k q.1)) (fun _ _ => False) s
  generalize k p.1 = ns at h1 ⊢
  generalize k q.1 = ms at h2 ⊢
  obtain ⟨a, xs, e, hT, hi⟩ := h1
  obtain ⟨a', xs', e', hT', hi'⟩ := h2
  rw [e, e', keyLt'_oneType]
  exact one_ints hT hT' hi hi' hu ⟨rfl, rfl⟩
theorem tup_keeps {h h' : Heap} {v : Value} {ns : List Int} (k : ∀ b o, h.get? b = some o → o.cls = .type "tuple" → h'.get? b = some o) (t : TS.TupInts h v ns) : TS.TupInts h' v ns := by
  obtain ⟨a, xs, e, ⟨o, ho, hc, n, hd⟩, hi⟩ := t
  exact ⟨a, xs, e, ⟨o, k a o ho hc, hc, n, hd⟩, hi⟩
theorem tups_keeps {h h' : Heap} (k : ∀ b o, h.get? b = some o → o.cls = .type "tuple" → h'.get? b = some o) : ∀ {vs : List Value} {nss : List (List Int)}, TupsI h vs nss → TupsI h' vs nss
  | [], [], _ => True.intro
  | v :: vs, ns :: nss, t => ⟨tup_keeps k t.1, tups_keeps k t.2⟩
theorem sorted_tups {l : Addr} {vs : List Value} {nss : List (List Int)} {k : Value → List Int} {Q : Value → Shared → Prop} (hu : A.units + 64 < cLine) (hl : s.heap.IsList l vs.toArray) (hz : vs.length ≤ sizeLine) (t : TupsI s.heap vs nss) (hp : ∀ v ∈ vs, TS.TupInts s.heap v (k v))
    (hd : (∀ ns ∈ nss, ns ≠ []) ∨ nss.head? = some [])
    (h : ∀ out : List Value, SrtO.Srtd (fun v u => ltI (k v) (k u)) out → SrtO.Stb (fun v u => ltI (k v) (k u)) out vs → Q (.ref (s.heap.objs.size + 1)) { s with heap := sortedAll s.heap vs out.toArray }) :
    wpAny (model prog w) A (call (.builtin "sorted") [.ref l]) Q E s := by
  refine SrtO.sorted_ord (swo_ltI k) hl hz (fun h2 h₁ a ha kk => ?_) h
  intro h' keep
  have kp : ∀ b o, s.heap.get? b = some o → o.cls = .type "tuple" → h'.get? b = some o := fun b o e c => keep b o (kk b o e).1 (kk b o e).2
  have t' : TupsI h' vs nss := tups_keeps kp t
  have hp' : ∀ v ∈ vs, TS.TupInts h' v (k v) := fun v hv => tup_keeps kp (hp v hv)
  by_cases hc : nss.head? = some []
  · refine ⟨oneType', fun Q E hq => kind_tups (s := { s with heap := h' }) t' (.inr hc) (by omega) (fun hh => ?_) (fun _ => hq), cmp_tups2 (s := { s with heap := h' }) (show A.units + 1 + 1 < cLine by omega) hp'⟩
    match nss, hc, hh with
    | ns :: nss, hc, hh =>
      have e : ns = [] := by simpa using hc
      exact absurd e (hh ns List.mem_cons_self)
  · exact ⟨tuples' true, fun Q E hq => kind_tups (s := { s with heap := h' }) t' (.inl (hd.resolve_right hc)) (by omega) (fun _ => hq) (fun hh => absurd hh hc), cmp_tups1 (s := { s with heap := h' }) hp'⟩
end
end DL
set_option Elab.async false
set_option linter.all false
set_option maxRecDepth 100000
namespace DL
open PySem PySem.Spec PyProof.Rows L2
/-! ### sorted of tuples of ints -/
theorem ints_same : ∀ {us : List Value} {ns ms : List Int}, IntsAre us ns → IntsAre us ms → ns = ms
  | _, _, _, .nil, .nil => rfl
  | _, _, _, .cons x t r, h => by
    cases h with
    | cons y t r' => rw [ints_same r r']
theorem tup_same {h : Heap} {v : Value} {ns ms : List Int} (a : TS.TupInts h v ns) (b : TS.TupInts h v ms) : ns = ms := by
  obtain ⟨t, xs, rfl, ⟨o, ho, hc, n, hd⟩, hi⟩ := a
  obtain ⟨t', xs', e, ⟨o', ho', hc', n', hd'⟩, hi'⟩ := b
  cases e
  rw [ho] at ho'
  cases ho'
  rw [hd] at hd'
  cases hd'
  exact ints_same hi hi'
open Classical in
noncomputable def keyT (h : Heap) (v : Value) : List Int := if q : ∃ ns, TS.TupInts h v ns then q.choose else []
theorem keyT_is {h : Heap} {v : Value} {ns : List Int} (t : TS.TupInts h v ns) : keyT h v = ns := by
  have q : ∃ ns, TS.TupInts h v ns := ⟨ns, t⟩
  unfold keyT
  rw [dif_pos q]
  exact tup_same q.choose_spec t
def TupIs (K : PySem.W.Frag) (H : Hp) : List V → List (List Int) → Prop
  | [], [] => True
  | x :: xs, ns :: r => TupI K H x ns ∧ TupIs K H xs r
  | _, _ => False
theorem TupIs.has {K : PySem.W.Frag} {H : Hp} : ∀ {xs : List V} {nss : List (List Int)}, TupIs K H xs nss → ∀ x ∈ xs, ∃ ns, TupI K H x ns
  | [], [], _, x, hx => by cases hx
  | y :: xs, ns :: r, t, x, hx => by
    rcases List.mem_cons.mp hx with rfl | hx
    · exact ⟨ns, t.1⟩
    · exact TupIs.has t.2 x hx
section
variable {X : Cx} {pins : List (Addr × Obj)} {σ : L2.St} {H : Hp} {s : Shared}
theorem tupsI_of (I : Inv X pins σ H s) : ∀ {us : List Value} {nss : List (List Int)}, (∀ u ∈ us, ∃ a, u = Value.ref a) → TupIs X.K H (us.map bkV) nss → TupsI s.heap us nss
  | [], [], _, _ => True.intro
  | u :: us, ns :: r, h, t => by
    obtain ⟨a, rfl⟩ := h u List.mem_cons_self
    obtain ⟨⟨t', e, ht⟩, t2⟩ := t
    have e' : V.ref a = V.ref t' := e
    cases e'
    exact ⟨tupI_raw I ht, tupsI_of I (fun v hv => h v (List.mem_cons_of_mem _ hv)) t2⟩
  | [], _ :: _, _, t => t.elim
  | _ :: _, [], _, t => t.elim
def rSortI (K : PySem.W.Frag) : List V → Hp → VK → Prop := fun vs H Q => ∃ (a : Addr) (xs : List V) (nss : List (List Int)), vs = [V.ref a] ∧ SqL K H a xs ∧ TupIs K H xs nss ∧ ((∀ ns ∈ nss, ns ≠ []) ∨ nss.head? = some []) ∧
  ∀ (ys : List V) (p : Addr), ys.Perm xs → ys.Pairwise (fun x y => ∀ n m, TupI K H x n → TupI K H y m → ltI m n = false) → H p = none → Q (.ref p) (upd H p (.lst ys))
theorem cr_sortI (hu : X.A.units + 64 < cLine) : CallR X (.builtin "sorted") (rSortI X.K) := by
  intro pins s σ H vs us Q I r h
  obtain ⟨a, xs, nss, rfl, hs, ht, hd, q⟩ := h
  obtain ⟨its, rv, hl, hz⟩ := I.list hs
  rw [Vals.ref1 r]
  obtain ⟨e1, e2⟩ := bkV_refs rv fun x m => by
    obtain ⟨ns, t, e, _⟩ := ht.has x m
    exact ⟨t, e⟩
  have t := tupsI_of I e2 (e1 ▸ ht)
  have hp : ∀ v ∈ its, TS.TupInts s.heap v (keyT s.heap v) := fun v hv => by
    obtain ⟨ns, _, h⟩ := TupsI.all t v hv
    rw [keyT_is h]
    exact h
  refine sorted_tups hu hl.isList (by rw [← rv.length]; exact hz) t hp hd fun out h1 h2 => ?_
  obtain ⟨ep, he'⟩ := PyProof.Rows.sortedAll_at s.heap its out.toArray
  have hpm : out.Perm its := h2.perm
  have h3 : ∀ u ∈ out, ∃ a, u = Value.ref a := fun u hu => e2 u (hpm.mem_iff.mp hu)
  have hp2 : (out.map bkV).Perm xs := by
    rw [e1]
    exact hpm.map bkV
  have hlen : (out.map bkV).length ≤ sizeLine := by
    rw [hp2.length_eq]
    exact hz
  refine ⟨.ref _, upd H (s.heap.objs.size + 1) (.lst (out.map bkV)), I.laid (t' := s.toks) (fun _ _ => PyProof.Rows.sortedAll_old) (Nat.le_succ _) ⟨hlen, out, ep, bkV_vals h3, he'⟩, rfl, q _ _ hp2 ?_ (I.hok.fresh (Nat.le_succ _))⟩
  rw [List.pairwise_map]
  refine List.Pairwise.imp (fun {u v} huv n m hn hm => ?_) h1
  obtain ⟨t, et, ht⟩ := hn
  obtain ⟨t', et', ht'⟩ := hm
  have eu := bkV_ref et
  have ev := bkV_ref et'
  subst eu ev
  have huv : ltI (keyT s.heap (Value.ref t')) (keyT s.heap (Value.ref t)) = false := huv
  rw [keyT_is (tupI_raw I ht), keyT_is (tupI_raw I ht')] at huv
  exact huv
end
/-- a tuple of ints -/
def dI (ns : List Int) : D := .tup (ns.map D.int)
section
variable {K : PySem.W.Frag} {H : Hp} {μ : Mu}
theorem tupI_rep {ns : List Int} {v : V} (h : Rep K H μ (dI ns) v) : TupI K H v ns := by
  unfold dI at h
  unfold Rep at h
  obtain ⟨a, vs, rfl, im, rl⟩ := h
  have e := rl.ints
  exact ⟨a, rfl, e ▸ im.sq⟩
theorem tupIs_rep : ∀ {nss : List (List Int)} {vs : List V}, RepL K H μ (nss.map dI) vs → TupIs K H vs nss
  | [], vs, h => by
    unfold RepL at h
    subst h
    exact True.intro
  | ns :: r, vs, h => by
    rw [List.map_cons] at h
    unfold RepL at h
    obtain ⟨v, w, rfl, h1, h2⟩ := h
    exact ⟨tupI_rep h1, tupIs_rep h2⟩
/-- another order -/
theorem rep_perm {nss : List (List Int)} {vs ws : List V} (h : RepL K H μ (nss.map dI) vs) (p : ws.Perm vs) : ∃ mss : List (List Int), mss.Perm nss ∧ RepL K H μ (mss.map dI) ws := by
  induction p generalizing nss with
  | nil => exact ⟨nss, List.Perm.refl _, h⟩
  | @cons x l1 l2 p ih =>
    match nss, h with
    | [], h =>
      simp only [List.map_nil] at h
      unfold RepL at h
      cases h
    | ns :: r, h =>
      rw [List.map_cons] at h
      unfold RepL at h
      obtain ⟨v, w, e, h1, h2⟩ := h
      cases e
      obtain ⟨mss, m1, m2⟩ := ih h2
      exact ⟨ns :: mss, m1.cons ns, by rw [List.map_cons]; exact RepL.cons h1 m2⟩
  | swap x y l =>
    match nss, h with
    | [], h =>
      simp only [List.map_nil] at h
      unfold RepL at h
      cases h
    | [ns], h =>
      rw [List.map_cons] at h
      unfold RepL at h
      obtain ⟨v, w, e, h1, h2⟩ := h
      cases e
      simp only [List.map_nil] at h2
      unfold RepL at h2
      cases h2
    | ns :: ms :: r, h =>
      rw [List.map_cons, List.map_cons] at h
      unfold RepL at h
      obtain ⟨v, w, e, h1, h2⟩ := h
      cases e
      unfold RepL at h2
      obtain ⟨v, w, e, h3, h4⟩ := h2
      cases e
      exact ⟨ms :: ns :: r, List.Perm.swap _ _ _, by rw [List.map_cons, List.map_cons]; exact RepL.cons h3 (RepL.cons h1 h4)⟩
  | trans p1 p2 ih1 ih2 =>
    obtain ⟨m2, q2, r2⟩ := ih2 h
    obtain ⟨m1, q1, r1⟩ := ih1 r2
    exact ⟨m1, q1.trans q2, r1⟩
theorem pw_rep : ∀ {nss : List (List Int)} {vs : List V}, RepL K H μ (nss.map dI) vs → vs.Pairwise (fun x y => ∀ n m, TupI K H x n → TupI K H y m → ltI m n = false) → nss.Pairwise (fun a b => ltI b a = false)
  | [], _, _, _ => .nil
  | ns :: r, vs, h, p => by
    rw [List.map_cons] at h
    unfold RepL at h
    obtain ⟨v, w, rfl, h1, h2⟩ := h
    rw [List.pairwise_cons] at p
    refine List.pairwise_cons.mpr ⟨fun m hm => ?_, pw_rep h2 p.2⟩
    have : ∀ {l : List (List Int)} {ws : List V}, RepL K H μ (l.map dI) ws → m ∈ l → ∃ x ∈ ws, TupI K H x m := by
      intro l
      induction l with
      | nil => intro ws _ hm; cases hm
      | cons k l ih =>
        intro ws hr hm
        rw [List.map_cons] at hr
        unfold RepL at hr
        obtain ⟨x, ws', rfl, g1, g2⟩ := hr
        rcases List.mem_cons.mp hm with rfl | hm
        · exact ⟨x, List.mem_cons_self, tupI_rep g1⟩
        · obtain ⟨y, hy, ty⟩ := ih g2 hm
          exact ⟨y, List.mem_cons_of_mem _ hy, ty⟩
    obtain ⟨x, hx, tx⟩ := this h2 hm
    exact p.1 x hx ns m (tupI_rep h1) tx
end
def okI (nss : List (List Int)) : Prop := (∀ ns ∈ nss, ns ≠ []) ∨ nss.head? = some []
def sortI (ds : List D) (μ : Mu) (R : KD) : Prop := ∃ nss : List (List Int), ds = nss.map dI ∧ okI nss ∧ ∀ out : List (List Int), out.Perm nss → out.Pairwise (fun a b => ltI b a = false) → R (.lst (out.map dI)) μ
def gSortI1 : G1 := fun x μ R => match x with
  | .lst ds => sortI ds μ R
  | .adr a => match μ a with
    | some (.lst ds) => sortI ds μ R
    | _ => False
  | _ => False
theorem sort_end {K : PySem.W.Frag} {H : Hp} {μ : Mu} {a : Addr} {vs : List V} {nss : List (List Int)} {Q : VK} {R : KD} (rm : RM K H μ) (hs : SqL K H a vs) (l : RepL K H μ (nss.map dI) vs) (hk : okI nss)
    (q : ∀ out : List (List Int), out.Perm nss → out.Pairwise (fun a b => ltI b a = false) → R (.lst (out.map dI)) μ) (f : Fw K H μ R Q) : rSortI K [.ref a] H Q := by
  refine ⟨a, vs, nss, rfl, hs, tupIs_rep l, hk, fun ys p hp pw n => ?_⟩
  obtain ⟨mss, m1, m2⟩ := rep_perm l hp
  exact fw_lst rm n m2 (q mss m1 (pw_rep m2 pw)) f
theorem sim_sortI {K : PySem.W.Frag} : SimC K (rSortI K) (g1 gSortI1) := sim_g1 fun v d H μ Q R rm rv q f => by
  cases d <;> try exact False.elim q
  · obtain ⟨nss, rfl, hk, q⟩ := q
    obtain ⟨p, vs, rfl, i, _, l⟩ := rep_lst rv
    exact sort_end rm (SqL.of i) l hk q f
  · rename_i a
    have q : (match μ a with | some (.lst ds) => sortI ds μ R | _ => False) := q
    cases e0 : μ a with
    | none => rw [e0] at q; exact False.elim q
    | some o =>
      rw [e0] at q
      cases o <;> try exact False.elim q
      obtain ⟨nss, rfl, hk, q⟩ := q
      obtain ⟨vs, h1, l⟩ := rm a _ e0
      rw [rep_adr rv]
      exact sort_end rm (SqL.of h1) l hk q f
end DL
set_option Elab.async false
set_option linter.all false
set_option maxRecDepth 100000
namespace DL
open PySem PySem.Spec PyProof.Rows L2
/-! ### dicts of keys that are ints or texts -/
def valD (kvs : List (Key × D)) (k : Key) : Option D := (kvs.find? fun kv => decide (kv.1 = k)).map (·.2)
def putD (kvs : List (Key × D)) (k : Key) (v : D) : List (Key × D) :=
  if (kvs.any fun kv => decide (kv.1 = k)) = true then kvs.map (fun kv => if kv.1 = k then (kv.1, v) else kv) else kvs ++ [(k, v)]
def mergeD (kvs more : List (Key × D)) : List (Key × D) := more.foldl (fun acc kv => putD acc kv.1 kv.2) kvs
def kD : Key → D
  | .inl i => .int i
  | .inr x => .str x
def keyOf : D → Option Key
  | .int i => some (.inl i)
  | .str x => some (.inr x)
  | _ => none
section
variable {K : PySem.W.Frag} {H : Hp} {μ : Mu}
theorem key_rep {d : D} {k : Key} {v : V} (e : keyOf d = some k) (h : Rep K H μ d v) : v = kV k := by
  cases d <;> try cases e
  · exact rep_int h
  · exact rep_str h
theorem kD_rep {k : Key} {v : V} (h : Rep K H μ (kD k) v) : v = kV k := by
  cases k
  · exact rep_int h
  · exact rep_str h
theorem RepK.look {k : Key} {d : D} : ∀ {kvs : List (Key × D)} {kv : List (Key × V)}, RepK K H μ kvs kv → valD kvs k = some d → ∃ v, valV kv k = some v ∧ Rep K H μ d v
  | [], _, _, e => by cases e
  | (k0, d0) :: r, kv, h, e => by
    unfold RepK at h
    obtain ⟨v, s, rfl, h1, h2⟩ := h
    by_cases q : k0 = k
    · have e' : d0 = d := by simpa [valD, q] using e
      exact ⟨v, valV_pos q, e' ▸ h1⟩
    · have e' : valD r k = some d := by simpa [valD, q] using e
      obtain ⟨w, g1, g2⟩ := RepK.look h2 e'
      exact ⟨w, (valV_neg q).trans g1, g2⟩
theorem RepK.any {k : Key} : ∀ {kvs : List (Key × D)} {kv : List (Key × V)}, RepK K H μ kvs kv → (kv.any fun p => decide (p.1 = k)) = (kvs.any fun p => decide (p.1 = k))
  | [], _, h => by
    unfold RepK at h
    subst h
    rfl
  | (k0, d0) :: r, kv, h => by
    unfold RepK at h
    obtain ⟨v, s, rfl, h1, h2⟩ := h
    rw [List.any_cons, List.any_cons, RepK.any h2]
theorem RepK.length : ∀ {kvs : List (Key × D)} {kv : List (Key × V)}, RepK K H μ kvs kv → kv.length = kvs.length
  | [], _, h => by
    unfold RepK at h
    subst h
    rfl
  | (k0, d0) :: r, kv, h => by
    unfold RepK at h
    obtain ⟨v, s, rfl, h1, h2⟩ := h
    rw [List.length_cons, List.length_cons, RepK.length h2]
theorem RepK.change {k : Key} {d : D} {v : V} (rv : Rep K H μ d v) : ∀ {kvs : List (Key × D)} {kv : List (Key × V)}, RepK K H μ kvs kv →
    RepK K H μ (kvs.map fun p => if p.1 = k then (p.1, d) else p) (kv.map fun p => if p.1 = k then (p.1, v) else p)
  | [], _, h => by
    unfold RepK at h
    subst h
    unfold RepK
    rfl
  | (k0, d0) :: r, kv, h => by
    unfold RepK at h
    obtain ⟨w, s, rfl, h1, h2⟩ := h
    rw [List.map_cons, List.map_cons]
    by_cases q : k0 = k
    · rw [if_pos q, if_pos q]
      unfold RepK
      exact ⟨v, _, rfl, rv, RepK.change rv h2⟩
    · rw [if_neg q, if_neg q]
      unfold RepK
      exact ⟨w, _, rfl, h1, RepK.change rv h2⟩
theorem RepK.snoc {k : Key} {d : D} {v : V} (rv : Rep K H μ d v) : ∀ {kvs : List (Key × D)} {kv : List (Key × V)}, RepK K H μ kvs kv → RepK K H μ (kvs ++ [(k, d)]) (kv ++ [(k, v)])
  | [], _, h => by
    unfold RepK at h
    subst h
    show RepK K H μ [(k, d)] [(k, v)]
    unfold RepK
    exact ⟨v, [], rfl, rv, by unfold RepK; rfl⟩
  | (k0, d0) :: r, kv, h => by
    unfold RepK at h
    obtain ⟨w, s, rfl, h1, h2⟩ := h
    rw [List.cons_append, List.cons_append]
    unfold RepK
    exact ⟨w, _, rfl, h1, RepK.snoc rv h2⟩
theorem RepK.put {k : Key} {d : D} {v : V} {kvs : List (Key × D)} {kv : List (Key × V)} (h : RepK K H μ kvs kv) (rv : Rep K H μ d v) : RepK K H μ (putD kvs k d) (putK kv k v) := by
  unfold putD putK
  rw [RepK.any h]
  split
  · exact RepK.change rv h
  · exact RepK.snoc rv h
theorem RepK.merge : ∀ {more : List (Key × D)} {mv : List (Key × V)} {kvs : List (Key × D)} {kv : List (Key × V)}, RepK K H μ more mv → RepK K H μ kvs kv → RepK K H μ (mergeD kvs more) (mergeK kv mv)
  | [], _, _, _, h, h2 => by
    unfold RepK at h
    subst h
    exact h2
  | (k0, d0) :: r, mv, kvs, kv, h, h2 => by
    unfold RepK at h
    obtain ⟨w, s, rfl, h1, h3⟩ := h
    show RepK K H μ (mergeD (putD kvs k0 d0) r) (mergeK (putK kv k0 w) s)
    exact RepK.merge h3 (h2.put h1)
def pairD (p : Key × D) : D := .tup [kD p.1, p.2]
theorem pairs_rep : ∀ {ps : List (Key × D)} {vs : List V}, RepL K H μ (ps.map pairD) vs → ∃ (as : List Addr) (kv : List (Key × V)), vs = as.map V.ref ∧ Paired (fun p kv => SqT K H p [kV kv.1, kv.2]) as kv ∧ RepK K H μ ps kv
  | [], vs, h => by
    simp only [List.map_nil] at h
    unfold RepL at h
    subst h
    exact ⟨[], [], rfl, .nil, by unfold RepK; rfl⟩
  | (k, d) :: r, vs, h => by
    rw [List.map_cons] at h
    unfold RepL at h
    obtain ⟨v, w, rfl, h1, h2⟩ := h
    obtain ⟨as, kv, rfl, g1, g2⟩ := pairs_rep h2
    obtain ⟨a, us, rfl, im, rl⟩ := rep_tup h1
    obtain ⟨x, y, rfl, r1, r2⟩ := repL2 rl
    have e := kD_rep r1
    subst e
    exact ⟨a :: as, (k, y) :: kv, rfl, .cons im.sq g1, by unfold RepK; exact ⟨y, kv, rfl, r2, g2⟩⟩
end
theorem RM.cellD {K : PySem.W.Frag} {H : Hp} {μ : Mu} {p : Addr} {kv : List (Key × V)} {kvs : List (Key × D)} (rm : RM K H μ) (n : H p = none) (r : RepK K H μ kvs kv) : RM K (upd H p (.dK kv)) (DL.put μ p (.dct kvs)) :=
  rm.put (Kp.cell n) (fun a o ea e => upd_ne ea) ⟨kv, upd_same, r.mono (Kp.cell n) _ _⟩
/-- dict(list of pairs) -/
def gDictP1 : G1 := fun x μ R => match x with
  | .lst ds => ∃ ps : List (Key × D), ds = ps.map pairD ∧ ∀ a, μ a = none → R (.adr a) (put μ a (.dct (mergeD [] ps)))
  | _ => False
abbrev rDictP (K : PySem.W.Frag) : List V → Hp → VK → Prop := fun xs H Q => ∃ (a : Addr) (ps : List Addr) (kvs : List (Key × V)), xs = [.ref a] ∧ SqL K H a (ps.map V.ref) ∧ Paired (fun p kv => SqT K H p [kV kv.1, kv.2]) ps kvs ∧
    ∀ p, H p = none → Q (.ref p) (upd H p (.dK (mergeK [] kvs)))
theorem sim_dictP {K : PySem.W.Frag} : SimC K (rDictP K) (g1 gDictP1) := sim_g1 fun v d H μ Q R rm rv q f => by
  cases d <;> try exact False.elim q
  obtain ⟨ps, rfl, q⟩ := q
  obtain ⟨p, vs, rfl, i, _, l⟩ := rep_lst rv
  obtain ⟨as, kv, rfl, g1, g2⟩ := pairs_rep l
  refine ⟨p, as, kv, rfl, SqL.of i, g1, fun c n => ?_⟩
  have z : RepK K H μ (mergeD [] ps) (mergeK [] kv) := g2.merge (by unfold RepK; rfl)
  exact f (.ref c) (.adr c) _ _ (Kp.cell n) (rm.cellD n z) to_adr (q c (rm.free n))
/-- d[k] -/
def gDGet (go gi : GE) : GE := fun δ μ R => go δ μ fun x μ1 => gi δ μ1 fun y μ2 => match x with
  | .adr a => ∃ kvs k d, μ2 a = some (.dct kvs) ∧ keyOf y = some k ∧ valD kvs k = some d ∧ R d μ2
  | _ => False
section
variable {X : Cx} {o i e : Expr} {pos : Pos} {go gi ge : GE}
theorem de_dget (hu : X.A.units + 1 < cLine) (ho : DE X o go) (hi : DE X i gi) (hs : NoSl i) : DE X (.Subscript o i pos) (gDGet go gi) := by
  obtain ⟨t, a1, a2⟩ := ho.ex
  obtain ⟨t2, b1, b2⟩ := hi.ex
  refine ⟨_, pe_dget hu a1 b1 hs, fun σ H δ μ Q R rm rs q f => ?_⟩
  refine a2 σ H δ μ _ _ rm rs q fun v d H1 μ1 k1 rm1 r1 q1 => ?_
  refine b2 σ H1 δ μ1 _ _ rm1 (rs.mono k1) q1 fun y dy H2 μ2 k2 rm2 r2 q2 => ?_
  cases d <;> try exact False.elim q2
  rename_i a
  obtain ⟨kvs, k, d, e0, ek, ed, q2⟩ := q2
  obtain ⟨kv, h1, l⟩ := rm2 a _ e0
  obtain ⟨w, g1, g2⟩ := l.look ed
  have ey := key_rep ek r2
  refine ⟨a, w, rep_adr (r1.mono k2), ?_, f w d H2 μ2 (k1.trans k2) rm2 g2 q2⟩
  rw [ey, ← g1]
  exact DGet.k h1
def setD (x y d : D) (μ : Mu) (R : Mu → Prop) : Prop := match x with
  | .adr a => ∃ kvs k, μ a = some (.dct kvs) ∧ keyOf y = some k ∧ kvs.length < sizeLine ∧ R (put μ a (.dct (putD kvs k d)))
  | _ => False
def hSubD (go gi : GE) : GH := fun d δ μ R => go δ μ fun x μ1 => gi δ μ1 fun y μ2 => setD x y d μ2 fun μ3 => R δ μ3
theorem simH_subDD {K : PySem.W.Frag} : SimH K (gSub (tOf K go) (tOf K gi) rSetD) (hSubD go gi) := by
  intro v d σ H δ μ Q R rm rs r q f
  refine sim_of σ H δ μ _ _ rm rs q fun x dx H1 μ1 k1 rm1 r1 q1 => ?_
  refine sim_of σ H1 δ μ1 _ _ rm1 (rs.mono k1) q1 fun y dy H2 μ2 k2 rm2 r2 q2 => ?_
  cases dx <;> try exact False.elim q2
  rename_i a
  obtain ⟨kvs, k, e0, ek, hl, q2⟩ := q2
  obtain ⟨kv, e1, l⟩ := rm2 a _ e0
  have kw : Kp H2 μ2 (upd H2 a (.dK (putK kv k v))) (put μ2 a (.dct (putD kvs k d))) := Kp.write e0
  have ey := key_rep ek r2
  refine ⟨a, _, rep_adr (r1.mono k2), by rw [ey]; exact DPut.k e1 (by rw [l.length]; exact hl), f _ _ _ _ (k1.trans (k2.trans kw)) ?_ (rs.mono (k1.trans (k2.trans kw))) q2⟩
  exact rm2.put (m := .dct (putD kvs k d)) kw (fun b o n _ => upd_ne n) ⟨_, upd_same, (l.put (r.mono (k1.trans k2))).mono kw _ _⟩
theorem pg_subDD (hu : X.A.units + 1 < cLine) (ho : DE X o go) (hi : DE X i gi)
    (ha : ∀ v, assign (.Subscript o i pos) X.env v = (do
      let ov ← holding [v] (eval o X.env)
      let iv ← holding [v, ov] (eval i X.env)
      standAt pos
      holding [v, ov, iv] (setItem ov iv v)
      release [v, ov, iv] []) := by intro _; rfl) : PG X (.Subscript o i pos) (gSub (tOf X.K go) (tOf X.K gi) rSetD) := pg_sub ho.pe hi.pe (set_dict hu) ha
end
end DL
set_option Elab.async false
set_option linter.all false
set_option maxRecDepth 100000
namespace DL
open PySem PySem.Spec PyProof.Rows L2
/-! ### set(list), of keys of any kind -/
section
variable {κ : Type} [DecidableEq κ]
/-- the first i, each but once, in the order in which they come first -/
def metK (val : Nat → κ) : Nat → List κ
  | 0 => []
  | i + 1 => if (metK val i).any (· == val i) = true then metK val i else metK val i ++ [val i]
theorem metK_le (val : Nat → κ) : ∀ i, (metK val i).length ≤ i
  | 0 => Nat.le_refl _
  | i + 1 => by
    have ih := metK_le val i
    unfold metK
    split
    · omega
    · rw [List.length_append, List.length_singleton]; omega
theorem metK_any (val : Nat → κ) (i : Nat) (k : κ) : ((metK val i).any (· == k) || decide (k = val i)) = (metK val (i + 1)).any (· == k) := by
  conv => rhs; unfold metK
  by_cases h : (metK val i).any (· == val i) = true
  · rw [if_pos h]
    by_cases e : k = val i
    · subst e; rw [h]; simp
    · simp [e]
  · rw [if_neg h, List.any_append]
    by_cases e : k = val i
    · subst e; simp
    · have hb : (val i == k) = false := by simpa [beq_iff_eq] using (fun h' : val i = k => e h'.symm)
      simp [hb, e]
theorem metK_len (val : Nat → κ) (i : Nat) : (if (metK val i).any (· == val i) = true then (metK val i).length else (metK val i).length + 1) = (metK val (i + 1)).length := by
  conv => rhs; unfold metK
  split <;> simp
variable {prog : Program} {w : World} {A : Around} {R : Result → Shared → Prop} {I : Addr} {fp wr : List Addr} {G : Array GenState → Array GenState → Prop} {n : Nat} {P : Nat → Value → Prop} {St : Nat → Shared → Prop}
theorem loop_any {knd : KeyKind prog w κ} (W : WalksS prog w A.in1 I fp wr G n P St) (S : Addr) (hSf : S ∉ fp) (val : Nat → κ) (hval : ∀ i v, P i v → knd.is (val i) v = true ∧ v.scannable = true) (hb : n + 1 < scanBound) (i : Nat) (s : Shared) (hi : i ≤ n) (hst : St i s)
    (hS : s.heap.SetOf knd S (fun k => (metK val i).any (· == k)) (metK val i).length)
    (hR : ∀ s', Moved (S :: wr) G s s' → s'.heap.SetOf knd S (fun k => (metK val n).any (· == k)) (metK val n).length → R (.ok (.ret .none)) s') :
    codeAny (model prog w) A (.builtin "set.update.loop" ⟨[.ref S, .ref I], []⟩) R s := by
  have hSw : S ∉ wr := fun h => hSf (W.sub _ h)
  have wide : ∀ b ∈ wr, b ∈ S :: wr := fun b hb => List.mem_cons_of_mem _ hb
  have stays : ∀ {s s' : Shared} {f : κ → Bool} {m : Nat}, Moved wr G s s' → s.heap.SetOf knd S f m → s'.heap.SetOf knd S f m := fun hm ⟨o, es, ep, t, ho, r⟩ => ⟨o, es, ep, t, hm.heap S _ hSw ho, r⟩
  generalize hd : n - i = d
  induction d generalizing i s with
  | zero =>
    have e : i = n := by omega
    subst e
    refine codeAny_builtin PyProof.Rows.F.entry_set_update_loop ?_
    rw [Around.under_plainId PyProof.Rows.F.plain_set_update_loop _]
    refine wpAny_bind (m := pyNext (.ref I)) (W.done s _ _ hst fun s' hm => ?_)
    exact wpAny_pure (hR s' (hm.mono wide) (stays hm hS))
  | succ d ih =>
    have lt : i < n := by omega
    refine codeAny_builtin PyProof.Rows.F.entry_set_update_loop ?_
    rw [Around.under_plainId PyProof.Rows.F.plain_set_update_loop _]
    refine wpAny_bind (m := pyNext (.ref I)) (W.item i s _ _ lt hst fun v s' hP hst' hm => ?_)
    obtain ⟨vi, vs⟩ := hval i v hP
    have hl := metK_le val i
    have hS1 := stays hm hS
    refine wpAny_bind (m := holding [v] (setAdd S v)) (wpAny_holding ?_)
    unfold setAdd
    refine wpAny_holding (wpAny_bind (knd.pyHash (k := val i) vi ?_))
    refine wpAny_setAddHashed_of (knd := knd) (s := { s' with toks := s'.toks + 1 }) vi vs hS1 (by omega) fun h' hsb hS2 => ?_
    have hS3 : h'.SetOf knd S (fun k => (metK val (i + 1)).any (· == k)) (metK val (i + 1)).length := SetOf_congr hS2 (metK_any val i) (metK_len val i)
    have off : ∀ b o, b ≠ S → s'.heap.get? b = some o → h'.get? b = some o := fun b o ne e => by rw [hsb.2 b ne]; exact e
    refine wpAny_pure ⟨plainId_quiet PyProof.Rows.F.plain_set_update_loop _, ih (i + 1) _ lt (W.frame _ s' _ _ hst' (Nat.le_succ _) fun b hb o e => off b o (fun h => hSf (h ▸ hb)) e) hS3 (fun s'' hm'' hS'' => ?_) (by omega)⟩
    exact hR s'' (Moved.trans W.gtrans ((hm.mono wide).then_heap (Nat.le_succ _) fun b o hb e => off b o (fun h => hb (h ▸ List.mem_cons_self)) e) hm'') hS''
end
section
variable {prog : Program} {w : World} {A : Around} {E : Value → Shared → Prop} {s : Shared}
set_option maxHeartbeats 3200000 in
/-- set(x): the new set, then its __init__ -/
theorem call_set_by {x : Value} {Q : Value → Shared → Prop}
    (h : ∀ led : Bool, codeAny (model prog w) A.in1 (.call (.builtin "set.__init__") ⟨[.ref s.heap.objs.size, x], []⟩) (wants (fun r s₂ => r = .none ∧ Q (.ref s.heap.objs.size) s₂) E)
      { s with heap := s.heap.push { cls := .type "set", dict := none, data := .set #[] 0 (.fresh 0 0 led) } }) :
    wpAny (model prog w) A (call (.type "set") [x]) Q E s := by
  obtain ⟨c, tl, hmro⟩ := PySem.F.called_set.mro
  have hmade := PySem.F.called_set.made
  have hsub := PySem.F.called_set.sub
  have h1 := PySem.F.called_set.notType
  have h2 := PySem.F.called_set.canCreate
  have hct := PySem.F.typeCall_set_1 x
  refine wpAny_call (codeAny_of_tree ?_)
  show wpAny _ _ (callAny (.type "set") _) _ _ _
  refine wpAny_pure ⟨Code.quiet_builtin _ (by decide +kernel), codeAny_builtin PySem.F.entry_type_call ?_⟩
  rw [Around.under_plain (weight_type_call_type "set" [x] []) rfl]
  repeat (any_goals (first | assumption | wp_step))
  refine codeAny_mono (code_set_new_1 x (E := E) (Q₁ := fun obj s₁ => ∃ led : Bool, obj = .ref s.heap.objs.size ∧ s₁ = { s with heap := s.heap.push { cls := .type "set", dict := none, data := .set #[] 0 (.fresh 0 0 led) } }) fun led => ⟨led, rfl, rfl⟩) fun r s₁ hr => ?_
  match r, hr with
  | .error e, hr => exact hr
  | .ok (.ret obj), ⟨led, e1, e2⟩ =>
    subst e1 e2
    have hT : Shared.TypeIs { s with heap := s.heap.push { cls := .type "set", dict := none, data := .set #[] 0 (.fresh 0 0 led) } } (.ref s.heap.objs.size) "set" := ⟨_, Heap.get?_push_size _ rfl, rfl⟩
    have hli := PySem.F.called_set.init.lookup
    have hbi := PySem.F.called_set.init.bind (.ref s.heap.objs.size)
    repeat (any_goals (first | assumption | wp_step))
    refine codeAny_mono (h led) fun r₂ s₂ hr₂ => ?_
    match r₂, hr₂ with
    | .error e, hr₂ => exact hr₂
    | .ok (.ret r), ⟨e3, q⟩ =>
      subst e3
      repeat (any_goals (first | assumption | wp_step))
set_option maxHeartbeats 3200000 in
theorem call_set_keys {κ : Type} [DecidableEq κ] {knd : KeyKind prog w κ} {l : Addr} {items : Array Value} (val : Nat → κ) {Q : Value → Shared → Prop}
    (hh : A.handled = none) (hl : s.heap.IsList l items) (hv : ∀ i v, items[i]? = some v → knd.is (val i) v = true ∧ v.scannable = true) (hb : items.size + 1 < scanBound)
    (h : ∀ (h' : Heap) (tk : Nat), h'.SetOf knd s.heap.objs.size (fun k => (metK val items.size).any (· == k)) (metK val items.size).length →
      (∀ b o, s.heap.get? b = some o → h'.get? b = some o) → Q (.ref s.heap.objs.size) { s with heap := h', toks := tk }) :
    wpAny (model prog w) A (call (.type "set") [.ref l]) Q E s := by
  refine call_set_by fun led => ?_
  have g0 : (s.heap.push { cls := .type "set", dict := none, data := .set #[] 0 (.fresh 0 0 led) }).get? s.heap.objs.size = some { cls := .type "set", dict := none, data := .set #[] 0 (.fresh 0 0 led) } := Heap.get?_push_size _ rfl
  have hls : l < s.heap.objs.size := by obtain ⟨_, e, _⟩ := id hl; exact Heap.lt_size e
  refine codeAny_call_builtin PySem.F.called_set.init.plain PySem.F.entry_set_init (check_set_init_1 ⟨_, g0, rfl⟩ ?_)
  have hl1 : (s.heap.push { cls := .type "set", dict := none, data := .set #[] 0 (.fresh 0 0 led) }).IsList l items := hl.push _
  have nI : l ≠ (s.heap.push { cls := .type "set", dict := none, data := .set #[] 0 (.fresh 0 0 led) }).objs.size := by
    rw [Heap.size_push]; exact Nat.ne_of_lt (Nat.lt_succ_of_lt hls)
  have nS : s.heap.objs.size ∉ [(s.heap.push { cls := .type "set", dict := none, data := .set #[] 0 (.fresh 0 0 led) }).objs.size, l] := by
    rw [Heap.size_push]; simp only [List.mem_cons, List.not_mem_nil, or_false, not_or]
    exact ⟨Nat.ne_of_lt (Nat.lt_succ_self _), Nat.ne_of_gt hls⟩
  obtain ⟨⟨ocls, odict, odata, oslots⟩, hol, hcl, nl, hdl⟩ := id hl1
  simp only at hcl hdl
  subst hcl; subst hdl
  have y1 := PySem.F.sub_list_set
  have y2 := PySem.F.sub_list_frozenset
  have y3 : (Value.type "list" == Value.type "dict") = false := by decide
  unfold Builtin.«set.__init__» noKeywords Builtin.Frozenset.updateFrom
  generalize hPI : pyIter = PI
  wp_walk
  subst hPI
  refine wpAny_pyIter_list hl1 (wpAny_bind (wpAny_runValue ?_))
  have hh3 : A.in1.in1.in1.handled = none := hh
  refine loop_any ((Walks.list hh3 _ l nI items).toS) s.heap.objs.size nS val hv hb 0 _ (Nat.zero_le _) ⟨⟨_, Heap.get?_push_size _ rfl, rfl, rfl⟩, hl1.push _⟩ ?_ fun s' hm hS' => ?_
  · exact SetOf_congr ((setObjOf_fresh (knd := knd) led).setOf (Heap.get?_push_of_some _ g0) (by unfold scanBound; omega)) (fun _ => rfl) rfl
  · obtain ⟨h', g', d', tk', os'⟩ := s'
    have eg : g' = s.gens := hm.gens
    have ed : d' = s.drawn := hm.drawn
    have eo : os' = s.os := hm.os
    subst eg; subst ed; subst eo
    refine wpAny_pure ?_
    show wpAny _ _ (ret Value.none) _ _ _
    refine wpAny_pure ⟨rfl, h h' tk' hS' fun b o e => ?_⟩
    have hlt := Heap.lt_size e
    refine hm.heap b o ?_ (Heap.get?_push_of_some _ (Heap.get?_push_of_some _ e))
    simp only [List.mem_cons, List.not_mem_nil, or_false, not_or]
    exact ⟨Nat.ne_of_lt hlt, by rw [Heap.size_push]; exact Nat.ne_of_lt (Nat.lt_succ_of_lt hlt)⟩
end
end DL
set_option Elab.async false
set_option linter.all false
set_option maxRecDepth 100000
namespace DL
open PySem PySem.Spec PyProof.Rows L2
/-! ### len(set(list of texts)) -/
/-- how many unlike ones -/
def distS (xs : List Str) : Nat := (metK (fun i => xs.getD i Str.empty) xs.length).length
theorem strs_get : ∀ {vs : List Value} {xs : List Str}, StrsAre vs xs → ∀ (i : Nat) (v : Value), vs[i]? = some v → ∃ t, v = .str (xs.getD i Str.empty) t
  | _, _, .nil, i, v, h => by simp at h
  | _, _, .cons n t hr, 0, v, h => by
    simp at h
    exact ⟨t, by rw [← h] <;> rfl⟩
  | _, _, .cons n t hr, i + 1, v, h => by
    simp only [List.getElem?_cons_succ] at h
    obtain ⟨t', e⟩ := strs_get hr i v h
    exact ⟨t', by rw [e] <;> rfl⟩
def tLenSetS (K : PySem.W.Frag) (ta : TE) : TE := fun σ H Q => ta σ H fun x H1 => ∃ (l : Addr) (xs : List Str), x = .ref l ∧ SqL K H1 l (xs.map V.str) ∧ xs.length ≤ 4000 ∧ Q (.int (distS xs : Nat)) H1
theorem pe_lenSetS {X : Cx} {a : Expr} {ta : TE} {p p2 q pos : Pos} (hg : Gl X "len") (hm : X.mg "len" = none) (hg2 : Gl X "set") (hm2 : X.mg "set" = none) (ha : PE X a ta) (hc : X.calm = true)
    (na : starEach [a] X.env = (false, eval a X.env) :: starEach [] X.env := by rfl) : PE X (.Call (.Name "len" p) [.Call (.Name "set" p2) [a] [] q] [] pos) (tLenSetS X.K ta) := by
  refine ⟨fun pins s σ H Q I h => ?_⟩
  refine Call_ (ld_blt I hg hm boot_len ?_)
  refine PyProof.Rows.callWith_builtin1 (PyProof.Rows.args_cons ?_ rfl) rfl rfl
  refine Call_ (ld_blt I hg2 hm2 boot_set ?_)
  refine PyProof.Rows.callWith_type1 (PyProof.Rows.args_cons (thn (ha.run pins s σ H _ I h) fun v s1 ⟨x, H1, I1, r1, q1⟩ => PyProof.Rows.args_nil ?_) na) na rfl
  obtain ⟨l, xs, rfl, hq, hl, q1⟩ := q1
  cases r1
  obtain ⟨its, r, pl, hz⟩ := I1.list hq
  have hlen : its.toArray.size = xs.length := by rw [List.size_toArray, ← r.length, List.length_map]
  have hS : StrsAre its xs := r.strs
  refine call_set_keys (knd := PySem.strKind X.prog X.w) (fun i => xs.getD i Str.empty) (I1.ok.hd hc) pl.isList (fun i v hv => ?_) (by rw [hlen]; unfold scanBound; omega) fun h' tk hS hk => ?_
  · obtain ⟨t, rfl⟩ := strs_get hS i v (by simpa using hv)
    exact ⟨strKind_is _ _ _ _, rfl⟩
  refine PyProof.Rows.args_nil ?_
  rw [hlen] at hS
  obtain ⟨o, es, ep, t, ho, hex, hd, _, _, _, hf, hn⟩ := hS
  have I2 : Inv X pins σ H1 { s1 with heap := h', toks := tk } := I1.kept fun b o e => hk b o e
  have hm2 := metK_le (fun i => xs.getD i Str.empty) xs.length
  exact call_len_set ho hex hd hf (by rw [hn]; omega) ⟨.int (distS xs : Nat), H1, I2.tok _, ⟨_, by rw [hn]; rfl⟩, q1⟩
def gLenSetS (g : GE) : GE := fun δ μ R => g δ μ fun d μ1 => match d with
  | .lst ds => ∃ xs : List Str, ds = xs.map D.str ∧ xs.length ≤ 4000 ∧ R (.int (distS xs : Nat)) μ1
  | _ => False
theorem de_lenSetS {X : Cx} {a : Expr} {ga : GE} {p p2 q pos : Pos} (hg : Gl X "len") (hm : X.mg "len" = none) (hg2 : Gl X "set") (hm2 : X.mg "set" = none) (ha : DE X a ga) (hc : X.calm = true)
    (na : starEach [a] X.env = (false, eval a X.env) :: starEach [] X.env := by rfl) : DE X (.Call (.Name "len" p) [.Call (.Name "set" p2) [a] [] q] [] pos) (gLenSetS ga) := by
  obtain ⟨t, a1, a2⟩ := ha.ex
  refine ⟨_, pe_lenSetS hg hm hg2 hm2 a1 hc na, fun σ H δ μ Q R rm rs q f => ?_⟩
  refine a2 σ H δ μ _ _ rm rs q fun v d H1 μ1 k1 rm1 r1 q1 => ?_
  cases d <;> try exact False.elim q1
  obtain ⟨xs, rfl, hl, q1⟩ := q1
  obtain ⟨l, vs, rfl, h1, n1, rl⟩ := rep_lst r1
  exact ⟨l, xs, rfl, SqL.of (by rw [h1, rl.strs]), hl, f _ _ H1 μ1 k1 rm1 to_int q1⟩
end DL
set_option Elab.async false
set_option linter.all false
set_option maxRecDepth 100000
namespace DL
open PySem PySem.Spec PyProof.Rows L2
/-! ### f(k = v, ..) -/
structure DK (X : Cx) (kws : List Keyword) (g : GA) : Prop where
  ex : ∃ t, PK X kws t ∧ SimA X.K t g
theorem dk_nil {X : Cx} : DK X [] (fun _ μ R => R [] μ) := ⟨_, pk_nil, fun σ H δ μ Q R rm rs q f => f [] [] H μ (Kp.refl _ _) rm RepL.nil q⟩
theorem dk_cons {X : Cx} {nm : Option Str} {e : Expr} {kpos : Pos} {kws : List Keyword} {ge : GE} {ga : GA} (he : DE X e ge) (hr : DK X kws ga) : DK X (⟨nm, e, kpos⟩ :: kws) (fun δ μ R => ge δ μ fun d μ1 => ga δ μ1 fun ds μ2 => R (d :: ds) μ2) := by
  obtain ⟨t, a1, a2⟩ := he.ex
  obtain ⟨u, b1, b2⟩ := hr.ex
  refine ⟨_, pk_cons a1 b1, fun σ H δ μ Q R rm rs q f => ?_⟩
  refine a2 σ H δ μ _ _ rm rs q fun v d H1 μ1 k1 rm1 r1 q1 => ?_
  exact b2 σ H1 δ μ1 _ _ rm1 (rs.mono k1) q1 fun vs ds H2 μ2 k2 rm2 r2 q2 => f (v :: vs) (d :: ds) H2 μ2 (k1.trans k2) rm2 (RepL.cons (r1.mono k2) r2) q2
/-- the parameters' order -/
def gCallK (g : GC) (gD : List D → List D) (n : Nat) (ga : GA) : GE := fun δ μ R => ga δ μ fun ds μ1 => ds.length = n ∧ g (gD ds) μ1 R
section
variable {X : Cx} {k : Nat} {f : Addr} {fd : FuncData} {ps ks : List Str} {g : GC} {x : Str} {p pos : Pos} {kws : List Keyword} {ga : GA} {gp : List Value → List Value → List Value} {gV : List V → List V → List V} {gD : List D → List D}
theorem de_callK0 (F : FnOk X.prog X.w X.K X.mg X.base CX0 k f fd ps (toSp X.K g)) (hr : Room k X.A) (hg : Gl X x) (hm : X.mg x = some (.ref f)) (hk : PySem.W.keepIn X.K (.ref f) = true) (hb : KBn X.K fd ps 0 ks gp gV)
    (hD : ∀ (H : Hp) (μ : Mu) (ds : List D) (vs : List V), RepL X.K H μ ds vs → ds.length = ks.length → RepL X.K H μ (gD ds) (gV [] vs))
    (hkw : DK X kws ga) (hall : (backToKw pos (keywordEach kws X.env)).all (·.1.isSome) = true := by rfl) (hks : (backToKw pos (keywordEach kws X.env)).filterMap (·.1) = ks := by rfl)
    (hdb : (x == ("__debug__" : Str)) = false := by decide)
    (hpl : ((backTo pos (starEach [] X.env)).any (·.1) || (backToKw pos (keywordEach kws X.env)).any (·.1.isNone)) = false := by rfl) :
    DE X (.Call (.Name x p) [] kws pos) (gCallK g gD ks.length ga) := by
  obtain ⟨t, a1, a2⟩ := hkw.ex
  refine ⟨fun σ H Q => t σ H fun vs H1 => vs.length = ks.length ∧ toSp X.K g (gV [] vs) H1 Q E0, ⟨fun pins s σ H Q I h => ?_⟩, fun σ H δ μ Q R rm rs q f => ?_⟩
  · refine wpAny_Call_Name_kw (ld_glob I hg hm ?_ hdb)
    refine PySem.W.callWith_KW0 (h₀ := X.base) I.ok.mod.kin hk hall (thn (a1.run pos pins s σ H _ I h) fun us s1 ⟨vs, H1, I1, r, l, q⟩ => ⟨I1.kIn, ?_⟩) hpl
    rw [hks]
    exact run_fnN F hr hb (pass0 (X := X)) I1 .nil r rfl l q
  · refine a2 σ H δ μ _ _ rm rs q fun vs ds H1 μ1 k1 rm1 r1 q1 => ⟨by rw [r1.length]; exact q1.1, gD ds, μ1, R, rm1, hD H1 μ1 ds vs r1 q1.1, q1.2, f.re k1⟩
end
/-! ### tuple(range(n)), list(range(n)) -/
def upTo (n : Nat) : List D := (List.range n).map fun i => D.int (i : Nat)
theorem upTo_rep {K : PySem.W.Frag} {H : Hp} {μ : Mu} {n : Nat} : RepL K H μ (upTo n) (rgV 0 (n : Int)) := by
  unfold upTo rgV
  have e : ((n : Int) - 0).toNat = n := by omega
  rw [e]
  generalize List.range n = l
  induction l with
  | nil => exact RepL.nil
  | cons i l ih =>
    rw [List.map_cons, List.map_cons]
    refine RepL.cons ?_ ih
    have e : (0 : Int) + (i : Nat) = (i : Nat) := by omega
    rw [e]
    exact to_int
def gTupRg (g : GE) : GE := fun δ μ R => g δ μ fun d μ1 => match d with
  | .int i => ∃ n : Nat, i = n ∧ n ≤ 16777216 ∧ R (.tup (upTo n)) μ1
  | _ => False
section
variable {X : Cx} {a : Expr} {ga : GE} {p p2 pos q : Pos}
theorem de_tupRg (hc : X.calm = true) (hg : Gl X "tuple") (hm : X.mg "tuple" = none) (hg2 : Gl X "range") (hm2 : X.mg "range" = none) (ha : DE X a ga) (n1 : starEach [a] X.env = (false, eval a X.env) :: starEach [] X.env := by rfl)
    (n2 : starEach [.Call (.Name "range" p2) [a] [] q] X.env = (false, eval (.Call (.Name "range" p2) [a] [] q) X.env) :: starEach [] X.env := by rfl) : DE X (.Call (.Name "tuple" p) [.Call (.Name "range" p2) [a] [] q] [] pos) (gTupRg ga) := by
  obtain ⟨t, a1, a2⟩ := ha.ex
  refine ⟨_, pe_tupRg hc hg hm (prg_1 hg2 hm2 a1 n1) n2, fun σ H δ μ Q R rm rs q f => ?_⟩
  refine a2 σ H δ μ _ _ rm rs q fun v d H1 μ1 k1 rm1 r1 q1 => ?_
  cases d <;> try exact False.elim q1
  obtain ⟨n, rfl, hn, q1⟩ := q1
  refine ⟨(n : Int), rep_int r1, RgOk.of_le (by omega) (by omega) (by omega) (by omega), fun c nc => ?_⟩
  exact fw_tup rm1 nc upTo_rep q1 (f.re k1)
end
end DL
set_option Elab.async false
set_option linter.all false
set_option maxRecDepth 100000
namespace DL
open PySem PySem.Spec PyProof.Rows L2
/-! ### defs that are called where nothing is under way of repr: what they promise there -/
structure FnG (P : Program) (w : World) (K : PySem.W.Frag) (mg : Str → Option Value) (base : Heap) (k : Nat) (f : Addr) (fd : FuncData) (ps : List Str) (sp : Sp) : Prop where
  len : ∀ vs H Q E, sp vs H Q E → vs.length = ps.length
  run : ∀ (A : Around) (outer : List Env) (s : Shared) (H : Hp) (args : Args) (us : List Value) (vs : List V) (Q : VK), A.guards = some [] → Room k A → Env0 P w K mg base A outer s H → BindsTo s fd args (ps.zip us) → Vals vs us → sp vs H Q E0 →
    codeAny (model P w) A (.call (.ref f) args) (CR CX0 outer P w H s Q E0) s
section
variable {P : Program} {w : World} {K : PySem.W.Frag} {mg : Str → Option Value} {base : Heap}
theorem Fun.okG {x qual : Str} {st : Stmt} {f : Addr} {fd : FuncData} {N ps : List Str} {k : Nat} {sp : Sp} (F : Fun K x qual st f fd) (S : FnScope N ps (defScope st)) (len : ∀ vs H Q E, sp vs H Q E → vs.length = ps.length)
    (hbody : ∀ (cdv : Value) (A : Around) (outer : List Env) (s : Shared) (H : Hp) (vs : List V) (Q : VK), Room k (A.deeper (envOfC qual (defScope st) s.heap.objs.size f cdv)) → A.guards = some [] → sp vs H Q E0 →
      ∃ t, PSs (cxOf CX0 P w K mg base N qual (defScope st) f cdv A outer s H E0).nox (defBody st) t ∧ t { nx := fun _ H' => Q .non H', rt := Q } (start N vs) H) : FnG P w K mg base (k + 1) f fd ps sp := by
  obtain ⟨oc, od, kV, doc, pm, an, cdv, ct, osl, rfl, lk, hcd⟩ := F.ex
  refine ⟨len, fun A outer s H args us vs Q hG hr e0 hb r hsp => ?_⟩
  have hl := len _ _ _ _ hsp
  have stays : ∀ b o, base.get? b = some o → s.heap.get? b = some o := fun b o e => (e0.bs b o e).1
  have KX : K.In s.heap := e0.mod.kin.keeps stays
  have lim : s.heap.NoLimit := e0.mod.nolimit.keeps stays
  have hkind : ∀ y ∈ ps.zip us, (defScope st).names.lookup y.1 = some .local ∨ ((defScope st).names.lookup y.1 = some .cell ∧ ((cellsFrom (s.heap.objs.size + 1) (defScope st).names []).lookup y.1).isSome = true) := fun ⟨n, v⟩ hy =>
    (S.par n (List.of_mem_zip hy).1).imp id fun q => ⟨q, PySem.W.cellsFrom_some _ _ _ (.inl q)⟩
  refine codeAny_call_function hr.depth (KX _ _ lk) rfl S.co S.gen rfl (PySem.W.codeRec_of KX hcd) (hb _ _ _ _ ?_)
  refine wpAny_newFunctionEnv_cells S.kind hkind fun env he s1 x => ?_
  subst he
  refine ⟨lim.keeps x.toInCall.keep, codeAny_func ?_⟩
  obtain ⟨t, ht, hq⟩ := hbody cdv A outer s H vs Q (hr.deeper _) hG hsp
  have I : Inv (cxOf CX0 P w K mg base N qual (defScope st) f cdv A outer s H E0) [] (start N vs) H s1 := inv_start S hr.hd e0 hl r x
  refine wpAny_mono (ht.nox.run [] s1 (start N vs) H _ I hq) (fun fl s' hs => ?_) fun e s' hs => hs
  cases fl with
  | ret u =>
    obtain ⟨v, σ', H', J, rv, q⟩ := hs
    exact ⟨v, H', J.os, J.bare, J.base, J.hok, rv, q⟩
  | next =>
    obtain ⟨σ', H', J, q⟩ := hs
    exact ⟨V.non, H', J.os, J.bare, J.base, J.hok, rfl, q⟩
  | brk =>
    obtain ⟨_, _, _, q⟩ := hs
    exact False.elim q
  | cont =>
    obtain ⟨_, _, _, q⟩ := hs
    exact False.elim q
theorem okDG {x qual : Str} {st : Stmt} {f : Addr} {fd : FuncData} {N ps : List Str} {k : Nat} {g : GC} (F : Fun K x qual st f fd) (S : FnScope N ps (defScope st)) (len : ∀ ds μ R, g ds μ R → ds.length = ps.length)
    (h : ∃ gb : GS, (∀ (cdv : Value) (A : Around) (outer : List Env) (s : Shared) (H : Hp), Room k (A.deeper (envOfC qual (defScope st) s.heap.objs.size f cdv)) → A.guards = some [] →
        DSs (cxOf CX0 P w K mg base N qual (defScope st) f cdv A outer s H E0).nox (defBody st) gb) ∧
      ∀ ds μ R, g ds μ R → gb { nx := fun _ μ' => R .non μ', rt := R } (begin_ N ds) μ) : FnG P w K mg base (k + 1) f fd ps (toSp K g) := by
  obtain ⟨gb, hb, hg⟩ := h
  refine Fun.okG F S (fun vs H Q E ⟨ds, μ, R, rm, rl, q, fw⟩ => by rw [rl.length]; exact len ds μ R q) fun cdv A outer s H vs Q hr hG ⟨ds, μ, R, rm, rl, q, fw⟩ => ?_
  obtain ⟨t, a, b⟩ := (hb cdv A outer s H hr hG).ex
  refine ⟨t, a, b _ H (begin_ N ds) μ _ { nx := fun _ μ' => R .non μ', rt := R } rm ?_ ⟨fun σ H' δ μ' k rm' _ q' => fw .non .non H' μ' k rm' (by unfold Rep; rfl) q', fw, fun _ _ _ _ _ _ _ z => z, fun _ _ _ _ _ _ _ z => z⟩ (hg ds μ R q)⟩
  show RepS K H μ (ds.map some ++ List.replicate (N.length - ds.length) none) (vs.map some ++ List.replicate (N.length - vs.length) none)
  rw [rl.length]
  exact repS_some _ rl
end
/-! ### calls of them -/
section
variable {X : Cx} {k : Nat} {f : Addr} {fd : FuncData} {ps : List Str} {sp : Sp} {x : Str} {p pos : Pos} {e : Expr} {es : List Expr} {t : TA}
theorem run_fnG {pins : List (Addr × Obj)} {σ : L2.St} {H : Hp} {s : Shared} {Q : VK} {us : List Value} {vs : List V} (F : FnG X.prog X.w X.K X.mg X.base k f fd ps sp) (hG : X.A.guards = some []) (hr : Room k X.A) (hb : Binds X.K fd ps [])
    (I : Inv X pins σ H s) (r : Vals vs us) (h : sp vs H Q E0) : wpAny (model X.prog X.w) X.A (call (.ref f) us) (EP X pins σ Q) X.xe s := by
  have hl : us.length = ps.length := by rw [← r.length]; exact F.len _ _ _ _ h
  have hb' := hb s us I.kIn (by rw [List.append_nil]; exact hl)
  rw [List.append_nil] at hb'
  refine wpAny_call (codeAny_mono (F.run X.A X.stack s H ⟨us, []⟩ us vs Q hG hr I.env0 hb' r h) fun r s' hq => ?_)
  cases r with
  | error e => exact hq.elim
  | ok fl =>
    cases fl with
    | ret u => exact I.after hq
    | next => exact False.elim hq
    | brk => exact False.elim hq
    | cont => exact False.elim hq
variable {g : GC} {ga : GA}
theorem de_callG (F : FnG X.prog X.w X.K X.mg X.base k f fd ps (toSp X.K g)) (hG : X.A.guards = some []) (hr : Room k X.A) (hg : Gl X x) (hm : X.mg x = some (.ref f)) (hk : PySem.W.keepIn X.K (.ref f) = true) (hb : Binds X.K fd ps [])
    (ha : DA X (e :: es) ga) (hdb : (x == ("__debug__" : Str)) = false := by decide) (he : starEach (e :: es) X.env = (false, eval e X.env) :: starEach es X.env := by rfl) (hpl : (backTo pos (starEach es X.env)).any (·.1) = false := by rfl) :
    DE X (.Call (.Name x p) (e :: es) [] pos) (gCall g ga) := by
  obtain ⟨t, a1, a2⟩ := ha.ex
  refine ⟨fun σ H Q => t σ H fun vs H1 => toSp X.K g vs H1 Q E0, ⟨fun pins s σ H Q I h => ?_⟩, fun σ H δ μ Q R rm rs q f => ?_⟩
  · refine wpAny_Call_Name_kw (ld_glob I hg hm ?_ hdb)
    refine PySem.W.callWith_K (h₀ := X.base) I.ok.mod.kin hk (thn (a1.run pos pins s σ H _ I h) fun us s1 ⟨vs, H1, I1, r, q⟩ => ⟨I1.kIn, ?_⟩) he hpl
    exact run_fnG F hG hr hb I1 r q
  · exact a2 σ H δ μ _ _ rm rs q fun vs ds H1 μ1 k1 rm1 r1 q1 => ⟨ds, μ1, R, rm1, r1, q1, f.re k1⟩
end
/-! ### the law's call -/
theorem caller_guards : callerA.guards = some [] := rfl
section
variable {P : Program} {w : World} {K : PySem.W.Frag} {mg mb : Str → Option Value} {k : Nat} {fa a : Addr} {fd : FuncData} {x : Str} {g : GC} {s₁ : Shared} {vs : List Value} {ns : List Int}
theorem law_callD (KX : K.In s₁.heap) (hns : s₁.heap.Ns mainGlobals mg) (hb : s₁.heap.Ns builtinsNs mb) (hbb : ∀ x : Str, x ≠ "__name__" → mb x = bootBuiltins x) (hlim : s₁.heap.NoLimit) (hg : s₁.gens = #[])
    (ha : s₁.heap.get? a = some { cls := .type "list", data := .seq vs.toArray }) (hi : IntsAre vs ns) (hl : ns.length ≤ sizeLine) (hr : Room k callerA)
    (F : ∀ base : Heap, K.In base → base.Ns mainGlobals mg → FnG P w K mg base k fa fd [x] (toSp K g)) (hbind : ∀ (s : Shared) (u : Value), BindsTo s fd ⟨[u], []⟩ [(x, u)])
    (hsp : g [.seq (ns.map D.int)] (fun _ => none) fun d _ => d = .bl true) :
    codeAny (model P w) callerA (.call (.ref fa) ⟨[.ref a], []⟩) (fun r s' => r = .ok (.ret (.bool true)) ∧ OldK s₁.heap s'.heap ∧ s'.os = s₁.os ∧ AllBare s'.gens) s₁ := by
  have key : ∀ H : Hp, Only H → SqL K H a (ns.map V.int) → toSp K g [.ref a] H (fun v _ => v = .bl true) fun _ _ _ => False := fun H hO hS => by
    have rm : RM K H (fun _ => none) := fun b o e => nomatch e
    refine ⟨[.seq (ns.map D.int)], fun _ => none, fun d _ => d = .bl true, rm, ?_, hsp, fun v d H' μ' _ _ r e => ?_⟩
    · refine RepL.cons ?_ RepL.nil
      unfold Rep
      refine ⟨a, ns.map V.int, rfl, ?_, RepL.of_ints ns⟩
      rcases hS with h | h
      · exact .inl ⟨h, rfl⟩
      · exact .inr fun H' => .inr h
    · subst e
      exact rep_bl r
  have rv := vals_ints hi
  have lenV := hi.length
  have core : ∀ H : Hp, Only H → SqL K H a (ns.map V.int) → HOk P w H s₁.heap → (∀ b, H b ≠ none → b = a) → (H a ≠ none → K.lookup a = none) →
      codeAny (model P w) callerA (.call (.ref fa) ⟨[.ref a], []⟩) (fun r s' => r = .ok (.ret (.bool true)) ∧ OldK s₁.heap s'.heap ∧ s'.os = s₁.os ∧ AllBare s'.gens) s₁ := by
    intro H hO hS hok hA hK
    have free : ∀ {b : Addr}, b ≠ a → H b = none := fun {b} n => Classical.byContradiction fun q => n (hA b q)
    have nsK : ∀ {b : Addr} {m : Str → Option Value}, s₁.heap.Ns b m → (hidT s₁.heap H).Ns b m := fun {b m} ⟨o, es, ep, e, d, r⟩ =>
      ⟨o, es, ep, hidT_get e (free fun z => by
        subst z
        rw [ha] at e
        cases e
        cases d), d, r⟩
    have hKb : K.In (hidT s₁.heap H) := fun b o e => hidT_get (KX b o e) (Classical.byContradiction fun q => by
      have z := hA b q
      subst z
      rw [hK q] at e
      cases e)
    obtain ⟨mc, l1, l2⟩ := hlim
    have hM : Mod K mg (hidT s₁.heap H) := ⟨hKb, nsK hns, ⟨mb, nsK hb, hbb⟩, ⟨mc, nsK l1, l2⟩⟩
    have e0 : Env0 P w K mg (hidT s₁.heap H) callerA [] s₁ H := ⟨rfl, hM, fun b o e => of_hidT e, Nat.le_of_eq (hidT_size _ _), trivial, fun b hb => absurd (show b ∈ ([] : List Addr) from hb) (by simp), hok, .of_eq hg⟩
    refine codeAny_mono ((F _ hKb (nsK hns)).run callerA [] s₁ H ⟨[.ref a], []⟩ [.ref a] [.ref a] _ caller_guards hr e0 (hbind s₁ (.ref a)) (.cons rfl .nil) (key H hO hS)) fun r s' h => ?_
    cases r with
    | error e => exact h.elim
    | ok fl =>
      cases fl with
      | next => exact False.elim h
      | brk => exact False.elim h
      | cont => exact False.elim h
      | ret u =>
        obtain ⟨v, H', os, bare, un, hok', r', q⟩ := h
        have q' : v = .bl true := q
        subst q'
        obtain rfl : u = Value.bool true := r'
        refine ⟨rfl, OldK.of_keep fun b o e => ?_, os, bare⟩
        rcases hO b with z | ⟨ob, xs, z⟩
        · exact un.keep b o e z (fun z => absurd (show b ∈ ([] : List Addr) from z) (by simp)) (by simp)
        · obtain ⟨e1, _⟩ := hok b _ z
          obtain ⟨e2, _⟩ := hok' b _ (un.frzs b ob _ z)
          rw [e] at e1
          cases e1
          exact e2
  cases hk : K.lookup a with
  | some o =>
    have e := KX a o hk
    rw [ha] at e
    cases e
    exact core (fun _ => none) (fun _ => .inl rfl) (.inr ⟨_, vs.toArray, _, hk, rfl, rfl, rfl, by rw [List.size_toArray, lenV]; exact hl, by simpa using rv⟩) (fun b u z => nomatch z) (fun b z => absurd rfl z) fun z => absurd rfl z
  | none =>
    have at_ : ∀ b, (if b = a then some (HO.frz { cls := .type "list", data := .seq vs.toArray } (.lst (ns.map V.int))) else none) ≠ none → b = a := fun b z => Classical.byContradiction fun n => z (if_neg n)
    refine core (fun b => if b = a then some (.frz { cls := .type "list", data := .seq vs.toArray } (.lst (ns.map V.int))) else none) (fun b => ?_) (.inl (.inr ⟨{ cls := .type "list", data := .seq vs.toArray }, if_pos rfl⟩)) (fun b u z => ?_) at_ fun _ => hk
    · by_cases hb : b = a
      · exact .inr ⟨_, _, if_pos hb⟩
      · exact .inl (if_neg hb)
    · have hb : b = a := at_ b (fun q => by
        have z' := q.symm.trans z
        cases z')
      subst hb
      have z' := (if_pos rfl).symm.trans z
      cases z'
      exact ⟨ha, by rw [List.length_map]; exact hl, vs, _, rv, ha⟩
end
/-- the goal that the head leaves, from the law's reading -/
theorem walk_ofD {l : PySem.W.OpenLaw} {n k : Nat} {q : Program} {loose : List Str} {XP : (Str → Option Value) → Heap → Prop} {YP : World → Heap → Prop} {d : DefRec} {K : Params → PySem.W.Frag} {g : GC} {x : Str}
    (hn : l.most = some n) (hn2 : n ≤ sizeLine) (hdf : d.params.defaults = []) (hr : Room k callerA)
    (hY : ∀ (w : World) (h : Heap), YP w h → (K w.params).In h)
    (F : ∀ (w : World) (mg : Str → Option Value) (fa : Addr) (h : Heap), (K w.params).In h → h.Ns mainGlobals mg → mg d.name = some (.ref fa) →
      ∃ fd : FuncData, (∀ (s : Shared) (u : Value), BindsTo s fd ⟨[u], []⟩ [(x, u)]) ∧
        ∀ base : Heap, (K w.params).In base → base.Ns mainGlobals mg → FnG l.prog w (K w.params) mg base k fa fd [x] (toSp (K w.params) g))
    (hsp : ∀ (ns : List Int), ns.length ≤ n → (∀ z ∈ ns, Builtin.Int.intBits z ≤ 1048576) → g [.seq (ns.map D.int)] (fun _ => none) fun d _ => d = .bl true) :
    PySem.W.WalkO q loose XP YP l.row.toRowW d [] (fun f vs => PySem.call f vs) := by
  refine Att.attach_callB hn hdf fun w s₀ s₁ mg mb fa o pm cd doc a vs ns G Y ho hd hcd hmg hobj hints hlen hbits hg => ?_
  have KX := hY w _ Y
  obtain ⟨fd, hb, hF⟩ := F w mg fa _ KX G.T.g hmg
  exact law_callD KX G.T.g G.T.b G.T.builtins G.T.nolimit hg hobj hints (Nat.le_trans hlen hn2) hr hF hb (hsp ns hlen hbits)
end DL
set_option Elab.async false
set_option linter.all false
set_option maxRecDepth 100000
namespace DL
open PySem PySem.Spec PyProof.Rows L2
/-! ### repr of nested tuples and lists -/
def isBox : D → Bool
  | .tup _ => true
  | .lst _ => true
  | .seq _ => true
  | _ => false
structure ShowOk (p : PyData) : Prop where
  lay : p.layable0 = true
  shrt : p.intsShort 13 = true
  show_ : p.showable = true
  nod : p.hasDict = false
  dp : p.depth ≤ 20
def gRepr1 : G1 := fun x μ R => (∃ i : Int, x = .int i ∧ i.natAbs.log2 < 1920 ∧ R (.str (toString i)) μ) ∨ ∃ p, isBox x = true ∧ py x = some p ∧ ShowOk p ∧ R (.str p.shown) μ
def rRepr (K : PySem.W.Frag) : List V → Hp → VK → Prop := fun xs H Q => (∃ i : Int, xs = [.int i] ∧ i.natAbs.log2 < 1920 ∧ Q (.str (toString i)) H) ∨ ∃ a p, xs = [.ref a] ∧ Dp K H (.ref a) p ∧ ShowOk p ∧ Q (.str p.shown) H
theorem cr_repr {X : Cx} (hG : X.A.guards = some []) (hu : X.A.units + 64 < cLine) : CallR X (.builtin "repr") (rRepr X.K) := by
  intro pins s σ H vs us Q I r h
  rcases h with h | ⟨a, p, rfl, hd, hs, q⟩
  · exact SkE.call_repr_int pins s σ H vs us Q I r h
  · obtain ⟨u, rfl, ru⟩ := vals1 r
    obtain ⟨as, rd⟩ := hd.reads I p _ _ ru
    cases ru
    refine repr_of_reads' (h₀ := s.heap) rd hs.show_ (PyData.noDict_hsm hs.nod) hG (by have := hs.dp; omega) (fun _ _ e => e) (fun h' t tk hk => ?_) ?_
    · exact ⟨.str p.shown, H, I.kept (t' := tk) hk, ⟨t, rfl⟩, q⟩
    · have := shown_le13 hs.lay hs.shrt
      rw [sizeLine_eq]
      omega
theorem sim_repr {K : PySem.W.Frag} : SimC K (rRepr K) (g1 gRepr1) := sim_g1 fun v d H μ Q R rm rv q f => by
  rcases q with ⟨i, rfl, hl, q⟩ | ⟨p, hb, hp, hs, q⟩
  · exact .inl ⟨i, by rw [rep_int rv], hl, fw_now rm to_str q f⟩
  · have hd := rv.dp _ _ _ hp
    have : ∃ a, v = .ref a := by
      cases d <;> try cases hb
      · obtain ⟨a, vs, rfl, _⟩ := rep_tup rv
        exact ⟨a, rfl⟩
      · obtain ⟨a, vs, rfl, _⟩ := rep_lst rv
        exact ⟨a, rfl⟩
      · obtain ⟨a, vs, rfl, _⟩ := rep_seq rv
        exact ⟨a, rfl⟩
    obtain ⟨a, rfl⟩ := this
    exact .inr ⟨a, p, rfl, hd, hs, fw_now rm to_str q f⟩
end DL
set_option Elab.async false
set_option linter.all false
set_option maxRecDepth 100000
namespace DL
open PySem PySem.Spec PyProof.Rows L2
/-! ### max, min of two texts -/
def rMaxS : List V → Hp → VK → Prop := fun xs H Q => ∃ x y : Str, xs = [.str x, .str y] ∧ Q (.str (if x.cps.toList < y.cps.toList then y else x)) H
def rMinS : List V → Hp → VK → Prop := fun xs H Q => ∃ x y : Str, xs = [.str x, .str y] ∧ Q (.str (if y.cps.toList < x.cps.toList then y else x)) H
theorem vals2 {x y : V} {us : List Value} (r : Vals [x, y] us) : ∃ u v, us = [u, v] ∧ RelV x u ∧ RelV y v := by
  cases r with
  | cons r rr =>
    cases rr with
    | cons r' rr =>
      cases rr
      exact ⟨_, _, rfl, r, r'⟩
theorem cr_maxS {X : Cx} (hc : X.calm = true) : CallR X (.builtin "max") rMaxS := by
  intro pins s σ H vs us Q I r h
  obtain ⟨x, y, rfl, q⟩ := h
  obtain ⟨u, v, rfl, ⟨t, rfl⟩, ⟨t', rfl⟩⟩ := vals2 r
  refine max_strs (I.ok.hd hc) fun h' tk hk => ⟨.str (if x.cps.toList < y.cps.toList then y else x), H, I.kept (t' := tk) hk, ?_, q⟩
  split
  · exact ⟨t', rfl⟩
  · exact ⟨t, rfl⟩
theorem cr_minS {X : Cx} (hc : X.calm = true) : CallR X (.builtin "min") rMinS := by
  intro pins s σ H vs us Q I r h
  obtain ⟨x, y, rfl, q⟩ := h
  obtain ⟨u, v, rfl, ⟨t, rfl⟩, ⟨t', rfl⟩⟩ := vals2 r
  refine min_strs (I.ok.hd hc) fun h' tk hk => ⟨.str (if y.cps.toList < x.cps.toList then y else x), H, I.kept (t' := tk) hk, ?_, q⟩
  split
  · exact ⟨t', rfl⟩
  · exact ⟨t, rfl⟩
def gMaxS2 : G2 := fun x y μ R => match x, y with
  | .str x, .str y => R (.str (if x.cps.toList < y.cps.toList then y else x)) μ
  | _, _ => False
def gMinS2 : G2 := fun x y μ R => match x, y with
  | .str x, .str y => R (.str (if y.cps.toList < x.cps.toList then y else x)) μ
  | _, _ => False
theorem sim_maxS {K : PySem.W.Frag} : SimC K rMaxS (g2 gMaxS2) := sim_g2 fun v w d e H μ Q R rm rv rw q f => by
  cases d <;> cases e <;> try exact False.elim q
  exact ⟨_, _, by rw [rep_str rv, rep_str rw], fw_now rm to_str q f⟩
theorem sim_minS {K : PySem.W.Frag} : SimC K rMinS (g2 gMinS2) := sim_g2 fun v w d e H μ Q R rm rv rw q f => by
  cases d <;> cases e <;> try exact False.elim q
  exact ⟨_, _, by rw [rep_str rv, rep_str rw], fw_now rm to_str q f⟩
/-! ### a walk over a list or a tuple -/
def iBoth (K : PySem.W.Frag) (tl : TE) : TI := fun σ H R => tl σ H fun x H1 => ∃ a, x = .ref a ∧ (((∃ xs, SqL K H1 a xs) ∧ R (Itl K a) H1) ∨ ((∃ xs, SqT K H1 a xs) ∧ R (Itt K a) H1))
theorem pi_both {X : Cx} {tg l : Expr} {tl : TE} (hl : PE X l tl) : PI X tg l (iBoth X.K tl) := by
  refine ⟨fun pins s σ H R I h => ?_⟩
  refine thn (hl.run pins s σ H _ I h) fun v s1 ⟨x, H1, I1, r1, a, e, q1⟩ => ?_
  subst e
  cases r1
  have fp : ∀ b, b ∈ [s1.heap.objs.size] → FpOk X pins H1 b := fun b hb => by
    have e : b = s1.heap.objs.size := by simpa using hb
    subst e
    exact I1.fpOk (Nat.le_refl _) (I1.hok.fresh (Nat.le_refl _))
  rcases q1 with ⟨⟨xs, hq⟩, q⟩ | ⟨⟨xs, hq⟩, q⟩
  · obtain ⟨its, rv, p, hz⟩ := I1.list hq
    exact wpAny_pyIter_list p.isList ⟨s1.heap.objs.size, [s1.heap.objs.size], _, _, H1, rfl, I1.kept (t' := s1.toks) fun b o e => Heap.get?_push_of_some _ e, turn_list a _, ⟨_, Heap.get?_push_size _ rfl, rfl, rfl⟩, fp, q⟩
  · obtain ⟨its, rv, p, hz⟩ := I1.tuple hq
    exact wpAny_pyIter_tuple (show s1.heap.IsTuple a its.toArray from p) ⟨s1.heap.objs.size, [s1.heap.objs.size], _, _, H1, rfl, I1.kept (t' := s1.toks) fun b o e => Heap.get?_push_of_some _ e, turn_tuple a _, ⟨_, Heap.get?_push_size _ rfl, rfl, rfl⟩, fp, q⟩
def gItemsB (g : GE) : GI := fun δ μ R => g δ μ fun d μ1 => match d with
  | .lst ds => R ds μ1
  | .seq ds => R ds μ1
  | .tup ds => R ds μ1
  | _ => False
theorem walk_tupD {K : PySem.W.Frag} {a : Addr} {vs : List V} {ds : List D} {H : Hp} {μ : Mu} (im : ImT K H μ a vs) (rl : RepL K H μ ds vs) : WalkD K (Itt K a) ds H μ := by
  have e := rl.length
  rw [WalkD, ← e]
  refine (walk_tup (K := K) (a := a) (xs := vs)).mono (fun H' ⟨μ', k, _⟩ => (im.mono k).sq) fun i H' x H2 hi _ ⟨e1, e2⟩ μ' k rm => ?_
  subst e1
  obtain ⟨d, e3, r1⟩ := (rl.mono k).atV e2
  exact ⟨d, e3, r1, Kp.refl _ _, rm⟩
theorem di_both {X : Cx} {tg e : Expr} {g : GE} (h : DE X e g) : DI X tg e (gItemsB g) := by
  obtain ⟨t, a1, a2⟩ := h.ex
  refine ⟨_, pi_both a1, fun σ H δ μ Q R rm rs q f => ?_⟩
  refine a2 σ H δ μ _ _ rm rs q fun v d H1 μ1 k1 rm1 r1 q1 => ?_
  cases d <;> try exact False.elim q1
  · obtain ⟨a, vs, rfl, im, rl⟩ := rep_tup r1
    exact ⟨a, rfl, .inr ⟨⟨vs, im.sq⟩, f _ _ H1 μ1 k1 rm1 (walk_tupD im rl) q1⟩⟩
  · obtain ⟨a, vs, rfl, e1, e2, rl⟩ := rep_lst r1
    exact ⟨a, rfl, .inl ⟨⟨vs, SqL.of e1⟩, f _ _ H1 μ1 k1 rm1 (walk_seq (fun H' μ' k => SqL.of (k.k1 _ _ e1 e2)) rl) q1⟩⟩
  · obtain ⟨a, vs, rfl, im, rl⟩ := rep_seq r1
    exact ⟨a, rfl, .inl ⟨⟨vs, im.sq⟩, f _ _ H1 μ1 k1 rm1 (walk_seq (fun H' μ' k => (im.mono k).sq) rl) q1⟩⟩
end DL
set_option Elab.async false
set_option linter.all false
set_option maxRecDepth 100000
namespace DL
open PySem PySem.Spec PyProof.Rows L2
/-! ### comprehensions -/
theorem take_succ_get {α : Type} {l : List α} {i : Nat} {x : α} (h : l[i]? = some x) : l.take (i + 1) = l.take i ++ [x] := by
  rw [List.take_add_one, h]
  rfl
section
variable {gt : GG} {gc : GT} {ge : GE} {own : List Nat} {δ : DS} {μ1 : Mu} {R : KD} {items : List D}
/-- nothing changes but the new list -/
theorem lcb_pure (p : D → Bool) (f : D → D) (hl : items.length < sizeLine)
    (hx : ∀ x ∈ items, ∀ (μ' : Mu) (N : Mu → Prop) (Y : KD), (∀ b o, μ1 b = some o → μ' b = some o) → (p x = false → N μ') → (p x = true → Y (f x) μ') →
      gt x (wiped δ own) fun δ2 => gc δ2 μ' fun b μ2 => if b = true then ge δ2 μ2 Y else N μ2) (hr : R (.lst ((items.filter p).map f)) μ1) : LcB gt gc ge own δ R items μ1 := by
  refine ⟨fun a na => ?_⟩
  refine ⟨fun i μ' => μ' = put μ1 a (.lst (((items.take i).filter p).map f)), rfl, fun i x μ' hi e => ?_, fun μ' e => ?_⟩
  · subst e
    have ht := take_succ_get hi
    have hm : x ∈ items := List.mem_of_getElem? hi
    refine hx x hm _ _ _ (fun b o e => ?_) (fun hp => ?_) fun hp => ?_
    · rw [put_ne (fun z => by rw [z, na] at e; cases e)]
      exact e
    · show put μ1 a _ = put μ1 a _
      rw [ht, List.filter_append, List.filter_cons_of_neg (by rw [hp]; simp), List.filter_nil, List.append_nil]
    · refine ⟨_, put_same, ?_, ?_⟩
      · have : (((items.take i).filter p).map f).length ≤ items.length := by
          rw [List.length_map]
          exact Nat.le_trans (List.length_filter_le _ _) (by rw [List.length_take]; omega)
        omega
      · show put (put μ1 a _) a _ = put μ1 a _
        rw [put_put, ht, List.filter_append, List.filter_cons_of_pos hp, List.filter_nil, List.map_append]
        rfl
  · subst e
    refine ⟨_, put_same, ?_⟩
    rw [del_put na, List.take_length]
    exact hr
/-- no condition -/
theorem lcb_map (f : D → D) (hl : items.length < sizeLine)
    (hx : ∀ x ∈ items, ∀ (μ' : Mu) (Y : KD), (∀ b o, μ1 b = some o → μ' b = some o) → Y (f x) μ' → gt x (wiped δ own) fun δ2 => ge δ2 μ' Y) (hr : R (.lst (items.map f)) μ1) : LcB gt gYes ge own δ R items μ1 := by
  refine lcb_pure (fun _ => true) f hl (fun x hm μ' N Y k _ hy => hx x hm μ' Y k (hy rfl)) ?_
  rw [show items.filter (fun _ => true) = items from List.filter_eq_self.mpr fun _ _ => rfl]
  exact hr
/-- the other cells change with the turns: J i ys ν, ys the list so far, ν the store without it -/
theorem lcb_eff (J : Nat → List D → Mu → Prop) (hl : items.length < sizeLine) (h0 : J 0 [] μ1) (hlen : ∀ i ys ν, J i ys ν → ys.length ≤ i)
    (hx : ∀ i x, items[i]? = some x → ∀ (a : Addr) (ys : List D) (ν : Mu) (N : Mu → Prop) (Y : KD), ν a = none → J i ys ν → (∀ ν', ν' a = none → J (i + 1) ys ν' → N (put ν' a (.lst ys))) →
      (∀ y ν', ν' a = none → J (i + 1) (ys ++ [y]) ν' → Y y (put ν' a (.lst ys))) →
      gt x (wiped δ own) fun δ2 => gc δ2 (put ν a (.lst ys)) fun b μ2 => if b = true then ge δ2 μ2 Y else N μ2)
    (hr : ∀ ys ν, J items.length ys ν → R (.lst ys) ν) : LcB gt gc ge own δ R items μ1 := by
  refine ⟨fun a na => ?_⟩
  refine ⟨fun i μ' => ∃ ys ν, ν a = none ∧ J i ys ν ∧ μ' = put ν a (.lst ys), ⟨[], μ1, na, h0, rfl⟩, ?_, ?_⟩
  · rintro i x μ' hi ⟨ys, ν, nν, hj, rfl⟩
    have hi' : i < items.length := (List.getElem?_eq_some_iff.mp hi).1
    refine hx i x hi a ys ν _ _ nν hj (fun ν' n j => ⟨ys, ν', n, j, rfl⟩) fun y ν' n j => ⟨ys, put_same, ?_, ys ++ [y], ν', n, j, put_put⟩
    have := hlen i ys ν hj
    omega
  · rintro μ' ⟨ys, ν, nν, hj, rfl⟩
    refine ⟨ys, put_same, ?_⟩
    rw [del_put nν]
    exact hr ys ν hj
end
theorem sim_chain {K : PySem.W.Frag} {r r' : R2} {ta tb tc : TE} {g g' : G2} {ga gb gc : GE} (h : SimO K r g) (h' : SimO K r' g') (a2 : SimE K ta ga) (b2 : SimE K tb gb) (c2 : SimE K tc gc) : SimE K (tChain r r' ta tb tc) (gChain g g' ga gb gc) := by
  intro σ H δ μ Q R rm rs q f
  refine a2 σ H δ μ _ _ rm rs q fun v d H1 μ1 k1 rm1 r1 q1 => ?_
  refine b2 σ H1 δ μ1 _ _ rm1 (rs.mono k1) q1 fun v2 d2 H2 μ2 k2 rm2 r2 q2 => ?_
  refine h v v2 d d2 H2 μ2 _ _ rm2 (r1.mono k2) r2 q2 fun v3 d3 H3 μ3 k3 rm3 r3 q3 => ?_
  cases d3 <;> try exact False.elim q3
  rename_i k
  unfold Rep at r3
  refine ⟨k, r3, ?_⟩
  cases k with
  | false => exact f (.bl false) (.bl false) H3 μ3 (k1.trans (k2.trans k3)) rm3 (by unfold Rep; rfl) q3
  | true => exact c2 σ H3 δ μ3 _ _ rm3 (rs.mono (k1.trans (k2.trans k3))) q3 fun v4 d4 H4 μ4 k4 rm4 r4 q4 => h' v2 v4 d2 d4 H4 μ4 Q R rm4 (r2.mono (k3.trans k4)) r4 q4 (f.re (k1.trans (k2.trans (k3.trans k4))))
theorem dt_chain {X : Cx} {a b c : Expr} {ga gb gc : GE} {pos : Pos} {op op' : CmpOp} {r r' : R2} {g g' : G2} (ho : OpR X (compareOp op) r) (h : SimO X.K r g) (ho' : OpR X (compareOp op') r') (h' : SimO X.K r' g') (ha : DE X a ga) (hb : DE X b gb) (hc : DE X c gc)
    (hm : lastMarks [op, op'] [b, c] = false := by with_unfolding_all rfl) : DT X (.Compare a [op, op'] [b, c] pos) (gB (gChain g g' ga gb gc)) := by
  obtain ⟨t, a1, a2⟩ := ha.ex
  obtain ⟨u, b1, b2⟩ := hb.ex
  obtain ⟨w, c1, c2⟩ := hc.ex
  exact ⟨_, pt_chain ho ho' a1 b1 c1 hm, sim_b (sim_chain h h' a2 b2 c2)⟩
end DL
set_option Elab.async false
set_option linter.all false
set_option maxRecDepth 100000
namespace DL
open PySem PySem.Spec PyProof.Rows L2
/-! ### a comprehension whose list goes on as a cell -/
structure LcC (gt : GG) (gc : GT) (ge : GE) (own : List Nat) (δ : DS) (R : KD) (items : List D) (μ1 : Mu) : Prop where
  ex : ∀ a, μ1 a = none → ∃ Iv : Nat → Mu → Prop, Iv 0 (put μ1 a (.lst [])) ∧
  (∀ i x μ', items[i]? = some x → Iv i μ' → gt x (wiped δ own) fun δ2 => gc δ2 μ' fun b μ2 => if b = true then ge δ2 μ2 fun y μ3 => ∃ acc, μ3 a = some (.lst acc) ∧ acc.length < sizeLine ∧ Iv (i + 1) (put μ3 a (.lst (acc ++ [y]))) else Iv (i + 1) μ2) ∧
  ∀ μ', Iv items.length μ' → ∃ acc, μ' a = some (.lst acc) ∧ R (.adr a) μ'
def gLcC (gi : GI) (gt : GG) (gc : GT) (ge : GE) (own : List Nat) : GE := fun δ μ R => gi δ μ (LcC gt gc ge own δ R)
theorem sim_lcC {K : PySem.W.Frag} {ti : TI} {gi : GI} {g : TG} {gg : GG} {ow : List Nat} {tc : TT} {gc : GT} {te : TE} {ge : GE} {own : List Nat} (hi : SimI K ti gi) (sg : SimG K g gg ow) (ho : ∀ i ∈ ow, i ∈ own) (hc : SimT K tc gc) (he : SimE K te ge) :
    SimE K (tLc ti g tc te own) (gLcC gi gg gc ge own) := by
  intro σ H δ μ Q R rm rs q f
  refine hi σ H δ μ _ _ rm rs q fun J items H1 μ1 k1 rm1 wk q1 => ?_
  intro D nD
  obtain ⟨Iv, h0, hstep, hend⟩ := q1.ex D (rm1.free nD)
  have kc : Kp H1 μ1 (upd H1 D (.lst [])) (put μ1 D (.lst [])) := Kp.cell nD
  refine lc_it wk (fun i H => ∃ μ, Kp H1 μ1 H μ ∧ RM K H μ ∧ Iv i μ) ⟨_, kc, rm1.cell nD RepL.nil, h0⟩ (fun i H _ ⟨μ, k, rm, _⟩ => ⟨μ, k, rm⟩) ?_ ?_
  · rintro i x H2 H3 hi2 ⟨μ2, k2, rm2, iv⟩ y
    obtain ⟨d, e1, r1, k3, rm3⟩ := y μ2 k2 rm2
    have rsw : RepS K H3 μ2 (wiped δ own) (L2.wipe σ own) := (rs.mono (k1.trans (k2.trans k3))).wipe own
    refine sg x d _ H3 _ μ2 _ _ rm3 rsw r1 (hstep i d μ2 e1 iv) fun σ4 δ4 rs4 q4 w4 => ⟨(w4 own ho).trans wipe_wipe, ?_⟩
    refine hc σ4 H3 δ4 μ2 _ _ rm3 rs4 q4 fun b H5 μ5 k5 rm5 q5 => ?_
    cases b with
    | false => exact ⟨μ5, k2.trans (k3.trans k5), rm5, q5⟩
    | true =>
      rw [if_pos rfl] at q5 ⊢
      refine he σ4 H5 δ4 μ5 _ _ rm5 (rs4.mono k5) q5 fun v d6 H6 μ6 k6 rm6 r6 q6 => ?_
      obtain ⟨acc, ea, hl, iv6⟩ := q6
      obtain ⟨vs, h1, h2⟩ := rm6 D _ ea
      have kw : Kp H6 μ6 (upd H6 D (.lst (vs ++ [v]))) (put μ6 D (.lst (acc ++ [d6]))) := Kp.write ea
      refine ⟨vs, h1, by rw [h2.length]; exact hl, _, k2.trans (k3.trans (k5.trans (k6.trans kw))), ?_, iv6⟩
      exact rm6.put kw (fun a o n _ => upd_ne n) ⟨_, upd_same, (h2.append (RepL.cons r6 RepL.nil)).mono kw _ _⟩
  · rintro H2 ⟨μ2, k2, rm2, iv⟩
    obtain ⟨acc, ea, q2⟩ := hend μ2 iv
    obtain ⟨vs, h1, h2⟩ := rm2 D _ ea
    exact f (.ref D) (.adr D) H2 μ2 (k1.trans k2) rm2 to_adr q2
section
variable {X : Cx}
theorem ds_setLcC {i : Nat} {y : Str} {py : Pos} {elt tg iter : Expr} {ifs : List Expr} {scope : Scope} {own : List (Str × Nat)} {pos spos : Pos} {gi : GI} {g : TG} {gg : GG} {ow : List Nat} {gc : GT} {ge : GE} (hc : X.calm = true) (hN : X.N.Nodup) (hy : X.N[i]? = some y) (hyl : X.env.scope.names.lookup y = some .local)
    (hsw : swapsWith (.ListComp elt [⟨tg, iter, ifs, 0⟩] scope pos) (some (.Name y py)) spos.line X.env = pure true) (hi : DI X tg iter gi) (ok : BlkOk X.N X.env.scope scope own)
    (hg : ∀ (s : Shared) (H : Hp) (C : Addr) (cl : List (Str × Addr)) (fp : List Addr), PG (X.blk s H scope (compEnvC scope cl C X.env) fp) tg g) (sg : SimG X.K g gg ow) (ht : ∀ (s : Shared) (H : Hp) (C : Addr) (cl : List (Str × Addr)) (fp : List Addr), DTs (X.blk s H scope (compEnvC scope cl C X.env) fp) ifs gc)
    (he : ∀ (s : Shared) (H : Hp) (C : Addr) (cl : List (Str × Addr)) (fp : List Addr), DE (X.blk s H scope (compEnvC scope cl C X.env) fp) elt ge) (ho : ∀ i ∈ ow, i ∈ own.map (·.2) := by decide) (hs : ∀ x, foldedSetIterable iter X.env x = pure x := by intro _; rfl) :
    DSt X (.Assign [.Name y py] (.ListComp elt [⟨tg, iter, ifs, 0⟩] scope pos) spos) (gAsg (gLcC gi gg gc ge (own.map (·.2))) (gNm i)) := by
  obtain ⟨ti, i1, i2⟩ := hi.ex
  exact ⟨_, ps_setLc hc hN hy hyl hsw i1 ok hg (fun s H C cl fp => (ht s H C cl fp).pt) (fun s H C cl fp => (he s H C cl fp).pe) hs, sim_asg (sim_lcC i2 sg ho simT_of sim_of) sim_nm⟩
def at3 (ds : List D) (k : D → D → D → Prop) : Prop := match ds with
  | [d, e, f] => k d e f
  | _ => False
theorem at3_of {ds : List D} {k : D → D → D → Prop} (h : at3 ds k) : ∃ d e f, ds = [d, e, f] ∧ k d e f := by
  unfold at3 at h
  split at h
  · exact ⟨_, _, _, rfl, h⟩
  · exact h.elim
/-- a, b, c = x, y, z -/
def gPar3 (i j l : Nat) (ga : GA) : GS := fun F δ μ => ga δ μ fun ds μ1 => at3 ds fun d e f => F.nx (((δ.set i (some d)).set j (some e)).set l (some f)) μ1
theorem ds_par3 {i j l : Nat} {x y z : Str} {a b c : Expr} {ga : GA} {px py pz pt pos : Pos} {kt k2 pt2} (hc : X.calm = true) (hN : X.N.Nodup) (hi : X.N[i]? = some x) (hj : X.N[j]? = some y) (hl : X.N[l]? = some z) (hij : i ≠ j) (hil : i ≠ l) (hjl : j ≠ l)
    (hx : X.env.scope.names.lookup x = some .local) (hy : X.env.scope.names.lookup y = some .local) (hz : X.env.scope.names.lookup z = some .local) (ha : DA X [a, b, c] ga)
    (hw : swappedStores [.Tuple [.Name x px, .Name y py, .Name z pz] kt pt] (.Tuple [a, b, c] k2 pt2) X.env = pure (some [x, y, z]))
    (hs : swapsWithSole [.Tuple [.Name x px, .Name y py, .Name z pz] kt pt] (.Tuple [a, b, c] k2 pt2) pos.line X.env = pure false := by rfl) :
    DSt X (.Assign [.Tuple [.Name x px, .Name y py, .Name z pz] kt pt] (.Tuple [a, b, c] k2 pt2) pos) (gPar3 i j l ga) := by
  obtain ⟨t1, a1, a2⟩ := ha.ex
  refine ⟨_, ps_par3 hc hN hi hj hl hij hil hjl hx hy hz a1 hw hs, fun σ H δ μ E F rm rs e q => ?_⟩
  refine a2 σ H δ μ _ _ rm rs q fun vs ds H1 μ1 k1 rm1 r1 q1 => ?_
  obtain ⟨d, d2, d3, rfl, q1⟩ := at3_of q1
  unfold RepL at r1
  obtain ⟨v, r, rfl, r2, r3⟩ := r1
  obtain ⟨v2, v3, rfl, r4, r5⟩ := repL2 r3
  exact ⟨v, v2, v3, rfl, e.nx _ H1 _ μ1 k1 rm1 ((((rs.mono k1).set i r2).set j r4).set l r5) q1⟩
end
/-- b, c, a -/
def rot {α : Type} : List α → List α
  | [a, b, c] => [b, c, a]
  | l => l
theorem rot_rep {K : PySem.W.Frag} {H : Hp} {μ : Mu} {ds : List D} {vs : List V} (h : RepL K H μ ds vs) (l : ds.length = 3) : RepL K H μ (rot ds) (rot vs) := by
  obtain ⟨a, b, c, rfl⟩ : ∃ a b c, ds = [a, b, c] := by
    cases ds with
    | nil => cases l
    | cons a ds =>
      cases ds with
      | nil => cases l
      | cons b ds =>
        cases ds with
        | nil => cases l
        | cons c ds =>
          cases ds with
          | nil => exact ⟨a, b, c, rfl⟩
          | cons _ _ => simp at l
  unfold RepL at h
  obtain ⟨v, r, rfl, r1, h⟩ := h
  obtain ⟨v2, v3, rfl, r2, r3⟩ := repL2 h
  exact RepL.cons r2 (RepL.cons r3 (RepL.cons r1 RepL.nil))
end DL
set_option Elab.async false
set_option linter.all false
set_option maxRecDepth 100000
namespace K10
open PySem PySem.Spec PyProof.Rows L2 DL
open Builtin.Str (occurrences subAt)
/-! ### where a sign stands first -/
theorem occ_stay (s sub : Str) (hi : Nat) : ∀ (l : List Nat) (st : Array Nat × Nat), 1 ≤ st.fst.size → (forIn l st (StrLaws.occBody s sub hi 1)).run.fst = st.fst
  | [], st, h => rfl
  | a :: l, st, h => by
    rw [List.forIn_cons]
    unfold StrLaws.occBody
    rw [if_neg (by omega)]
    exact occ_stay s sub hi l _ h
theorem occ_hit (s sub : Str) (hi : Nat) : ∀ (l : List Nat) (free i : Nat), (∀ j ∈ l, free ≤ j) → l.find? (fun j => decide (j + sub.length ≤ hi) && subAt s sub j) = some i →
    (forIn l ((#[] : Array Nat), free) (StrLaws.occBody s sub hi 1)).run.fst = #[i]
  | [], free, i, _, h => by cases h
  | a :: l, free, i, hf, h => by
    rw [List.forIn_cons]
    unfold StrLaws.occBody
    have ha : free ≤ a := hf a (List.mem_cons_self ..)
    by_cases hc : (decide (a + sub.length ≤ hi) && subAt s sub a) = true
    · have h' := (List.find?_cons_of_pos (p := fun j => decide (j + sub.length ≤ hi) && subAt s sub j) (l := l) (a := a) hc).symm.trans h
      cases h'
      have h1 := Bool.and_eq_true_iff.mp hc
      rw [if_pos ⟨⟨⟨by simp, ha⟩, of_decide_eq_true h1.1⟩, h1.2⟩]
      exact occ_stay s sub hi l _ (by simp)
    · have h := (List.find?_cons_of_neg (p := fun j => decide (j + sub.length ≤ hi) && subAt s sub j) (l := l) (a := a) hc).symm.trans h
      rw [if_neg (fun q => hc (by rw [decide_eq_true q.1.2, q.2]; rfl))]
      exact occ_hit s sub hi l free i (fun j hj => hf j (List.mem_cons_of_mem _ hj)) h
theorem find_range (p : Nat → Bool) : ∀ (n s i : Nat), s ≤ i → i < s + n → p i = true → (∀ j, s ≤ j → j < i → p j = false) → (List.range' s n).find? p = some i
  | 0, s, i, h1, h2, _, _ => by omega
  | n + 1, s, i, h1, h2, h3, h4 => by
    rw [List.range'_succ]
    by_cases e : s = i
    · subst e
      rw [List.find?_cons_of_pos h3]
    · rw [List.find?_cons_of_neg (by rw [h4 s (Nat.le_refl _) (by omega)]; simp)]
      exact find_range p n (s + 1) i (by omega) (by omega) h3 fun j hj => h4 j (by omega)
/-- the first place of a sign that is there -/
theorem occ_first {z : Str} {c : Nat} (h : c ∈ z.cps.toList) : occurrences z ⟨#[c]⟩ 0 z.length 1 = [z.cps.toList.idxOf c] := by
  rw [StrLaws.occ_eq]
  have hl : z.cps.toList.idxOf c < z.cps.toList.length := List.idxOf_lt_length_of_mem h
  have hl2 : z.cps.toList.length = z.length := by rw [Array.length_toList]; rfl
  have h1 : (⟨#[c]⟩ : Str).length = 1 := rfl
  have at_ : z.cps.toList[z.cps.toList.idxOf c]? = some c := by
    rw [List.getElem?_eq_getElem hl, List.getElem_idxOf hl]
  have f := find_range (fun j => decide (j + (⟨#[c]⟩ : Str).length ≤ z.length) && subAt z ⟨#[c]⟩ j) (z.length + 1 - 0) 0 (z.cps.toList.idxOf c) (Nat.zero_le _) (by omega) (by
      have := (StrLaws.subAt_one z c (z.cps.toList.idxOf c)).mpr at_
      show (decide _ && _) = true
      rw [this.2, decide_eq_true this.1]
      rfl) (fun j _ hj => by
      cases q : (decide (j + (⟨#[c]⟩ : Str).length ≤ z.length) && subAt z ⟨#[c]⟩ j) with
      | false => rfl
      | true =>
        have q' := Bool.and_eq_true_iff.mp q
        have := (StrLaws.subAt_one z c j).mp ⟨of_decide_eq_true q'.1, q'.2⟩
        have hjl : j < z.cps.toList.length := by omega
        rw [List.getElem?_eq_getElem hjl] at this
        have e : z.cps.toList[j] = c := Option.some.inj this
        have := List.not_of_lt_findIdx (p := fun x => x == c) (xs := z.cps.toList) (i := j) (by exact hj)
        rw [e] at this
        simp at this)
  rw [occ_hit z ⟨#[c]⟩ z.length _ 0 _ (fun j _ => Nat.zero_le j) f]
/-! ### marks -/
/-- one tie's step over the row of marks -/
def stepM (p r : List Nat) (y : Nat × Nat) : List Nat :=
  let a := r.getD (p.idxOf y.1) 0
  let b := r.getD (p.idxOf y.2) 0
  r.map fun x => if x = max a b then min a b else x
def marksL (p : List Nat) (ys : List (Nat × Nat)) : List Nat := ys.foldl (stepM p) p
theorem stepM_len (p r : List Nat) (y : Nat × Nat) : (stepM p r y).length = r.length := by
  unfold stepM
  rw [List.length_map]
theorem foldl_len (p : List Nat) : ∀ (ys : List (Nat × Nat)) (r : List Nat), (ys.foldl (stepM p) r).length = r.length
  | [], r => rfl
  | y :: ys, r => by
    rw [List.foldl_cons, foldl_len p ys, stepM_len]
theorem replL_one (m n : Nat) : ∀ l : List Nat, StrLaws.replL [m] [n] l = l.map fun x => if x = m then n else x
  | [] => by rw [StrLaws.replL_nil]; rfl
  | x :: l => by
    by_cases e : x = m
    · rw [StrLaws.replL_hit (by simp) (by rw [e]; rfl), List.map_cons, if_pos e]
      show [n] ++ StrLaws.replL [m] [n] l = _
      rw [replL_one m n l]
      rfl
    · rw [StrLaws.replL_miss (by
        intro h
        have h' : [x] = [m] := h
        exact e (by simpa using h')), List.map_cons, if_neg e, replL_one m n l]
theorem swapped_list (r : Str) (a b : Nat) : (swapped r a b).cps.toList = r.cps.toList.map fun x => if x = max a b then min a b else x := by
  unfold swapped
  by_cases e : a = b
  · rw [if_pos e]
    subst e
    have : (fun x => if x = max a a then min a a else x) = id := by
      funext x
      by_cases h : x = max a a
      · rw [if_pos h]
        show min a a = x
        omega
      · rw [if_neg h]
        rfl
    rw [this, List.map_id]
  · rw [if_neg e, StrLaws.replace_list (by show 1 ≤ 1; omega)]
    exact replL_one _ _ _
/-- a text of two signs as the pair of both -/
def ends (y : Str) : Nat × Nat := (y.cps.toList.getD 0 0, y.cps.toList.getD 1 0)
def toS (l : List Nat) : Str := ⟨l.toArray⟩
theorem toS_list (l : List Nat) : (toS l).cps.toList = l := by simp [toS]
theorem ofS (x : Str) : toS x.cps.toList = x := by
  cases x
  simp [toS]
theorem swapped_step {p r : List Nat} {y : Nat × Nat} {d0 d1 : Nat} (h0 : r.getD (p.idxOf y.1) 0 = d0) (h1 : r.getD (p.idxOf y.2) 0 = d1) : swapped (toS r) d0 d1 = toS (stepM p r y) := by
  rw [← ofS (swapped (toS r) d0 d1), swapped_list, toS_list]
  unfold stepM
  rw [h0, h1]
end K10
set_option Elab.async false
set_option linter.all false
set_option maxRecDepth 100000
namespace DL
open PySem PySem.Spec PyProof.Rows L2
/-! ### what is forgotten, or goes on as a list that nobody changes, at a return -/
structure Into (d : D) (μ : Mu) (d' : D) (μ' : Mu) : Prop where
  ok : ∀ (K : PySem.W.Frag) (H : Hp) (v : V), RM K H μ → Rep K H μ d v → Kp H μ H μ' ∧ RM K H μ' ∧ Rep K H μ' d' v
section
variable {d d1 d2 : D} {μ μ1 μ2 : Mu} {K : PySem.W.Frag} {H : Hp} {R : KD} {Q : VK}
theorem Into.refl : Into d μ d μ := ⟨fun K H v rm r => ⟨Kp.refl _ _, rm, r⟩⟩
theorem Into.trans (a : Into d μ d1 μ1) (b : Into d1 μ1 d2 μ2) : Into d μ d2 μ2 := ⟨fun K H v rm r => by
  obtain ⟨k1, rm1, r1⟩ := a.ok K H v rm r
  obtain ⟨k2, rm2, r2⟩ := b.ok K H v rm1 r1
  exact ⟨k1.trans k2, rm2, r2⟩⟩
theorem Into.drop (a : Addr) : Into d μ d (del μ a) := ⟨fun K H v rm r => ⟨Kp.drop, rm.drop, r.mono Kp.drop⟩⟩
theorem Into.frz {a : Addr} {ds : List D} (e : μ a = some (.lst ds)) : Into (.adr a) μ (.lst ds) (del μ a) := ⟨fun K H v rm r => by
  obtain ⟨vs, h1, h2⟩ := rm a _ e
  refine ⟨Kp.drop, rm.drop, ?_⟩
  unfold Rep at r ⊢
  exact ⟨a, vs, r, h1, del_same, h2.mono Kp.drop _ _⟩⟩
theorem Into.less (h : ∀ c o, μ1 c = some o → μ c = some o) : Into d μ d μ1 := ⟨fun K H v rm r => by
  have k : Kp H μ H μ1 := ⟨fun b o e _ => e, fun b e => by
    left
    intro z
    cases q : μ1 b with
    | none => exact e q
    | some o =>
      rw [h b o q] at z
      cases z⟩
  refine ⟨k, fun a o e => ?_, r.mono k⟩
  have q := rm a o (h a o e)
  cases o with
  | lst ds => obtain ⟨vs, h1, h2⟩ := q; exact ⟨vs, h1, h2.mono k _ _⟩
  | dct kvs => obtain ⟨vs, h1, h2⟩ := q; exact ⟨vs, h1, h2.mono k _ _⟩
  | ins C fs => obtain ⟨dx, vs, h1, h2⟩ := q; exact ⟨dx, vs, h1, h2.mono k _ _⟩⟩
def freed (R : KD) : KD := fun d μ => ∃ d' μ', Into d μ d' μ' ∧ R d' μ'
theorem fw_freed (f : Fw K H μ R Q) : Fw K H μ (freed R) Q := fun v d H' μ' k rm r ⟨d', μ2, i, q⟩ => by
  obtain ⟨k2, rm2, r2⟩ := i.ok K H' v rm r
  exact f v d' H' μ2 (k.trans k2) rm2 r2 q
end
section
variable {P : Program} {w : World} {K : PySem.W.Frag} {mg : Str → Option Value} {base : Heap}
theorem okDF {x qual : Str} {st : Stmt} {f : Addr} {fd : FuncData} {N ps : List Str} {k : Nat} {g : GC} (F : Fun K x qual st f fd) (S : FnScope N ps (defScope st)) (len : ∀ ds μ R, g ds μ R → ds.length = ps.length)
    (h : ∃ gb : GS, (∀ (cdv : Value) (A : Around) (outer : List Env) (s : Shared) (H : Hp) (E : XK), Room k (A.deeper (envOfC qual (defScope st) s.heap.objs.size f cdv)) →
        DSs (cxOf CX0 P w K mg base N qual (defScope st) f cdv A outer s H E).nox (defBody st) gb) ∧
      ∀ ds μ R, g ds μ R → gb { nx := fun _ μ' => freed R .non μ', rt := freed R } (begin_ N ds) μ) : FnOk P w K mg base CX0 (k + 1) f fd ps (toSp K g) := by
  obtain ⟨gb, hb, hg⟩ := h
  refine F.ok S (fun vs H Q E ⟨ds, μ, R, rm, rl, q, fw⟩ => by rw [rl.length]; exact len ds μ R q) fun cdv A outer s H vs Q E hr ⟨ds, μ, R, rm, rl, q, fw⟩ => ?_
  obtain ⟨t, a, b⟩ := (hb cdv A outer s H E hr).ex
  have fw' := fw_freed fw
  refine ⟨t, a, b _ H (begin_ N ds) μ _ { nx := fun _ μ' => freed R .non μ', rt := freed R } rm ?_ ⟨fun σ H' δ μ' k rm' _ q' => fw' .non .non H' μ' k rm' (by unfold Rep; rfl) q', fw', fun _ _ _ _ _ _ _ z => z, fun _ _ _ _ _ _ _ z => z⟩ (hg ds μ R q)⟩
  show RepS K H μ (ds.map some ++ List.replicate (N.length - ds.length) none) (vs.map some ++ List.replicate (N.length - vs.length) none)
  rw [rl.length]
  exact repS_some _ rl
end
end DL
set_option Elab.async false
set_option linter.all false
set_option maxRecDepth 100000
namespace DL
open PySem PySem.Spec PyProof.Rows L2
/-! ### tuple * int, also once and no time -/
end DL
set_option Elab.async false
set_option linter.all false
set_option maxRecDepth 100000
namespace DL
open PySem PySem.Spec PyProof.Rows L2
/-! ### min, max of a list, of a tuple of ints; divmod by more -/
/-- divmod by what is below 2 ** 64 -/
def gDivmodW2 : G2 := fun x y μ R => match x, y with
  | .int i, .int j => (0 < j ∧ j < 2 ^ 64) ∧ R (.tup [.int (i / j), .int (i % j)]) μ
  | _, _ => False
theorem noPy64 {i j : Int} (h0 : 0 < j) (h : j < 2 ^ 64) : Builtin.divisionGoesByPylong i j = false := by
  refine PyProof.noPylong_of_log2 ?_
  by_cases e : j.natAbs = 0
  · omega
  · exact Nat.lt_trans ((Nat.log2_lt e).mpr (show j.natAbs < 2 ^ 64 by omega)) (by decide)
theorem sim_divmodW2 {K : PySem.W.Frag} : SimC K (fun xs H Q => ∃ i j, xs = [.int i, .int j] ∧ CDivP i j ∧ ∀ p, H p = none → Q (.ref p) (upd H p (.tup [.int (i / j), .int (i % j)]))) (g2 gDivmodW2) := sim_g2 fun v w d e H μ Q R rm rv rw q f => by
  cases d <;> cases e <;> try exact False.elim q
  rename_i i j
  rw [rep_int rv, rep_int rw]
  obtain ⟨⟨h0, h1⟩, q⟩ := q
  exact ⟨i, j, rfl, ⟨h0, noPy64 h0 h1⟩, fun t n => fw_tup rm n (RepL.cons to_int (RepL.cons to_int RepL.nil)) q f⟩
/-! ### count, index of a list of ints -/
/-! ### defs as values -/
/-! ### minus -/
def gNeg : G1 := fun x μ R => match x with
  | .int i => R (.int (-i)) μ
  | _ => False
theorem sim_neg {K : PySem.W.Frag} : SimU K (rU fun i => .int (-i)) gNeg := by
  intro x dx H μ Q R rm rx q f
  cases dx <;> try exact False.elim q
  rw [rep_int rx]
  exact ⟨_, rfl, fw_now rm to_int q f⟩
/-! ### two in the other order -/
/-! ### int * int, tuple * int -/
theorem RepL.rep {K : PySem.W.Frag} {H : Hp} {μ : Mu} {ds : List D} {vs : List V} (l : RepL K H μ ds vs) : ∀ m, RepL K H μ (List.replicate m ds).flatten (List.replicate m vs).flatten
  | 0 => RepL.nil
  | m + 1 => by
    rw [List.replicate_succ, List.replicate_succ, List.flatten_cons, List.flatten_cons]
    exact l.append (RepL.rep l m)
end DL
set_option Elab.async false
set_option linter.all false
set_option maxRecDepth 100000
namespace DL
open PySem PySem.Spec PyProof.Rows L2
/-! ### x in l of nested data; sorted of ints; three the other way round -/
end DL
set_option Elab.async false
set_option linter.all false
set_option maxRecDepth 100000
namespace DL
open PySem PySem.Spec PyProof.Rows L2
/-! ### repr, also of None -/
end DL
set_option Elab.async false
set_option linter.all false
set_option maxRecDepth 100000
namespace DL
open PySem PySem.Spec PyProof.Rows L2
/-! ### list * int as a new cell; cell[i] op= e -/
def gRepC : G2 := fun x y μ R => match x, y with
  | .lst ds, .int k => (0 ≤ k ∧ k ≤ 1000 ∧ ds.length ≤ 1000) ∧ ∀ a, μ a = none → R (.adr a) (put μ a (.lst (List.replicate k.toNat ds).flatten))
  | _, _ => False
theorem sim_repC {K : PySem.W.Frag} : SimO K rRep gRepC := by
  intro x y dx dy H μ Q R rm rx ry q f
  cases dx <;> cases dy <;> try exact False.elim q
  rename_i ds k
  obtain ⟨⟨h1, h2, h3⟩, q⟩ := q
  obtain ⟨p, vs, rfl, i, _, l⟩ := rep_lst rx
  rw [rep_int ry]
  refine ⟨p, k, vs, rfl, rfl, i, by omega, by omega, ?_, fun a n => fw_cell rm n (RepL.rep l k.toNat) q f⟩
  rw [l.length, sizeLine_eq]
  have : ds.length * k.toNat ≤ 1000 * 1000 := Nat.mul_le_mul h3 (by omega)
  omega
def rGetL (K : PySem.W.Frag) : V → V → Hp → VK → Prop := fun x y H Q => ∃ p xs i v, x = .ref p ∧ y = .int i ∧ SqL K H p xs ∧ 0 ≤ i ∧ L2.atI xs i = some v ∧ Q v H
theorem pget_list {X : Cx} : PGet X (rGetL X.K) := by
  intro pins s σ H x y v u Q I rx ry h
  obtain ⟨p, xs, i, z, rfl, rfl, hq, h0, he, q⟩ := h
  cases rx
  obtain ⟨t, rfl⟩ := ry
  obtain ⟨its, r, pl, hz⟩ := I.list hq
  obtain ⟨j, h1, h2, h3, h4, h5⟩ := atI_get he
  obtain ⟨w, ew, rw'⟩ := r.get h2
  have hl := r.length
  have hn := line63
  have fin : EP X pins σ Q w s := ⟨z, H, I, rw', q⟩
  have hj : i.toNat = j := by
    rw [seqIndex_of h0 h5] at h1
    exact Option.some.inj h1
  exact wpAny_getItem_list (Q := EP X pins σ Q) pl.isList h0 (by omega) (by rw [hj]; simpa using ew) fin
section
variable {X : Cx}
def gAugS (go gi ge : GE) (g2 : G2) : GS := fun F δ μ => go δ μ fun x μ1 => gi δ μ1 fun i μ2 => ∃ (a : Addr) (k : Nat) (ds : List D) (d : D), x = .adr a ∧ i = .int (k : Nat) ∧ μ2 a = some (.lst ds) ∧ ds[k]? = some d ∧
  ge δ μ2 fun y μ4 => g2 d y μ4 fun z μ5 => setK (.adr a) (.int (k : Nat)) z μ5 fun μ6 => F.nx δ μ6
theorem ds_augS {o i e : Expr} {op : Operator} {tip : TIp} {go gi ge : GE} {g2 : G2} {tpos pos : Pos} (ho : DE X o go) (hi : DE X i gi) (he : DE X e ge) (hp : PIp X op tip) (h : SimO X.K tip g2)
    (ha : ∀ ov iv new, augStore i ov iv new = (do holding [new, ov, iv] (setItem ov iv new); release [new, ov, iv] []; pure .next) := by intros; rfl) : DSt X (.AugAssign (.Subscript o i tpos) op e pos) (gAugS go gi ge g2) := by
  obtain ⟨t1, a1, a2⟩ := ho.ex
  obtain ⟨t2, b1, b2⟩ := hi.ex
  obtain ⟨t3, c1, c2⟩ := he.ex
  refine ⟨_, ps_augS a1 b1 pget_list c1 hp set_list ha, fun σ H δ μ E F rm rs ee q => ?_⟩
  refine a2 σ H δ μ _ _ rm rs q fun x dx H1 μ1 k1 rm1 r1 q1 => ?_
  refine b2 σ H1 δ μ1 _ _ rm1 (rs.mono k1) q1 fun y dy H2 μ2 k2 rm2 r2 q2 => ?_
  obtain ⟨a, k, ds, d, rfl, rfl, e0, hd, q2⟩ := q2
  obtain ⟨vs, e1, l⟩ := rm2 a _ e0
  obtain ⟨w, ew, rw'⟩ := l.at_ hd
  have hk : k < ds.length := (List.getElem?_eq_some_iff.mp hd).1
  have ei : L2.atI vs ((k : Nat) : Int) = some w := atI_nat ew
  refine ⟨a, vs, (k : Nat), w, rep_adr (r1.mono k2), rep_int r2, SqL.of e1, by omega, ei, ?_⟩
  have k12 := k1.trans k2
  refine c2 σ H2 δ μ2 _ _ rm2 (rs.mono k12) q2 fun y dy H3 μ3 k3 rm3 r3 q3 => ?_
  refine h w y d dy H3 μ3 _ _ rm3 (rw'.mono k3) r3 q3 fun z dz H4 μ4 k4 rm4 r4 q4 => ?_
  obtain ⟨es, j, e4, ej, q4⟩ := q4
  obtain ⟨us, e5, l5⟩ := rm4 a _ e4
  have kw : Kp H4 μ4 (upd H4 a (.lst (us.set j z))) (put μ4 a (.lst (es.set j dz))) := Kp.write e4
  have kall := k12.trans (k3.trans (k4.trans kw))
  refine ⟨a, us, (k : Nat), j, rep_adr (r1.mono k2), rep_int r2, e5, by rw [l5.length]; exact ej, ?_⟩
  refine ee.nx σ _ δ _ kall ?_ (rs.mono kall) q4
  exact rm4.put (m := .lst (es.set j dz)) kw (fun b o n _ => upd_ne n) ⟨_, upd_same, (l5.set j r4).mono kw _ _⟩
end
end DL
set_option Elab.async false
set_option linter.all false
set_option maxRecDepth 100000
namespace DL
open PySem PySem.Spec PyProof.Rows L2
/-! ### gcd, comb by the module's names -/
def rComb : List V → Hp → VK → Prop := fun vs H Q => ∃ a b : Int, vs = [.int a, .int b] ∧ 0 ≤ a ∧ a ≤ 18000 ∧ 0 ≤ b ∧ Q (.int (PySem.W.mcComb a b)) H
theorem cr_comb {X : Cx} : CallR X (.builtin "math.comb") rComb := by
  intro pins s σ H vs us Q I r h
  obtain ⟨a, b, rfl, h1, h2, h3, q⟩ := h
  obtain ⟨t, u, rfl⟩ := Vals.int2 r
  exact PySem.W.mc_comb h1 h3 (by omega) (.inr h2) fun _ => ⟨.int _, H, I.tok _, ⟨_, rfl⟩, q⟩
def gGcd2 : G2 := fun x y μ R => match x, y with
  | .int a, .int b => R (.int (Nat.gcd a.natAbs b.natAbs : Nat)) μ
  | _, _ => False
theorem sim_gcd {K : PySem.W.Frag} : SimC K rGcd (g2 gGcd2) := sim_g2 fun v w d e H μ Q R rm rv rw q f => by
  cases d <;> cases e <;> try exact False.elim q
  rename_i i j
  rw [rep_int rv, rep_int rw]
  exact ⟨i, j, rfl, fw_now rm to_int q f⟩
def gComb2 : G2 := fun x y μ R => match x, y with
  | .int a, .int b => (0 ≤ a ∧ a ≤ 18000 ∧ 0 ≤ b) ∧ R (.int (PySem.W.mcComb a b)) μ
  | _, _ => False
theorem sim_comb {K : PySem.W.Frag} : SimC K rComb (g2 gComb2) := sim_g2 fun v w d e H μ Q R rm rv rw q f => by
  cases d <;> cases e <;> try exact False.elim q
  rename_i i j
  rw [rep_int rv, rep_int rw]
  exact ⟨i, j, rfl, q.1.1, q.1.2.1, q.1.2.2, fw_now rm to_int q.2 f⟩
section
variable {X : Cx} {x : Str} {p pos : Pos} {e : Expr} {es : List Expr} {ga : GA} {id : String} {r : List V → Hp → VK → Prop} {g : GC}
theorem de_callBf (hc : CallR X (.builtin id) r) (h : SimC X.K r g) (hg : Gl X x) (hm : X.mg x = some (.builtin id)) (ha : DA X (e :: es) ga) (hdb : (x == ("__debug__" : Str)) = false := by decide)
    (he : starEach (e :: es) X.env = (false, eval e X.env) :: starEach es X.env := by rfl) (hpl : (backTo pos (starEach es X.env)).any (·.1) = false := by rfl) : DE X (.Call (.Name x p) (e :: es) [] pos) (gCall g ga) := by
  obtain ⟨t, a1, a2⟩ := ha.ex
  exact ⟨_, pe_callBfun hc hg hm a1 hdb he hpl, sim_cb h a2⟩
/-! ### enumerate of a list -/
def gEnumL (ga : GA) : GI := fun δ μ R => ga δ μ fun ds μ1 => match ds with
  | [.lst xs] => R (numbered xs) μ1
  | _ => False
theorem di_enumL {p pos tpos : Pos} {elts : List Expr} {kk : Nat} {ga : GA} {e : Expr} (hg : Gl X "enumerate") (hm : X.mg "enumerate" = none) (h : DA X [e] ga) (hs : starEach [e] X.env = [(false, eval e X.env)] := by rfl) :
    DI X (.Tuple elts kk tpos) (.Call (.Name "enumerate" p) [e] [] pos) (gEnumL ga) := by
  obtain ⟨t, a1, a2⟩ := h.ex
  refine ⟨_, pi_enum hg hm a1 hs, fun σ H δ μ Q R rm rs q f => ?_⟩
  refine a2 σ H δ μ _ _ rm rs q fun vs ds H1 μ1 k1 rm1 r1 q1 => ?_
  match ds, q1, r1 with
  | [.lst xs], q1, r1 =>
    obtain ⟨v, rfl, r2⟩ := repL1 r1
    obtain ⟨a, ys, rfl, hH, hn, rl⟩ := rep_lst r2
    have sq : ∀ {H' μ'}, Kp H1 μ1 H' μ' → SqL X.K H' a ys := fun k => SqL.of (k.k1 a _ hH hn)
    have hl : (numbered xs).length = ys.length := by rw [rl.length]; simp [numbered]
    refine ⟨a, ys, rfl, SqL.of hH, f _ (numbered xs) H1 μ1 k1 rm1 ?_ q1⟩
    refine ⟨fun i H' hi ⟨μ', k, _⟩ => ?_, fun H' ⟨μ', k, _⟩ => ⟨ys, sq k, by omega⟩, fun i H' v H2 hi _ y => ?_⟩
    · have h1 : i < ys.length := by rw [← hl]; exact hi
      exact ⟨ys, ys[i], sq k, by simp [h1]⟩
    · intro μ' k rm
      obtain ⟨T, x, rfl, nT, rfl, e4⟩ := y
      have ex := e4 ys (sq k)
      obtain ⟨d, e3, r3⟩ := (rl.mono k).atV ex
      have nm : μ' T = none := rm.free nT
      have k2 : Kp H' μ' (upd H' T (.tup [.int (i : Nat), x])) μ' := Kp.new nT
      refine ⟨.tup [.int (i : Nat), d], ?_, ?_, k2, rm.laid nT⟩
      · unfold numbered
        rw [List.getElem?_mapIdx, e3]
        rfl
      · unfold Rep
        exact ⟨T, _, rfl, .inl ⟨upd_same, nm⟩, by unfold RepL; exact ⟨_, _, rfl, by unfold Rep; rfl, by unfold RepL; exact ⟨_, _, rfl, r3.mono k2, RepL.nil⟩⟩⟩
end
end DL
set_option Elab.async false
set_option linter.all false
set_option maxRecDepth 100000
namespace PySem
open Sem (wp)
theorem typeCall_zip_n (args : List Value) : checkTypeCall "zip" ⟨args, []⟩ = pure () := by kernel_rfl
theorem newCall_zip_n : ∀ (args : List Value), args.length ≤ 13 → checkBuiltinCall "zip.__new__" ⟨.type "zip" :: args, []⟩ = pure ()
  | [], _ => by kernel_rfl
  | [_], _ => by kernel_rfl
  | [_, _], _ => by kernel_rfl
  | [_, _, _], _ => by kernel_rfl
  | [_, _, _, _], _ => by kernel_rfl
  | [_, _, _, _, _], _ => by kernel_rfl
  | [_, _, _, _, _, _], _ => by kernel_rfl
  | [_, _, _, _, _, _, _], _ => by kernel_rfl
  | [_, _, _, _, _, _, _, _], _ => by kernel_rfl
  | [_, _, _, _, _, _, _, _, _], _ => by kernel_rfl
  | [_, _, _, _, _, _, _, _, _, _], _ => by kernel_rfl
  | [_, _, _, _, _, _, _, _, _, _, _], _ => by kernel_rfl
  | [_, _, _, _, _, _, _, _, _, _, _, _], _ => by kernel_rfl
  | [_, _, _, _, _, _, _, _, _, _, _, _, _], _ => by kernel_rfl
  | _ :: _ :: _ :: _ :: _ :: _ :: _ :: _ :: _ :: _ :: _ :: _ :: _ :: _ :: _, h => absurd h (by simp)
theorem args_object_init_n (a : Value) (args : List Value) : argsOk "object.__init__" ⟨a :: args, []⟩ := by
  unfold argsOk; rw [signature?_of (id := "object.__init__") (n := ['_', '_', 't', 'i', 'n', 'i', '_', '_']) (o := ['t', 'c', 'e', 'j', 'b', 'o']) (by kernel_rfl) F.owner_object]; kernel_rfl
abbrev ZipAt (h : Heap) (z TI TO : Addr) (f0 b : Value) : Prop :=
  h.get? z = some { cls := .type "zip", dict := none, data := .fields #[f0, b, .bool false, .ref TI, .ref TO], slots := #[] }
abbrev IsTupN (h : Heap) (T : Addr) (us : List Value) : Prop := h.get? T = some { cls := .type "tuple", data := .seq us.toArray }
/-- the iterators' addresses, made one behind the other from n on -/
def itsAt (n : Nat) : List Addr → List (Addr × Addr)
  | [] => []
  | l :: ls => (n, l) :: itsAt (n + 1) ls
theorem itsAt_len : ∀ (n : Nat) (ls : List Addr), (itsAt n ls).length = ls.length
  | _, [] => rfl
  | n, _ :: ls => by rw [itsAt, List.length_cons, List.length_cons, itsAt_len (n + 1) ls]
section
variable {prog : Program} {w : World} {A : Around} {E : Value → Shared → Prop} {s : Shared}
theorem iterAllN {Q : List Value → Shared → Prop} (ls : List Addr) (hl : ∀ l ∈ ls, ∃ xs, s.heap.IsList l xs)
    (hQ : ∀ h', (∀ p ∈ itsAt s.heap.objs.size ls, h'.IsListIter p.1 p.2 0) → h'.objs.size = s.heap.objs.size + ls.length → (∀ c o, s.heap.get? c = some o → h'.get? c = some o) →
      Q ((itsAt s.heap.objs.size ls).map fun p => .ref p.1) { s with heap := h' }) :
    wpAny (model prog w) A (Builtin.SmallTypes.iterAll (ls.map .ref)) Q E s := by
  unfold Builtin.SmallTypes.iterAll
  refine wpAny_bind (wpAny_forIn_list _ (fun rest b s' => ∃ (todo : List Addr) (h' : Heap) (done : List (Addr × Addr)), rest = todo.map Value.ref ∧ s' = { s with heap := h' } ∧ (∀ l ∈ todo, l ∈ ls) ∧ itsAt s.heap.objs.size ls = done ++ itsAt h'.objs.size todo ∧
      b = (done.map fun p => Value.ref p.1).toArray ∧ (∀ p ∈ done, h'.IsListIter p.1 p.2 0) ∧ h'.objs.size + todo.length = s.heap.objs.size + ls.length ∧ (∀ c o, s.heap.get? c = some o → h'.get? c = some o)) _ ?_ ?_ _ _ ⟨ls, s.heap, [], rfl, rfl, fun l h => h, rfl, rfl, fun p h => (List.not_mem_nil h).elim, rfl, fun c o h => h⟩)
  · rintro x rest b s' ⟨todo, h', done, e1, rfl, e3, e4, rfl, e6, e7, e8⟩
    cases todo with
    | nil => simp at e1
    | cons l todo =>
      rw [List.map_cons, List.cons.injEq] at e1
      obtain ⟨rfl, rfl⟩ := e1
      obtain ⟨xs, hx⟩ := hl l (e3 l (List.mem_cons_self ..))
      have hx' : h'.IsList l xs := Heap.IsList.at hx fun o e => e8 l o e
      refine wpAny_bind (wpAny_holding (wpAny_pyIter_list (s := { s with heap := h' }) hx' (wpAny_pure ?_)))
      have z1 : (h'.push { cls := .type "list_iterator", data := .fields #[.ref l, .int 0 0] }).objs.size = h'.objs.size + 1 := Heap.size_push ..
      refine ⟨todo, _, done ++ [(h'.objs.size, l)], rfl, rfl, fun q hq => e3 q (List.mem_cons_of_mem _ hq), ?_, ?_, fun p hp => ?_, ?_, fun c o q => Heap.get?_push_of_some _ (e8 c o q)⟩
      · show itsAt s.heap.objs.size ls = _
        rw [e4, z1, List.append_assoc]; rfl
      · rw [List.map_append]; simp
      · rcases List.mem_append.mp hp with q | q
        · exact (e6 p q).at fun o e => Heap.get?_push_of_some _ e
        · rw [List.mem_singleton] at q
          subst q
          exact ⟨_, Heap.get?_push_size _ rfl, rfl, rfl⟩
      · rw [z1, ← e7, List.length_cons]; omega
  · rintro b s' ⟨todo, h', done, e1, rfl, e3, e4, rfl, e6, e7, e8⟩
    cases todo with
    | cons l todo => simp at e1
    | nil =>
      refine wpAny_pure ?_
      have e9 : itsAt s.heap.objs.size ls = done := by rw [e4]; simp [itsAt]
      have := hQ h' (fun p hp => e6 p (by rw [← e9]; exact hp)) (by simpa using e7) e8
      rw [e9] at this
      simpa using this
/-- what zip(..) of lists makes -/
def ZipMade (h h' : Heap) (ls : List Addr) : Prop :=
  ZipAt h' (h.objs.size + ls.length + 2) (h.objs.size + ls.length) (h.objs.size + ls.length + 1) .none (.bool false) ∧ IsTupN h' (h.objs.size + ls.length) ((itsAt h.objs.size ls).map fun p => .ref p.1) ∧
    IsTupN h' (h.objs.size + ls.length + 1) (((itsAt h.objs.size ls).map fun p => Value.ref p.1).map fun _ => .none) ∧ (∀ p ∈ itsAt h.objs.size ls, h'.IsListIter p.1 p.2 0) ∧ h'.objs.size = h.objs.size + ls.length + 3 ∧ ∀ c o, h.get? c = some o → h'.get? c = some o
abbrev zN1 (h : Heap) (us : List Value) : Heap := h.push { cls := .type "tuple", data := .seq us.toArray }
abbrev zN2 (h : Heap) (us : List Value) : Heap := (zN1 h us).push { cls := .type "tuple", data := .seq (us.map fun _ => Value.none).toArray }
abbrev zN3 (h : Heap) (us : List Value) : Heap := (zN2 h us).push { cls := .type "zip", data := .fields #[.none, .bool false, .bool false, .ref h.objs.size, .ref (zN1 h us).objs.size] }
theorem meets_zip_newN (ls : List Addr) (hn : ls.length ≤ 13) :
    Meets (Builtin.«zip.__new__» ⟨.type "zip" :: ls.map .ref, []⟩) (fun _ R s => (∀ l ∈ ls, ∃ xs, s.heap.IsList l xs) ∧
      (∀ h', ZipMade s.heap h' ls → R (.ok (.ret (.ref (s.heap.objs.size + ls.length + 2)))) { s with heap := h' })) :=
  .of_wp fun prog w A R s h => by
    obtain ⟨hl, h⟩ := h
    have hsub := sub_zip
    obtain ⟨hp, g, d, tk, os⟩ := s
    wp_walk using iterAllN (s := ⟨hp, g, d, tk, os⟩) ls hl
    intro h' k1 k2 k3
    replace k1 : ∀ p ∈ itsAt hp.objs.size ls, h'.IsListIter p.1 p.2 0 := k1
    replace k2 : h'.objs.size = hp.objs.size + ls.length := k2
    replace k3 : ∀ c o, hp.get? c = some o → h'.get? c = some o := k3
    have hlen : (itsAt hp.objs.size ls).length ≤ sizeLine := by rw [itsAt_len]; exact Nat.le_trans hn (by decide)
    refine wpAny_bind (wpAny_newTuple ?_ (by rw [List.length_map]; exact hlen))
    refine wpAny_bind (wpAny_newTuple ?_ (by rw [List.length_map, List.length_map]; exact hlen))
    wp_walk
    have z1 : (zN1 h' ((itsAt hp.objs.size ls).map fun p => Value.ref p.1)).objs.size = hp.objs.size + ls.length + 1 := by rw [Heap.size_push, k2]
    have z2 : (zN2 h' ((itsAt hp.objs.size ls).map fun p => Value.ref p.1)).objs.size = hp.objs.size + ls.length + 2 := by rw [Heap.size_push, z1]
    refine ⟨.ref (zN2 h' ((itsAt hp.objs.size ls).map fun p => Value.ref p.1)).objs.size, rfl, ?_⟩
    have fin := h (zN3 h' ((itsAt hp.objs.size ls).map fun p => Value.ref p.1)) ⟨?_, ?_, ?_, fun p hp => ((((k1 p hp).at fun o e => Heap.get?_push_of_some _ e).at fun o e => Heap.get?_push_of_some _ e).at fun o e => Heap.get?_push_of_some _ e), ?_, fun c o q => Heap.get?_push_of_some _ (Heap.get?_push_of_some _ (Heap.get?_push_of_some _ (k3 c o q)))⟩
    · show R (.ok (.ret (.ref (zN2 h' _).objs.size))) _
      rw [z2]
      exact fin
    · have e : (zN3 h' ((itsAt hp.objs.size ls).map fun p => Value.ref p.1)).get? (zN2 h' ((itsAt hp.objs.size ls).map fun p => Value.ref p.1)).objs.size = some _ := Heap.get?_push_size _ rfl
      rw [z2, k2, z1] at e
      exact e
    · have e : (zN3 h' ((itsAt hp.objs.size ls).map fun p => Value.ref p.1)).get? h'.objs.size = some _ := Heap.get?_push_of_some _ (Heap.get?_push_of_some _ (Heap.get?_push_size _ rfl))
      rw [k2] at e
      exact e
    · have e : (zN3 h' ((itsAt hp.objs.size ls).map fun p => Value.ref p.1)).get? (zN1 h' ((itsAt hp.objs.size ls).map fun p => Value.ref p.1)).objs.size = some _ := Heap.get?_push_of_some _ (Heap.get?_push_size _ rfl)
      rw [z1] at e
      exact e
    · show (zN3 h' _).objs.size = _
      rw [Heap.size_push, z2]
theorem call_zipN {ls : List Addr} (hn : ls.length ≤ 13) {Q : Value → Shared → Prop} (hl : ∀ l ∈ ls, ∃ xs, s.heap.IsList l xs)
    (h : ∀ h', ZipMade s.heap h' ls → Q (.ref (s.heap.objs.size + ls.length + 2)) { s with heap := h' }) : wpAny (model prog w) A (call (.type "zip") (ls.map .ref)) Q E s := by
  refine callType_new F.called_zip (by decide) (typeCall_zip_n _) (newCall_zip_n _ (by rw [List.length_map]; exact hn)) (fun obj => args_object_init_n obj _) F.entry_zip_new (meets_zip_newN ls hn) ⟨hl, fun h' hm => ?_⟩
  exact ⟨⟨_, hm.1, rfl⟩, h h' hm⟩
end
end PySem
set_option Elab.async false
set_option linter.all false
set_option maxRecDepth 100000
namespace PySem
open Sem (wp)
/-- the cells of a zip of lists lie apart -/
structure SepN (z TI TO : Addr) (ps : List (Addr × Addr)) : Prop where
  TIz : TI ≠ z
  TOz : TO ≠ z
  TITO : TI ≠ TO
  iz : ∀ p ∈ ps, p.1 ≠ z ∧ p.1 ≠ TI ∧ p.1 ≠ TO
  nd : (ps.map (·.1)).Nodup
  lz : ∀ p ∈ ps, p.2 ≠ z ∧ p.2 ≠ TO ∧ ∀ q ∈ ps, p.2 ≠ q.1
def ItemsN (h : Heap) (ps : List (Addr × Addr)) (i : Nat) (us : List Value) : Prop :=
  us.length = ps.length ∧ ∀ (k : Nat) p u, ps[k]? = some p → us[k]? = some u → ∃ its, h.IsList p.2 its ∧ its[i]? = some u
theorem ItemsN.at {h : Heap} {ps done todo : List (Addr × Addr)} {p : Addr × Addr} {i : Nat} {us : List Value} (hu : ItemsN h ps i us) (e : ps = done ++ p :: todo) : ∃ u its, us[done.length]? = some u ∧ h.IsList p.2 its ∧ its[i]? = some u := by
  have hp : ps[done.length]? = some p := by rw [e]; simp
  have hl : done.length < us.length := by rw [hu.1, e]; simp
  obtain ⟨its, a, b⟩ := hu.2 done.length p us[done.length] hp (List.getElem?_eq_getElem hl)
  exact ⟨_, its, List.getElem?_eq_getElem hl, a, b⟩
abbrev nextN (z : Addr) : Sem Fin := Builtin.«zip.__next__» ⟨[.ref z], []⟩
theorem updateSeqN {prog : Program} {w : World} {A : Around} {E : Value → Shared → Prop} {s : Shared} {T : Addr} {us : List Value} {x : Value} {k : Nat} {Q : Unit → Shared → Prop} (tat : IsTupN s.heap T us) (hn : us.length ≤ 13)
    (h : ∀ h', IsTupN h' T (us.set k x) → Heap.SameBut T s.heap h' → Q () { s with heap := h' }) :
    wpAny (model prog w) A (updateSeq T (·.setIfInBounds k x)) Q E s := by
  have z : us.toArray.size ≤ sizeLine := by rw [List.size_toArray]; exact Nat.le_trans hn (by decide)
  refine wpAny_updateSeq tat rfl (h _ ?_ (Heap.SameBut.update ..)) z (by rw [Array.size_setIfInBounds]; exact Nat.le_succ_of_le z)
  show Heap.get? _ T = _
  rw [Heap.get?_update_self _ tat rfl]
  simp [Obj.mapSeq]
section
variable {prog : Program} {w : World} {A : Around} {E : Value → Shared → Prop} {s : Shared} {z TI TO : Addr} {ps : List (Addr × Addr)} {i : Nat} {f0 b0 : Value} {us arr : List Value}
theorem zipN_own {Q : Value → Shared → Prop} (S : SepN z TI TO ps) (zat : ZipAt s.heap z TI TO f0 b0) (free : ∀ Q : Bool → Shared → Prop, Q true s → wpAny (model prog w) A (Builtin.SmallTypes.ownedTupleIsFree (.ref z)) Q E s)
    (tia : IsTupN s.heap TI (ps.map fun p => .ref p.1)) (toa : IsTupN s.heap TO arr) (ha : arr.length = ps.length) (hne : ps ≠ []) (hn : ps.length ≤ 13) (hi : ∀ p ∈ ps, s.heap.IsListIter p.1 p.2 i) (hu : ItemsN s.heap ps i us)
    (hQ : ∀ h', ZipAt h' z TI TO (rawInt s.heap.objs.size) (.bool false) → IsTupN h' TO us → (∀ p ∈ ps, h'.IsListIter p.1 p.2 (i + 1)) → IsTupN h' s.heap.objs.size us → h'.objs.size = s.heap.objs.size + 1 →
      (∀ c o, c ≠ z → c ≠ TO → c ∉ ps.map (·.1) → s.heap.get? c = some o → h'.get? c = some o) → Q (.ref s.heap.objs.size) { s with heap := h' }) :
    wpAny (model prog w) A (nextN z) (fun fin s' => ∃ v, fin = .done (.ret v) ∧ Q v s') E s := by
  show wpAny _ _ (field (.ref z) 2 >>= _) _ _ _ ; refine wpAny_bind (wpAny_field zat rfl (x := .bool false) rfl ?_)
  show wpAny _ _ (field (.ref z) 3 >>= _) _ _ _ ; refine wpAny_bind (wpAny_field zat rfl (x := .ref TI) rfl (wpAny_bind (wpAny_seqItems tia rfl ?_)))
  have hemp : ((ps.map fun p => Value.ref p.1).toArray.isEmpty) = false := by
    cases ps with
    | nil => exact absurd rfl hne
    | cons p ps => rfl
  simp only [hemp, Bool.false_eq_true, if_false]
  show wpAny _ _ (Builtin.SmallTypes.ownedTupleIsFree _ >>= _) _ _ _
  refine wpAny_bind (free _ ?_)
  simp only [if_true]
  refine wpAny_bind (wpAny_rule ?_)
  refine wpAny_bind (wpAny_field zat rfl (x := .ref TO) rfl ?_)
  refine wpAny_bind (wpAny_setField_rec zat (by simp) fun g1 za1 sm1 => ?_)
  replace za1 : ZipAt g1 z TI TO .ellipsis b0 := za1
  refine wpAny_bind ?_
  refine wpAny_forIn_list _ (fun rest b s' => ∃ (done todo : List (Addr × Addr)) (h' : Heap) (ar : List Value), ps = done ++ todo ∧ rest = (todo.map fun p => Value.ref p.1).zipIdx done.length ∧ s' = { s with heap := h' } ∧ b = (none, ()) ∧ ZipAt h' z TI TO .ellipsis b0 ∧ IsTupN h' TO ar ∧ ar.length = ps.length ∧ ar.take done.length = us.take done.length ∧
    (∀ p ∈ done, h'.IsListIter p.1 p.2 (i + 1)) ∧ (∀ p ∈ todo, h'.IsListIter p.1 p.2 i) ∧ h'.objs.size = s.heap.objs.size ∧ ∀ c o, c ≠ z → c ≠ TO → c ∉ ps.map (·.1) → s.heap.get? c = some o → h'.get? c = some o) _ ?_ ?_ _ _ ?_
  · rintro x rest b s' ⟨done, todo, h', ar, e1, e2, rfl, rfl, e5, e6, e7, e8, e9, e10, e11, e12⟩
    cases todo with
    | nil => simp at e2
    | cons p todo =>
      rw [List.map_cons, List.zipIdx_cons, List.cons.injEq] at e2
      obtain ⟨rfl, rfl⟩ := e2
      obtain ⟨u, its, u1, u2, u3⟩ := hu.at e1
      have pm : p ∈ ps := by rw [e1]; simp
      have l1 := S.lz p pm
      have u2' : h'.IsList p.2 its := Heap.IsList.at u2 fun o e => e12 _ o l1.1 l1.2.1 (fun q => by obtain ⟨r, hr, hq⟩ := List.mem_map.mp q; exact l1.2.2 r hr hq.symm) e
      have nd := S.nd
      rw [e1, List.map_append, List.map_cons] at nd
      have nd2 := List.nodup_append.mp nd
      have dn : ∀ q ∈ done, q.1 ≠ p.1 := fun q hq e => nd2.2.2 q.1 (List.mem_map.mpr ⟨q, hq, rfl⟩) p.1 (List.mem_cons_self ..) e
      have tn : ∀ q ∈ todo, q.1 ≠ p.1 := fun q hq e => (List.nodup_cons.mp nd2.2.1).1 (by rw [← e]; exact List.mem_map.mpr ⟨q, hq, rfl⟩)
      have inz := S.iz p pm
      refine wpAny_bind (wpAny_onRaise ?_)
      show wpAny _ _ (Builtin.SmallTypes.nextOf (.ref p.1) >>= _) _ _ _
      refine wpAny_bind (wpAny_nextOf_list_item (s := { s with heap := h' }) (e10 p (List.mem_cons_self ..)) u2' u3 fun h2 it2 sb2 => wpAny_pure ?_)
      have T2 : IsTupN h2 TO ar := sb2.extBut _ _ inz.2.2.symm e6
      have z2 : ZipAt h2 z TI TO .ellipsis b0 := sb2.extBut _ _ inz.1.symm e5
      refine wpAny_bind (wpAny_seqItems (s := { s with heap := h2 }) T2 rfl ?_)
      refine wpAny_bind (updateSeqN (s := { s with heap := h2 }) T2 (by rw [e7]; exact hn) fun h3 T3 sb3 => ?_)
      replace sb3 : Heap.SameBut TO h2 h3 := sb3
      refine wpAny_bind (wpAny_letGo (wpAny_pure ?_))
      refine ⟨done ++ [p], todo, h3, ar.set done.length u, by rw [e1, List.append_assoc]; rfl, by rw [List.length_append]; rfl, rfl, rfl, sb3.extBut _ _ S.TOz.symm z2, T3, by rw [List.length_set, e7], ?_, fun q hq => ?_, fun q hq => ?_, ?_, fun c o c1 c2 c3 e => ?_⟩
      · have lt : done.length < ar.length := by rw [e7, e1]; simp
        have lt2 : done.length < us.length := by rw [hu.1, e1]; simp
        rw [List.length_append, List.length_singleton, List.take_add_one, List.take_add_one, List.take_set_of_le (Nat.le_refl _), e8, List.getElem?_set_self lt, u1]
      · rcases List.mem_append.mp hq with q' | q'
        · have qm : q ∈ ps := by rw [e1]; exact List.mem_append_left _ q'
          exact ((e9 q q').extBut sb2.extBut (dn q q')).extBut sb3.extBut (S.iz q qm).2.2
        · rw [List.mem_singleton] at q'
          subst q'
          exact it2.extBut sb3.extBut inz.2.2
      · have qm : q ∈ ps := by rw [e1]; exact List.mem_append_right _ (List.mem_cons_of_mem _ hq)
        exact ((e10 q (List.mem_cons_of_mem _ hq)).extBut sb2.extBut (tn q hq)).extBut sb3.extBut (S.iz q qm).2.2
      · rw [sb3.1, sb2.1]; exact e11
      · exact sb3.extBut _ _ c2 (sb2.extBut _ _ (fun q => c3 (by rw [q]; exact List.mem_map.mpr ⟨p, pm, rfl⟩)) (e12 c o c1 c2 c3 e))
  · rintro b s' ⟨done, todo, h', ar, e1, e2, rfl, rfl, e5, e6, e7, e8, e9, e10, e11, e12⟩
    cases todo with
    | cons p todo => simp at e2
    | nil =>
      have ed : ps = done := by rw [e1, List.append_nil]
      have ea : ar = us := by
        have q : done.length = ps.length := by rw [ed]
        rw [q, List.take_of_length_le (by omega), List.take_of_length_le (by rw [hu.1]; exact Nat.le_refl _)] at e8
        exact e8
      subst ea
      show wpAny _ _ (seqItems? (Value.ref TO) >>= _) _ _ _
      refine wpAny_bind (wpAny_seqItems (s := { s with heap := h' }) e6 rfl ?_)
      refine wpAny_bind (wpAny_newTuple ?_ (by show ar.length ≤ sizeLine; rw [e7]; exact Nat.le_trans hn (by decide)))
      show wpAny _ _ (Builtin.SmallTypes.ownedTupleHandOut (.ref z) (.ref h'.objs.size) >>= _) _ _ ({ s with heap := h'.push { cls := .type "tuple", data := .seq ar.toArray } })
      refine wpAny_bind ?_
      unfold Builtin.SmallTypes.ownedTupleHandOut
      have hz6 : ZipAt (h'.push { cls := .type "tuple", data := .seq ar.toArray }) z TI TO .ellipsis b0 := Heap.get?_push_of_some _ e5
      refine wpAny_bind (wpAny_setField_rec hz6 (by simp) fun h7 hz7 hs7 => ?_)
      replace hz7 : ZipAt h7 z TI TO (rawInt h'.objs.size) b0 := hz7
      refine wpAny_setField_rec hz7 (by simp) fun h8 hz8 hs8 => ?_
      replace hz8 : ZipAt h8 z TI TO (rawInt h'.objs.size) (.bool false) := hz8
      replace hs7 : Heap.SameBut z (h'.push { cls := .type "tuple", data := .seq ar.toArray }) h7 := hs7
      replace hs8 : Heap.SameBut z h7 h8 := hs8
      have hzlt : z < h'.objs.size := Heap.lt_size e5
      have up : ∀ c o, c ≠ z → h'.get? c = some o → h8.get? c = some o := fun c o c1 e => hs8.extBut _ _ c1 (hs7.extBut _ _ c1 (Heap.get?_push_of_some _ e))
      have hT8 : IsTupN h8 h'.objs.size ar := hs8.extBut _ _ (Nat.ne_of_gt hzlt) (hs7.extBut _ _ (Nat.ne_of_gt hzlt) (Heap.get?_push_size _ rfl))
      have hsz8 : h8.objs.size = h'.objs.size + 1 := by rw [hs8.1, hs7.1, Heap.size_push]
      rw [e11] at hz8 hT8 hsz8
      refine wpAny_pure ⟨_, rfl, ?_⟩
      show Q (.ref h'.objs.size) { s with heap := h8 }
      rw [e11]
      exact hQ h8 hz8 (up _ _ S.TOz e6) (fun p hp => (e9 p (by rw [← ed]; exact hp)).at fun o e => up _ _ (S.iz p hp).1 e) hT8 hsz8 fun c o c1 c2 c3 e => up c o c1 (e12 c o c1 c2 c3 e)
  · exact ⟨[], ps, g1, arr, rfl, rfl, rfl, rfl, za1, sm1.extBut _ _ S.TOz toa, ha, rfl, fun p hp => (List.not_mem_nil hp).elim, fun p hp => (hi p hp).extBut sm1.extBut (S.iz p hp).1, sm1.1, fun c o c1 c2 c3 e => sm1.extBut _ _ c1 e⟩
theorem zipN_held {Q : Value → Shared → Prop} (S : SepN z TI TO ps) (zat : ZipAt s.heap z TI TO f0 b0)
    (held : ∀ Q : Bool → Shared → Prop, (∀ h', ZipAt h' z TI TO f0 (.bool true) → Heap.SameBut z s.heap h' → Q false { s with heap := h' }) → wpAny (model prog w) A (Builtin.SmallTypes.ownedTupleIsFree (.ref z)) Q E s)
    (tia : IsTupN s.heap TI (ps.map fun p => .ref p.1)) (hne : ps ≠ []) (hn : ps.length ≤ 13) (hi : ∀ p ∈ ps, s.heap.IsListIter p.1 p.2 i) (hu : ItemsN s.heap ps i us)
    (hQ : ∀ h', ZipAt h' z TI TO f0 (.bool true) → (∀ p ∈ ps, h'.IsListIter p.1 p.2 (i + 1)) → IsTupN h' s.heap.objs.size us → h'.objs.size = s.heap.objs.size + 1 →
      (∀ c o, c ≠ z → c ∉ ps.map (·.1) → s.heap.get? c = some o → h'.get? c = some o) → Q (.ref s.heap.objs.size) { s with heap := h' }) :
    wpAny (model prog w) A (nextN z) (fun fin s' => ∃ v, fin = .done (.ret v) ∧ Q v s') E s := by
  show wpAny _ _ (field (.ref z) 2 >>= _) _ _ _ ; refine wpAny_bind (wpAny_field zat rfl (x := .bool false) rfl ?_)
  show wpAny _ _ (field (.ref z) 3 >>= _) _ _ _ ; refine wpAny_bind (wpAny_field zat rfl (x := .ref TI) rfl (wpAny_bind (wpAny_seqItems tia rfl ?_)))
  have hemp : ((ps.map fun p => Value.ref p.1).toArray.isEmpty) = false := by
    cases ps with
    | nil => exact absurd rfl hne
    | cons p ps => rfl
  simp only [hemp, Bool.false_eq_true, if_false]
  show wpAny _ _ (Builtin.SmallTypes.ownedTupleIsFree _ >>= _) _ _ _
  refine wpAny_bind (held _ fun g1 za1 sm1 => ?_)
  simp only [Bool.false_eq_true, if_false]
  refine wpAny_bind ?_
  rw [← Array.forIn_toList]
  refine wpAny_forIn_list _ (fun rest b s' => ∃ (done todo : List (Addr × Addr)) (h' : Heap), ps = done ++ todo ∧ rest = (todo.map fun p => Value.ref p.1) ∧ s' = { s with heap := h' } ∧ b = (none, (us.take done.length).toArray) ∧ ZipAt h' z TI TO f0 (.bool true) ∧
    (∀ p ∈ done, h'.IsListIter p.1 p.2 (i + 1)) ∧ (∀ p ∈ todo, h'.IsListIter p.1 p.2 i) ∧ h'.objs.size = s.heap.objs.size ∧ ∀ c o, c ≠ z → c ∉ ps.map (·.1) → s.heap.get? c = some o → h'.get? c = some o) _ ?_ ?_ _ _ ?_
  · rintro x rest b s' ⟨done, todo, h', e1, e2, rfl, rfl, e5, e9, e10, e11, e12⟩
    cases todo with
    | nil => simp at e2
    | cons p todo =>
      rw [List.map_cons, List.cons.injEq] at e2
      obtain ⟨rfl, rfl⟩ := e2
      obtain ⟨u, its, u1, u2, u3⟩ := hu.at e1
      have pm : p ∈ ps := by rw [e1]; simp
      have l1 := S.lz p pm
      have u2' : h'.IsList p.2 its := Heap.IsList.at u2 fun o e => e12 _ o l1.1 (fun q => by obtain ⟨r, hr, hq⟩ := List.mem_map.mp q; exact l1.2.2 r hr hq.symm) e
      have nd := S.nd
      rw [e1, List.map_append, List.map_cons] at nd
      have nd2 := List.nodup_append.mp nd
      have dn : ∀ q ∈ done, q.1 ≠ p.1 := fun q hq e => nd2.2.2 q.1 (List.mem_map.mpr ⟨q, hq, rfl⟩) p.1 (List.mem_cons_self ..) e
      have tn : ∀ q ∈ todo, q.1 ≠ p.1 := fun q hq e => (List.nodup_cons.mp nd2.2.1).1 (by rw [← e]; exact List.mem_map.mpr ⟨q, hq, rfl⟩)
      have inz := S.iz p pm
      refine wpAny_bind (wpAny_holding ?_)
      show wpAny _ _ (Builtin.SmallTypes.nextOf (.ref p.1) >>= _) _ _ _
      refine wpAny_bind (wpAny_nextOf_list_item (s := { s with heap := h' }) (e10 p (List.mem_cons_self ..)) u2' u3 fun h2 it2 sb2 => wpAny_pure (wpAny_pure ?_))
      have z2 : ZipAt h2 z TI TO f0 (.bool true) := sb2.extBut _ _ inz.1.symm e5
      refine ⟨done ++ [p], todo, h2, by rw [e1, List.append_assoc]; rfl, rfl, rfl, ?_, z2, fun q hq => ?_, fun q hq => (e10 q (List.mem_cons_of_mem _ hq)).extBut sb2.extBut (tn q hq), ?_, fun c o c1 c3 e => ?_⟩
      · rw [List.length_append, List.length_singleton, List.take_add_one, u1]; simp
      · rcases List.mem_append.mp hq with q' | q'
        · exact (e9 q q').extBut sb2.extBut (dn q q')
        · rw [List.mem_singleton] at q'
          subst q'
          exact it2
      · rw [sb2.1]; exact e11
      · exact sb2.extBut _ _ (fun q => c3 (by rw [q]; exact List.mem_map.mpr ⟨p, pm, rfl⟩)) (e12 c o c1 c3 e)
  · rintro b s' ⟨done, todo, h', e1, e2, rfl, rfl, e5, e9, e10, e11, e12⟩
    cases todo with
    | cons p todo => simp at e2
    | nil =>
      have ed : ps = done := by rw [e1, List.append_nil]
      have ea : us.take done.length = us := List.take_of_length_le (by rw [hu.1, ed]; exact Nat.le_refl _)
      rw [ea]
      show wpAny _ _ (newTuple us >>= _) _ _ _
      refine wpAny_bind (wpAny_newTuple ?_ (by show us.length ≤ sizeLine; rw [hu.1]; exact Nat.le_trans hn (by decide)))
      refine wpAny_pure ⟨_, rfl, ?_⟩
      show Q (.ref h'.objs.size) { s with heap := h'.push { cls := .type "tuple", data := .seq us.toArray } }
      have hp : IsTupN (h'.push { cls := .type "tuple", data := .seq us.toArray }) h'.objs.size us := Heap.get?_push_size _ rfl
      have hz4 : (h'.push { cls := .type "tuple", data := .seq us.toArray }).objs.size = h'.objs.size + 1 := Heap.size_push ..
      rw [e11] at hp hz4 ⊢
      exact hQ _ (Heap.get?_push_of_some _ e5) (fun p hp => (e9 p (by rw [← ed]; exact hp)).at fun o e => Heap.get?_push_of_some _ e) hp hz4 fun c o c1 c3 e => Heap.get?_push_of_some _ (e12 c o c1 c3 e)
  · exact ⟨[], ps, g1, rfl, rfl, rfl, rfl, za1, fun p hp => (List.not_mem_nil hp).elim, fun p hp => (hi p hp).extBut sm1.extBut (S.iz p hp).1, sm1.1, fun c o c1 c3 e => sm1.extBut _ _ c1 e⟩
theorem zipN_end {Q : Fin → Shared → Prop} {p : Addr × Addr} {its : Array Value} (nho : A.handled = none) (S : SepN z TI TO (p :: ps)) (zat : ZipAt s.heap z TI TO f0 b0)
    (fr : (∀ Q : Bool → Shared → Prop, Q true s → wpAny (model prog w) A (Builtin.SmallTypes.ownedTupleIsFree (.ref z)) Q E s) ∨
      (∀ Q : Bool → Shared → Prop, (∀ h', ZipAt h' z TI TO f0 (.bool true) → Heap.SameBut z s.heap h' → Q false { s with heap := h' }) → wpAny (model prog w) A (Builtin.SmallTypes.ownedTupleIsFree (.ref z)) Q E s))
    (tia : IsTupN s.heap TI ((p :: ps).map fun p => .ref p.1)) (hi : s.heap.IsListIter p.1 p.2 i) (hl : s.heap.IsList p.2 its) (hx : its[i]? = none)
    (hE : ∀ h' e, (∀ c o, c ≠ z → c ∉ (p :: ps).map (·.1) → s.heap.get? c = some o → h'.get? c = some o) → (∃ o, h'.get? e = some o ∧ o.cls = .type "StopIteration") → E (.ref e) { s with heap := h' }) :
    wpAny (model prog w) A (nextN z) Q E s := by
  have inz := S.iz p (List.mem_cons_self ..)
  have l1 := S.lz p (List.mem_cons_self ..)
  have pm : p.1 ∈ (p :: ps).map (·.1) := List.mem_map.mpr ⟨p, List.mem_cons_self .., rfl⟩
  show wpAny _ _ (field (.ref z) 2 >>= _) _ _ _ ; refine wpAny_bind (wpAny_field zat rfl (x := .bool false) rfl ?_)
  show wpAny _ _ (field (.ref z) 3 >>= _) _ _ _ ; refine wpAny_bind (wpAny_field zat rfl (x := .ref TI) rfl (wpAny_bind (wpAny_seqItems tia rfl ?_)))
  show wpAny _ _ (Builtin.SmallTypes.ownedTupleIsFree _ >>= _) _ _ _
  rcases fr with free | held
  · refine wpAny_bind (free _ ?_)
    simp only [if_true]
    refine wpAny_bind (wpAny_rule ?_)
    refine wpAny_bind (wpAny_field zat rfl (x := .ref TO) rfl ?_)
    refine wpAny_bind (wpAny_setField_rec zat (by simp) fun g1 za1 sm1 => ?_)
    replace za1 : ZipAt g1 z TI TO .ellipsis b0 := za1
    refine wpAny_bind ?_
    simp only [List.map_cons, List.toList_toArray, List.zipIdx_cons, List.forIn_cons]
    refine wpAny_bind (wpAny_bind (wpAny_onRaise ?_))
    show wpAny _ _ (Builtin.SmallTypes.nextOf (.ref p.1) >>= _) _ _ _
    refine wpAny_bind (wpAny_nextOf_list_end (s := { s with heap := g1 }) nho (hi.extBut sm1.extBut inz.1) (Heap.IsList.at hl fun o e => sm1.extBut _ _ l1.1 e) hx fun q e hq he => ?_)
    obtain ⟨oe, oeq, ceq⟩ := he
    have hzq : ZipAt q z TI TO .ellipsis b0 := hq _ _ inz.1.symm za1
    have nez : e ≠ z := fun x => by subst x; rw [hzq] at oeq; cases oeq; simp at ceq
    refine wpAny_setField_rec (s := { s with heap := q }) hzq (by simp) fun q' _ hqq => ?_
    replace hqq : Heap.SameBut z q q' := hqq
    exact hE q' e (fun c o c1 c2 x => hqq.extBut _ _ c1 (hq _ _ (fun y => c2 (by rw [y]; exact pm)) (sm1.extBut _ _ c1 x))) ⟨oe, hqq.extBut _ _ nez oeq, ceq⟩
  · refine wpAny_bind (held _ fun g1 za1 sm1 => ?_)
    simp only [Bool.false_eq_true, if_false]
    refine wpAny_bind ?_
    rw [← Array.forIn_toList]
    simp only [List.map_cons, List.toList_toArray, List.forIn_cons]
    refine wpAny_bind (wpAny_bind (wpAny_holding ?_))
    show wpAny _ _ (Builtin.SmallTypes.nextOf (.ref p.1) >>= _) _ _ _
    refine wpAny_bind (wpAny_nextOf_list_end (s := { s with heap := g1 }) nho (hi.extBut sm1.extBut inz.1) (Heap.IsList.at hl fun o e => sm1.extBut _ _ l1.1 e) hx fun q e hq he => ?_)
    exact hE q e (fun c o c1 c2 x => hq _ _ (fun y => c2 (by rw [y]; exact pm)) (sm1.extBut _ _ c1 x)) he
theorem zAlive {a : Addr} {Q : Option Obj → Shared → Prop} (ho : s.heap.get? a = none) (h : Q none s) : wpAny (model prog w) A (loadIfAlive a) Q E s := by
  have h' : Q (s.heap.get? a) s := by rw [ho]; exact h
  exact fun _ _ _ => h'
/-- whether the zip may take its tuple again -/
theorem freeOr {T : Addr} {f : Bool} (zat : ZipAt s.heap z TI TO f0 (.bool f)) (h0 : f0 = .none ∨ f0 = rawInt T) :
    (∀ Q : Bool → Shared → Prop, Q true s → wpAny (model prog w) A (Builtin.SmallTypes.ownedTupleIsFree (.ref z)) Q E s) ∨
      (∀ Q : Bool → Shared → Prop, (∀ h', ZipAt h' z TI TO f0 (.bool true) → Heap.SameBut z s.heap h' → Q false { s with heap := h' }) → wpAny (model prog w) A (Builtin.SmallTypes.ownedTupleIsFree (.ref z)) Q E s) := by
  rcases h0 with rfl | rfl
  · refine .inl fun Q q => ?_
    unfold Builtin.SmallTypes.ownedTupleIsFree
    exact wpAny_bind (wpAny_field zat rfl (x := .none) rfl (wpAny_pure q))
  · cases tat : s.heap.get? T with
    | none =>
      refine .inl fun Q q => ?_
      unfold Builtin.SmallTypes.ownedTupleIsFree
      refine wpAny_bind (wpAny_field zat rfl (x := rawInt T) rfl ?_)
      show wpAny _ _ (loadIfAlive ((T : Int).toNat) >>= _) _ _ _
      rw [Int.toNat_natCast]
      refine wpAny_bind (zAlive tat ?_)
      exact wpAny_pure q
    | some oT => exact .inr fun Q h => wpAny_tupleHeld_zip zat tat h
/-- a zip's state ahead of turn i -/
def StN (z TI TO : Addr) (ps : List (Addr × Addr)) (i : Nat) (h : Heap) : Prop :=
  (∃ f0 f, ZipAt h z TI TO f0 (.bool f) ∧ (f0 = .none ∨ ∃ T : Addr, f0 = rawInt T)) ∧ IsTupN h TI (ps.map fun p => .ref p.1) ∧ (∃ arr : List Value, IsTupN h TO arr ∧ arr.length = ps.length) ∧ ∀ p ∈ ps, h.IsListIter p.1 p.2 i
theorem pyNext_zipN_item {Q : Option Value → Shared → Prop} (S : SepN z TI TO ps) (st : StN z TI TO ps i s.heap) (hne : ps ≠ []) (hn : ps.length ≤ 13) (hu : ItemsN s.heap ps i us)
    (hQ : ∀ h', StN z TI TO ps (i + 1) h' → IsTupN h' s.heap.objs.size us → h'.objs.size = s.heap.objs.size + 1 →
      (∀ c o, c ≠ z → c ≠ TO → c ∉ ps.map (·.1) → s.heap.get? c = some o → h'.get? c = some o) → Q (some (.ref s.heap.objs.size)) { s with heap := h' }) :
    wpAny (model prog w) A (pyNext (.ref z)) Q E s := by
  obtain ⟨⟨f0, f, zat, h0⟩, tia, ⟨arr, toa, ha⟩, hi⟩ := st
  have tyz : s.TypeIs (.ref z) "zip" := ⟨_, zat, rfl⟩
  have h0' : ∃ T : Addr, f0 = .none ∨ f0 = rawInt T := by
    rcases h0 with q | ⟨T, q⟩
    · exact ⟨0, .inl q⟩
    · exact ⟨T, .inr q⟩
  obtain ⟨T, h0''⟩ := h0'
  have itI : TI ∉ ps.map (·.1) := fun q => by obtain ⟨r, hr, e⟩ := List.mem_map.mp q; exact (S.iz r hr).2.1 e
  have itO : TO ∉ ps.map (·.1) := fun q => by obtain ⟨r, hr, e⟩ := List.mem_map.mp q; exact (S.iz r hr).2.2 e
  unfold pyNext
  refine wpAny_bind (wpAny_attempt (wpAny_callSpecial?_slot (name := Str.ofString "__next__") tyz F.slot_zip_next
    (wpAny_call_entry F.slot_zip_next tyz F.entry_zip_next ?_ (F.args_zip_next_1 _))))
  rcases freeOr (prog := prog) (w := w) (E := fun e s' => _) zat h0'' with fr | he
  · exact zipN_own S zat fr tia toa ha hne hn hi hu fun h' a1 a2 a3 a4 a5 a6 => wpAny_pure (hQ h' ⟨⟨_, false, a1, .inr ⟨_, rfl⟩⟩, a6 _ _ S.TIz S.TITO itI tia, ⟨us, a2, hu.1⟩, a3⟩ a4 a5 a6)
  · exact zipN_held S zat he tia hne hn hi hu fun h' a1 a3 a4 a5 a6 => wpAny_pure (hQ h' ⟨⟨_, true, a1, h0⟩, a6 _ _ S.TIz itI tia, ⟨arr, a6 _ _ S.TOz itO toa, ha⟩, a3⟩ a4 a5 fun c o c1 _ c3 e => a6 c o c1 c3 e)
theorem pyNext_zipN_end {Q : Option Value → Shared → Prop} {p : Addr × Addr} {its : Array Value} (nho : A.handled = none) (S : SepN z TI TO (p :: ps)) (st : StN z TI TO (p :: ps) i s.heap) (hl : s.heap.IsList p.2 its) (hx : its[i]? = none)
    (hQ : ∀ h', (∀ c o, c ≠ z → c ∉ (p :: ps).map (·.1) → s.heap.get? c = some o → h'.get? c = some o) → Q none { s with heap := h' }) :
    wpAny (model prog w) A (pyNext (.ref z)) Q E s := by
  obtain ⟨⟨f0, f, zat, h0⟩, tia, ⟨arr, toa, ha⟩, hi⟩ := st
  have tyz : s.TypeIs (.ref z) "zip" := ⟨_, zat, rfl⟩
  have h0' : ∃ T : Addr, f0 = .none ∨ f0 = rawInt T := by
    rcases h0 with q | ⟨T, q⟩
    · exact ⟨0, .inl q⟩
    · exact ⟨T, .inr q⟩
  obtain ⟨T, h0''⟩ := h0'
  unfold pyNext
  refine wpAny_bind (wpAny_attempt (wpAny_callSpecial?_slot (name := Str.ofString "__next__") tyz F.slot_zip_next
    (wpAny_call_entry F.slot_zip_next tyz F.entry_zip_next (zipN_end nho S zat (freeOr zat h0'') tia (hi p (List.mem_cons_self ..)) hl hx fun h' e hk he => ?_) (F.args_zip_next_1 _))))
  obtain ⟨o, ho, hc⟩ := he
  refine wpAny_bind (wpAny_isInstance (T := "StopIteration") (b := true) ⟨o, ho, hc⟩ isSubtype_stop ?_)
  exact wpAny_pure (hQ h' hk)
theorem pyIter_zipN {Q : Value → Shared → Prop} (zat : ZipAt s.heap z TI TO f0 b0) (h : Q (.ref z) s) : wpAny (model prog w) A (pyIter (.ref z)) Q E s := by
  have tat : s.TypeIs (.ref z) "zip" := ⟨_, zat, rfl⟩
  refine wpAny_pyIter_slot tat F.slot_zip_iter (wpAny_call_entry F.slot_zip_iter tat F.entry_zip_iter ?_ (F.args_zip_iter_1 _))
  show wpAny _ _ (ret (.ref z)) _ _ s
  exact wpAny_pure ⟨_, rfl, "zip", _, tat, F.slot_zip_next.lookup, h⟩
end
end PySem
set_option Elab.async false
set_option linter.all false
set_option maxRecDepth 100000
namespace DL
open PySem PySem.Spec PyProof.Rows L2 RZ
theorem callWith_typeStar {M : Model} {A : Around} {E : Value → Shared → Prop} {s : Shared} {env : Env} {pos p : Pos} {T : String} {e : Expr} {Q : Value → Shared → Prop}
    (h : wpAny M A (eval e env) (fun v s₁ => PySem.W.StarOf M A E v (fun vs s₂ => wpAny M A (call (.type T) vs) Q E s₂) s₁) E s)
    (he : starEach [.Starred e p] env = [(true, eval e env)] := by rfl) : wpAny M A (callWith pos (.type T) [] (backTo pos (starEach [.Starred e p] env)) []) Q E s := by
  rw [he]
  unfold callWith
  refine wpAny_bind (wpAny_holding (wpAny_mono (PySem.W.ks_lone (Q := fun a s₁ => wpAny M A (call (.type T) ([] ++ a.pos) a.kw) Q E s₁) h) (fun a s₁ h₁ => wpAny_bind (wpAny_standAt ?_)) fun _ _ x => x))
  refine wpAny_bind (wpAny_pure ?_)
  have ht : (List.any (backTo pos [(true, eval e env)]) (·.1) || List.any ([] : List (Option Str × Sem Value)) (·.1.isNone)) = true := rfl
  rw [ht]
  exact wpAny_bind (wpAny_mono (wpAny_operating h₁) (fun r s₂ hr => wpAny_bind (wpAny_holding (wpAny_point (wpAny_pure hr)))) fun _ _ x => x)
/-- two lists, each of one with each of the other at its place -/
def A2 {α β : Type} (P : α → β → Prop) : List α → List β → Prop
  | [], [] => True
  | a :: as, b :: bs => P a b ∧ A2 P as bs
  | _, _ => False
theorem A2.len {α β : Type} {P : α → β → Prop} : ∀ {as : List α} {bs : List β}, A2 P as bs → as.length = bs.length
  | [], [], _ => rfl
  | _ :: _, _ :: _, h => congrArg (· + 1) h.2.len
  | [], _ :: _, h => h.elim
  | _ :: _, [], h => h.elim
theorem A2.imp {α β : Type} {P Q : α → β → Prop} (f : ∀ a b, P a b → Q a b) : ∀ {as : List α} {bs : List β}, A2 P as bs → A2 Q as bs
  | [], [], _ => trivial
  | _ :: _, _ :: _, h => ⟨f _ _ h.1, h.2.imp f⟩
  | [], _ :: _, h => h.elim
  | _ :: _, [], h => h.elim
/-- lists at the addresses, one item of each at each turn, as a new tuple -/
def ItN (K : PySem.W.Frag) (as : List Addr) : It :=
  ⟨fun i H => ∃ rows : List (List V), A2 (fun a xs => SqL K H a xs ∧ i < xs.length) as rows,
    fun i H v H' => ∃ T col, v = .ref T ∧ H T = none ∧ H' = upd H T (.tup col) ∧ A2 (fun a x => ∀ xs, SqL K H a xs → xs[i]? = some x) as col,
    fun i H => ∃ a as' xs, as = a :: as' ∧ SqL K H a xs ∧ xs.length ≤ i⟩
theorem column {X : Cx} {pins : List (Addr × Obj)} {σ : L2.St} {H : Hp} {s : Shared} {i : Nat} (I : Inv X pins σ H s) : ∀ (as : List Addr) (rows : List (List V)), A2 (fun a xs => SqL X.K H a xs ∧ i < xs.length) as rows →
    ∃ us col, us.length = as.length ∧ Vals col us ∧ A2 (fun a x => ∀ xs, SqL X.K H a xs → xs[i]? = some x) as col ∧ ∀ (k : Nat) a u, as[k]? = some a → us[k]? = some u → ∃ its, s.heap.IsList a its ∧ its[i]? = some u
  | [], [], _ => ⟨[], [], rfl, .nil, trivial, fun k a u h => by simp at h⟩
  | a :: as, xs :: rows, h => by
    obtain ⟨us, col, l, rv, c, g⟩ := column I as rows h.2
    obtain ⟨its, rx, p, _⟩ := I.list h.1.1
    have hlt : i < xs.length := h.1.2
    have hx : xs[i]? = some xs[i] := List.getElem?_eq_getElem hlt
    obtain ⟨u, hu, ru⟩ := rx.get hx
    refine ⟨u :: us, xs[i] :: col, by rw [List.length_cons, List.length_cons, l], .cons ru rv, ⟨fun ys hy => ?_, c⟩, fun k b v hb hv => ?_⟩
    · rw [I.list_inj hy h.1.1]; exact hx
    · cases k with
      | zero =>
        have e1 : a = b := by simpa using hb
        have e2 : u = v := by simpa using hv
        subst e1 e2
        exact ⟨its.toArray, p.isList, by simpa using hu⟩
      | succ k => exact g k b v (by simpa using hb) (by simpa using hv)
  | [], _ :: _, h => h.elim
  | _ :: _, [], h => h.elim
theorem turn_zipN {P : Program} {w : World} {K : PySem.W.Frag} {x : Str} {tpos : Pos} {z TI TO : Addr} {ps : List (Addr × Addr)} (S : SepN z TI TO ps) (hne : ps ≠ []) (hn : ps.length ≤ 13) :
    Turn P w K (.Name x tpos) (ItN K (ps.map (·.2))) (z :: TI :: TO :: ps.map (·.1)) z (StN z TI TO ps) where
  mem := List.mem_cons_self ..
  obj := fun i h st c hc => by
    obtain ⟨⟨f0, f, hz, h0⟩, hTI, ⟨arr, hTO, ha⟩, hi⟩ := st
    rcases List.mem_cons.mp hc with q | hc
    · rw [q]; exact ⟨_, hz, fun v q => nomatch q⟩
    rcases List.mem_cons.mp hc with q | hc
    · rw [q]; exact ⟨_, hTI, fun v q => nomatch q⟩
    rcases List.mem_cons.mp hc with q | hc
    · rw [q]; exact ⟨_, hTO, fun v q => nomatch q⟩
    obtain ⟨p, pm, rfl⟩ := List.mem_map.mp hc
    obtain ⟨o, e, _, d⟩ := hi p pm
    exact ⟨o, e, fun v q => by rw [d] at q; cases q⟩
  keep := fun i h h' st k => by
    obtain ⟨⟨f0, f, hz, h0⟩, hTI, ⟨arr, hTO, ha⟩, hi⟩ := st
    exact ⟨⟨f0, f, k z (by simp) _ hz, h0⟩, k TI (by simp) _ hTI, ⟨arr, k TO (by simp) _ hTO, ha⟩, fun p pm => (hi p pm).at fun o q => k p.1 (List.mem_cons_of_mem _ (List.mem_cons_of_mem _ (List.mem_cons_of_mem _ (List.mem_map.mpr ⟨p, pm, rfl⟩)))) o q⟩
  item := by
    intro X hP hw hK hc i pins s σ H E I hf st hg
    subst hP hw hK
    obtain ⟨rows, hr⟩ := hg
    obtain ⟨us, col, l, rv, c, g⟩ := column I _ rows hr
    have hu : ItemsN s.heap ps i us := ⟨by rw [l, List.length_map], fun k p u hp hv => g k p.2 u (by rw [List.getElem?_map, hp]; rfl) hv⟩
    refine pyNext_zipN_item S st hne hn hu fun h' st' hT hsz hk => ?_
    refine ⟨_, rfl, ?_⟩
    refine (wpAny_pure ?_ : wpAny _ _ (pure ()) _ _ _)
    have new : ObjOk X.prog X.w (upd H s.heap.objs.size (.tup col)) h' s.heap.objs.size (.tup col) :=
      ⟨by show col.length ≤ sizeLine; rw [rv.length, l, List.length_map]; exact Nat.le_trans hn (by decide), us, rv, ⟨_, hT, rfl, _, rfl⟩⟩
    have I1 : Inv X pins σ (upd H s.heap.objs.size (.tup col)) { s with heap := h' } :=
      I.turnedNew (t' := s.toks) (ch := z :: TI :: TO :: ps.map (·.1)) (fun c o hb q => hk c o (fun q' => hb (by simp [q'])) (fun q' => hb (by simp [q'])) (fun q' => hb (List.mem_cons_of_mem _ (List.mem_cons_of_mem _ (List.mem_cons_of_mem _ q')))) q) hf (Nat.le_refl _) new
    refine ⟨.ref s.heap.objs.size, _, I1, rfl, ⟨_, col, rfl, I.hok.fresh (Nat.le_refl _), rfl, c⟩, st', fun b hb => ?_⟩
    have hlt : b < s.heap.objs.size := by
      obtain ⟨⟨f0, f, hz, h0⟩, hTI, ⟨arr, hTO, ha⟩, hi⟩ := st
      rcases List.mem_cons.mp hb with q | hb
      · rw [q]; exact Heap.lt_size hz
      rcases List.mem_cons.mp hb with q | hb
      · rw [q]; exact Heap.lt_size hTI
      rcases List.mem_cons.mp hb with q | hb
      · rw [q]; exact Heap.lt_size hTO
      obtain ⟨p, pm, rfl⟩ := List.mem_map.mp hb
      obtain ⟨o, e, _, d⟩ := hi p pm
      exact Heap.lt_size e
    rw [upd_ne (Nat.ne_of_lt hlt)]
    exact (hf b hb).1
  done := by
    intro X hP hw hK hc i pins s σ H E I hf st hg
    subst hP hw hK
    obtain ⟨a, as', xs, e, hq, hle⟩ := hg
    cases ps with
    | nil => exact absurd rfl hne
    | cons p ps =>
      rw [List.map_cons, List.cons.injEq] at e
      obtain ⟨rfl, _⟩ := e
      obtain ⟨its, rx, pl, _⟩ := I.list hq
      have he : its.toArray[i]? = none := by
        have := rx.length
        simp; omega
      refine pyNext_zipN_end (I.ok.hd hc) S st pl.isList he fun h' hk => ⟨rfl, I.turnedL (t' := s.toks) (ch := z :: TI :: TO :: (p :: ps).map (·.1)) (fun c o hb q => hk c o (fun q' => hb (by simp [q'])) (fun q' => hb (List.mem_cons_of_mem _ (List.mem_cons_of_mem _ (List.mem_cons_of_mem _ q')))) q) hf⟩
  self := fun A i s Q E st h => by
    obtain ⟨⟨f0, f, hz, h0⟩, _⟩ := st
    exact pyIter_zipN hz h
end DL
set_option Elab.async false
set_option linter.all false
set_option maxRecDepth 100000
namespace DL
open PySem PySem.Spec PyProof.Rows L2 RZ
theorem zlt {a n k : Nat} (h : a < n + 1 + k) : a < n + (k + 1) := by omega
theorem zne0 {a m : Nat} (h : a < m) : a ≠ m := by omega
theorem zne1 {a m : Nat} (h : a < m) : a ≠ m + 1 := by omega
theorem zne2 {a m : Nat} (h : a < m) : a ≠ m + 2 := by omega
theorem zup {l n k j : Nat} (h : l < n) : l ≠ n + k + j := by omega
theorem zap {l n q : Nat} (h : l < n) (h2 : n ≤ q) : l ≠ q := by omega
theorem itsAt_mem : ∀ {ls : List Addr} {n : Nat} {p : Addr × Addr}, p ∈ itsAt n ls → n ≤ p.1 ∧ p.1 < n + ls.length ∧ p.2 ∈ ls
  | l :: ls, n, p, h => by
    rw [itsAt] at h
    rcases List.mem_cons.mp h with q | q
    · subst q
      exact ⟨Nat.le_refl _, by rw [List.length_cons]; exact Nat.lt_add_of_pos_right (Nat.succ_pos _), List.mem_cons_self ..⟩
    · obtain ⟨a, b, c⟩ := itsAt_mem q
      rw [List.length_cons]
      exact ⟨Nat.le_of_succ_le a, zlt b, List.mem_cons_of_mem _ c⟩
  | [], _, _, h => (List.not_mem_nil h).elim
theorem itsAt_snd : ∀ (ls : List Addr) (n : Nat), (itsAt n ls).map (·.2) = ls
  | [], _ => rfl
  | l :: ls, n => by rw [itsAt, List.map_cons, itsAt_snd ls (n + 1)]
theorem itsAt_nd : ∀ (ls : List Addr) (n : Nat), ((itsAt n ls).map (·.1)).Nodup
  | [], _ => List.nodup_nil
  | l :: ls, n => by
    rw [itsAt, List.map_cons, List.nodup_cons]
    refine ⟨fun h => ?_, itsAt_nd ls (n + 1)⟩
    obtain ⟨q, hq, e⟩ := List.mem_map.mp h
    have := (itsAt_mem hq).1
    have e' : q.1 = n := e
    rw [e'] at this
    exact Nat.not_succ_le_self _ this
theorem sepN_new {n : Nat} {ls : List Addr} (h : ∀ l ∈ ls, l < n) : SepN (n + ls.length + 2) (n + ls.length) (n + ls.length + 1) (itsAt n ls) where
  TIz := Nat.ne_of_lt (Nat.lt_add_of_pos_right (by decide))
  TOz := Nat.ne_of_lt (Nat.lt_succ_self _)
  TITO := Nat.ne_of_lt (Nat.lt_succ_self _)
  iz := fun p hp => ⟨zne2 (itsAt_mem hp).2.1, zne0 (itsAt_mem hp).2.1, zne1 (itsAt_mem hp).2.1⟩
  nd := itsAt_nd ls n
  lz := fun p hp => ⟨zup (h _ (itsAt_mem hp).2.2), zup (h _ (itsAt_mem hp).2.2), fun q hq => zap (h _ (itsAt_mem hp).2.2) (itsAt_mem hq).1⟩
theorem refs_vals : ∀ {as : List Addr} {us : List Value}, Vals (as.map V.ref) us → us = as.map Value.ref
  | [], _, .nil => rfl
  | a :: as, _, .cons r rr => by
    rw [List.map_cons, ← refs_vals rr]
    exact congrArg (· :: _) r
theorem A2.left {α β : Type} {P : α → β → Prop} : ∀ {as : List α} {bs : List β}, A2 P as bs → ∀ a ∈ as, ∃ b, P a b
  | a :: as, b :: bs, h, x, hx => by
    rcases List.mem_cons.mp hx with q | q
    · subst q; exact ⟨b, h.1⟩
    · exact h.2.left x q
  | [], _, _, x, hx => (List.not_mem_nil hx).elim
  | _ :: _, [], h, _, _ => h.elim
def iZipN (K : PySem.W.Frag) (te : TE) : TI := fun σ H R => te σ H fun v H1 => ∃ a as rows, v = .ref a ∧ (SqT K H1 a (as.map .ref) ∨ SqL K H1 a (as.map .ref)) ∧ as ≠ [] ∧ as.length ≤ 13 ∧ A2 (fun a xs => SqL K H1 a xs) as rows ∧ R (ItN K as) H1
theorem pi_zipStar {X : Cx} {e : Expr} {te : TE} {y : Str} {p p2 pos tpos : Pos} (hg : Gl X "zip") (hm : X.mg "zip" = none) (he : PE X e te) (hs : starEach [.Starred e p2] X.env = [(true, eval e X.env)] := by rfl) :
    PI X (.Name y tpos) (.Call (.Name "zip" p) [.Starred e p2] [] pos) (iZipN X.K te) := by
  refine ⟨fun pins s σ H R I h => ?_⟩
  refine Call_ (ld_blt I hg hm PyProof.Rows.boot_zip (callWith_typeStar (thn (he.run pins s σ H _ I h) fun v s1 ⟨y, H1, I1, r1, q1⟩ => ?_) hs))
  obtain ⟨a, as, rows, rfl, hx, ne, hn, h2, q⟩ := q1
  obtain rfl : v = Value.ref a := r1
  refine StX.star_any I1 hx fun us s2 I2 rv => ?_
  rw [refs_vals rv]
  have hl : ∀ l ∈ as, ∃ xs, s2.heap.IsList l xs := fun l hm => by
    obtain ⟨xs, hq⟩ := h2.left l hm
    obtain ⟨its, _, pl, _⟩ := I2.list hq
    exact ⟨_, pl.isList⟩
  have lt : ∀ l ∈ as, l < s2.heap.objs.size := fun l hm => by
    obtain ⟨xs, hq⟩ := h2.left l hm
    obtain ⟨its, _, pl, _⟩ := I2.list hq
    exact pl.lt
  refine call_zipN hn hl fun h' hm => pyIter_zipN hm.1 ?_
  have I3 : Inv X pins σ H1 { s2 with heap := h' } := I2.kept (t' := s2.toks) hm.2.2.2.2.2
  have tn := turn_zipN (P := X.prog) (w := X.w) (K := X.K) (x := y) (tpos := tpos) (sepN_new lt) (fun e => ne (by rw [← itsAt_snd as s2.heap.objs.size, e]; rfl)) (by rw [itsAt_len]; exact hn)
  rw [itsAt_snd] at tn
  refine ⟨s2.heap.objs.size + as.length + 2, _, _, _, H1, rfl, I3, tn, ⟨⟨_, false, hm.1, .inl rfl⟩, hm.2.1, ⟨_, hm.2.2.1, by rw [List.length_map, List.length_map]⟩, hm.2.2.2.1⟩, fun c hc => ?_, q⟩
  have hle : s2.heap.objs.size ≤ c := by
    rcases List.mem_cons.mp hc with q | hc
    · rw [q]; exact Nat.le_trans (Nat.le_add_right _ _) (Nat.le_add_right _ _)
    rcases List.mem_cons.mp hc with q | hc
    · rw [q]; exact Nat.le_add_right _ _
    rcases List.mem_cons.mp hc with q | hc
    · rw [q]; exact Nat.le_trans (Nat.le_add_right _ _) (Nat.le_add_right _ _)
    obtain ⟨r, hr, rfl⟩ := List.mem_map.mp hc
    exact (itsAt_mem hr).1
  have := I2.fpOk hle (I2.hok.fresh hle)
  exact this
/-! ### zip(*rows), rows a list of lists of one length -/
def gZipN (g : GE) : GI := fun δ μ R => g δ μ fun d μ1 => ∃ (rs : List (List D)) (m : Nat), d = .lst (rs.map D.lst) ∧ rs ≠ [] ∧ rs.length ≤ 13 ∧ (∀ r ∈ rs, r.length = m) ∧ R ((List.range m).map fun i => D.tup (rs.map fun r => r.getD i D.non)) μ1
theorem rows_of {K : PySem.W.Frag} {H : Hp} {μ : Mu} {m : Nat} : ∀ (rs : List (List D)) (vs : List V), (∀ r ∈ rs, r.length = m) → RepL K H μ (rs.map D.lst) vs →
    ∃ as rows, vs = as.map V.ref ∧ as.length = rs.length ∧ A2 (fun a xs => H a = some (.lst xs) ∧ μ a = none ∧ xs.length = m) as rows ∧ A2 (fun r xs => RepL K H μ r xs) rs rows
  | [], vs, _, h => by
    unfold RepL at h
    exact ⟨[], [], h, rfl, trivial, trivial⟩
  | r :: rs, vs, hl, h => by
    rw [List.map_cons] at h
    unfold RepL at h
    obtain ⟨v, w, rfl, hr, hrest⟩ := h
    obtain ⟨as, rows, rfl, l, h1, h2⟩ := rows_of rs w (fun q hq => hl q (List.mem_cons_of_mem _ hq)) hrest
    obtain ⟨a, xs, rfl, e1, e2, rl⟩ := rep_lst hr
    exact ⟨a :: as, xs :: rows, rfl, by rw [List.length_cons, List.length_cons, l], ⟨⟨e1, e2, rl.length.trans (hl r (List.mem_cons_self ..))⟩, h1⟩, ⟨rl, h2⟩⟩
theorem col_rep {K : PySem.W.Frag} {H H1 : Hp} {μ μ1 : Mu} {m i : Nat} (k : Kp H1 μ1 H μ) : ∀ (as : List Addr) (rows : List (List V)) (rs : List (List D)) (col : List V), A2 (fun a xs => H1 a = some (.lst xs) ∧ μ1 a = none ∧ xs.length = m) as rows → A2 (fun r xs => RepL K H1 μ1 r xs) rs rows →
    A2 (fun a x => ∀ xs, SqL K H a xs → xs[i]? = some x) as col → RepL K H μ (rs.map fun r => r.getD i D.non) col
  | [], [], [], [], _, _, _ => RepL.nil
  | a :: as, xs :: rows, r :: rs, x :: col, h1, h2, h3 => by
    have hx := h3.1 xs (SqL.of (k.k1 _ _ h1.1.1 h1.1.2.1))
    obtain ⟨d, e3, r3⟩ := ((h2.1 : RepL K H1 μ1 r xs).mono k).atV hx
    rw [List.map_cons]
    unfold RepL
    refine ⟨x, col, rfl, ?_, col_rep k as rows rs col h1.2 h2.2 h3.2⟩
    rw [List.getD_eq_getElem?_getD, e3]
    exact r3
  | [], [], [], _ :: _, _, _, h => h.elim
  | [], [], _ :: _, _, _, h, _ => h.elim
  | [], _ :: _, _, _, h, _, _ => h.elim
  | _ :: _, [], _, _, h, _, _ => h.elim
  | _ :: _, _ :: _, [], _, _, h, _ => h.elim
  | _ :: _, _ :: _, _ :: _, [], _, _, h => h.elim
theorem di_zipN {X : Cx} {e : Expr} {g : GE} {y : Str} {p p2 pos tpos : Pos} (hg : Gl X "zip") (hm : X.mg "zip" = none) (h : DE X e g) (hs : starEach [.Starred e p2] X.env = [(true, eval e X.env)] := by rfl) :
    DI X (.Name y tpos) (.Call (.Name "zip" p) [.Starred e p2] [] pos) (gZipN g) := by
  obtain ⟨t, a1, a2⟩ := h.ex
  refine ⟨_, pi_zipStar hg hm a1 hs, fun σ H δ μ Q R rm rs q f => ?_⟩
  refine a2 σ H δ μ _ _ rm rs q fun v d H1 μ1 k1 rm1 r1 q1 => ?_
  obtain ⟨rs, m, rfl, ne, hn, hl, q1⟩ := q1
  obtain ⟨a, vs, rfl, hH, hn1, rl⟩ := rep_lst r1
  obtain ⟨as, rows, rfl, l, h1, h2⟩ := rows_of rs vs hl rl
  have ne' : as ≠ [] := fun e => ne (List.eq_nil_of_length_eq_zero (by rw [← l, e]; rfl))
  have sq : ∀ {H' μ'}, Kp H1 μ1 H' μ' → A2 (fun a xs => SqL X.K H' a xs ∧ xs.length = m) as rows := fun k => h1.imp fun a xs h => ⟨SqL.of (k.k1 _ _ h.1 h.2.1), h.2.2⟩
  have sq0 : A2 (fun a xs => SqL X.K H1 a xs) as rows := h1.imp fun a xs h => SqL.of h.1
  refine ⟨a, as, rows, rfl, .inr (SqL.of hH), ne', by rw [l]; exact hn, sq0, f _ ((List.range m).map fun i => D.tup (rs.map fun r => r.getD i D.non)) H1 μ1 k1 rm1 ?_ q1⟩
  have len : ((List.range m).map fun i => D.tup (rs.map fun r => r.getD i D.non)).length = m := by rw [List.length_map, List.length_range]
  refine ⟨fun i H' hi ⟨μ', k, _⟩ => ?_, fun H' ⟨μ', k, _⟩ => ?_, fun i H' v H2 hi _ y => ?_⟩
  · rw [len] at hi
    exact ⟨rows, (sq k).imp fun a xs h => ⟨h.1, by rw [h.2]; exact hi⟩⟩
  · rw [len]
    cases as with
    | nil => exact absurd rfl ne'
    | cons b as =>
      cases rows with
      | nil => exact h1.elim
      | cons xs rows => exact ⟨b, as, xs, rfl, (sq k).1.1, Nat.le_of_eq (sq k).1.2⟩
  · intro μ' k rm
    obtain ⟨T, col, rfl, nT, rfl, hc⟩ := y
    rw [len] at hi
    have nm : μ' T = none := rm.free nT
    have k2 : Kp H' μ' (upd H' T (.tup col)) μ' := Kp.new nT
    refine ⟨D.tup (rs.map fun r => r.getD i D.non), ?_, ?_, k2, rm.laid nT⟩
    · rw [List.getElem?_map, List.getElem?_range hi]
      rfl
    · unfold Rep
      exact ⟨T, _, rfl, .inl ⟨upd_same, nm⟩, (col_rep k as rows rs col h1 h2 hc).mono k2⟩
end DL
set_option Elab.async false
set_option linter.all false
set_option maxRecDepth 100000
namespace DL
open PySem PySem.Spec PyProof.Rows L2 RZ
/-! ### break -/
def gBrk : GS := fun F δ μ => F.bk δ μ
theorem ds_brk {X : Cx} {pos : Pos} : DSt X (.Break pos) gBrk := ⟨_, ps_break, fun σ H δ μ E F rm rs e q => e.bk σ H δ μ (Kp.refl _ _) rm rs q⟩
/-! ### zip of two lists -/
def pairsL (xs ys : List D) : List D := List.zipWith (fun c d => D.tup [c, d]) xs ys
def gZipL (ga : GA) : GI := fun δ μ R => ga δ μ fun ds μ1 => match ds with
  | [.lst xs, .lst ys] => R (pairsL xs ys) μ1
  | _ => False
theorem di_zipL {X : Cx} {e e2 : Expr} {ga : GA} {p pos tpos : Pos} {elts : List Expr} {kk : Nat} (hg : Gl X "zip") (hm : X.mg "zip" = none) (h : DA X [e, e2] ga)
    (hs : starEach [e, e2] X.env = (false, eval e X.env) :: starEach [e2] X.env := by rfl) (hpl : (backTo pos (starEach [e2] X.env)).any (·.1) = false := by rfl) :
    DI X (.Tuple elts kk tpos) (.Call (.Name "zip" p) [e, e2] [] pos) (gZipL ga) := by
  obtain ⟨t, a1, a2⟩ := h.ex
  refine ⟨_, pi_zipA hg hm a1 hs hpl, fun σ H δ μ Q R rm rs q f => ?_⟩
  refine a2 σ H δ μ _ _ rm rs q fun vs ds H1 μ1 k1 rm1 r1 q1 => ?_
  match ds, q1, r1 with
  | [.lst xs, .lst ys], q1, r1 =>
    obtain ⟨v, w, rfl, r2, r3⟩ := repL2 r1
    obtain ⟨a, vx, rfl, hH, hn, rl⟩ := rep_lst r2
    obtain ⟨b, vy, rfl, hH2, hn2, rl2⟩ := rep_lst r3
    have sx : ∀ {H' μ'}, Kp H1 μ1 H' μ' → SqL X.K H' a vx := fun k => SqL.of (k.k1 _ _ hH hn)
    have sy : ∀ {H' μ'}, Kp H1 μ1 H' μ' → SqL X.K H' b vy := fun k => SqL.of (k.k1 _ _ hH2 hn2)
    have l1 := rl.length
    have l2 := rl2.length
    have hl : (pairsL xs ys).length = min vx.length vy.length := by rw [l1, l2]; simp [pairsL]
    refine ⟨a, b, vx, vy, rfl, .inl ⟨SqL.of hH, SqL.of hH2, f _ (pairsL xs ys) H1 μ1 k1 rm1 ?_ q1⟩⟩
    refine ⟨fun i H' hi ⟨μ', k, _⟩ => ?_, fun H' ⟨μ', k, _⟩ => ⟨vx, vy, sx k, sy k, by omega⟩, fun i H' v H2 hi _ y => ?_⟩
    · have h1 : i < vx.length := by omega
      have h2 : i < vy.length := by omega
      exact ⟨vx, vy, vx[i], vy[i], sx k, sy k, List.getElem?_eq_getElem h1, List.getElem?_eq_getElem h2⟩
    · intro μ' k rm
      obtain ⟨T, x, z, rfl, nT, rfl, e3, e4⟩ := y
      obtain ⟨d, f3, r3⟩ := (rl.mono k).atV (e3 vx (sx k))
      obtain ⟨d2, f4, r4⟩ := (rl2.mono k).atV (e4 vy (sy k))
      have nm : μ' T = none := rm.free nT
      have k2 : Kp H' μ' (upd H' T (.tup [x, z])) μ' := Kp.new nT
      refine ⟨.tup [d, d2], ?_, ?_, k2, rm.laid nT⟩
      · unfold pairsL
        rw [List.getElem?_zipWith, f3, f4]
      · unfold Rep
        exact ⟨T, _, rfl, .inl ⟨upd_same, nm⟩, by unfold RepL; exact ⟨_, _, rfl, r3.mono k2, by unfold RepL; exact ⟨_, _, rfl, r4.mono k2, RepL.nil⟩⟩⟩
/-! ### cells in a list, all forgotten at once -/
theorem repL_split {K : PySem.W.Frag} {H : Hp} {μ : Mu} {d : D} {post : List D} : ∀ (pre : List D) (vs : List V), RepL K H μ (pre ++ d :: post) vs → ∃ v1 x v2, vs = v1 ++ x :: v2 ∧ RepL K H μ pre v1 ∧ Rep K H μ d x ∧ RepL K H μ post v2
  | [], vs, h => by
    rw [List.nil_append] at h
    unfold RepL at h
    obtain ⟨x, r, rfl, h1, h2⟩ := h
    exact ⟨[], x, r, rfl, RepL.nil, h1, h2⟩
  | p :: pre, vs, h => by
    rw [List.cons_append] at h
    unfold RepL at h
    obtain ⟨y, r, rfl, h1, h2⟩ := h
    obtain ⟨v1, x, v2, rfl, a, b, c⟩ := repL_split pre r h2
    exact ⟨y :: v1, x, v2, rfl, by unfold RepL; exact ⟨y, v1, rfl, h1, a⟩, b, c⟩
theorem repL_join {K : PySem.W.Frag} {H : Hp} {μ : Mu} {d : D} {post : List D} {x : V} {v2 : List V} (b : Rep K H μ d x) (c : RepL K H μ post v2) : ∀ (pre : List D) (v1 : List V), RepL K H μ pre v1 → RepL K H μ (pre ++ d :: post) (v1 ++ x :: v2)
  | [], v1, h => by
    unfold RepL at h
    subst h
    show RepL K H μ (d :: post) (x :: v2)
    unfold RepL
    exact ⟨x, v2, rfl, b, c⟩
  | p :: pre, v1, h => by
    unfold RepL at h
    obtain ⟨y, r, rfl, h1, h2⟩ := h
    show RepL K H μ (p :: (pre ++ d :: post)) (y :: (r ++ x :: v2))
    unfold RepL
    exact ⟨y, _, rfl, h1, repL_join b c pre r h2⟩
theorem Into.item {d d' : D} {μ μ' : Mu} {pre post : List D} (h : Into d μ d' μ') : Into (.lst (pre ++ d :: post)) μ (.lst (pre ++ d' :: post)) μ' := ⟨fun K H v rm r => by
  obtain ⟨a, vs, rfl, hH, hn, rl⟩ := rep_lst r
  obtain ⟨v1, x, v2, rfl, r1, r2, r3⟩ := repL_split pre vs rl
  obtain ⟨k, rm', r2'⟩ := h.ok K H x rm r2
  refine ⟨k, rm', ?_⟩
  unfold Rep
  exact ⟨a, _, rfl, hH, k.free hH hn, repL_join r2' (r3.mono k) pre v1 (r1.mono k)⟩⟩
def dels (μ : Mu) : List Addr → Mu
  | [] => μ
  | a :: as => dels (del μ a) as
theorem dels_in : ∀ (as : List Addr) (μ : Mu) (b : Addr), b ∈ as → dels μ as b = none ∨ False
  | a :: as, μ, b, h => by
    rw [dels]
    by_cases hb : b ∈ as
    · exact dels_in as _ b hb
    · have e : b = a := by
        rcases List.mem_cons.mp h with q | q
        · exact q
        · exact absurd q hb
      subst e
      refine .inl ?_
      have : ∀ (as : List Addr) (μ : Mu), μ b = none → dels μ as b = none := fun as => by
        induction as with
        | nil => exact fun μ h => h
        | cons c as ih =>
          intro μ h
          rw [dels]
          refine ih _ ?_
          by_cases hc : b = c
          · subst hc; exact del_same
          · rw [del_ne hc]; exact h
      exact this as _ del_same
  | [], _, _, h => (List.not_mem_nil h).elim
theorem dels_out : ∀ (as : List Addr) (μ : Mu) (b : Addr), b ∉ as → dels μ as b = μ b
  | [], _, _, _ => rfl
  | a :: as, μ, b, h => by
    rw [dels, dels_out as _ b fun q => h (List.mem_cons_of_mem _ q)]
    exact del_ne fun q => h (by rw [q]; exact List.mem_cons_self ..)
theorem Into.frzAll : ∀ (as : List Addr) (rs : List (List D)) (pre : List D) (μ : Mu), A2 (fun a r => μ a = some (.lst r)) as rs → as.Nodup → Into (.lst (pre ++ as.map D.adr)) μ (.lst (pre ++ rs.map D.lst)) (dels μ as)
  | [], [], pre, μ, _, _ => .refl
  | a :: as, r :: rs, pre, μ, h, nd => by
    have nd' := List.nodup_cons.mp nd
    have one : Into (.lst (pre ++ D.adr a :: as.map D.adr)) μ (.lst (pre ++ D.lst r :: as.map D.adr)) (del μ a) := (Into.frz h.1).item
    have rest : A2 (fun b r => del μ a b = some (.lst r)) as rs := by
      have h2 := h.2
      have nn := nd'.1
      clear one nd nd' h
      induction as generalizing rs with
      | nil => cases rs with
        | nil => trivial
        | cons _ _ => exact h2.elim
      | cons b as ih => cases rs with
        | nil => exact h2.elim
        | cons q rs =>
          refine ⟨?_, ih rs h2.2 fun z => nn (List.mem_cons_of_mem _ z)⟩
          show del μ a b = _
          rw [del_ne fun e => nn (by rw [← e]; exact List.mem_cons_self ..)]
          exact h2.1
    have two := Into.frzAll as rs (pre ++ [D.lst r]) (del μ a) rest nd'.2
    rw [List.append_assoc, List.append_assoc] at two
    exact one.trans two
  | [], _ :: _, _, _, h, _ => h.elim
  | _ :: _, [], _, _, h, _ => h.elim
end DL
set_option Elab.async false
set_option linter.all false
set_option maxRecDepth 100000
namespace DL
open PySem PySem.Spec PyProof.Rows L2
/-! ### defs whose last parameters have numbers as defaults -/
end DL
set_option Elab.async false
set_option linter.all false
set_option maxRecDepth 100000
namespace DL
open PySem PySem.Spec PyProof.Rows L2
/-! ### in, of a list of bools -/
def gInB : G2 := fun x y μ R => match y with
  | .lst ds => ∃ (i : Bool) (ns : List Bool), x = .bl i ∧ ds = ns.map D.bl ∧ R (.bl (decide (i ∈ ns))) μ
  | _ => False
theorem inV_bl (i : Bool) : ∀ ns : List Bool, inV (.bl i) (ns.map V.bl) = decide (i ∈ ns)
  | [] => rfl
  | n :: ns => by
    have ih := inV_bl i ns
    unfold inV at ih ⊢
    rw [List.map_cons, List.any_cons, ih]
    have e : eqV (.bl n) (.bl i) = decide (n = i) := by cases n <;> cases i <;> rfl
    rw [e]
    by_cases h : n = i
    · subst h; simp
    · have h' : ¬ i = n := fun e => h e.symm
      simp [h, h']
theorem flat_bls (ns : List Bool) : (ns.map V.bl).all flatV = true := by
  rw [List.all_eq_true]
  intro v hv
  obtain ⟨n, _, rfl⟩ := List.mem_map.mp hv
  rfl
theorem repL_bls {K : PySem.W.Frag} {H : Hp} {μ : Mu} : ∀ {ns : List Bool} {vs : List V}, RepL K H μ (ns.map D.bl) vs → vs = ns.map V.bl
  | [], vs, h => by
    rw [List.map_nil] at h
    unfold RepL at h
    exact h
  | n :: ns, vs, h => by
    rw [List.map_cons] at h
    unfold RepL at h
    obtain ⟨v, r, rfl, h1, h2⟩ := h
    rw [rep_bl h1, repL_bls h2]
    rfl
theorem sim_inB {K : PySem.W.Frag} : SimO K (rInA K) gInB := by
  intro x y dx dy H μ Q R rm rx ry q f
  cases dy <;> try exact False.elim q
  obtain ⟨i, ns, rfl, rfl, q⟩ := q
  obtain ⟨p, vs, rfl, i1, n1, l1⟩ := rep_lst ry
  have ev := repL_bls l1
  subst ev
  rw [rep_bl rx]
  refine .inr ⟨p, ns.map V.bl, rfl, .inl (SqL.of i1), rfl, flat_bls ns, ?_⟩
  rw [inV_bl]
  exact fw_now rm to_bl q f
/-! ### repr of a few long numbers -/
structure ShowOkW (p : PyData) : Prop where
  lay : PyData.canLay0 p = true
  shrt : p.intsShort 600 = true
  show_ : p.showable = true
  dp : p.depth ≤ 20
  wt : p.weight ≤ 20000
theorem ShowOkW.len {p : PyData} (h : ShowOkW p) : p.shown.length ≤ sizeLine := by
  have h1 := PyData.shown_le 600 (by decide) p (PyData.leavesShort_of_canLay0 600 p h.lay h.shrt)
  have := h.wt
  rw [sizeLine_eq]
  omega
def gReprW : G1 := fun x μ R => gRepr1 x μ R ∨ ∃ p, isBox x = true ∧ py x = some p ∧ ShowOkW p ∧ R (.str p.shown) μ
def rReprW (K : PySem.W.Frag) : List V → Hp → VK → Prop := fun xs H Q => rRepr K xs H Q ∨ ∃ a p, xs = [.ref a] ∧ Dp K H (.ref a) p ∧ ShowOkW p ∧ Q (.str p.shown) H
theorem cr_reprW {X : Cx} (hG : X.A.guards = some []) (hu : X.A.units + 64 < cLine) : CallR X (.builtin "repr") (rReprW X.K) := by
  intro pins s σ H vs us Q I r h
  rcases h with h | ⟨a, p, rfl, hd, hs, q⟩
  · exact cr_repr hG hu pins s σ H vs us Q I r h
  · obtain ⟨u, rfl, ru⟩ := vals1 r
    obtain ⟨as, rd⟩ := hd.reads I p _ _ ru
    cases ru
    refine repr_of_reads' (h₀ := s.heap) rd hs.show_ (PyData.noDict_hsm (PyData.hasDict_of_canLay p hs.lay)) hG (by have := hs.dp; omega) (fun _ _ e => e) (fun h' t tk hk => ?_) hs.len
    exact ⟨.str p.shown, H, I.kept (t' := tk) hk, ⟨t, rfl⟩, q⟩
theorem sim_reprW {K : PySem.W.Frag} : SimC K (rReprW K) (g1 gReprW) := sim_g1 fun v d H μ Q R rm rv q f => by
  rcases q with q | ⟨p, hb, hp, hs, q⟩
  · exact .inl (sim_repr [v] [d] H μ Q R rm (RepL.cons rv RepL.nil) q f)
  · have hd := rv.dp _ _ _ hp
    have : ∃ a, v = .ref a := by
      cases d <;> try cases hb
      · obtain ⟨a, vs, rfl, _⟩ := rep_tup rv
        exact ⟨a, rfl⟩
      · obtain ⟨a, vs, rfl, _⟩ := rep_lst rv
        exact ⟨a, rfl⟩
      · obtain ⟨a, vs, rfl, _⟩ := rep_seq rv
        exact ⟨a, rfl⟩
    obtain ⟨a, rfl⟩ := this
    exact .inr ⟨a, p, rfl, hd, hs, fw_now rm to_str q f⟩
/-- two long numbers -/
theorem showW_two {i j : Int} (hi : i.natAbs < 10 ^ 500) (hj : j.natAbs < 10 ^ 500) : ShowOkW (.tuple [.int i, .int j]) := by
  have ll : ∀ k : Int, k.natAbs < 10 ^ 500 → k.natAbs.log2 < 1900 := fun k h => by
    by_cases e : k.natAbs = 0
    · rw [e]; decide
    · exact (Nat.log2_lt e).mpr (Nat.lt_trans h (by decide +kernel))
  have sl : ∀ k : Int, k.natAbs < 10 ^ 500 → (PyData.shown (.int k)).length ≤ 600 := fun k h => by
    have e := int_text_length_le10 (k := 500) (by decide) h
    show (Str.ofString (toString k)).length ≤ 600
    rw [PySem.ofString_length]
    omega
  have li := ll i hi
  have lj := ll j hj
  refine ⟨?_, ?_, ?_, ?_, ?_⟩
  · unfold PyData.canLay0 PyData.canLayAll0 PyData.canLay0 PyData.canLayAll0 PyData.canLay0 PyData.canLayAll0
    rfl
  · unfold PyData.intsShort PyData.intsShortAll PyData.intsShort PyData.intsShortAll PyData.intsShort PyData.intsShortAll
    rw [decide_eq_true (sl i hi), decide_eq_true (sl j hj)]
    rfl
  · unfold PyData.showable PyData.showableAll PyData.showable PyData.showableAll PyData.showable PyData.showableAll
    rw [decide_eq_true (show i.natAbs.log2 < 1920 by omega), decide_eq_true (show j.natAbs.log2 < 1920 by omega)]
    rfl
  · unfold PyData.depth PyData.depthAll PyData.depth PyData.depthAll PyData.depth PyData.depthAll
    omega
  · have w : ∀ k : Int, k.natAbs.log2 < 1900 → PyData.weight (.int k) ≤ 1900 := fun k h => by
      unfold PyData.weight
      split <;> omega
    have wi := w i li
    have wj := w j lj
    unfold PyData.weight PyData.weightAll PyData.weightAll PyData.weightAll
    omega
theorem py_pair (i j : Int) : py (.tup [.int i, .int j]) = some (.tuple [.int i, .int j]) := by
  unfold py pyL
  unfold py pyL
  unfold py pyL
  rfl
end DL
set_option Elab.async false
set_option linter.all false
set_option maxRecDepth 100000
namespace K10
open PySem PySem.Spec PyProof.Rows L2 DL
def top (i : Nat) : Stmt := PySem.Challenge.pw_webreckon_k15_whole_lot_counts_tables_an.main.body.getD i (.Pass ⟨0, 0, 0, 0⟩)
structure Ad where
  is_integer : Addr
  fd_is_integer : FuncData
  is_integer_from : Addr
  fd_is_integer_from : FuncData
  are_letters : Addr
  fd_are_letters : FuncData
  are_places : Addr
  fd_are_places : FuncData
  is_tie : Addr
  fd_is_tie : FuncData
  first_wrong_tie : Addr
  fd_first_wrong_tie : FuncData
  is_fraction : Addr
  fd_is_fraction : FuncData
  check_places : Addr
  fd_check_places : FuncData
  check_ties : Addr
  fd_check_ties : FuncData
  check_fraction : Addr
  fd_check_fraction : FuncData
  check_web : Addr
  fd_check_web : FuncData
  marks : Addr
  fd_marks : FuncData
  lot_of_all : Addr
  fd_lot_of_all : FuncData
  lots_within : Addr
  fd_lots_within : FuncData
  all_lots : Addr
  fd_all_lots : FuncData
  rank_of : Addr
  fd_rank_of : FuncData
  full_rank : Addr
  fd_full_rank : FuncData
  rows_of_noughts : Addr
  fd_rows_of_noughts : FuncData
  tuple_of_rows : Addr
  fd_tuple_of_rows : FuncData
  counts_of_lots : Addr
  fd_counts_of_lots : FuncData
  shifted : Addr
  fd_shifted : FuncData
  across : Addr
  fd_across : FuncData
  table_of : Addr
  fd_table_of : FuncData
  powers : Addr
  fd_powers : FuncData
  scaled_powers : Addr
  fd_scaled_powers : FuncData
  lot_counts : Addr
  fd_lot_counts : FuncData
  table : Addr
  fd_table : FuncData
  value : Addr
  fd_value : FuncData
  L_pot : Addr
  fd_L_pot : FuncData
  L_dip : Addr
  fd_L_dip : FuncData
  L_any : Addr
  fd_L_any : FuncData
  L_parts : Addr
  fd_L_parts : FuncData
  L_rank : Addr
  fd_L_rank : FuncData
  L_lots : Addr
  fd_L_lots : FuncData
  L_counted : Addr
  fd_L_counted : FuncData
  L_power : Addr
  fd_L_power : FuncData
  L_sum : Addr
  fd_L_sum : FuncData
  L_common : Addr
  fd_L_common : FuncData
  L_fraction : Addr
  fd_L_fraction : FuncData
  L_table_right : Addr
  fd_L_table_right : FuncData
  L_right : Addr
  fd_L_right : FuncData
  law : Addr
  fd_law : FuncData
  Web : Addr
  Web_init : Addr
  fd_Web_init : FuncData
structure Tx (K : PySem.W.Frag) (mg : Str → Option Value) (A : Ad) : Prop where
  F_is_integer : Fun K "is_integer" "is_integer" (top 14) A.is_integer A.fd_is_integer
  b_is_integer : Binds K A.fd_is_integer ["value"] []
  g_is_integer : mg "is_integer" = some (.ref A.is_integer)
  F_is_integer_from : Fun K "is_integer_from" "is_integer_from" (top 15) A.is_integer_from A.fd_is_integer_from
  b_is_integer_from : Binds K A.fd_is_integer_from ["value", "low", "high"] []
  g_is_integer_from : mg "is_integer_from" = some (.ref A.is_integer_from)
  F_are_letters : Fun K "are_letters" "are_letters" (top 16) A.are_letters A.fd_are_letters
  b_are_letters : Binds K A.fd_are_letters ["value"] []
  g_are_letters : mg "are_letters" = some (.ref A.are_letters)
  F_are_places : Fun K "are_places" "are_places" (top 17) A.are_places A.fd_are_places
  b_are_places : Binds K A.fd_are_places ["value"] []
  g_are_places : mg "are_places" = some (.ref A.are_places)
  F_is_tie : Fun K "is_tie" "is_tie" (top 18) A.is_tie A.fd_is_tie
  b_is_tie : Binds K A.fd_is_tie ["places", "value"] []
  g_is_tie : mg "is_tie" = some (.ref A.is_tie)
  F_first_wrong_tie : Fun K "first_wrong_tie" "first_wrong_tie" (top 19) A.first_wrong_tie A.fd_first_wrong_tie
  b_first_wrong_tie : Binds K A.fd_first_wrong_tie ["places", "ties"] []
  g_first_wrong_tie : mg "first_wrong_tie" = some (.ref A.first_wrong_tie)
  F_is_fraction : Fun K "is_fraction" "is_fraction" (top 21) A.is_fraction A.fd_is_fraction
  b_is_fraction : Binds K A.fd_is_fraction ["value"] []
  g_is_fraction : mg "is_fraction" = some (.ref A.is_fraction)
  F_check_places : Fun K "check_places" "check_places" (top 22) A.check_places A.fd_check_places
  b_check_places : Binds K A.fd_check_places ["places"] []
  g_check_places : mg "check_places" = some (.ref A.check_places)
  F_check_ties : Fun K "check_ties" "check_ties" (top 23) A.check_ties A.fd_check_ties
  b_check_ties : Binds K A.fd_check_ties ["places", "ties"] []
  g_check_ties : mg "check_ties" = some (.ref A.check_ties)
  F_check_fraction : Fun K "check_fraction" "check_fraction" (top 24) A.check_fraction A.fd_check_fraction
  b_check_fraction : Binds K A.fd_check_fraction ["value"] []
  g_check_fraction : mg "check_fraction" = some (.ref A.check_fraction)
  F_check_web : Fun K "check_web" "check_web" (top 27) A.check_web A.fd_check_web
  b_check_web : Binds K A.fd_check_web ["web"] []
  g_check_web : mg "check_web" = some (.ref A.check_web)
  F_marks : Fun K "marks" "marks" (top 28) A.marks A.fd_marks
  b_marks : Binds K A.fd_marks ["web", "lot"] []
  g_marks : mg "marks" = some (.ref A.marks)
  F_lot_of_all : Fun K "lot_of_all" "lot_of_all" (top 30) A.lot_of_all A.fd_lot_of_all
  b_lot_of_all : Binds K A.fd_lot_of_all ["web"] []
  g_lot_of_all : mg "lot_of_all" = some (.ref A.lot_of_all)
  F_lots_within : Fun K "lots_within" "lots_within" (top 31) A.lots_within A.fd_lots_within
  b_lots_within : Binds K A.fd_lots_within ["lot"] []
  g_lots_within : mg "lots_within" = some (.ref A.lots_within)
  F_all_lots : Fun K "all_lots" "all_lots" (top 32) A.all_lots A.fd_all_lots
  b_all_lots : Binds K A.fd_all_lots ["web"] []
  g_all_lots : mg "all_lots" = some (.ref A.all_lots)
  F_rank_of : Fun K "rank_of" "rank_of" (top 33) A.rank_of A.fd_rank_of
  b_rank_of : Binds K A.fd_rank_of ["web", "lot"] []
  g_rank_of : mg "rank_of" = some (.ref A.rank_of)
  F_full_rank : Fun K "full_rank" "full_rank" (top 34) A.full_rank A.fd_full_rank
  b_full_rank : Binds K A.fd_full_rank ["web"] []
  g_full_rank : mg "full_rank" = some (.ref A.full_rank)
  F_rows_of_noughts : Fun K "rows_of_noughts" "rows_of_noughts" (top 36) A.rows_of_noughts A.fd_rows_of_noughts
  b_rows_of_noughts : Binds K A.fd_rows_of_noughts ["web"] []
  g_rows_of_noughts : mg "rows_of_noughts" = some (.ref A.rows_of_noughts)
  F_tuple_of_rows : Fun K "tuple_of_rows" "tuple_of_rows" (top 37) A.tuple_of_rows A.fd_tuple_of_rows
  b_tuple_of_rows : Binds K A.fd_tuple_of_rows ["rows"] []
  g_tuple_of_rows : mg "tuple_of_rows" = some (.ref A.tuple_of_rows)
  F_counts_of_lots : Fun K "counts_of_lots" "counts_of_lots" (top 38) A.counts_of_lots A.fd_counts_of_lots
  b_counts_of_lots : Binds K A.fd_counts_of_lots ["web"] []
  g_counts_of_lots : mg "counts_of_lots" = some (.ref A.counts_of_lots)
  F_shifted : Fun K "shifted" "shifted" (top 39) A.shifted A.fd_shifted
  b_shifted : Binds K A.fd_shifted ["row"] []
  g_shifted : mg "shifted" = some (.ref A.shifted)
  F_across : Fun K "across" "across" (top 40) A.across A.fd_across
  b_across : Binds K A.fd_across ["rows"] []
  g_across : mg "across" = some (.ref A.across)
  F_table_of : Fun K "table_of" "table_of" (top 41) A.table_of A.fd_table_of
  b_table_of : Binds K A.fd_table_of ["web"] []
  g_table_of : mg "table_of" = some (.ref A.table_of)
  F_powers : Fun K "powers" "powers" (top 42) A.powers A.fd_powers
  b_powers : Binds K A.fd_powers ["base", "most"] []
  g_powers : mg "powers" = some (.ref A.powers)
  F_scaled_powers : Fun K "scaled_powers" "scaled_powers" (top 43) A.scaled_powers A.fd_scaled_powers
  b_scaled_powers : Binds K A.fd_scaled_powers ["fraction", "most"] []
  g_scaled_powers : mg "scaled_powers" = some (.ref A.scaled_powers)
  F_lot_counts : Fun K "lot_counts" "lot_counts" (top 44) A.lot_counts A.fd_lot_counts
  b_lot_counts : Binds K A.fd_lot_counts ["web"] []
  g_lot_counts : mg "lot_counts" = some (.ref A.lot_counts)
  F_table : Fun K "table" "table" (top 45) A.table A.fd_table
  b_table : Binds K A.fd_table ["web"] []
  g_table : mg "table" = some (.ref A.table)
  F_value : Fun K "value" "value" (top 46) A.value A.fd_value
  b_value : Binds K A.fd_value ["web", "x", "y"] []
  g_value : mg "value" = some (.ref A.value)
  F_L_pot : Fun K "_law_pot" "_law_pot" (top 48) A.L_pot A.fd_L_pot
  b_L_pot : Binds K A.fd_L_pot ["_law_script", "_law_k"] []
  g_L_pot : mg "_law_pot" = some (.ref A.L_pot)
  F_L_dip : Fun K "_law_dip" "_law_dip" (top 49) A.L_dip A.fd_L_dip
  b_L_dip : Binds K A.fd_L_dip ["_law_pot_here", "_law_many"] []
  g_L_dip : mg "_law_dip" = some (.ref A.L_dip)
  F_L_any : Fun K "_law_any" "_law_any" (top 50) A.L_any A.fd_L_any
  b_L_any : Binds K A.fd_L_any ["_law_pot_here", "_law_some"] []
  g_L_any : mg "_law_any" = some (.ref A.L_any)
  F_L_parts : Fun K "_law_parts" "_law_parts" (top 51) A.L_parts A.fd_L_parts
  b_L_parts : Binds K A.fd_L_parts ["_law_pot_here", "_law_most", "_law_many"] []
  g_L_parts : mg "_law_parts" = some (.ref A.L_parts)
  F_L_rank : Fun K "_law_rank" "_law_rank" (top 52) A.L_rank A.fd_L_rank
  b_L_rank : Binds K A.fd_L_rank ["_law_places", "_law_ties"] []
  g_L_rank : mg "_law_rank" = some (.ref A.L_rank)
  F_L_lots : Fun K "_law_lots" "_law_lots" (top 53) A.L_lots A.fd_L_lots
  b_L_lots : Binds K A.fd_L_lots ["_law_many"] []
  g_L_lots : mg "_law_lots" = some (.ref A.L_lots)
  F_L_counted : Fun K "_law_counted" "_law_counted" (top 55) A.L_counted A.fd_L_counted
  b_L_counted : Binds K A.fd_L_counted ["_law_places", "_law_ties"] []
  g_L_counted : mg "_law_counted" = some (.ref A.L_counted)
  F_L_power : Fun K "_law_power" "_law_power" (top 56) A.L_power A.fd_L_power
  b_L_power : Binds K A.fd_L_power ["_law_number", "_law_many"] []
  g_L_power : mg "_law_power" = some (.ref A.L_power)
  F_L_sum : Fun K "_law_sum" "_law_sum" (top 57) A.L_sum A.fd_L_sum
  b_L_sum : Binds K A.fd_L_sum ["_law_rows", "_law_left_x", "_law_right_y"] []
  g_L_sum : mg "_law_sum" = some (.ref A.L_sum)
  F_L_common : Fun K "_law_common" "_law_common" (top 58) A.L_common A.fd_L_common
  b_L_common : Binds K A.fd_L_common ["_law_one", "_law_other"] []
  g_L_common : mg "_law_common" = some (.ref A.L_common)
  F_L_fraction : Fun K "_law_fraction" "_law_fraction" (top 59) A.L_fraction A.fd_L_fraction
  b_L_fraction : Binds K A.fd_L_fraction ["_law_pot_here"] []
  g_L_fraction : mg "_law_fraction" = some (.ref A.L_fraction)
  F_L_table_right : Fun K "_law_table_right" "_law_table_right" (top 60) A.L_table_right A.fd_L_table_right
  b_L_table_right : Binds K A.fd_L_table_right ["_law_told", "_law_counts"] []
  g_L_table_right : mg "_law_table_right" = some (.ref A.L_table_right)
  F_L_right : Fun K "_law_right" "_law_right" (top 61) A.L_right A.fd_L_right
  b_L_right : Binds K A.fd_L_right ["_law_pot_here"] []
  g_L_right : mg "_law_right" = some (.ref A.L_right)
  F_law : Fun K "law" "law" (top 62) A.law A.fd_law
  b_law : Binds K A.fd_law ["_law_script"] []
  g_law : mg "law" = some (.ref A.law)
  z_abs : mg "abs" = none
  z_all : mg "all" = none
  z_bool : mg "bool" = none
  z_dict : mg "dict" = none
  z_divmod : mg "divmod" = none
  z_enumerate : mg "enumerate" = none
  z_int : mg "int" = none
  z_isinstance : mg "isinstance" = none
  z_len : mg "len" = none
  z_list : mg "list" = none
  z_max : mg "max" = none
  z_min : mg "min" = none
  z_range : mg "range" = none
  z_repr : mg "repr" = none
  z_set : mg "set" = none
  z_sorted : mg "sorted" = none
  z_str : mg "str" = none
  z_sum : mg "sum" = none
  z_tuple : mg "tuple" = none
  z_zip : mg "zip" = none
  m_comb : mg "comb" = some (.builtin "math.comb")
  m_gcd : mg "gcd" = some (.builtin "math.gcd")
  c_MOST_PLACES : ∃ t, mg "MOST_PLACES" = some (.int (7) t)
  c_MOST_TIES : ∃ t, mg "MOST_TIES" = some (.int (11) t)
  c_LETTERS : ∃ t, mg "LETTERS" = some (.str "abcdefgh" t)
  c_MOST_TOP : ∃ t, mg "MOST_TOP" = some (.int (1000000) t)
  c_MOST_BOTTOM : ∃ t, mg "MOST_BOTTOM" = some (.int (1000) t)
  g_Web : mg "Web" = some (.ref A.Web)
  k_Web : Cls K A.Web
  i_Web : IsC K A.Web
  n_places : NoAttr K A.Web "places"
  n_ties : NoAttr K A.Web "ties"
  m_Web : Mk K A.Web A.Web_init
  F_Web_init : Fun K "__init__" "Web.__init__" (inClass (top 26) 0) A.Web_init A.fd_Web_init
  b_Web_init : Binds K A.fd_Web_init ["self", "places", "ties"] []
  kb_lot_counts : KBn K A.fd_lot_counts ["web"] 0 ["web"] (fun _ ws => ws) (fun _ zs => zs)
  kb_table : KBn K A.fd_table ["web"] 0 ["web"] (fun _ ws => ws) (fun _ zs => zs)
  kb_value : KBn K A.fd_value ["web", "x", "y"] 0 ["y", "web", "x"] (fun _ ws => rot ws) (fun _ zs => rot zs)
def dWeb (C : Addr) (p : List Nat) (ts : List Str) : D := .ins C [("places", .str (toS p)), ("ties", .tup (ts.map D.str))]
def dLot (lot : List Nat) : D := dI (lot.map Int.ofNat)
structure OkWeb (p : List Nat) (ts : List Str) : Prop where
  few : p.length ≤ 8
  many : ts.length ≤ 11
  ties : ∀ y ∈ ts, y.cps.size = 2 ∧ (ends y).1 ∈ p ∧ (ends y).2 ∈ p
def tiesOf (ts : List Str) (lot : List Nat) : List (Nat × Nat) := lot.map fun i => ends (ts.getD i Str.empty)
section
variable {P : Program} {w : World} {K : PySem.W.Frag} {mg : Str → Option Value} {base : Heap} {A : Ad}
theorem atK_nat {ds : List D} {j : Nat} {d : D} {R : D → Prop} (h : ds[j]? = some d) (r : R d) : atK ds (j : Int) R := by
  unfold atK
  rw [atI_nat h]
  exact r
theorem lot_at {lot : List Nat} {i : Nat} {x : D} (h : ((lot.map Int.ofNat).map D.int)[i]? = some x) : ∃ k, lot[i]? = some k ∧ x = .int (k : Nat) := by
  rw [List.getElem?_map, List.getElem?_map] at h
  cases e : lot[i]? with
  | none => rw [e] at h; cases h
  | some k =>
    rw [e] at h
    exact ⟨k, rfl, (Option.some.inj h).symm⟩
theorem two_signs {y : Str} (h : y.cps.size = 2) : ∃ a b, y.cps[0]? = some a ∧ y.cps[1]? = some b ∧ ends y = (a, b) := by
  obtain ⟨l⟩ := y
  obtain ⟨l⟩ := l
  match l, h with
  | [a, b], _ => exact ⟨a, b, rfl, rfl, rfl⟩
theorem occ_first' {p : List Nat} {c : Nat} (h : c ∈ p) : Builtin.Str.occurrences (toS p) ⟨#[c]⟩ 0 (toS p).length 1 = p.idxOf c :: [] := by
  have := occ_first (z := toS p) (c := c) (by rw [toS_list]; exact h)
  rw [toS_list] at this
  exact this
def g_marks (C : Addr) : GC := fun ds μ R => ∃ (p : List Nat) (ts : List Str) (lot : List Nat), ds = [dWeb C p ts, dLot lot] ∧ OkWeb p ts ∧ (∀ i ∈ lot, i < ts.length) ∧ R (.str (toS (marksL p (tiesOf ts lot)))) μ
def N28 : List Str := ["web", "lot", "row", "index", "tie", "one", "other"]
theorem sc28 : FnScope N28 ["web", "lot"] (defScope (top 28)) := ⟨rfl, rfl, rfl, by decide +kernel, rfl, by decide +kernel, by decide +kernel⟩
theorem ok_marks (T : Tx K mg A) : FnOk P w K mg base CX0 1 A.marks A.fd_marks ["web", "lot"] (toSp K (g_marks A.Web)) := by
  refine okD T.F_marks sc28 (fun ds μ R h => ?_) ⟨_, fun cdv A0 outer s H E hr =>
    (dss_cons (ds_set sc28.nd (i := 2) rfl (by first | exact Or.inl rfl | exact Or.inr rfl) (de_fld T.k_Web T.n_places (dv 0)))
      (dss_cons (ds_for PassesOwn.never rfl (di_both (dv 1)) (pg_name (i := 3) sc28.nd rfl (by first | exact Or.inl rfl | exact Or.inr rfl)) (sim_nm (i := 3))
      (dss_cons (ds_set sc28.nd (i := 4) rfl (by first | exact Or.inl rfl | exact Or.inr rfl) (de_ix ix_any sim_ix (de_fld T.k_Web T.n_ties (dv 0)) (dv 3) (fun _ _ => rfl)))
      ⟨_, pss_swap (ir := 2) (iw := 0) (it := 4) (io := 5) (iu := 6) T.k_Web T.n_places (by rfl) sc28.nd rfl rfl rfl rfl rfl rfl rfl rfl rfl rfl (by decide) (by decide) (by decide) (by decide) (by decide) (by rfl) (by rfl) T.z_max T.z_min, sim_swap⟩))
      (dss_one (ds_ret (dv 2))))), fun ds μ R h => ?_⟩
  · obtain ⟨p, ts, lot, rfl, _⟩ := h
    rfl
  · obtain ⟨p, ts, lot, rfl, ok, hl, h⟩ := h
    refine ⟨rfl, _, rfl, ?_⟩
    refine ⟨fun i δ' μ' => μ' = μ ∧ ∃ o3 o4 o5 o6, δ' = [some (dWeb A.Web p ts), some (dLot lot), some (.str (toS (marksL p (tiesOf ts (lot.take i))))), o3, o4, o5, o6], ⟨rfl, none, none, none, none, rfl⟩, ?_, ?_⟩
    · rintro i x δ' μ' hx ⟨rfl, o3, o4, o5, o6, rfl⟩
      obtain ⟨k, hk, rfl⟩ := lot_at hx
      have hm : k ∈ lot := List.mem_of_getElem? hk
      have hkt := hl k hm
      obtain ⟨y, hy⟩ : ∃ y, ts[k]? = some y := ⟨ts[k], by simp [hkt]⟩
      have hym : y ∈ ts := List.mem_of_getElem? hy
      obtain ⟨sy, m1, m2⟩ := ok.ties y hym
      have hge : ts.getD k Str.empty = y := by rw [List.getD_eq_getElem?_getD, hy]; rfl
      refine ⟨rfl, _, rfl, ?_⟩
      refine atK_nat (d := .str y) (by rw [List.getElem?_map, hy]; rfl) ?_
      have er : marksL p (tiesOf ts (lot.take (i + 1))) = stepM p (marksL p (tiesOf ts (lot.take i))) (ends y) := by
        unfold marksL tiesOf
        rw [take_succ_get hk, List.map_append, List.foldl_append]
        show stepM p _ (ends (ts.getD k Str.empty)) = _
        rw [hge]
      have hlen : (marksL p (tiesOf ts (lot.take i))).length = p.length := foldl_len p _ p
      generalize marksL p (tiesOf ts (lot.take i)) = r at er hlen
      obtain ⟨c0, c1, e0, e1, ee⟩ := two_signs sy
      have i0 : p.idxOf c0 < p.length := List.idxOf_lt_length_of_mem (by rw [ee] at m1; exact m1)
      have i1 : p.idxOf c1 < p.length := List.idxOf_lt_length_of_mem (by rw [ee] at m2; exact m2)
      have few := ok.few
      refine ⟨toS r, toS p, y, c0, c1, r.getD (p.idxOf c0) 0, r.getD (p.idxOf c1) 0, p.idxOf c0, p.idxOf c1, [], [], _, rfl, rfl, rfl, rfl, e0, e1, ?_, ?_, ?_, ?_, ?_, ?_⟩
      · exact occ_first' (by rw [ee] at m1; exact m1)
      · exact occ_first' (by rw [ee] at m2; exact m2)
      · show r.toArray.size < 1000
        rw [List.size_toArray]
        omega
      · show r.toArray[p.idxOf c0]? = _
        rw [List.getElem?_toArray, List.getD_eq_getElem?_getD, List.getElem?_eq_getElem (by omega)]
        rfl
      · show r.toArray[p.idxOf c1]? = _
        rw [List.getElem?_toArray, List.getD_eq_getElem?_getD, List.getElem?_eq_getElem (by omega)]
        rfl
      · refine ⟨rfl, some (.int (k : Nat)), some (.str y), some (.str ⟨#[r.getD (p.idxOf c0) 0]⟩), some (.str ⟨#[r.getD (p.idxOf c1) 0]⟩), ?_⟩
        show [some (dWeb A.Web p ts), some (dLot lot), some (D.str (swapped (toS r) (r.getD (p.idxOf c0) 0) (r.getD (p.idxOf c1) 0))), some (.int (k : Nat)), some (.str y), some (.str ⟨#[r.getD (p.idxOf c0) 0]⟩), some (.str ⟨#[r.getD (p.idxOf c1) 0]⟩)] = _
        rw [swapped_step (p := p) (y := ends y) (by rw [ee]) (by rw [ee]), er]
    · rintro δ' μ' ⟨rfl, o3, o4, o5, o6, rfl⟩
      have e : lot.take ((lot.map Int.ofNat).map D.int).length = lot := List.take_of_length_le (by simp)
      show R (.str (toS (marksL p (tiesOf ts (lot.take ((lot.map Int.ofNat).map D.int).length))))) μ'
      rw [e]
      exact h
def g_lot_of_all (C : Addr) : GC := fun ds μ R => ∃ (p : List Nat) (ts : List Str), ds = [dWeb C p ts] ∧ OkWeb p ts ∧ R (dLot (List.range ts.length)) μ
theorem upTo_lot (n : Nat) : D.tup (DL.upTo n) = dLot (List.range n) := by
  unfold DL.upTo dLot dI
  rw [List.map_map]
  rfl
def N30 : List Str := ["web"]
theorem sc30 : FnScope N30 ["web"] (defScope (top 30)) := ⟨rfl, rfl, rfl, by decide +kernel, rfl, by decide +kernel, by decide +kernel⟩
theorem ok_lot_of_all (T : Tx K mg A) : FnOk P w K mg base CX0 1 A.lot_of_all A.fd_lot_of_all ["web"] (toSp K (g_lot_of_all A.Web)) := by
  refine okD T.F_lot_of_all sc30 (fun ds μ R h => ?_) ⟨_, fun cdv A0 outer s H E hr =>
    (dss_one (ds_ret (de_tupRg (by rfl) (by rfl) T.z_tuple (by rfl) T.z_range (de_callB cr_len sim_len (by rfl) T.z_len boot_len (da_cons (de_fld T.k_Web T.n_ties (dv 0)) da_nil))))), fun ds μ R h => ?_⟩
  · obtain ⟨p, ts, rfl, _⟩ := h
    rfl
  · obtain ⟨p, ts, rfl, ok, h⟩ := h
    refine ⟨rfl, _, rfl, ?_⟩
    refine ⟨ts.length, by simp, by have := ok.many; omega, ?_⟩
    rw [upTo_lot]
    exact h
def rankOf (p : List Nat) (ts : List Str) (lot : List Nat) : Nat := ((List.zip (marksL p (tiesOf ts lot)) p).filter fun q => decide (q.1 ≠ q.2)).length
def g_rank_of (C : Addr) : GC := fun ds μ R => ∃ (p : List Nat) (ts : List Str) (lot : List Nat), ds = [dWeb C p ts, dLot lot] ∧ OkWeb p ts ∧ (∀ i ∈ lot, i < ts.length) ∧ R (.int (rankOf p ts lot : Nat)) μ
theorem pairs_len {x y : Str} : (pairsS x y).length = min x.cps.toList.length y.cps.toList.length := by
  unfold pairsS
  rw [List.length_zipWith]
theorem pairs_mem {x y : Str} {d : D} (h : d ∈ pairsS x y) : ∃ a b, d = .tup [.str ⟨#[a]⟩, .str ⟨#[b]⟩] := by
  unfold pairsS at h
  generalize x.cps.toList = l at h
  generalize y.cps.toList = m at h
  induction l generalizing m with
  | nil => cases h
  | cons a l ih =>
    cases m with
    | nil => cases h
    | cons b m =>
      rw [List.zipWith_cons_cons] at h
      rcases List.mem_cons.mp h with e | h
      · exact ⟨a, b, e⟩
      · exact ih m h
def unlike : D → Bool
  | .tup [.str a, .str b] => decide (a ≠ b)
  | _ => false
def head1 : D → D
  | .tup (d :: _) => d
  | d => d
theorem pairs_unlike {l p : List Nat} : ((pairsS (toS l) (toS p)).filter unlike).length = ((List.zip l p).filter fun q => decide (q.1 ≠ q.2)).length := by
  unfold pairsS
  rw [toS_list, toS_list]
  induction l generalizing p with
  | nil => rfl
  | cons a l ih =>
    cases p with
    | nil => rfl
    | cons b p =>
      rw [List.zipWith_cons_cons, List.zip_cons_cons]
      by_cases e : a = b
      · subst e
        rw [List.filter_cons_of_neg (by simp [unlike]), List.filter_cons_of_neg (by simp)]
        exact ih
      · rw [List.filter_cons_of_pos (by simp [unlike, e]), List.filter_cons_of_pos (by simp [e]), List.length_cons, List.length_cons, ih]
def N33 : List Str := ["web", "lot", "mark", "place"]
theorem sc33 : FnScope N33 ["web", "lot"] (defScope (top 33)) := ⟨rfl, rfl, rfl, by decide +kernel, rfl, by decide +kernel, by decide +kernel⟩
theorem ok_rank_of (T : Tx K mg A) : FnOk P w K mg base CX0 2 A.rank_of A.fd_rank_of ["web", "lot"] (toSp K (g_rank_of A.Web)) := by
  refine okD T.F_rank_of sc33 (fun ds μ R h => ?_) ⟨_, fun cdv A0 outer s H E hr =>
    (dss_one (ds_ret (de_callB cr_len sim_len (by rfl) T.z_len boot_len (da_cons (de_lc (own := [("mark", 2), ("place", 3)]) (by rfl) sc33.nd (di_zipS (by rfl) T.z_zip (da_cons (de_call ((ok_marks T).mono (by decide)) hr (by rfl) T.g_marks T.F_marks.kp T.b_marks (da_cons (dv 0) (da_cons (dv 1) da_nil))) (da_cons (de_fld T.k_Web T.n_places (dv 0)) da_nil))) (blkOk_by (N := N33) (own := [("mark", 2), ("place", 3)]) (sc := defScope (top 33)) (by decide +kernel)) (fun _ _ _ _ _ => (pg_tup (n := 2) (by rfl) (pgs_cons (pg_name (i := 2) sc33.nd rfl (by first | exact Or.inl rfl | exact Or.inr rfl)) (pgs_cons (pg_name (i := 3) sc33.nd rfl (by first | exact Or.inl rfl | exact Or.inr rfl)) pgs_nil)))) (sim_tupT (n := 2) (sim_consT (sim_nm (i := 2)) (sim_consT (sim_nm (i := 3)) sim_nilT))) (fun _ _ _ _ _ => (dts_one (dt_cmp (op_neA hr.units) sim_ne (dv 2) (dv 3) (nomark _)))) (fun _ _ _ _ _ => (dv 2))) da_nil)))), fun ds μ R h => ?_⟩
  · obtain ⟨p, ts, lot, rfl, _⟩ := h
    rfl
  · obtain ⟨p, ts, lot, rfl, ok, hl, h⟩ := h
    refine ⟨p, ts, lot, rfl, ok, hl, ?_⟩
    refine ⟨rfl, _, rfl, ?_⟩
    show LcB _ _ _ _ _ _ _ _
    refine lcb_pure unlike head1 ?_ ?_ ?_
    · rw [pairs_len, toS_list, toS_list, sizeLine_eq]
      have := ok.few
      omega
    · intro x hx μ' N Y _ hn hy
      obtain ⟨a, b, rfl⟩ := pairs_mem hx
      refine ⟨rfl, ?_⟩
      show if (!decide ((⟨#[a]⟩ : Str) = ⟨#[b]⟩)) = true then Y (.str ⟨#[a]⟩) μ' else N μ'
      by_cases e : (⟨#[a]⟩ : Str) = ⟨#[b]⟩
      · rw [decide_eq_true e]
        exact hn (decide_eq_false fun z => z e)
      · rw [decide_eq_false e]
        exact hy (decide_eq_true e)
    · show R (.int ((((pairsS (toS (marksL p (tiesOf ts lot))) (toS p)).filter unlike).map head1).length : Nat)) μ
      rw [List.length_map, pairs_unlike]
      exact h
def g_full_rank (C : Addr) : GC := fun ds μ R => ∃ (p : List Nat) (ts : List Str), ds = [dWeb C p ts] ∧ OkWeb p ts ∧ R (.int (rankOf p ts (List.range ts.length) : Nat)) μ
def N34 : List Str := ["web"]
theorem sc34 : FnScope N34 ["web"] (defScope (top 34)) := ⟨rfl, rfl, rfl, by decide +kernel, rfl, by decide +kernel, by decide +kernel⟩
theorem ok_full_rank (T : Tx K mg A) : FnOk P w K mg base CX0 3 A.full_rank A.fd_full_rank ["web"] (toSp K (g_full_rank A.Web)) := by
  refine okD T.F_full_rank sc34 (fun ds μ R h => ?_) ⟨_, fun cdv A0 outer s H E hr =>
    (dss_one (ds_ret (de_call ((ok_rank_of T).mono (by decide)) hr (by rfl) T.g_rank_of T.F_rank_of.kp T.b_rank_of (da_cons (dv 0) (da_cons (de_call ((ok_lot_of_all T).mono (by decide)) hr (by rfl) T.g_lot_of_all T.F_lot_of_all.kp T.b_lot_of_all (da_cons (dv 0) da_nil)) da_nil))))), fun ds μ R h => ?_⟩
  · obtain ⟨p, ts, rfl, _⟩ := h
    rfl
  · obtain ⟨p, ts, rfl, ok, h⟩ := h
    exact ⟨p, ts, rfl, ok, p, ts, List.range ts.length, rfl, ok, fun i hi => List.mem_range.mp hi, h⟩
theorem perm_map {α β : Type} {f : α → β} {L : List α} {out : List β} (h : out.Perm (L.map f)) : ∃ L' : List α, L'.Perm L ∧ out = L'.map f := by
  generalize e : L.map f = M at h
  induction h generalizing L with
  | nil =>
    have : L = [] := by simpa using e
    subst this
    exact ⟨[], .refl _, rfl⟩
  | cons x p ih =>
    obtain ⟨a, l, rfl, rfl, e2⟩ := List.map_eq_cons_iff.mp e
    obtain ⟨L', p', rfl⟩ := ih e2
    exact ⟨a :: L', p'.cons a, rfl⟩
  | swap x y l =>
    obtain ⟨a, l', rfl, rfl, e2⟩ := List.map_eq_cons_iff.mp e
    obtain ⟨b, l'', rfl, rfl, e3⟩ := List.map_eq_cons_iff.mp e2
    subst e3
    exact ⟨b :: a :: l'', List.Perm.swap _ _ _, rfl⟩
  | trans p q ih1 ih2 =>
    obtain ⟨L2, p2, e2⟩ := ih2 e
    obtain ⟨L1, p1, e1⟩ := ih1 e2.symm
    exact ⟨L1, p1.trans p2, e1⟩
def ltN (a b : List Nat) : Bool := ltI (a.map Int.ofNat) (b.map Int.ofNat)
def addI (i : Nat) : D → D
  | .tup ds => .tup (ds ++ [.int (i : Nat)])
  | d => d
theorem addI_map (i : Nat) (ws : List (List Nat)) : (ws.map dLot).map (addI i) = (ws.map (· ++ [i])).map dLot := by
  rw [List.map_map, List.map_map]
  refine List.map_congr_left fun u _ => ?_
  show D.tup (((u.map Int.ofNat).map D.int) ++ [.int (i : Nat)]) = dLot (u ++ [i])
  unfold dLot dI
  rw [List.map_append, List.map_append]
  rfl
theorem range_at {n i : Nat} {x : D} (h : ((List.range n).map fun i => D.int (i : Nat))[i]? = some x) : i < n ∧ x = .int (i : Nat) := by
  rw [List.getElem?_map] at h
  by_cases hi : i < n
  · rw [List.getElem?_range hi] at h
    exact ⟨hi, (Option.some.inj h).symm⟩
  · rw [List.getElem?_eq_none (by simp; omega)] at h
    cases h
theorem pow_few {i : Nat} (h : i ≤ 11) : 2 ^ i ≤ 2048 := Nat.pow_le_pow_right (by omega) h
def g_check_web (C : Addr) : GC := fun ds μ R => ∃ (p : List Nat) (ts : List Str), ds = [dWeb C p ts] ∧ R .non μ
def N27 : List Str := ["web"]
theorem sc27 : FnScope N27 ["web"] (defScope (top 27)) := ⟨rfl, rfl, rfl, by decide +kernel, rfl, by decide +kernel, by decide +kernel⟩
theorem ok_check_web (T : Tx K mg A) : FnOk P w K mg base CX0 1 A.check_web A.fd_check_web ["web"] (toSp K (g_check_web A.Web)) := by
  refine okD T.F_check_web sc27 (fun ds μ R h => ?_) ⟨_, fun cdv A0 outer s H E hr =>
    (dss_one (ds_if (dt_not (dt_val (de_isc T.i_Web (by rfl) T.z_isinstance (by rfl) T.g_Web (dv 0)))) (dss_one ds_never) dss_nil)), fun ds μ R h => ?_⟩
  · obtain ⟨p, ts, rfl, _⟩ := h
    rfl
  · obtain ⟨p, ts, rfl, h⟩ := h
    exact ⟨rfl, h⟩
def g_is_integer : GC := g1 fun d μ R => match d with
  | .int _ => R (.bl true) μ
  | _ => False
def N14 : List Str := ["value"]
theorem sc14 : FnScope N14 ["value"] (defScope (top 14)) := ⟨rfl, rfl, rfl, by decide +kernel, rfl, by decide +kernel, by decide +kernel⟩
theorem ok_is_integer (T : Tx K mg A) : FnOk P w K mg base CX0 1 A.is_integer A.fd_is_integer ["value"] (toSp K (g_is_integer)) := by
  refine okD T.F_is_integer sc14 (fun ds μ R h => ?_) ⟨_, fun cdv A0 outer s H E hr =>
    (dss_one (ds_ret (de_and (de_isi (T := "int") (by rfl) T.z_isinstance (by rfl) T.z_int (by decide +kernel) (dv 0)) (de_one (de_not (de_isi (T := "bool") (by rfl) T.z_isinstance (by rfl) T.z_bool (by decide +kernel) (dv 0))))))), fun ds μ R h => ?_⟩
  · match ds, h with
    | [d], h => rfl
  · match ds, h with
    | [d], h =>
      cases d <;> try exact False.elim h
      exact ⟨_, true, rfl, by decide +kernel, ⟨_, false, rfl, by decide +kernel, h⟩⟩
def g_is_integer_from : GC := fun ds μ R => match ds with
  | [.int v, .int lo, .int hi] => R (.bl (decide (lo ≤ v) && decide (v ≤ hi))) μ
  | _ => False
def N15 : List Str := ["value", "low", "high"]
theorem sc15 : FnScope N15 ["value", "low", "high"] (defScope (top 15)) := ⟨rfl, rfl, rfl, by decide +kernel, rfl, by decide +kernel, by decide +kernel⟩
theorem ok_is_integer_from (T : Tx K mg A) : FnOk P w K mg base CX0 2 A.is_integer_from A.fd_is_integer_from ["value", "low", "high"] (toSp K (g_is_integer_from)) := by
  refine okD T.F_is_integer_from sc15 (fun ds μ R h => ?_) ⟨_, fun cdv A0 outer s H E hr =>
    (dss_one (ds_ret (de_and (de_call ((ok_is_integer T).mono (by decide)) hr (by rfl) T.g_is_integer T.F_is_integer.kp T.b_is_integer (da_cons (dv 0) da_nil)) (de_one (de_chain op_leA sim_ord op_leA sim_ord (dv 1) (dv 0) (dv 2)))))), fun ds μ R h => ?_⟩
  · match ds, h with
    | [.int v, .int lo, .int hi], h => rfl
  · match ds, h with
    | [.int v, .int lo, .int hi], h =>
      show if decide (lo ≤ v) = true then R (.bl (decide (v ≤ hi))) μ else R (.bl false) μ
      have h : R (.bl (decide (lo ≤ v) && decide (v ≤ hi))) μ := h
      cases e : decide (lo ≤ v) with
      | true => rw [e] at h; exact h
      | false => rw [e] at h; exact h
structure AscLot (lot : List Nat) (n : Nat) : Prop where
  asc : lot.Pairwise (· < ·)
  few : ∀ i ∈ lot, i < n
theorem numbered_at {ds : List D} {i : Nat} {x : D} (h : (DL.numbered ds)[i]? = some x) : ∃ d, ds[i]? = some d ∧ x = .tup [.int (i : Nat), d] := by
  unfold DL.numbered at h
  rw [List.getElem?_mapIdx] at h
  cases e : ds[i]? with
  | none => rw [e] at h; cases h
  | some d =>
    rw [e] at h
    exact ⟨d, rfl, (Option.some.inj h).symm⟩
theorem bK_case {c : Bool} {F : Bool → Mu → Prop} {μ : Mu} (h1 : c = true → F true μ) (h2 : c = false → F false μ) : bK F (.bl c) μ := by
  cases c with
  | true => exact h1 rfl
  | false => exact h2 rfl
theorem items_lot {lot : List Nat} {x : D} (h : x ∈ (lot.map Int.ofNat).map D.int) : ∃ k, k ∈ lot ∧ x = .int (k : Nat) := by
  obtain ⟨j, hj, e⟩ := List.mem_map.mp h
  obtain ⟨k, hk, e2⟩ := List.mem_map.mp hj
  exact ⟨k, hk, by rw [← e, ← e2]; rfl⟩
def g_is_tie : GC := fun ds μ R => match ds with
  | [.str p, .str v] => ∃ a b, v = ⟨#[a, b]⟩ ∧ a ∈ p.cps.toList ∧ b ∈ p.cps.toList ∧ a ≤ b ∧ R (.bl true) μ
  | _ => False
def N18 : List Str := ["places", "value"]
theorem sc18 : FnScope N18 ["places", "value"] (defScope (top 18)) := ⟨rfl, rfl, rfl, by decide +kernel, rfl, by decide +kernel, by decide +kernel⟩
theorem ok_is_tie (T : Tx K mg A) : FnOk P w K mg base CX0 1 A.is_tie A.fd_is_tie ["places", "value"] (toSp K (g_is_tie)) := by
  refine okD T.F_is_tie sc18 (fun ds μ R h => ?_) ⟨_, fun cdv A0 outer s H E hr =>
    (dss_cons (ds_if (dw_or (dt_not (dt_val (de_isi (T := "str") (by rfl) T.z_isinstance (by rfl) T.z_str (by decide +kernel) (dv 1)))) (dw_or1 (dt_cmp (op_neA hr.units) sim_ne (de_callB cr_len sim_len (by rfl) T.z_len boot_len (da_cons (dv 1) da_nil)) de_int (nomark _)))).dt (dss_one (ds_ret de_bl)) dss_nil)
      (dss_one (ds_ret (de_and (de_cmp op_inA sim_in (de_ix ix_any sim_ix (dv 1) de_int (fun _ _ => rfl)) (dv 0) rfl) (de_and (de_cmp op_inA sim_in (de_ix ix_any sim_ix (dv 1) de_int (fun _ _ => rfl)) (dv 0) rfl) (de_one (de_cmp op_leA sim_ord (de_ix ix_any sim_ix (dv 1) de_int (fun _ _ => rfl)) (de_ix ix_any sim_ix (dv 1) de_int (fun _ _ => rfl)) (nomark _)))))))), fun ds μ R h => ?_⟩
  · match ds, h with
    | [.str p, .str v], h => rfl
  · match ds, h with
    | [.str p, .str v], h =>
      obtain ⟨a, b, rfl, ha, hb, hab, h⟩ := h
      refine ⟨_, true, rfl, by decide +kernel, ?_⟩
      refine ⟨(by show 2 ≤ sizeLine; decide), ?_⟩
      refine ⟨(by show 2 ≤ sizeLine; decide), a, rfl, ?_⟩
      have e1 : decide (a ∈ p.cps.toList) = true := decide_eq_true ha
      have e2 : decide (b ∈ p.cps.toList) = true := decide_eq_true hb
      rw [e1]
      refine ⟨(by show 2 ≤ sizeLine; decide), b, rfl, ?_⟩
      rw [e2]
      refine ⟨(by show 2 ≤ sizeLine; decide), (by show 2 ≤ sizeLine; decide), ?_⟩
      have e3 : (!decide (([b] : List Nat) < [a])) = true := by
        rw [decide_eq_false (fun z => by have := lt_one.mp z; omega)]
        rfl
      show R (.bl (!decide (([b] : List Nat) < [a]))) μ
      rw [e3]
      exact h
structure OkTies (p : List Nat) (ts : List Str) : Prop where
  many : ts.length ≤ 11
  ties : ∀ y ∈ ts, ∃ a b, y = ⟨#[a, b]⟩ ∧ a ∈ p ∧ b ∈ p ∧ a ≤ b
def g_first_wrong_tie : GC := fun ds μ R => ∃ (p : List Nat) (ts : List Str), ds = [.str (toS p), .tup (ts.map D.str)] ∧ OkTies p ts ∧ R .non μ
def N19 : List Str := ["places", "ties", "at", "tie"]
theorem sc19 : FnScope N19 ["places", "ties"] (defScope (top 19)) := ⟨rfl, rfl, rfl, by decide +kernel, rfl, by decide +kernel, by decide +kernel⟩
theorem ok_first_wrong_tie (T : Tx K mg A) : FnOk P w K mg base CX0 2 A.first_wrong_tie A.fd_first_wrong_tie ["places", "ties"] (toSp K (g_first_wrong_tie)) := by
  refine okD T.F_first_wrong_tie sc19 (fun ds μ R h => ?_) ⟨_, fun cdv A0 outer s H E hr =>
    (dss_cons (ds_for PassesOwn.never rfl (di_enumT (by rfl) T.z_enumerate (da_cons (dv 1) da_nil)) (pg_tup (n := 2) (by rfl) (pgs_cons (pg_name (i := 2) sc19.nd rfl (by first | exact Or.inl rfl | exact Or.inr rfl)) (pgs_cons (pg_name (i := 3) sc19.nd rfl (by first | exact Or.inl rfl | exact Or.inr rfl)) pgs_nil))) (sim_tupT (n := 2) (sim_consT (sim_nm (i := 2)) (sim_consT (sim_nm (i := 3)) sim_nilT)))
      (dss_one (ds_if (dw_or (dt_cmp op_geA sim_ord (dv 2) (de_globI (by rfl) T.c_MOST_TIES.choose_spec) (nomark _)) (dw_or1 (dt_not (dt_val (de_call ((ok_is_tie T).mono (by decide)) hr (by rfl) T.g_is_tie T.F_is_tie.kp T.b_is_tie (da_cons (dv 0) (da_cons (dv 3) da_nil))))))).dt (dss_one (ds_ret (dv 2))) dss_nil)))
      (dss_one (ds_ret de_non))), fun ds μ R h => ?_⟩
  · obtain ⟨p, ts, rfl, _⟩ := h
    rfl
  · obtain ⟨p, ts, rfl, ok, h⟩ := h
    refine ⟨fun i δ' μ' => μ' = μ ∧ ∃ o2 o3, δ' = [some (.str (toS p)), some (.tup (ts.map D.str)), o2, o3], ⟨rfl, none, none, rfl⟩, ?_, ?_⟩
    · rintro i x δ' μ' hx ⟨rfl, o2, o3, rfl⟩
      obtain ⟨d, hd, rfl⟩ := numbered_at hx
      rw [List.getElem?_map] at hd
      obtain ⟨y, hy, rfl⟩ : ∃ y, ts[i]? = some y ∧ D.str y = d := by
        cases e : ts[i]? with
        | none => rw [e] at hd; cases hd
        | some t => rw [e] at hd; exact ⟨t, rfl, Option.some.inj hd⟩
      have hi : i < ts.length := (List.getElem?_eq_some_iff.mp hy).1
      have many := ok.many
      obtain ⟨a, b, rfl, ha, hb, hab⟩ := ok.ties y (List.mem_of_getElem? hy)
      refine ⟨rfl, ?_⟩
      have hn : ¬ decide ((11 : Int) ≤ (i : Int)) = true := by
        rw [decide_eq_true_eq]
        omega
      show (if decide ((11 : Int) ≤ (i : Int)) = true then _ else _)
      rw [if_neg hn]
      refine ⟨a, b, rfl, by rw [toS_list]; exact ha, by rw [toS_list]; exact hb, hab, ?_⟩
      exact ⟨rfl, _, _, rfl⟩
    · rintro δ' μ' ⟨rfl, o2, o3, rfl⟩
      exact h
def g_check_ties : GC := g_first_wrong_tie
def N23 : List Str := ["places", "ties", "wrong"]
theorem sc23 : FnScope N23 ["places", "ties"] (defScope (top 23)) := ⟨rfl, rfl, rfl, by decide +kernel, rfl, by decide +kernel, by decide +kernel⟩
theorem ok_check_ties (T : Tx K mg A) : FnOk P w K mg base CX0 3 A.check_ties A.fd_check_ties ["places", "ties"] (toSp K (g_check_ties)) := by
  refine okD T.F_check_ties sc23 (fun ds μ R h => ?_) ⟨_, fun cdv A0 outer s H E hr =>
    (dss_cons (ds_if (dt_not (dt_val (de_isi (T := "tuple") (by rfl) T.z_isinstance (by rfl) T.z_tuple (by decide +kernel) (dv 1)))) (dss_one ds_never) dss_nil)
      (dss_cons (ds_set sc23.nd (i := 2) rfl (by first | exact Or.inl rfl | exact Or.inr rfl) (de_call ((ok_first_wrong_tie T).mono (by decide)) hr (by rfl) T.g_first_wrong_tie T.F_first_wrong_tie.kp T.b_first_wrong_tie (da_cons (dv 0) (da_cons (dv 1) da_nil))))
      (dss_one (ds_if (dt_cmp op_notN sim_notN (dv 2) de_non (nomark _)) (dss_one ds_never) dss_nil)))), fun ds μ R h => ?_⟩
  · obtain ⟨p, ts, rfl, _⟩ := h
    rfl
  · obtain ⟨p, ts, rfl, ok, h⟩ := h
    refine ⟨_, true, rfl, by decide +kernel, ?_⟩
    refine ⟨p, ts, rfl, ok, ?_⟩
    exact h
structure OkPlaces (p : List Nat) : Prop where
  one : 1 ≤ p.length
  few : p.length ≤ 7
  asc : p.Pairwise (· < ·)
  sign : ∀ c ∈ p, 97 ≤ c ∧ c ≤ 104
theorem count_none {c : Nat} : ∀ {l : List Nat}, c ∉ l → PyProof.Rows.cnt c l = 0
  | [], _ => rfl
  | n :: l, h => by
    rw [PyProof.Rows.cnt_cons, if_neg (fun e => h (by rw [e]; exact List.mem_cons_self)), count_none fun q => h (List.mem_cons_of_mem _ q)]
    rfl
theorem cnt_once {c : Nat} : ∀ {l : List Nat}, c ∈ l → l.Pairwise (· ≠ ·) → PyProof.Rows.cnt c l = 1
  | n :: l, h, p => by
    rw [List.pairwise_cons] at p
    rw [PyProof.Rows.cnt_cons]
    by_cases e : n = c
    · subst e
      rw [if_pos rfl, count_none fun q => p.1 n q rfl]
      rfl
    · rw [if_neg e, cnt_once ((List.mem_cons.mp h).resolve_left fun q => e q.symm) p.2]
      rfl
theorem count_once {p : List Nat} {c : Nat} (h : c ∈ p) (u : p.Pairwise (· ≠ ·)) : decide (Txt.count (toS p) ⟨#[c]⟩ = 1) = true := by
  rw [decide_eq_true_eq, count_cnt, toS_list]
  exact cnt_once h u
def g_are_letters : GC := fun ds μ R => ∃ p : List Nat, ds = [.str (toS p)] ∧ OkPlaces p ∧ R (.bl true) μ
def N16 : List Str := ["value", "letter"]
theorem sc16 : FnScope N16 ["value"] (defScope (top 16)) := ⟨rfl, rfl, rfl, by decide +kernel, rfl, by decide +kernel, by decide +kernel⟩
theorem ok_are_letters (T : Tx K mg A) : FnOk P w K mg base CX0 1 A.are_letters A.fd_are_letters ["value"] (toSp K (g_are_letters)) := by
  refine okD T.F_are_letters sc16 (fun ds μ R h => ?_) ⟨_, fun cdv A0 outer s H E hr =>
    (dss_cons (ds_if (dw_or (dt_not (dt_val (de_isi (T := "str") (by rfl) T.z_isinstance (by rfl) T.z_str (by decide +kernel) (dv 0)))) (dw_or1 (dt_cmp op_gtA sim_ord (de_callB cr_len sim_len (by rfl) T.z_len boot_len (da_cons (dv 0) da_nil)) (de_callB cr_len sim_len (by rfl) T.z_len boot_len (da_cons (de_globS (by rfl) T.c_LETTERS.choose_spec) da_nil)) (nomark _)))).dt (dss_one (ds_ret de_bl)) dss_nil)
      (dss_one (ds_ret (de_callB (cr_all (by rfl)) sim_all (by rfl) T.z_all boot_all (da_cons (de_lc (own := [("letter", 1)]) (by rfl) sc16.nd (di_str (dv 0)) (blkOk_by (N := N16) (own := [("letter", 1)]) (sc := defScope (top 16)) (by decide +kernel)) (fun _ _ _ _ _ => (pg_name (i := 1) sc16.nd rfl (by first | exact Or.inl rfl | exact Or.inr rfl))) (sim_nm (i := 1)) (fun _ _ _ _ _ => dts_nil) (fun _ _ _ _ _ => (de_and (de_cmp op_inA sim_in (dv 1) (de_globS (by rfl) T.c_LETTERS.choose_spec) rfl) (de_one (de_cmp (op_eqA hr.units) sim_eq (de_bm PySem.F.plainAttrs_str PySem.F.slot_str_count PySem.F.type_str_count mt_count sim_count ok_str (dv 0) (da_cons (dv 1) da_nil)) de_int (nomark _)))))) da_nil))))), fun ds μ R h => ?_⟩
  · obtain ⟨p, rfl, _⟩ := h
    rfl
  · obtain ⟨p, rfl, ok, h⟩ := h
    have few := ok.few
    refine ⟨_, true, rfl, by decide +kernel, ?_⟩
    have hz : (toS p).length = p.length := by
      show p.toArray.size = p.length
      rw [List.size_toArray]
    have hn : ¬ decide ((("abcdefgh" : Str).length : Int) < ((toS p).length : Int)) = true := by
      rw [decide_eq_true_eq, hz]
      have : ("abcdefgh" : Str).length = 8 := by decide +kernel
      rw [this]
      omega
    refine ⟨by rw [hz, sizeLine_eq]; omega, by decide +kernel, ?_⟩
    show (if decide ((("abcdefgh" : Str).length : Int) < ((toS p).length : Int)) = true then _ else _)
    rw [if_neg hn]
    show LcB _ _ _ _ _ _ _ _
    refine lcb_map (fun _ => .bl true) ?_ ?_ ?_
    · unfold DL.signs
      rw [List.length_map, toS_list, sizeLine_eq]
      omega
    · intro x hx μ2 Y _ hy
      unfold DL.signs at hx
      obtain ⟨c, hc, rfl⟩ := List.mem_map.mp hx
      rw [toS_list] at hc
      have hs := ok.sign c hc
      refine ⟨c, rfl, ?_⟩
      have e1 : decide (c ∈ ("abcdefgh" : Str).cps.toList) = true := by
        have e : ("abcdefgh" : Str).cps.toList = [97, 98, 99, 100, 101, 102, 103, 104] := by decide +kernel
        rw [e, decide_eq_true_eq]
        simp
        omega
      show (if id (decide (c ∈ ("abcdefgh" : Str).cps.toList)) = true then _ else _)
      rw [if_pos (show id (decide (c ∈ ("abcdefgh" : Str).cps.toList)) = true from e1)]
      refine ⟨True.intro, ?_⟩
      show Y (.bl (id (decide (Txt.count (toS p) ⟨#[c]⟩ = 1)))) μ2
      rw [count_once hc (ok.asc.imp fun h => Nat.ne_of_lt h)]
      exact hy
    · unfold DL.signs
      rw [List.map_map]
      refine ⟨List.replicate p.length true, ?_, ?_⟩
      · rw [toS_list, List.map_replicate]
        exact List.map_const'
      · show R (.bl ((List.replicate p.length true).all id)) μ
        have : (List.replicate p.length true).all id = true := by
          rw [List.all_eq_true]
          intro b hb
          rw [List.eq_of_mem_replicate hb]
          rfl
        rw [this]
        exact h
end
end K10
set_option Elab.async false
set_option linter.all false
set_option maxRecDepth 100000
namespace K10
open DL
/-! ### the ranks of both sides -/
/-- how many places have a mark that is not their own -/
def nonFix (r p : List Nat) : Nat := ((List.zip r p).filter fun q => decide (q.1 ≠ q.2)).length
theorem nonFix_nil (r : List Nat) : nonFix r [] = 0 := by cases r <;> rfl
theorem nonFix_cons (a b : Nat) (r p : List Nat) : nonFix (a :: r) (b :: p) = (if a ≠ b then 1 else 0) + nonFix r p := by
  unfold nonFix
  rw [List.zip_cons_cons]
  by_cases e : a = b
  · rw [List.filter_cons_of_neg (by simp [e]), if_neg (by simp [e])]
    omega
  · rw [List.filter_cons_of_pos (by simp [e]), if_pos e, List.length_cons]
    omega
theorem nonFix_self : ∀ p : List Nat, nonFix p p = 0
  | [] => rfl
  | a :: p => by rw [nonFix_cons, nonFix_self p]; simp
/-- one mark put in the place of another one -/
theorem nonFix_map (m n : Nat) : ∀ (r p : List Nat), p.Pairwise (· ≠ ·) → nonFix (r.map fun x => if x = m then n else x) p ≤ nonFix r p + (if m ∈ p then 1 else 0)
  | [], p, _ => by
    show nonFix [] p ≤ _
    unfold nonFix
    simp
  | a :: r, [], _ => by rw [nonFix_nil]; omega
  | a :: r, b :: p, u => by
    rw [List.pairwise_cons] at u
    have ih := nonFix_map m n r p u.2
    rw [List.map_cons, nonFix_cons, nonFix_cons]
    by_cases e : a = m
    · subst e
      rw [if_pos rfl]
      by_cases eb : a = b
      · subst eb
        have : ¬ a ∈ p := fun h => u.1 a h rfl
        rw [if_neg this] at ih
        rw [if_pos List.mem_cons_self]
        split <;> split <;> omega
      · rw [if_pos eb]
        have : (if a ∈ p then 1 else 0) ≤ (if a ∈ b :: p then 1 else 0) := by
          by_cases h : a ∈ p
          · rw [if_pos h, if_pos (List.mem_cons_of_mem _ h)]; omega
          · rw [if_neg h]; omega
        split <;> omega
    · rw [if_neg e]
      have : (if m ∈ p then 1 else 0) ≤ (if m ∈ b :: p then 1 else 0) := by
        by_cases h : m ∈ p
        · rw [if_pos h, if_pos (List.mem_cons_of_mem _ h)]; omega
        · rw [if_neg h]; omega
      omega
theorem nonFix_step {p : List Nat} (u : p.Pairwise (· ≠ ·)) (r : List Nat) (y : Nat × Nat) : nonFix (stepM p r y) p ≤ nonFix r p + 1 := by
  have := nonFix_map (max (r.getD (p.idxOf y.1) 0) (r.getD (p.idxOf y.2) 0)) (min (r.getD (p.idxOf y.1) 0) (r.getD (p.idxOf y.2) 0)) r p u
  unfold stepM
  have h : (if max (r.getD (p.idxOf y.1) 0) (r.getD (p.idxOf y.2) 0) ∈ p then 1 else 0) ≤ 1 := by split <;> omega
  exact Nat.le_trans this (by omega)
theorem marksL_snoc (p : List Nat) (ys : List (Nat × Nat)) (y : Nat × Nat) : marksL p (ys ++ [y]) = stepM p (marksL p ys) y := by
  unfold marksL
  rw [List.foldl_append]
  rfl
theorem nonFix_foldl {p : List Nat} (u : p.Pairwise (· ≠ ·)) : ∀ (ys : List (Nat × Nat)) (r : List Nat), nonFix (ys.foldl (stepM p) r) p ≤ nonFix r p + ys.length
  | [], r => by simp
  | y :: ys, r => by
    have := nonFix_foldl u ys (stepM p r y)
    have h := nonFix_step u r y
    rw [List.foldl_cons, List.length_cons]
    omega
theorem nonFix_le {p : List Nat} (u : p.Pairwise (· ≠ ·)) (ys : List (Nat × Nat)) : nonFix (marksL p ys) p ≤ ys.length := by
  have := nonFix_foldl u ys p
  rw [nonFix_self] at this
  unfold marksL
  omega
/-! each mark is the mark of its own place -/
structure Roots (p r : List Nat) : Prop where
  len : r.length = p.length
  own : ∀ v ∈ r, v ∈ p ∧ r.getD (p.idxOf v) 0 = v
theorem getD_map_ne {l : List Nat} {f : Nat → Nat} {i : Nat} (h : i < l.length) : (l.map f).getD i 0 = f (l.getD i 0) := by
  rw [List.getD_eq_getElem?_getD, List.getD_eq_getElem?_getD, List.getElem?_map, List.getElem?_eq_getElem h]
  rfl
theorem getD_in {l : List Nat} {i : Nat} (h : i < l.length) : l.getD i 0 ∈ l := by
  rw [List.getD_eq_getElem?_getD, List.getElem?_eq_getElem h]
  exact List.getElem_mem h
theorem Roots.step {p r : List Nat} (h : Roots p r) {y : Nat × Nat} (h1 : y.1 ∈ p) (h2 : y.2 ∈ p) : Roots p (stepM p r y) := by
  refine ⟨by rw [stepM_len]; exact h.len, ?_⟩
  have l1 : p.idxOf y.1 < r.length := by rw [h.len]; exact List.idxOf_lt_length_of_mem h1
  have l2 : p.idxOf y.2 < r.length := by rw [h.len]; exact List.idxOf_lt_length_of_mem h2
  have m1 := getD_in l1
  have m2 := getD_in l2
  unfold stepM
  generalize r.getD (p.idxOf y.1) 0 = a at *
  generalize r.getD (p.idxOf y.2) 0 = b at *
  show ∀ v ∈ r.map (fun x => if x = max a b then min a b else x), v ∈ p ∧ (r.map (fun x => if x = max a b then min a b else x)).getD (p.idxOf v) 0 = v
  have mm : min a b ∈ r := by
    by_cases e : a ≤ b
    · rw [Nat.min_eq_left e]; exact m1
    · rw [Nat.min_eq_right (by omega)]; exact m2
  have key : ∀ v ∈ r, (v ≠ max a b ∨ a = b) → v ∈ p ∧ (r.map (fun x => if x = max a b then min a b else x)).getD (p.idxOf v) 0 = v := by
    intro v hv hne
    obtain ⟨k1, k2⟩ := h.own v hv
    refine ⟨k1, ?_⟩
    rw [getD_map_ne (by rw [h.len]; exact List.idxOf_lt_length_of_mem k1), k2]
    by_cases e : v = max a b
    · rw [if_pos e]
      have : a = b := hne.resolve_left fun z => z e
      omega
    · rw [if_neg e]
  intro v hv
  obtain ⟨x, hx, e⟩ := List.mem_map.mp hv
  by_cases ex : x = max a b
  · have e : (if x = max a b then min a b else x) = v := e
    rw [if_pos ex] at e
    subst e
    refine key _ mm ?_
    by_cases z : a = b
    · exact .inr z
    · exact .inl (by omega)
  · have e : (if x = max a b then min a b else x) = v := e
    rw [if_neg ex] at e
    subst e
    exact key _ hx (.inl ex)
theorem idx_get {p : List Nat} (u : p.Pairwise (· ≠ ·)) {i : Nat} (h : i < p.length) : p.idxOf p[i] = i := by
  have hm : p[i] ∈ p := List.getElem_mem h
  have hl := List.idxOf_lt_length_of_mem hm
  have e : p[p.idxOf p[i]] = p[i] := List.getElem_idxOf hl
  rcases Nat.lt_trichotomy (p.idxOf p[i]) i with z | z | z
  · exact absurd e (List.pairwise_iff_getElem.mp u _ _ hl h z)
  · exact z
  · exact absurd e.symm (List.pairwise_iff_getElem.mp u _ _ h hl z)
theorem Roots.start {p : List Nat} (u : p.Pairwise (· ≠ ·)) : Roots p p := by
  refine ⟨rfl, fun v hv => ⟨hv, ?_⟩⟩
  have hl := List.idxOf_lt_length_of_mem hv
  rw [List.getD_eq_getElem?_getD, List.getElem?_eq_getElem hl]
  exact List.getElem_idxOf hl
theorem Roots.foldl {p : List Nat} : ∀ (ys : List (Nat × Nat)) (r : List Nat), (∀ y ∈ ys, y.1 ∈ p ∧ y.2 ∈ p) → Roots p r → Roots p (ys.foldl (stepM p) r)
  | [], r, _, h => h
  | y :: ys, r, hy, h => by
    rw [List.foldl_cons]
    exact Roots.foldl ys _ (fun z hz => hy z (List.mem_cons_of_mem _ hz)) (h.step (hy y List.mem_cons_self).1 (hy y List.mem_cons_self).2)
theorem roots_marks {p : List Nat} (u : p.Pairwise (· ≠ ·)) {ys : List (Nat × Nat)} (hy : ∀ y ∈ ys, y.1 ∈ p ∧ y.2 ∈ p) : Roots p (marksL p ys) := Roots.foldl ys p hy (.start u)
/-! how many unlike marks -/
section
variable {κ : Type} [DecidableEq κ]
theorem met_mem (val : Nat → κ) : ∀ (n : Nat) (k : κ), k ∈ metK val n ↔ ∃ i, i < n ∧ val i = k
  | 0, k => by
    constructor
    · intro h; cases h
    · rintro ⟨i, h, _⟩; omega
  | n + 1, k => by
    have ih := met_mem val n
    unfold metK
    split
    · rename_i h
      rw [ih]
      constructor
      · rintro ⟨i, h1, h2⟩; exact ⟨i, by omega, h2⟩
      · rintro ⟨i, h1, h2⟩
        by_cases e : i = n
        · subst e
          obtain ⟨z, hz, e⟩ := List.any_eq_true.mp h
          have e : z = val i := by simpa using e
          rw [e] at hz
          rw [← h2]
          exact (ih _).mp hz
        · exact ⟨i, by omega, h2⟩
    · rw [List.mem_append, ih, List.mem_singleton]
      constructor
      · rintro (⟨i, h1, h2⟩ | h)
        · exact ⟨i, by omega, h2⟩
        · exact ⟨n, by omega, h.symm⟩
      · rintro ⟨i, h1, h2⟩
        by_cases e : i = n
        · subst e; exact .inr h2.symm
        · exact .inl ⟨i, by omega, h2⟩
theorem met_nodup (val : Nat → κ) : ∀ n, (metK val n).Nodup
  | 0 => .nil
  | n + 1 => by
    have ih := met_nodup val n
    unfold metK
    split
    · exact ih
    · rename_i h
      refine List.nodup_append.mpr ⟨ih, by simp, fun a ha b hb e => ?_⟩
      rw [List.mem_singleton.mp hb] at e
      subst e
      exact h (List.any_eq_true.mpr ⟨_, ha, by simp⟩)
theorem nodup_le {α : Type} [DecidableEq α] : ∀ {l m : List α}, l.Nodup → (∀ x ∈ l, x ∈ m) → l.length ≤ m.length
  | [], m, _, _ => Nat.zero_le _
  | a :: l, m, u, h => by
    rw [List.nodup_cons] at u
    have ha : a ∈ m := h a List.mem_cons_self
    have := nodup_le (l := l) (m := m.erase a) u.2 fun x hx => by
      rw [List.mem_erase_of_ne (by rintro rfl; exact u.1 hx)]
      exact h x (List.mem_cons_of_mem _ hx)
    rw [List.length_erase_of_mem ha] at this
    have : 0 < m.length := List.length_pos_of_mem ha
    rw [List.length_cons]
    omega
theorem nodup_same {α : Type} [DecidableEq α] {l m : List α} (u : l.Nodup) (v : m.Nodup) (h : ∀ x, x ∈ l ↔ x ∈ m) : l.length = m.length :=
  Nat.le_antisymm (nodup_le u fun x => (h x).mp) (nodup_le v fun x => (h x).mpr)
end
/-- the places that have their own mark -/
def fixes (r p : List Nat) : List Nat := p.filter fun c => decide (r.getD (p.idxOf c) 0 = c)
theorem fix_count : ∀ (r p : List Nat), r.length = p.length → ((List.zip r p).filter fun q => decide (q.1 = q.2)).length + nonFix r p = p.length
  | [], [], _ => rfl
  | a :: r, b :: p, h => by
    have ih := fix_count r p (by simpa using h)
    rw [nonFix_cons, List.zip_cons_cons, List.length_cons]
    by_cases e : a = b
    · rw [List.filter_cons_of_pos (by simp [e]), List.length_cons, if_neg (by simp [e])]
      omega
    · rw [List.filter_cons_of_neg (by simp [e]), if_pos e]
      omega
theorem fixes_len {r p : List Nat} (u : p.Pairwise (· ≠ ·)) (h : r.length = p.length) : (fixes r p).length = ((List.zip r p).filter fun q => decide (q.1 = q.2)).length := by
  have e : ((List.zip r p).filter fun q => decide (q.1 = q.2)).map (·.2) = fixes r p := by
    have e2 : p = (List.zip r p).map (·.2) := by
      rw [List.map_snd_zip (by omega)]
    unfold fixes
    conv => rhs; rw [show List.filter (fun c => decide (r.getD (p.idxOf c) 0 = c)) p = List.filter (fun c => decide (r.getD (p.idxOf c) 0 = c)) ((List.zip r p).map (·.2)) from by rw [← e2]]
    rw [List.filter_map]
    congr 1
    refine List.filter_congr fun q hq => ?_
    obtain ⟨i, hi, e⟩ := List.getElem_of_mem hq
    rw [List.getElem_zip] at e
    subst e
    rw [List.length_zip] at hi
    show decide (r[i] = p[i]) = decide (r.getD (p.idxOf p[i]) 0 = p[i])
    rw [idx_get u (by omega), List.getD_eq_getElem?_getD, List.getElem?_eq_getElem (by omega)]
    rfl
  rw [← e, List.length_map]
/-- unlike marks are as many as places with their own mark -/
theorem dist_marks {κ : Type} [DecidableEq κ] {p r : List Nat} (u : p.Pairwise (· ≠ ·)) (h : Roots p r) (f : Nat → κ) (inj : ∀ a b, f a = f b → a = b) (val : Nat → κ) (hv : ∀ i, i < p.length → val i = f (r.getD i 0)) :
    (metK val p.length).length + nonFix r p = p.length := by
  have e1 := fix_count r p h.len
  rw [← fixes_len u h.len] at e1
  suffices e2 : (metK val p.length).length = (fixes r p).length by omega
  rw [← List.length_map (as := fixes r p) f]
  have un : p.Nodup := u
  refine nodup_same (met_nodup _ _) ?_ fun k => ?_
  · unfold fixes
    exact (List.pairwise_map.mpr ((un.filter _).imp fun h e => h (inj _ _ e)))
  · rw [met_mem, List.mem_map]
    constructor
    · rintro ⟨i, hi, rfl⟩
      rw [hv i hi]
      have hm : r.getD i 0 ∈ r := getD_in (by rw [h.len]; exact hi)
      obtain ⟨k1, k2⟩ := h.own _ hm
      exact ⟨_, List.mem_filter.mpr ⟨k1, decide_eq_true k2⟩, rfl⟩
    · rintro ⟨c, hc, rfl⟩
      obtain ⟨k1, k2⟩ := List.mem_filter.mp hc
      have k2 := of_decide_eq_true k2
      exact ⟨p.idxOf c, List.idxOf_lt_length_of_mem k1, by rw [hv _ (List.idxOf_lt_length_of_mem k1), k2]⟩
/-! ### all lots, and the woods among them -/
def lotsL : Nat → List (List Nat)
  | 0 => [[]]
  | n + 1 => lotsL n ++ (lotsL n).map (· ++ [n])
theorem lots_in : ∀ (n : Nat), ∀ u ∈ lotsL n, (∀ i ∈ u, i < n) ∧ u.length ≤ n ∧ u.Pairwise (· < ·)
  | 0, u, h => by
    have : u = [] := by simpa [lotsL] using h
    subst this
    exact ⟨fun i hi => (by cases hi), Nat.le_refl _, .nil⟩
  | n + 1, u, h => by
    unfold lotsL at h
    rcases List.mem_append.mp h with h | h
    · obtain ⟨h1, h2, h3⟩ := lots_in n u h
      exact ⟨fun i hi => Nat.lt_succ_of_lt (h1 i hi), Nat.le_succ_of_le h2, h3⟩
    · obtain ⟨v, hv, e⟩ := List.mem_map.mp h
      have e : v ++ [n] = u := e
      subst e
      obtain ⟨h1, h2, h3⟩ := lots_in n v hv
      refine ⟨fun i hi => ?_, ?_, ?_⟩
      · rcases List.mem_append.mp hi with q | q
        · exact Nat.lt_succ_of_lt (h1 i q)
        · rw [List.mem_singleton.mp q]
          exact Nat.lt_succ_self _
      · rw [List.length_append]
        exact Nat.succ_le_succ h2
      · refine List.pairwise_append.mpr ⟨h3, by simp, fun a ha b hb => ?_⟩
        rw [List.mem_singleton.mp hb]
        exact h1 a ha
theorem lots_few : ∀ n, (lotsL n).length = 2 ^ n
  | 0 => rfl
  | n + 1 => by
    unfold lotsL
    rw [List.length_append, List.length_map, lots_few n, Nat.pow_succ]
    omega
end K10
set_option Elab.async false
set_option linter.all false
set_option maxRecDepth 100000
namespace K10
open PySem PySem.Spec PyProof.Rows L2 DL
def sg (c : Nat) : Str := ⟨#[c]⟩
theorem sg_inj {a b : Nat} (h : sg a = sg b) : a = b := by
  have e : (sg a).cps.toList = (sg b).cps.toList := by rw [h]
  simpa [sg] using e
theorem lt_sg {a b : Nat} : ltCps (sg a).cps.toList (sg b).cps.toList = decide (a < b) := by
  rw [ltCps_eq]
  exact decide_eq_decide.mpr lt_one
theorem rising_sg : ∀ (ms : List Nat) (a : Nat), risingS (sg a) (ms.map sg) = true → (a :: ms).Pairwise (· ≤ ·)
  | [], a, _ => by simp
  | x :: ms, a, h => by
    have h : (!ltCps (sg x).cps.toList (sg a).cps.toList && risingS (sg x) (ms.map sg)) = true := h
    rw [Bool.and_eq_true, lt_sg] at h
    have ih := rising_sg ms x h.2
    have h1 : a ≤ x := by
      have := h.1
      simp at this
      exact this
    refine List.pairwise_cons.mpr ⟨fun y hy => ?_, ih⟩
    rcases List.mem_cons.mp hy with e | hy
    · rw [e]; exact h1
    · exact Nat.le_trans h1 ((List.pairwise_cons.mp ih).1 y hy)
theorem sorted_sg {ms : List Nat} (h : sortedS (ms.map sg) = true) : ms.Pairwise (· ≤ ·) := by
  cases ms with
  | nil => exact .nil
  | cons a ms => exact rising_sg ms a h
/-- what sorted leaves of signs -/
theorem sorted_signs {ys : List Str} {f : List Nat} (hp : ys.Perm (f.map sg)) (hs : sortedS ys = true) : ∃ ms : List Nat, ms.Perm f ∧ ms.Pairwise (· ≤ ·) ∧ ys = ms.map sg := by
  obtain ⟨ms, h1, rfl⟩ := perm_map hp
  exact ⟨ms, h1, sorted_sg hs, rfl⟩
theorem sorted_same {ms p : List Nat} (h : ms.Perm p) (hs : ms.Pairwise (· ≤ ·)) (hp : p.Pairwise (· < ·)) : ms = p :=
  h.eq_of_pairwise (fun _ _ _ _ a b => Nat.le_antisymm a b) hs (hp.imp fun h => Nat.le_of_lt h)
theorem join_sg (ms : List Nat) : Txt.join ("" : Str) (ms.map sg) = toS ms := by
  have e0 : ("" : Str) = ⟨#[]⟩ := by decide +kernel
  rw [e0]
  unfold Txt.join
  rw [StrLaws.glued_eq_join]
  have := join_nil_signs (toS ms)
  unfold PyProof.Rows.signs at this
  rw [toS_list] at this
  exact this
theorem sum_sg (ms : List Nat) (k : Nat) : ((ms.map sg).map (·.length)).sum + (ms.map sg).length * k = ms.length + ms.length * k := by
  have : (ms.map sg).map (·.length) = List.replicate ms.length 1 := by
    rw [List.map_map]
    exact List.map_const'
  rw [this, List.length_map]
  simp
section
variable {P : Program} {w : World} {K : PySem.W.Frag} {mg : Str → Option Value} {base : Heap} {A : Ad}
theorem ord_case {h : Int → Int → Bool} {k : List Nat → List Nat → Bool} {i j : Int} {F : Bool → Mu → Prop} {μ : Mu} (h1 : h i j = true → F true μ) (h2 : h i j = false → F false μ) : gOrd h k (.int i) (.int j) μ (bK F) := by
  show bK F (.bl (h i j)) μ
  exact bK_case h1 h2
def g_are_places : GC := g_are_letters
def N17 : List Str := ["value"]
theorem sc17 : FnScope N17 ["value"] (defScope (top 17)) := ⟨rfl, rfl, rfl, by decide +kernel, rfl, by decide +kernel, by decide +kernel⟩
theorem ok_are_places (T : Tx K mg A) : FnOk P w K mg base CX0 2 A.are_places A.fd_are_places ["value"] (toSp K (g_are_places)) := by
  refine okD T.F_are_places sc17 (fun ds μ R h => ?_) ⟨_, fun cdv A0 outer s H E hr =>
    (dss_cons (ds_if (dw_or (dt_not (dt_val (de_call ((ok_are_letters T).mono (by decide)) hr (by rfl) T.g_are_letters T.F_are_letters.kp T.b_are_letters (da_cons (dv 0) da_nil)))) (dw_or1 (dt_not (dt_chain op_leA sim_ord op_leA sim_ord de_int (de_callB cr_len sim_len (by rfl) T.z_len boot_len (da_cons (dv 0) da_nil)) (de_globI (by rfl) T.c_MOST_PLACES.choose_spec))))).dt (dss_one (ds_ret de_bl)) dss_nil)
      (dss_one (ds_ret (de_cmp (op_eqA hr.units) sim_eq (dv 0) (de_bm PySem.F.plainAttrs_str PySem.F.slot_str_join PySem.F.type_str_join mt_join sim_join ok_str de_str (da_cons (de_callB (DL.cr_sortedT (by rfl)) sim_sortedT (by rfl) T.z_sorted boot_sorted (da_cons (dv 0) da_nil)) da_nil)) (nomark _))))), fun ds μ R h => ?_⟩
  · obtain ⟨p, rfl, _⟩ := h
    rfl
  · obtain ⟨p, rfl, ok, h⟩ := h
    have hz : (toS p).length = p.length := by
      show p.toArray.size = p.length
      rw [List.size_toArray]
    have few := ok.few
    refine ⟨p, rfl, ok, ?_⟩
    have e1 : decide ((1 : Int) ≤ ((toS p).length : Int)) = true := by
      rw [decide_eq_true_eq, hz]
      have := ok.one
      omega
    have e2 : decide (((toS p).length : Int) ≤ 7) = true := by
      rw [decide_eq_true_eq, hz]
      omega
    refine ⟨by rw [hz, sizeLine_eq]; omega, ?_⟩
    refine ord_case (fun e => ?_) (fun e => ?_)
    rotate_left
    · exact absurd (e1.symm.trans e) (by decide)
    rw [if_pos rfl]
    unfold gC
    refine ord_case (fun e => ?_) (fun e => ?_)
    rotate_left
    · exact absurd (e2.symm.trans e) (by decide)
    refine ⟨True.intro, ?_⟩
    refine ⟨by show p.toArray.size ≤ sizeLine; rw [List.size_toArray, sizeLine_eq]; omega, fun ys hp hs => ?_⟩
    rw [toS_list] at hp
    obtain ⟨ms, h1, h2, rfl⟩ := sorted_signs (f := p) hp hs
    have := sorted_same h1 h2 ok.asc
    subst this
    refine ⟨_, rfl, by rw [sum_sg]; have : ("" : Str).length = 0 := (by decide +kernel); rw [this]; omega, ?_⟩
    show R (.bl (id (decide (toS ms = Txt.join ("" : Str) (ms.map sg))))) μ
    rw [join_sg, decide_eq_true rfl]
    exact h
def g_check_places : GC := fun ds μ R => ∃ p : List Nat, ds = [.str (toS p)] ∧ OkPlaces p ∧ R .non μ
def N22 : List Str := ["places"]
theorem sc22 : FnScope N22 ["places"] (defScope (top 22)) := ⟨rfl, rfl, rfl, by decide +kernel, rfl, by decide +kernel, by decide +kernel⟩
theorem ok_check_places (T : Tx K mg A) : FnOk P w K mg base CX0 3 A.check_places A.fd_check_places ["places"] (toSp K (g_check_places)) := by
  refine okD T.F_check_places sc22 (fun ds μ R h => ?_) ⟨_, fun cdv A0 outer s H E hr =>
    (dss_one (ds_if (dt_not (dt_val (de_call ((ok_are_places T).mono (by decide)) hr (by rfl) T.g_are_places T.F_are_places.kp T.b_are_places (da_cons (dv 0) da_nil)))) (dss_one ds_never) dss_nil)), fun ds μ R h => ?_⟩
  · obtain ⟨p, rfl, _⟩ := h
    rfl
  · obtain ⟨p, rfl, ok, h⟩ := h
    refine ⟨p, rfl, ok, ?_⟩
    exact h
end
end K10
set_option Elab.async false
set_option linter.all false
set_option maxRecDepth 100000
namespace K10
open PySem PySem.Spec PyProof.Rows L2 DL
section
variable {P : Program} {w : World} {K : PySem.W.Frag} {mg : Str → Option Value} {base : Heap} {A : Ad}
def N26 : List Str := ["self", "places", "ties"]
theorem sc26 : FnScope N26 ["self", "places", "ties"] (defScope (inClass (top 26) 0)) := ⟨rfl, rfl, rfl, by decide +kernel, rfl, by decide +kernel, by decide +kernel⟩
theorem put_ties {x y : D} : dPut "ties" y [(("places" : Str), x)] = [(("places" : Str), x), (("ties" : Str), y)] := by
  have h : ¬ (("places" : Str) = "ties") := by decide +kernel
  show (if ("places" : Str) = "ties" then [(("places" : Str), y)] else (("places" : Str), x) :: dPut "ties" y []) = _
  rw [if_neg h]
  rfl
def g_init (C : Addr) : GC := fun ds μ R => ∃ (a : Addr) (p : List Nat) (ts : List Str), ds = [.adr a, .str (toS p), .tup (ts.map D.str)] ∧ OkPlaces p ∧ OkTies p ts ∧ μ a = some (.ins C []) ∧ R .non (put μ a (.ins C [("places", .str (toS p)), ("ties", .tup (ts.map D.str))]))
theorem ok_Web_init (T : Tx K mg A) : FnOk P w K mg base CX0 4 A.Web_init A.fd_Web_init ["self", "places", "ties"] (toSp K (g_init A.Web)) := by
  refine okD T.F_Web_init sc26 (fun ds μ R h => ?_) ⟨_, fun cdv A0 outer s H E hr =>
    (dss_cons (ds_expr (de_call ((ok_check_places T).mono (by decide)) hr (by rfl) T.g_check_places T.F_check_places.kp T.b_check_places (da_cons (dv 1) da_nil)))
      (dss_cons (ds_expr (de_call ((ok_check_ties T).mono (by decide)) hr (by rfl) T.g_check_ties T.F_check_ties.kp T.b_check_ties (da_cons (dv 1) (da_cons (dv 2) da_nil))))
      (dss_cons (ds_fld T.k_Web T.n_places (dv 0) (dv 1))
      (dss_one (ds_fld T.k_Web T.n_ties (dv 0) (dv 2)))))), fun ds μ R h => ?_⟩
  · obtain ⟨a, p, ts, rfl, _⟩ := h
    rfl
  · obtain ⟨a, p, ts, rfl, op, ot, ha, h⟩ := h
    refine ⟨p, rfl, op, ?_⟩
    refine ⟨p, ts, rfl, ot, ?_⟩
    refine ⟨_, ha, by show 0 < 1000; decide, ?_⟩
    refine ⟨_, put_same, by show 1 < 1000; decide, ?_⟩
    show R .non (put (put μ a _) a (.ins A.Web (dPut "ties" (.tup (ts.map D.str)) [(("places" : Str), .str (toS p))])))
    rw [put_put, put_ties]
    exact h
theorem set_cell {μ : Mu} {a : Addr} {ds ds' : List D} {d : D} {R : Mu → Prop} (k : Nat) (ha : μ a = some (.lst ds)) (hk : k < ds.length) (e : ds.set k d = ds') (r : R (put μ a (.lst ds'))) : setK (.adr a) (.int (k : Nat)) d μ R := by
  subst e
  refine ⟨ds, k, ha, ?_, r⟩
  unfold ixN
  rw [if_pos (by omega), if_pos (by omega)]
  simp
theorem nz1 : (2147483629 : Int) ≠ 0 := by decide
theorem nz2 : (2147480009 : Int) ≠ 0 := by decide
theorem if_case {c : Bool} {X Y : Prop} (h1 : c = true → X) (h2 : c = false → Y) : if c = true then X else Y := by
  cases c with
  | true => exact h1 rfl
  | false => exact h2 rfl
def pot (x y z : Int) : MO := .lst [.int x, .int y, .int z]
def g_L_pot : GC := fun ds μ R => ∃ (ns : List Int) (k : Nat), ds = [.seq (ns.map D.int), .int (k : Nat)] ∧ ∀ (x y z : Int) (a : Addr), μ a = none → R (.adr a) (put μ a (pot x y z))
theorem ints_at {ns : List Int} {k : Nat} (h : k < ns.length) : ∃ n, (ns.map D.int)[k]? = some (.int n) := ⟨ns[k], by rw [List.getElem?_map, List.getElem?_eq_getElem h]; rfl⟩
theorem cut_ints {ns : List Int} {lo hi : Option Int} {i : Nat} {x : D} (h : (DL.cutD (ns.map D.int) lo hi)[i]? = some x) : ∃ n, x = .int n := by
  have hm := List.mem_of_getElem? h
  unfold DL.cutD at hm
  have hm := List.mem_of_mem_drop (List.mem_of_mem_take hm)
  obtain ⟨n, _, e⟩ := List.mem_map.mp hm
  exact ⟨n, e.symm⟩
def N48 : List Str := ["_law_script", "_law_k", "_law_cell", "_law_one", "_law_each"]
theorem sc48 : FnScope N48 ["_law_script", "_law_k"] (defScope (top 48)) := ⟨rfl, rfl, rfl, by decide +kernel, rfl, by decide +kernel, by decide +kernel⟩
theorem ok_L_pot (T : Tx K mg A) : FnOk P w K mg base CX0 1 A.L_pot A.fd_L_pot ["_law_script", "_law_k"] (toSp K (g_L_pot)) := by
  refine okD T.F_L_pot sc48 (fun ds μ R h => ?_) ⟨_, fun cdv A0 outer s H E hr =>
    (dss_cons (ds_set sc48.nd (i := 2) rfl (by first | exact Or.inl rfl | exact Or.inr rfl) (de_if (dt_cmp op_ltA sim_ord (dv 1) (de_callB cr_len sim_len (by rfl) T.z_len boot_len (da_cons (dv 0) da_nil)) (nomark _)) (de_callTy call_int1 sim_int (by rfl) T.z_int boot_int (da_cons (de_ix ix_any sim_ix (dv 0) (dv 1) (fun _ _ => rfl)) da_nil)) (de_op op_plus sim_plus (de_op op_mul sim_mul de_int (dv 1)) de_int)))
      (dss_cons (ds_set sc48.nd (i := 3) rfl (by first | exact Or.inl rfl | exact Or.inr rfl) (de_op op_modN sim_mod (de_callTy call_int1 sim_int (by rfl) T.z_int boot_int (da_cons (dv 2) da_nil)) de_int))
      (dss_cons (ds_for PassesOwn.never rfl (di_both (de_slice (dv 0) dp_none (dp_some de_int))) (pg_name (i := 4) sc48.nd rfl (by first | exact Or.inl rfl | exact Or.inr rfl)) (sim_nm (i := 4))
      (dss_one (ds_set sc48.nd (i := 3) rfl (by first | exact Or.inl rfl | exact Or.inr rfl) (de_op op_modN sim_mod (de_callTy call_int1 sim_int (by rfl) T.z_int boot_int (da_cons (de_op op_plus sim_plus (de_op op_plus sim_plus (de_op op_mul sim_mul (dv 3) de_int) (de_op op_modN sim_mod (de_callTy call_int1 sim_int (by rfl) T.z_int boot_int (da_cons (dv 4) da_nil)) de_int)) de_int) da_nil)) de_int))))
      (dss_one (ds_ret (de_cell (da_cons (de_if (dw_or (dt_cmp op_ltA sim_ord (dv 2) de_int (nomark _)) (dw_or1 (dt_cmp op_geA sim_ord (dv 2) (de_op op_pow sim_pow de_int de_int) (nomark _)))).dt (de_callB call_abs sim_abs (by rfl) T.z_abs boot_abs (da_cons (dv 2) da_nil)) de_int) (da_cons (dv 3) (da_cons (de_op op_modN sim_mod (de_callTy call_int1 sim_int (by rfl) T.z_int boot_int (da_cons (de_op op_plus sim_plus (de_op op_plus sim_plus (de_op op_mul sim_mul (dv 3) de_int) (de_op op_mul sim_mul de_int (dv 1))) de_int) da_nil)) de_int) da_nil))))))))), fun ds μ R h => ?_⟩
  · obtain ⟨ns, k, rfl, _⟩ := h
    rfl
  · obtain ⟨ns, k, rfl, h⟩ := h
    refine if_case (c := decide ((k : Int) < ((ns.map D.int).length : Int))) (fun e => ?a) (fun e => ?b)
    case' a =>
      have e := of_decide_eq_true e
      have hk : k < ns.length := by
        have : ((ns.map D.int).length : Int) = ns.length := by rw [List.length_map]
        omega
      obtain ⟨n, hn⟩ := ints_at hk
      apply atK_nat hn
    case' b => refine ⟨Or.inl ⟨by decide, by decide⟩, ?_⟩
    all_goals
      refine ⟨nz1, ?_⟩
      refine ⟨fun i δ' μ' => μ' = μ ∧ ∃ (c one : Int) (o4 : Option D), δ' = [some (.seq (ns.map D.int)), some (.int (k : Nat)), some (.int c), some (.int one), o4], ⟨rfl, _, _, none, rfl⟩, ?_, ?_⟩
      · rintro i x δ' μ' hx ⟨rfl, c, one, o4, rfl⟩
        obtain ⟨n, rfl⟩ := cut_ints hx
        refine ⟨Or.inr ⟨by decide, by decide⟩, nz2, nz1, ?_⟩
        exact ⟨rfl, _, _, _, rfl⟩
      · rintro δ' μ' ⟨rfl, c, one, o4, rfl⟩
        refine if_case (c := decide (c < 0)) (fun e => ?_) (fun e => ?_)
        · refine ⟨Or.inr ⟨by decide, by decide⟩, Or.inl ⟨by decide, by decide⟩, nz2, by show 3 ≤ sizeLine; decide, fun a na => ?_⟩
          exact h _ _ _ a na
        · refine ⟨⟨by decide, by decide, by decide⟩, ?_⟩
          refine if_case (c := decide ((10 : Int) ^ (16 : Int).toNat ≤ c)) (fun e => ?_) (fun e => ?_)
          · refine ⟨Or.inr ⟨by decide, by decide⟩, Or.inl ⟨by decide, by decide⟩, nz2, by show 3 ≤ sizeLine; decide, fun a na => ?_⟩
            exact h _ _ _ a na
          · refine ⟨Or.inr ⟨by decide, by decide⟩, Or.inl ⟨by decide, by decide⟩, nz2, by show 3 ≤ sizeLine; decide, fun a na => ?_⟩
            exact h _ _ _ a na
def g_L_dip : GC := fun ds μ R => ∃ (a : Addr) (x y z m : Int), ds = [.adr a, .int m] ∧ μ a = some (pot x y z) ∧ 0 < m ∧ m < 9223372036854775808 ∧ ∀ (d : Nat) (x y z : Int), (d : Int) < m → R (.int (d : Nat)) (put μ a (pot x y z))
theorem ix_cell {μ : Mu} {a : Addr} {ds : List D} {d : D} {R : KD} (j : Nat) (ha : μ a = some (.lst ds)) (h : ds[j]? = some d) (r : R d μ) : gIx (.adr a) (.int (j : Nat)) μ R := by
  unfold gIx
  simp only [ha]
  exact atK_nat h r
theorem ix_str {μ : Mu} {p : List Nat} {c : Nat} {R : KD} {j : Nat} (hl : p.length ≤ 1000) (h : p[j]? = some c) (r : R (.str (sg c)) μ) : gIx (.str (toS p)) (.int (j : Nat)) μ R := by
  refine ⟨by show p.toArray.size ≤ sizeLine; rw [List.size_toArray, sizeLine_eq]; omega, ?_⟩
  rw [toS_list, atI_nat h]
  exact r
def N49 : List Str := ["_law_pot_here", "_law_many", "_law_digit"]
theorem sc49 : FnScope N49 ["_law_pot_here", "_law_many"] (defScope (top 49)) := ⟨rfl, rfl, rfl, by decide +kernel, rfl, by decide +kernel, by decide +kernel⟩
theorem ok_L_dip (T : Tx K mg A) : FnOk P w K mg base CX0 1 A.L_dip A.fd_L_dip ["_law_pot_here", "_law_many"] (toSp K (g_L_dip)) := by
  refine okD T.F_L_dip sc49 (fun ds μ R h => ?_) ⟨_, fun cdv A0 outer s H E hr =>
    (dss_cons (ds_if (dt_cmp op_gtA sim_ord (de_ix ix_any sim_ix (dv 0) de_int (fun _ _ => rfl)) de_int (nomark _)) (dss_cons (ds_asgH (de_callB call_divmodW sim_divmodW2 (by rfl) T.z_divmod boot_divmod (da_cons (de_ix ix_any sim_ix (dv 0) de_int (fun _ _ => rfl)) (da_cons (dv 1) da_nil))) (pg_tup (n := 2) (by rfl) (pgs_cons (pg_subD (dv 0) de_int) (pgs_cons (pg_name (i := 2) sc49.nd rfl (by first | exact Or.inl rfl | exact Or.inr rfl)) pgs_nil))) (simH_tup (n := 2) (simH_cons simH_subD (simH_cons (simH_nm (i := 2)) simH_nil))))
      (dss_one (ds_ret (dv 2)))) dss_nil)
      (dss_cons (ds_asgH (de_op op_modN sim_mod (de_callTy call_int1 sim_int (by rfl) T.z_int boot_int (da_cons (de_op op_plus sim_plus (de_op op_mul sim_mul (de_ix ix_any sim_ix (dv 0) de_int (fun _ _ => rfl)) de_int) de_int) da_nil)) de_int) (pg_subD (dv 0) de_int) simH_subD)
      (dss_cons (ds_asgH (de_op op_modN sim_mod (de_callTy call_int1 sim_int (by rfl) T.z_int boot_int (da_cons (de_op op_plus sim_plus (de_op op_mul sim_mul (de_ix ix_any sim_ix (dv 0) de_int (fun _ _ => rfl)) de_int) de_int) da_nil)) de_int) (pg_subD (dv 0) de_int) simH_subD)
      (dss_one (ds_ret (de_op op_modN sim_mod (de_callTy call_int1 sim_int (by rfl) T.z_int boot_int (da_cons (de_op op_fdivN sim_fdiv (de_callTy call_int1 sim_int (by rfl) T.z_int boot_int (da_cons (de_op op_plus sim_plus (de_ix ix_any sim_ix (dv 0) de_int (fun _ _ => rfl)) (de_ix ix_any sim_ix (dv 0) de_int (fun _ _ => rfl))) da_nil)) de_int) da_nil)) (dv 1))))))), fun ds μ R h => ?_⟩
  · obtain ⟨a, x, y, z, m, rfl, _⟩ := h
    rfl
  · obtain ⟨a, x, y, z, m, rfl, ha, m0, m1, h⟩ := h
    apply ix_cell 0 ha rfl
    refine if_case (c := decide (0 < x)) (fun e => ?_) (fun e => ?_)
    · apply ix_cell 0 ha rfl
      refine ⟨⟨m0, by omega⟩, ?_⟩
      refine ⟨rfl, _, 0, ha, rfl, ?_⟩
      show R (.int (x % m)) (put μ a (pot (x / m) y z))
      have hn : 0 ≤ x % m := Int.emod_nonneg _ (by omega)
      have hl : x % m < m := Int.emod_lt_of_pos _ m0
      have := h (x % m).toNat (x / m) y z (by omega)
      rw [Int.toNat_of_nonneg hn] at this
      exact this
    · apply ix_cell 1 ha rfl
      refine ⟨Or.inr ⟨by decide, by decide⟩, nz1, ?_⟩
      obtain ⟨y1, hy⟩ : ∃ y1, (y * 40692 + 11).fmod 2147483629 = y1 := ⟨_, rfl⟩
      apply set_cell (ds' := [.int x, .int y1, .int z]) 1 ha (by show 1 < 3; omega) (by rw [← hy]; rfl)
      have h1 : put μ a (.lst [.int x, .int y1, .int z]) a = some (.lst [.int x, .int y1, .int z]) := put_same
      generalize hμ : put μ a (.lst [.int x, .int y1, .int z]) = μ1 at h1 ⊢
      dsimp only
      apply ix_cell 2 h1 rfl
      refine ⟨Or.inr ⟨by decide, by decide⟩, nz2, ?_⟩
      obtain ⟨z1, hz⟩ : ∃ z1, (z * 52774 + 7).fmod 2147480009 = z1 := ⟨_, rfl⟩
      apply set_cell (ds' := [.int x, .int y1, .int z1]) 2 h1 (by show 2 < 3; omega) (by rw [← hz]; rfl)
      rw [← hμ, put_put]
      have h2 : put μ a (.lst [.int x, .int y1, .int z1]) a = some (.lst [.int x, .int y1, .int z1]) := put_same
      generalize hμ2 : put μ a (.lst [.int x, .int y1, .int z1]) = μ2 at h2 ⊢
      dsimp only
      apply ix_cell 1 h2 rfl
      apply ix_cell 2 h2 rfl
      refine ⟨⟨by decide, by decide⟩, ?_⟩
      refine ⟨by show m ≠ 0; omega, ?_⟩
      show R (.int (((y1 + z1).fdiv 128).fmod m)) μ2
      rw [← hμ2]
      have hn : 0 ≤ ((y1 + z1).fdiv 128).fmod m := Int.fmod_nonneg_of_pos _ m0
      have hl : ((y1 + z1).fdiv 128).fmod m < m := Int.fmod_lt_of_pos _ m0
      have := h (((y1 + z1).fdiv 128).fmod m).toNat x y1 z1 (by omega)
      rw [Int.toNat_of_nonneg hn] at this
      exact this
def g_L_any : GC := fun ds μ R => ∃ (a : Addr) (x y z : Int) (p : List Nat), ds = [.adr a, .str (toS p)] ∧ μ a = some (pot x y z) ∧ 1 ≤ p.length ∧ p.length ≤ 8 ∧ ∀ (c : Nat) (x y z : Int), c ∈ p → R (.str (sg c)) (put μ a (pot x y z))
theorem toS_len (p : List Nat) : (toS p).length = p.length := by
  show p.toArray.size = p.length
  rw [List.size_toArray]
def N50 : List Str := ["_law_pot_here", "_law_some"]
theorem sc50 : FnScope N50 ["_law_pot_here", "_law_some"] (defScope (top 50)) := ⟨rfl, rfl, rfl, by decide +kernel, rfl, by decide +kernel, by decide +kernel⟩
theorem ok_L_any (T : Tx K mg A) : FnOk P w K mg base CX0 2 A.L_any A.fd_L_any ["_law_pot_here", "_law_some"] (toSp K (g_L_any)) := by
  refine okD T.F_L_any sc50 (fun ds μ R h => ?_) ⟨_, fun cdv A0 outer s H E hr =>
    (dss_one (ds_ret (de_ix ix_any sim_ix (dv 1) (de_call ((ok_L_dip T).mono (by decide)) hr (by rfl) T.g_L_dip T.F_L_dip.kp T.b_L_dip (da_cons (dv 0) (da_cons (de_callB cr_len sim_len (by rfl) T.z_len boot_len (da_cons (dv 1) da_nil)) da_nil))) (fun _ _ => rfl)))), fun ds μ R h => ?_⟩
  · obtain ⟨a, x, y, z, p, rfl, _⟩ := h
    rfl
  · obtain ⟨a, x, y, z, p, rfl, ha, p1, p2, h⟩ := h
    refine ⟨by rw [toS_len, sizeLine_eq]; omega, ?_⟩
    refine ⟨a, x, y, z, _, rfl, ha, by rw [toS_len]; omega, by rw [toS_len]; omega, fun d x y z hd => ?_⟩
    rw [toS_len] at hd
    have hd : d < p.length := by omega
    exact ix_str (by omega) (List.getElem?_eq_getElem hd) (h _ _ _ _ (List.getElem_mem hd))
theorem asc_len {lot : List Nat} {n : Nat} (h : AscLot lot n) : lot.length ≤ n := by
  have u : lot.Nodup := h.asc.imp fun h => Nat.ne_of_lt h
  have := nodup_le (m := List.range n) u fun x hx => List.mem_range.mpr (h.few x hx)
  rw [List.length_range] at this
  exact this
end
end K10
set_option Elab.async false
set_option linter.all false
set_option maxRecDepth 100000
namespace K10
open PySem PySem.Spec PyProof.Rows L2 DL
section
variable {P : Program} {w : World} {K : PySem.W.Frag} {mg : Str → Option Value} {base : Heap} {A : Ad}
def g_L_lots : GC := fun ds μ R => ∃ n : Nat, ds = [.int (n : Nat)] ∧ n ≤ 11 ∧ ∀ out : List (List Nat), out.Perm (lotsL n) → out.Pairwise (fun a b => ltN b a = false) → R (.lst (out.map dLot)) μ
theorem lots_head : ∀ n, (lotsL n).head? = some []
  | 0 => rfl
  | n + 1 => by
    unfold lotsL
    rw [List.head?_append, lots_head n]
    rfl
def N53 : List Str := ["_law_many", "_law_found", "_law_index", "_law_lot"]
theorem sc53 : FnScope N53 ["_law_many"] (defScope (top 53)) := ⟨rfl, rfl, rfl, by decide +kernel, rfl, by decide +kernel, by decide +kernel⟩
theorem ok_L_lots (T : Tx K mg A) : FnOk P w K mg base CX0 2 A.L_lots A.fd_L_lots ["_law_many"] (toSp K (g_L_lots)) := by
  refine okD T.F_L_lots sc53 (fun ds μ R h => ?_) ⟨_, fun cdv A0 outer s H E hr =>
    (dss_cons (ds_set sc53.nd (i := 1) rfl (by first | exact Or.inl rfl | exact Or.inr rfl) (de_lst (da_cons (de_tup da_nil) da_nil)))
      (dss_cons (ds_for PassesOwn.never rfl (di_range (by rfl) T.z_range (da_cons (dv 0) da_nil)) (pg_name (i := 2) sc53.nd rfl (by first | exact Or.inl rfl | exact Or.inr rfl)) (sim_nm (i := 2))
      (dss_one (ds_set sc53.nd (i := 1) rfl (by first | exact Or.inl rfl | exact Or.inr rfl) (de_op op_plus sim_plus (dv 1) (de_lc (own := [("_law_lot", 3)]) (by rfl) sc53.nd (di_both (dv 1)) (blkOk_by (N := N53) (own := [("_law_lot", 3)]) (sc := defScope (top 53)) (by decide +kernel)) (fun _ _ _ _ _ => (pg_name (i := 3) sc53.nd rfl (by first | exact Or.inl rfl | exact Or.inr rfl))) (sim_nm (i := 3)) (fun _ _ _ _ _ => dts_nil) (fun _ _ _ _ _ => (de_op op_plus sim_plus (dv 3) (de_tup (da_cons (dv 2) da_nil)))))))))
      (dss_one (ds_ret (de_callB (cr_sortI hr.units) sim_sortI (by rfl) T.z_sorted boot_sorted (da_cons (dv 1) da_nil)))))), fun ds μ R h => ?_⟩
  · obtain ⟨n, rfl, _⟩ := h
    rfl
  · obtain ⟨n, rfl, hn, h⟩ := h
    refine ⟨by show 0 ≤ sizeLine; decide, by show 1 ≤ sizeLine; decide, ?_⟩
    refine ⟨⟨by omega, by omega⟩, ?_⟩
    refine ⟨fun i δ' μ' => μ' = μ ∧ ∃ o2 o3, δ' = [some (.int (n : Nat)), some (.lst ((lotsL i).map dLot)), o2, o3], ⟨rfl, none, none, rfl⟩, ?_, ?_⟩
    · rintro i x δ' μ' hx ⟨rfl, o2, o3, rfl⟩
      obtain ⟨hi, rfl⟩ := range_at hx
      have hi : i < n := by simpa using hi
      have few : (lotsL i).length ≤ 2048 := by
        rw [lots_few]
        exact pow_few (by omega)
      show LcB _ _ _ _ _ _ _ _
      refine lcb_map (addI i) ?_ ?_ ?_
      · rw [List.length_map, sizeLine_eq]
        omega
      · intro x hx μ2 Y _ hy
        obtain ⟨u, hu, rfl⟩ := List.mem_map.mp hx
        obtain ⟨_, u2, _⟩ := lots_in i u hu
        refine ⟨by show 1 ≤ sizeLine; decide, ?_, hy⟩
        show ((u.map Int.ofNat).map D.int).length + 1 ≤ sizeLine
        rw [List.length_map, List.length_map, sizeLine_eq]
        omega
      · rw [addI_map]
        refine ⟨by rw [List.length_map, List.length_map, List.length_map, sizeLine_eq]; omega, rfl, some (.int (i : Nat)), o3, ?_⟩
        show _ = [some (.int (n : Nat)), some (.lst ((lotsL i ++ (lotsL i).map (· ++ [i])).map dLot)), some (.int (i : Nat)), o3]
        rw [List.map_append]
        rfl
    · rintro δ' μ' ⟨rfl, o2, o3, rfl⟩
      have en : (List.map (fun i => D.int (i : Nat)) (List.range (n : Int).toNat)).length = n := by simp
      rw [en]
      show sortI ((lotsL n).map dLot) μ' R
      refine ⟨(lotsL n).map (fun u => u.map Int.ofNat), by rw [List.map_map]; rfl, .inr (by rw [List.head?_map, lots_head]; rfl), fun out hp hw => ?_⟩
      obtain ⟨L', p', rfl⟩ := perm_map hp
      have hw' : L'.Pairwise (fun a b => ltN b a = false) := List.pairwise_map.mp hw
      have := h L' p' hw'
      show R (.lst ((L'.map (fun u => u.map Int.ofNat)).map dI)) μ'
      rw [List.map_map]
      exact this
end
end K10
set_option Elab.async false
set_option linter.all false
set_option maxRecDepth 100000
namespace K10
open PySem PySem.Spec PyProof.Rows L2 DL
section
variable {P : Program} {w : World} {K : PySem.W.Frag} {mg : Str → Option Value} {base : Heap} {A : Ad}
/-! the heads of places as a dict -/
def dH (p : List Nat) (g : Nat → Nat) : List (Key × D) := p.map fun c => (Sum.inr (sg c), D.str (sg (g c)))
theorem dH_look {p : List Nat} {g : Nat → Nat} {c : Nat} (h : c ∈ p) : valD (dH p g) (Sum.inr (sg c)) = some (.str (sg (g c))) := by
  induction p with
  | nil => cases h
  | cons a p ih =>
    by_cases e : a = c
    · subst e
      simp [valD, dH]
    · have hm : c ∈ p := (List.mem_cons.mp h).resolve_left fun z => e z.symm
      have ne : ¬ ((Sum.inr (sg a) : Key) = Sum.inr (sg c)) := fun z => e (sg_inj (Sum.inr.inj z))
      have := ih hm
      unfold valD dH at this ⊢
      rw [List.map_cons, List.find?_cons_of_neg (by simpa using ne)]
      exact this
theorem dH_put {p : List Nat} {g : Nat → Nat} {c v : Nat} (h : c ∈ p) : putD (dH p g) (Sum.inr (sg c)) (.str (sg v)) = dH p fun x => if x = c then v else g x := by
  unfold putD
  rw [if_pos]
  · unfold dH
    rw [List.map_map]
    refine List.map_congr_left fun x _ => ?_
    show (if (Sum.inr (sg x) : Key) = Sum.inr (sg c) then _ else _) = _
    by_cases e : x = c
    · subst e
      rw [if_pos rfl]
      show _ = ((Sum.inr (sg x) : Key), D.str (sg (if x = x then v else g x)))
      rw [if_pos rfl]
    · rw [if_neg fun z => e (sg_inj (Sum.inr.inj z))]
      show _ = ((Sum.inr (sg x) : Key), D.str (sg (if x = c then v else g x)))
      rw [if_neg e]
  · rw [List.any_eq_true]
    exact ⟨_, List.mem_map.mpr ⟨c, h, rfl⟩, by simp⟩
theorem merge_new : ∀ (more acc : List (Key × D)), more.Pairwise (fun x y => x.1 ≠ y.1) → (∀ x ∈ acc, ∀ y ∈ more, x.1 ≠ y.1) → mergeD acc more = acc ++ more
  | [], acc, _, _ => by simp [mergeD]
  | m :: more, acc, u, h => by
    rw [List.pairwise_cons] at u
    have hn : ¬ (acc.any fun kv => decide (kv.1 = m.1)) = true := by
      intro z
      obtain ⟨x, hx, e⟩ := List.any_eq_true.mp z
      exact h x hx m List.mem_cons_self (of_decide_eq_true e)
    have e : putD acc m.1 m.2 = acc ++ [m] := by
      unfold putD
      rw [if_neg hn]
    show mergeD (putD acc m.1 m.2) more = _
    rw [e, merge_new more (acc ++ [m]) u.2, List.append_assoc]
    · rfl
    · intro x hx y hy
      rcases List.mem_append.mp hx with q | q
      · exact h x q y (List.mem_cons_of_mem _ hy)
      · rw [List.mem_singleton.mp q]
        exact u.1 y hy
theorem dH_merge {p : List Nat} {g : Nat → Nat} (u : p.Pairwise (· ≠ ·)) : mergeD [] (dH p g) = dH p g := by
  rw [merge_new _ _ ?_ (fun x hx => by cases hx)]
  · rfl
  · exact List.pairwise_map.mpr (u.imp fun h e => h (sg_inj (Sum.inr.inj e)))
theorem map_getD {p : List Nat} {g : Nat → Nat} {c : Nat} (h : c ∈ p) : (p.map g).getD (p.idxOf c) 0 = g c := by
  have hl := List.idxOf_lt_length_of_mem h
  rw [getD_map_ne hl, List.getD_eq_getElem?_getD, List.getElem?_eq_getElem hl]
  show g p[p.idxOf c] = g c
  rw [List.getElem_idxOf hl]
theorem min_sg (a b : Nat) : (if (sg b).cps.toList < (sg a).cps.toList then sg b else sg a) = sg (min a b) := by
  have c : (sg b).cps.toList < (sg a).cps.toList ↔ b < a := lt_one
  by_cases h : b < a
  · rw [if_pos (c.mpr h), Nat.min_eq_right (by omega)]
  · rw [if_neg (fun z => h (c.mp z)), Nat.min_eq_left (by omega)]
theorem max_sg (a b : Nat) : (if (sg a).cps.toList < (sg b).cps.toList then sg b else sg a) = sg (max a b) := by
  have c : (sg a).cps.toList < (sg b).cps.toList ↔ a < b := lt_one
  by_cases h : a < b
  · rw [if_pos (c.mpr h), Nat.max_eq_right (by omega)]
  · rw [if_neg (fun z => h (c.mp z)), Nat.max_eq_left (by omega)]
theorem signs_eq (p : List Nat) : DL.signs (toS p) = p.map fun c => D.str (sg c) := by
  unfold DL.signs
  rw [toS_list]
  rfl
def swp (a b v : Nat) : Nat := if v = max a b then min a b else v
def twoD : D → D := fun d => .tup [d, d]
def hF (g : Nat → Nat) : D → D
  | .str x => .str (sg (g (x.cps.toList.getD 0 0)))
  | d => d
structure OkEnds (p : List Nat) (ts : List Str) : Prop where
  ties : ∀ y ∈ ts, y.cps.size = 2 ∧ (ends y).1 ∈ p ∧ (ends y).2 ∈ p
def g_L_rank : GC := fun ds μ R => ∃ (p : List Nat) (ts : List Str) (x : D), ds = [.str (toS p), x] ∧ (x = .tup (ts.map D.str) ∨ x = .lst (ts.map D.str)) ∧ OkPlaces p ∧ OkEnds p ts ∧ R (.int (nonFix (marksL p (ts.map ends)) p : Nat)) μ
def N52 : List Str := ["_law_places", "_law_ties", "_law_place", "_law_heads", "_law_tie", "_law_low", "_law_high"]
theorem sc52 : FnScope N52 ["_law_places", "_law_ties"] (defScope (top 52)) := ⟨rfl, rfl, rfl, by decide +kernel, rfl, by decide +kernel, by decide +kernel⟩
theorem ok_L_rank (T : Tx K mg A) : FnOk P w K mg base CX0 2 A.L_rank A.fd_L_rank ["_law_places", "_law_ties"] (toSp K (g_L_rank)) := by
  refine okDF T.F_L_rank sc52 (fun ds μ R h => ?_) ⟨_, fun cdv A0 outer s H E hr =>
    (dss_cons (ds_set sc52.nd (i := 3) rfl (by first | exact Or.inl rfl | exact Or.inr rfl) (de_callTy (call_dictP (by rfl)) sim_dictP (by rfl) T.z_dict boot_dict (da_cons (de_lc (own := [("_law_place", 2)]) (by rfl) sc52.nd (di_str (dv 0)) (blkOk_by (N := N52) (own := [("_law_place", 2)]) (sc := defScope (top 52)) (by decide +kernel)) (fun _ _ _ _ _ => (pg_name (i := 2) sc52.nd rfl (by first | exact Or.inl rfl | exact Or.inr rfl))) (sim_nm (i := 2)) (fun _ _ _ _ _ => dts_nil) (fun _ _ _ _ _ => (de_tup (da_cons (dv 2) (da_cons (dv 2) da_nil))))) da_nil)))
      (dss_cons (ds_for PassesOwn.never rfl (di_both (dv 1)) (pg_name (i := 4) sc52.nd rfl (by first | exact Or.inl rfl | exact Or.inr rfl)) (sim_nm (i := 4))
      (dss_cons (ds_par (i := 5) (j := 6) (by rfl) sc52.nd rfl rfl (by decide) rfl rfl (da_cons (de_callB (cr_minS (by rfl)) sim_minS (by rfl) T.z_min boot_min (da_cons (de_dget (hu_of hr) (dv 3) (de_ix ix_any sim_ix (dv 4) de_int (fun _ _ => rfl)) (fun _ _ => rfl)) (da_cons (de_dget (hu_of hr) (dv 3) (de_ix ix_any sim_ix (dv 4) de_int (fun _ _ => rfl)) (fun _ _ => rfl)) da_nil))) (da_cons (de_callB (cr_maxS (by rfl)) sim_maxS (by rfl) T.z_max boot_max (da_cons (de_dget (hu_of hr) (dv 3) (de_ix ix_any sim_ix (dv 4) de_int (fun _ _ => rfl)) (fun _ _ => rfl)) (da_cons (de_dget (hu_of hr) (dv 3) (de_ix ix_any sim_ix (dv 4) de_int (fun _ _ => rfl)) (fun _ _ => rfl)) da_nil))) da_nil)) (by rfl))
      (dss_one (ds_for PassesOwn.never rfl (di_str (dv 0)) (pg_name (i := 2) sc52.nd rfl (by first | exact Or.inl rfl | exact Or.inr rfl)) (sim_nm (i := 2))
      (dss_one (ds_if (dt_cmp (op_eqA hr.units) sim_eq (de_dget (hu_of hr) (dv 3) (dv 2) (fun _ _ => rfl)) (dv 6) (nomark _)) (dss_one (ds_asgH (dv 5) (pg_subDD (hu_of hr) (dv 3) (dv 2)) simH_subDD)) dss_nil))))))
      (dss_one (ds_ret (de_op op_sub sim_minus (de_callB cr_len sim_len (by rfl) T.z_len boot_len (da_cons (dv 0) da_nil)) (de_lenSetS (by rfl) T.z_len (by rfl) T.z_set (de_lc (own := [("_law_place", 2)]) (by rfl) sc52.nd (di_str (dv 0)) (blkOk_by (N := N52) (own := [("_law_place", 2)]) (sc := defScope (top 52)) (by decide +kernel)) (fun _ _ _ _ _ => (pg_name (i := 2) sc52.nd rfl (by first | exact Or.inl rfl | exact Or.inr rfl))) (sim_nm (i := 2)) (fun _ _ _ _ _ => dts_nil) (fun _ _ _ _ _ => (de_dget (hu_of hr) (dv 3) (dv 2) (fun _ _ => rfl)))) (by rfl))))))), fun ds μ R h => ?_⟩
  · obtain ⟨p, ts, x, rfl, _⟩ := h
    rfl
  · obtain ⟨p, ts, x, rfl, hx, op, oe, h⟩ := h
    have few := op.few
    have u : p.Pairwise (· ≠ ·) := op.asc.imp fun h => Nat.ne_of_lt h
    have two : 2 ≤ sizeLine := by decide
    show LcB _ _ _ _ _ _ _ _
    refine lcb_map twoD ?_ ?_ ?_
    · rw [signs_eq, List.length_map, sizeLine_eq]
      omega
    · intro x hx μ2 Y _ hy
      exact ⟨two, hy⟩
    · rw [signs_eq, List.map_map]
      refine ⟨dH p id, ?_, fun b nb => ?_⟩
      · unfold dH
        rw [List.map_map]
        rfl
      · rw [dH_merge u]
        have turn : ∀ (i : Nat) (y : Str), ts[i]? = some y → stepM p (marksL p ((ts.take i).map ends)) (ends y) = marksL p ((ts.take (i + 1)).map ends) := fun i y hy => by
          rw [take_succ_get hy, List.map_append, List.map_cons, List.map_nil, marksL_snoc]
        rcases hx with rfl | rfl
        · refine ⟨fun i δ' μ' => ∃ (g : Nat → Nat) (o2 o4 o5 o6 : Option D), μ' = put μ b (.dct (dH p g)) ∧ p.map g = marksL p ((ts.take i).map ends) ∧ δ' = [some (.str (toS p)), some (.tup (ts.map D.str)), o2, some (.adr b), o4, o5, o6], ⟨id, none, none, none, none, rfl, by rw [List.map_id]; rfl, rfl⟩, ?_, ?_⟩
          · rintro i it δ' μ' hi ⟨g, o2, o4, o5, o6, rfl, hg, rfl⟩
            rw [List.getElem?_map] at hi
            obtain ⟨y, hy, rfl⟩ : ∃ y, ts[i]? = some y ∧ D.str y = it := by
              cases e : ts[i]? with
              | none => rw [e] at hi; cases hi
              | some t => rw [e] at hi; exact ⟨t, rfl, Option.some.inj hi⟩
            obtain ⟨sy, m1, m2⟩ := oe.ties y (List.mem_of_getElem? hy)
            obtain ⟨c0, c1, e0, e1, ee⟩ := two_signs sy
            rw [ee] at m1 m2
            have m1 : c0 ∈ p := m1
            have m2 : c1 ∈ p := m2
            have hs : y.length ≤ sizeLine := by show y.cps.size ≤ sizeLine; rw [sizeLine_eq]; omega
            have e0 : L2.atI y.cps.toList 0 = some c0 := atI_nat (j := 0) (by rw [Array.getElem?_toList]; exact e0)
            have e1 : L2.atI y.cps.toList 1 = some c1 := atI_nat (j := 1) (by rw [Array.getElem?_toList]; exact e1)
            have hb : put μ b (.dct (dH p g)) b = some (.dct (dH p g)) := put_same
            generalize hμ : put μ b (.dct (dH p g)) = μ1 at hb ⊢
            refine ⟨hs, ?_⟩
            rw [e0]
            refine ⟨_, _, _, hb, rfl, dH_look m1, ?_⟩
            refine ⟨hs, ?_⟩
            rw [e1]
            refine ⟨_, _, _, hb, rfl, dH_look m2, ?_⟩
            refine ⟨hs, ?_⟩
            rw [e0]
            refine ⟨_, _, _, hb, rfl, dH_look m1, ?_⟩
            refine ⟨hs, ?_⟩
            rw [e1]
            refine ⟨_, _, _, hb, rfl, dH_look m2, ?_⟩
            have hd : p.drop p.length = [] := List.drop_length
            refine ⟨fun j δ' μ' => ∃ (k : Nat → Nat) (o2 : Option D), μ' = put μ b (.dct (dH p k)) ∧ (∀ x ∈ p.take j, k x = swp (g c0) (g c1) (g x)) ∧ (∀ x ∈ p.drop j, k x = g x) ∧
              δ' = [some (.str (toS p)), some (.tup (ts.map D.str)), o2, some (.adr b), some (.str y), some (.str (sg (min (g c0) (g c1)))), some (.str (sg (max (g c0) (g c1))))], ?_, ?_, ?_⟩
            · refine ⟨g, o2, hμ.symm, fun x hx => by simp at hx, fun x _ => rfl, ?_⟩
              show [_, _, o2, some (D.adr b), some (D.str y), some (D.str (if (sg (g c1)).cps.toList < (sg (g c0)).cps.toList then sg (g c1) else sg (g c0))), some (D.str (if (sg (g c0)).cps.toList < (sg (g c1)).cps.toList then sg (g c1) else sg (g c0)))] = _
              rw [min_sg, max_sg]
            · rintro j it δ' μ' hi ⟨k, o2, rfl, k1, k2, rfl⟩
              have hi : (p.map fun c => D.str (sg c))[j]? = some it := by rw [← signs_eq]; exact hi
              rw [List.getElem?_map] at hi
              obtain ⟨c, hc, rfl⟩ : ∃ c, p[j]? = some c ∧ D.str (sg c) = it := by
                cases e : p[j]? with
                | none => rw [e] at hi; cases hi
                | some t => rw [e] at hi; exact ⟨t, rfl, Option.some.inj hi⟩
              have hm : c ∈ p := List.mem_of_getElem? hc
              obtain ⟨hj, ej⟩ := List.getElem?_eq_some_iff.mp hc
              have dj : p.drop j = c :: p.drop (j + 1) := by rw [List.drop_eq_getElem_cons hj, ej]
              have tj : p.take (j + 1) = p.take j ++ [c] := take_succ_get hc
              have kc : k c = g c := k2 c (by rw [dj]; exact List.mem_cons_self)
              have ud : ∀ x ∈ p.drop (j + 1), x ≠ c := fun x hx e => by
                have : (p.drop j).Pairwise (· ≠ ·) := u.sublist (List.drop_sublist _ _)
                rw [dj, List.pairwise_cons] at this
                exact this.1 x hx e.symm
              have hb2 : put μ b (.dct (dH p k)) b = some (.dct (dH p k)) := put_same
              generalize hμ2 : put μ b (.dct (dH p k)) = μ2 at hb2 ⊢
              refine ⟨_, _, _, hb2, rfl, dH_look hm, ?_⟩
              refine if_case (c := decide (sg (k c) = sg (max (g c0) (g c1)))) (fun e => ?_) (fun e => ?_)
              · have e := sg_inj (of_decide_eq_true e)
                refine ⟨_, _, hb2, rfl, ?_, ?_⟩
                · show ((p.map _).length) < sizeLine
                  rw [List.length_map, sizeLine_eq]
                  omega
                · rw [dH_put hm, ← hμ2, put_put]
                  refine ⟨_, some (.str (sg c)), rfl, fun x hx => ?_, fun x hx => ?_, rfl⟩
                  · show (if x = c then min (g c0) (g c1) else k x) = _
                    by_cases q : x = c
                    · rw [if_pos q, q]
                      unfold swp
                      rw [if_pos (kc.symm.trans e)]
                    · rw [if_neg q]
                      rw [tj] at hx
                      rcases List.mem_append.mp hx with z | z
                      · exact k1 x z
                      · exact absurd (List.mem_singleton.mp z) q
                  · show (if x = c then min (g c0) (g c1) else k x) = _
                    rw [if_neg (ud x hx)]
                    exact k2 x (by rw [dj]; exact List.mem_cons_of_mem _ hx)
              · have e : ¬ k c = max (g c0) (g c1) := fun z => of_decide_eq_false e (by rw [z])
                refine ⟨k, some (.str (sg c)), hμ2.symm, fun x hx => ?_, fun x hx => k2 x (by rw [dj]; exact List.mem_cons_of_mem _ hx), rfl⟩
                rw [tj] at hx
                rcases List.mem_append.mp hx with z | z
                · exact k1 x z
                · rw [List.mem_singleton.mp z]
                  unfold swp
                  rw [if_neg (fun w => e (kc.trans w))]
                  exact kc
            · rintro δ' μ' ⟨k, o2, rfl, k1, k2, rfl⟩
              rw [signs_eq, List.length_map, List.take_length] at k1
              refine ⟨k, o2, _, _, _, rfl, ?_, rfl⟩
              rw [← turn i y hy, ← hg, ee]
              unfold stepM
              rw [map_getD m1, map_getD m2, List.map_map]
              exact List.map_congr_left fun x hx => k1 x hx
          · rintro δ' μ' ⟨g, o2, o4, o5, o6, rfl, hg, rfl⟩
            have en : ts.take (ts.map D.str).length = ts := List.take_of_length_le (by simp)
            rw [en] at hg
            refine ⟨by rw [toS_len, sizeLine_eq]; omega, ?_⟩
            show LcB _ _ _ _ _ _ _ _
            have hb : put μ b (.dct (dH p g)) b = some (.dct (dH p g)) := put_same
            generalize hμ : put μ b (.dct (dH p g)) = μ1 at hb ⊢
            refine lcb_map (hF g) ?_ ?_ ?_
            · rw [signs_eq, List.length_map, sizeLine_eq]
              omega
            · intro x hx μ2 Y k hy
              rw [signs_eq] at hx
              obtain ⟨c, hc, rfl⟩ := List.mem_map.mp hx
              exact ⟨_, _, _, k _ _ hb, rfl, dH_look hc, hy⟩
            · rw [signs_eq, List.map_map]
              refine ⟨p.map fun c => sg (g c), by rw [List.map_map]; rfl, by rw [List.length_map]; omega, ?_⟩
              have ro := roots_marks u (ys := ts.map ends) (fun q hq => by
                obtain ⟨y, hy, e⟩ := List.mem_map.mp hq
                rw [← e]
                exact (oe.ties y hy).2)
              have dm := dist_marks u ro sg (fun a b => sg_inj) (fun i => (p.map fun c => sg (g c)).getD i Str.empty) (fun i hi => by
                rw [← hg, getD_map_ne hi, List.getD_eq_getElem?_getD, List.getElem?_map, List.getD_eq_getElem?_getD, List.getElem?_eq_getElem hi]
                rfl)
              refine ⟨_, _, .drop b, ?_⟩
              show R (.int (((toS p).length : Int) - (distS (p.map fun c => sg (g c)) : Nat))) (del μ1 b)
              have ez : (((toS p).length : Int) - (distS (p.map fun c => sg (g c)) : Nat)) = (nonFix (marksL p (ts.map ends)) p : Nat) := by
                unfold distS
                rw [List.length_map, toS_len]
                omega
              rw [ez, ← hμ, del_put nb]
              exact h
        · refine ⟨fun i δ' μ' => ∃ (g : Nat → Nat) (o2 o4 o5 o6 : Option D), μ' = put μ b (.dct (dH p g)) ∧ p.map g = marksL p ((ts.take i).map ends) ∧ δ' = [some (.str (toS p)), some (.lst (ts.map D.str)), o2, some (.adr b), o4, o5, o6], ⟨id, none, none, none, none, rfl, by rw [List.map_id]; rfl, rfl⟩, ?_, ?_⟩
          · rintro i it δ' μ' hi ⟨g, o2, o4, o5, o6, rfl, hg, rfl⟩
            rw [List.getElem?_map] at hi
            obtain ⟨y, hy, rfl⟩ : ∃ y, ts[i]? = some y ∧ D.str y = it := by
              cases e : ts[i]? with
              | none => rw [e] at hi; cases hi
              | some t => rw [e] at hi; exact ⟨t, rfl, Option.some.inj hi⟩
            obtain ⟨sy, m1, m2⟩ := oe.ties y (List.mem_of_getElem? hy)
            obtain ⟨c0, c1, e0, e1, ee⟩ := two_signs sy
            rw [ee] at m1 m2
            have m1 : c0 ∈ p := m1
            have m2 : c1 ∈ p := m2
            have hs : y.length ≤ sizeLine := by show y.cps.size ≤ sizeLine; rw [sizeLine_eq]; omega
            have e0 : L2.atI y.cps.toList 0 = some c0 := atI_nat (j := 0) (by rw [Array.getElem?_toList]; exact e0)
            have e1 : L2.atI y.cps.toList 1 = some c1 := atI_nat (j := 1) (by rw [Array.getElem?_toList]; exact e1)
            have hb : put μ b (.dct (dH p g)) b = some (.dct (dH p g)) := put_same
            generalize hμ : put μ b (.dct (dH p g)) = μ1 at hb ⊢
            refine ⟨hs, ?_⟩
            rw [e0]
            refine ⟨_, _, _, hb, rfl, dH_look m1, ?_⟩
            refine ⟨hs, ?_⟩
            rw [e1]
            refine ⟨_, _, _, hb, rfl, dH_look m2, ?_⟩
            refine ⟨hs, ?_⟩
            rw [e0]
            refine ⟨_, _, _, hb, rfl, dH_look m1, ?_⟩
            refine ⟨hs, ?_⟩
            rw [e1]
            refine ⟨_, _, _, hb, rfl, dH_look m2, ?_⟩
            have hd : p.drop p.length = [] := List.drop_length
            refine ⟨fun j δ' μ' => ∃ (k : Nat → Nat) (o2 : Option D), μ' = put μ b (.dct (dH p k)) ∧ (∀ x ∈ p.take j, k x = swp (g c0) (g c1) (g x)) ∧ (∀ x ∈ p.drop j, k x = g x) ∧
              δ' = [some (.str (toS p)), some (.lst (ts.map D.str)), o2, some (.adr b), some (.str y), some (.str (sg (min (g c0) (g c1)))), some (.str (sg (max (g c0) (g c1))))], ?_, ?_, ?_⟩
            · refine ⟨g, o2, hμ.symm, fun x hx => by simp at hx, fun x _ => rfl, ?_⟩
              show [_, _, o2, some (D.adr b), some (D.str y), some (D.str (if (sg (g c1)).cps.toList < (sg (g c0)).cps.toList then sg (g c1) else sg (g c0))), some (D.str (if (sg (g c0)).cps.toList < (sg (g c1)).cps.toList then sg (g c1) else sg (g c0)))] = _
              rw [min_sg, max_sg]
            · rintro j it δ' μ' hi ⟨k, o2, rfl, k1, k2, rfl⟩
              have hi : (p.map fun c => D.str (sg c))[j]? = some it := by rw [← signs_eq]; exact hi
              rw [List.getElem?_map] at hi
              obtain ⟨c, hc, rfl⟩ : ∃ c, p[j]? = some c ∧ D.str (sg c) = it := by
                cases e : p[j]? with
                | none => rw [e] at hi; cases hi
                | some t => rw [e] at hi; exact ⟨t, rfl, Option.some.inj hi⟩
              have hm : c ∈ p := List.mem_of_getElem? hc
              obtain ⟨hj, ej⟩ := List.getElem?_eq_some_iff.mp hc
              have dj : p.drop j = c :: p.drop (j + 1) := by rw [List.drop_eq_getElem_cons hj, ej]
              have tj : p.take (j + 1) = p.take j ++ [c] := take_succ_get hc
              have kc : k c = g c := k2 c (by rw [dj]; exact List.mem_cons_self)
              have ud : ∀ x ∈ p.drop (j + 1), x ≠ c := fun x hx e => by
                have : (p.drop j).Pairwise (· ≠ ·) := u.sublist (List.drop_sublist _ _)
                rw [dj, List.pairwise_cons] at this
                exact this.1 x hx e.symm
              have hb2 : put μ b (.dct (dH p k)) b = some (.dct (dH p k)) := put_same
              generalize hμ2 : put μ b (.dct (dH p k)) = μ2 at hb2 ⊢
              refine ⟨_, _, _, hb2, rfl, dH_look hm, ?_⟩
              refine if_case (c := decide (sg (k c) = sg (max (g c0) (g c1)))) (fun e => ?_) (fun e => ?_)
              · have e := sg_inj (of_decide_eq_true e)
                refine ⟨_, _, hb2, rfl, ?_, ?_⟩
                · show ((p.map _).length) < sizeLine
                  rw [List.length_map, sizeLine_eq]
                  omega
                · rw [dH_put hm, ← hμ2, put_put]
                  refine ⟨_, some (.str (sg c)), rfl, fun x hx => ?_, fun x hx => ?_, rfl⟩
                  · show (if x = c then min (g c0) (g c1) else k x) = _
                    by_cases q : x = c
                    · rw [if_pos q, q]
                      unfold swp
                      rw [if_pos (kc.symm.trans e)]
                    · rw [if_neg q]
                      rw [tj] at hx
                      rcases List.mem_append.mp hx with z | z
                      · exact k1 x z
                      · exact absurd (List.mem_singleton.mp z) q
                  · show (if x = c then min (g c0) (g c1) else k x) = _
                    rw [if_neg (ud x hx)]
                    exact k2 x (by rw [dj]; exact List.mem_cons_of_mem _ hx)
              · have e : ¬ k c = max (g c0) (g c1) := fun z => of_decide_eq_false e (by rw [z])
                refine ⟨k, some (.str (sg c)), hμ2.symm, fun x hx => ?_, fun x hx => k2 x (by rw [dj]; exact List.mem_cons_of_mem _ hx), rfl⟩
                rw [tj] at hx
                rcases List.mem_append.mp hx with z | z
                · exact k1 x z
                · rw [List.mem_singleton.mp z]
                  unfold swp
                  rw [if_neg (fun w => e (kc.trans w))]
                  exact kc
            · rintro δ' μ' ⟨k, o2, rfl, k1, k2, rfl⟩
              rw [signs_eq, List.length_map, List.take_length] at k1
              refine ⟨k, o2, _, _, _, rfl, ?_, rfl⟩
              rw [← turn i y hy, ← hg, ee]
              unfold stepM
              rw [map_getD m1, map_getD m2, List.map_map]
              exact List.map_congr_left fun x hx => k1 x hx
          · rintro δ' μ' ⟨g, o2, o4, o5, o6, rfl, hg, rfl⟩
            have en : ts.take (ts.map D.str).length = ts := List.take_of_length_le (by simp)
            rw [en] at hg
            refine ⟨by rw [toS_len, sizeLine_eq]; omega, ?_⟩
            show LcB _ _ _ _ _ _ _ _
            have hb : put μ b (.dct (dH p g)) b = some (.dct (dH p g)) := put_same
            generalize hμ : put μ b (.dct (dH p g)) = μ1 at hb ⊢
            refine lcb_map (hF g) ?_ ?_ ?_
            · rw [signs_eq, List.length_map, sizeLine_eq]
              omega
            · intro x hx μ2 Y k hy
              rw [signs_eq] at hx
              obtain ⟨c, hc, rfl⟩ := List.mem_map.mp hx
              exact ⟨_, _, _, k _ _ hb, rfl, dH_look hc, hy⟩
            · rw [signs_eq, List.map_map]
              refine ⟨p.map fun c => sg (g c), by rw [List.map_map]; rfl, by rw [List.length_map]; omega, ?_⟩
              have ro := roots_marks u (ys := ts.map ends) (fun q hq => by
                obtain ⟨y, hy, e⟩ := List.mem_map.mp hq
                rw [← e]
                exact (oe.ties y hy).2)
              have dm := dist_marks u ro sg (fun a b => sg_inj) (fun i => (p.map fun c => sg (g c)).getD i Str.empty) (fun i hi => by
                rw [← hg, getD_map_ne hi, List.getD_eq_getElem?_getD, List.getElem?_map, List.getD_eq_getElem?_getD, List.getElem?_eq_getElem hi]
                rfl)
              refine ⟨_, _, .drop b, ?_⟩
              show R (.int (((toS p).length : Int) - (distS (p.map fun c => sg (g c)) : Nat))) (del μ1 b)
              have ez : (((toS p).length : Int) - (distS (p.map fun c => sg (g c)) : Nat)) = (nonFix (marksL p (ts.map ends)) p : Nat) := by
                unfold distS
                rw [List.length_map, toS_len]
                omega
              rw [ez, ← hμ, del_put nb]
              exact h
end
end K10
set_option Elab.async false
set_option linter.all false
set_option maxRecDepth 100000
namespace K10
open PySem PySem.Spec PyProof.Rows L2 DL
/-! ### both sides' trees are the same -/
theorem rank_le {p : List Nat} (u : p.Pairwise (· ≠ ·)) (ts : List Str) (lot : List Nat) : rankOf p ts lot ≤ lot.length := by
  have := nonFix_le u (tiesOf ts lot)
  have e : (tiesOf ts lot).length = lot.length := List.length_map _
  rw [e] at this
  exact this
/-! counts of trees with a tie -/
end K10
namespace K10
open PySem PySem.Spec PyProof.Rows L2 DL
section
variable {P : Program} {w : World} {K : PySem.W.Frag} {mg : Str → Option Value} {base : Heap} {A : Ad}
theorem cell_ok {μ : Mu} {a : Addr} {ds : List D} (h : μ a = some (.lst ds)) : okCell (.adr a) μ := by
  unfold okCell
  simp only [h]
def tieAt (ts : List Str) : D → D
  | .int k => .str (ts.getD k.toNat Str.empty)
  | d => d
end
end K10
set_option Elab.async false
set_option linter.all false
set_option maxRecDepth 100000
namespace K10
open PySem PySem.Spec PyProof.Rows L2 DL
section
variable {P : Program} {w : World} {K : PySem.W.Frag} {mg : Str → Option Value} {base : Heap} {A : Ad}
/-- the pot at a, all else that was there as it was -/
structure Sa (μ μ1 : Mu) (a : Addr) : Prop where
  keep : ∀ c o, c ≠ a → μ c = some o → μ1 c = some o
  has : ∃ x y z, μ1 a = some (pot x y z)
/-- a new cell at b -/
structure Sc (μ μ1 : Mu) (a b : Addr) (l : List D) : Prop where
  at_ : μ1 b = some (.lst l)
  new : μ b = none
  ne : b ≠ a
section
variable {μ μ1 : Mu} {a b c : Addr} {l m : List D}
theorem Sa.draw (s : Sa μ μ1 a) (x y z : Int) : Sa μ (put μ1 a (pot x y z)) a :=
  ⟨fun c o hc e => by rw [put_ne hc]; exact s.keep c o hc e, ⟨x, y, z, put_same⟩⟩
theorem Sc.draw (s : Sc μ μ1 a b l) (x y z : Int) : Sc μ (put μ1 a (pot x y z)) a b l :=
  ⟨by rw [put_ne s.ne]; exact s.at_, s.new, s.ne⟩
theorem Sa.cell (s : Sa μ μ1 a) (n : μ b = none) (ne : b ≠ a) (o : MO) : Sa μ (put μ1 b o) a := by
  obtain ⟨x, y, z, e⟩ := s.has
  refine ⟨fun c o' hc e' => ?_, ⟨x, y, z, by rw [put_ne ne.symm]; exact e⟩⟩
  rw [put_ne (fun q => by rw [q, n] at e'; cases e')]
  exact s.keep c o' hc e'
theorem Sa.new (s : Sa μ μ1 a) (n : μ1 b = none) : μ b = none ∧ b ≠ a := by
  obtain ⟨x, y, z, e⟩ := s.has
  have ne : b ≠ a := fun q => by rw [q, e] at n; cases n
  refine ⟨?_, ne⟩
  cases h : μ b with
  | none => rfl
  | some o =>
    rw [s.keep b o ne h] at n
    cases n
theorem Sc.same (s : Sc μ μ1 a b l) : Sc μ (put μ1 b (.lst m)) a b m := ⟨put_same, s.new, s.ne⟩
theorem Sc.other (s : Sc μ μ1 a b l) {o : MO} (h : b ≠ c) : Sc μ (put μ1 c o) a b l := ⟨by rw [put_ne h]; exact s.at_, s.new, s.ne⟩
theorem Sc.apart {l' : List D} (s : Sc μ μ1 a b l) (n : μ1 c = none) : b ≠ c := fun q => by
  have := s.at_
  rw [q, n] at this
  cases this
theorem Sa.back (s : Sa μ μ1 a) {d : D} {R : KD} (h : ∀ x y z : Int, R d (put μ a (pot x y z))) : freed R d μ1 := by
  obtain ⟨x, y, z, e⟩ := s.has
  refine ⟨d, _, .less fun c o hc => ?_, h x y z⟩
  by_cases q : c = a
  · rw [q, put_same] at hc
    rw [q, e]
    exact hc
  · rw [put_ne q] at hc
    exact s.keep c o q hc
end
def gLenC : G1 := fun x μ R => ∃ a ds, x = .adr a ∧ μ a = some (.lst ds) ∧ R (.int (ds.length : Nat)) μ
theorem sim_lenC {K : PySem.W.Frag} : SimC K (rLenA K) (g1 gLenC) := fun vs ds H μ Q R rm rl q f => by
  match ds, q with
  | [d], q =>
    obtain ⟨a, ds, rfl, e, q⟩ := q
    refine sim_len vs _ H μ Q R rm rl ?_ f
    show gLen1 (.adr a) μ R
    unfold gLen1
    simp only [e]
    exact q
def gTupC : G1 := fun x μ R => ∃ a ds, x = .adr a ∧ μ a = some (.lst ds) ∧ R (.tup ds) μ
theorem sim_tupC {K : PySem.W.Frag} : SimC K (fun xs H Q => ∃ p ys, xs = [.ref p] ∧ ((SqL K H p ys ∧ ∀ l, H l = none → Q (.ref l) (upd H l (.tup ys))) ∨ (SqT K H p ys ∧ Q (.ref p) H))) (g1 gTupC) := fun vs ds H μ Q R rm rl q f => by
  match ds, q with
  | [d], q =>
    obtain ⟨a, ds, rfl, e, q⟩ := q
    refine sim_tuple vs _ H μ Q R rm rl ?_ f
    show gTuple1 (.adr a) μ R
    unfold gTuple1
    simp only [e]
    exact q
def gSrtC : G1 := fun x μ R => ∃ a ss, x = .adr a ∧ μ a = some (.lst (List.map D.str ss)) ∧ ss.length < 64 ∧ ∀ ys : List Str, ys.Perm ss → sortedS ys = true → R (.lst (List.map D.str ys)) μ
theorem sim_srtC {K : PySem.W.Frag} : SimC K (rSortedS K) (g1 gSrtC) := fun vs ds H μ Q R rm rl q f => by
  match ds, q with
  | [d], q =>
    obtain ⟨a, ss, rfl, e, q⟩ := q
    refine sim_sortedS vs _ H μ Q R rm rl ?_ f
    show gSortedS1 (.adr a) μ R
    unfold gSortedS1
    simp only [e]
    exact ⟨ss, rfl, q⟩
theorem erase_map {α β : Type} (f : α → β) : ∀ (l : List α) (i : Nat), (l.map f).eraseIdx i = (l.eraseIdx i).map f
  | [], _ => rfl
  | _ :: _, 0 => rfl
  | a :: l, i + 1 => by
    show f a :: (l.map f).eraseIdx i = f a :: (l.eraseIdx i).map f
    rw [erase_map f l i]
theorem erase_perm {α : Type} : ∀ (l : List α) (i : Nat) (h : i < l.length), (l[i] :: l.eraseIdx i).Perm l
  | a :: l, 0, _ => .refl _
  | a :: l, i + 1, h => by
    have := erase_perm l i (by simpa using h)
    exact (List.Perm.swap _ _ _).trans (this.cons a)
def chs (l : List Nat) : List D := l.map fun c => .str (sg c)
def eight : List Nat := [97, 98, 99, 100, 101, 102, 103, 104]
theorem eight_signs : DL.signs ("abcdefgh" : Str) = chs eight := by
  unfold DL.signs
  have e : ("abcdefgh" : Str).cps.toList = eight := by decide +kernel
  rw [e]
  rfl
def yTie (a b : Nat) : Str := ⟨#[a, b]⟩
theorem sg_add (a b : Nat) : sg a ++ sg b = yTie a b := rfl
structure OkT (p : List Nat) (ts : List Str) : Prop where
  ties : ∀ y ∈ ts, ∃ a b, y = yTie a b ∧ a ∈ p ∧ b ∈ p ∧ a ≤ b
theorem OkT.ok {p : List Nat} {ts : List Str} (h : OkT p ts) (l : ts.length ≤ 11) : OkTies p ts := ⟨l, h.ties⟩
theorem OkT.ends {p : List Nat} {ts : List Str} (h : OkT p ts) : OkEnds p ts := ⟨fun y hy => by
  obtain ⟨a, b, rfl, ha, hb, _⟩ := h.ties y hy
  exact ⟨rfl, ha, hb⟩⟩
theorem OkT.put {p : List Nat} {ts : List Str} (h : OkT p ts) {a b : Nat} (ha : a ∈ p) (hb : b ∈ p) (k : Nat) : OkT p (ts.take k ++ [yTie (min a b) (max a b)] ++ ts.drop k) := ⟨fun y hy => by
  rcases List.mem_append.mp hy with q | q
  · rcases List.mem_append.mp q with q | q
    · exact h.ties y (List.mem_of_mem_take q)
    · rw [List.mem_singleton.mp q]
      have h1 : min a b ∈ p := by
        by_cases e : a ≤ b
        · rw [Nat.min_eq_left e]; exact ha
        · rw [Nat.min_eq_right (by omega)]; exact hb
      have h2 : max a b ∈ p := by
        by_cases e : a ≤ b
        · rw [Nat.max_eq_right e]; exact hb
        · rw [Nat.max_eq_left (by omega)]; exact ha
      exact ⟨_, _, rfl, h1, h2, by omega⟩
  · exact h.ties y (List.mem_of_mem_drop q)⟩
def lowS (a b : Nat) : Str := if (sg b).cps.toList < (sg a).cps.toList then sg b else sg a
def highS (a b : Nat) : Str := if (sg a).cps.toList < (sg b).cps.toList then sg b else sg a
def rowT (p : List Nat) (n : Nat) : List Str := (List.range n).map fun k => yTie (p.getD k 0) (p.getD (k + 1) 0)
theorem rowT_ok {p : List Nat} (u : p.Pairwise (· < ·)) {n : Nat} (h : n + 1 ≤ p.length) : OkT p (rowT p n) := ⟨fun y hy => by
  obtain ⟨k, hk, rfl⟩ := List.mem_map.mp hy
  have hk := List.mem_range.mp hk
  refine ⟨_, _, rfl, getD_in (by omega), getD_in (by omega), ?_⟩
  rw [List.getD_eq_getElem?_getD, List.getD_eq_getElem?_getD, List.getElem?_eq_getElem (by omega), List.getElem?_eq_getElem (by omega)]
  exact Nat.le_of_lt (List.pairwise_iff_getElem.mp u k (k + 1) (by omega) (by omega) (by omega))⟩
theorem rowT_snoc (p : List Nat) (n : Nat) : rowT p (n + 1) = rowT p n ++ [yTie (p.getD n 0) (p.getD (n + 1) 0)] := by
  unfold rowT
  rw [List.range_succ, List.map_append]
  rfl
def g_L_parts : GC := fun ds μ R => ∃ (a : Addr) (x y z : Int), ds = [.adr a, .int 4, .int 6] ∧ μ a = some (pot x y z) ∧
  ∀ (p : List Nat) (ts : List Str) (x y z : Int), OkPlaces p → OkT p ts → ts.length ≤ 6 → p.length ≤ 4 → R (.tup [.str (toS p), .tup (ts.map D.str)]) (put μ a (pot x y z))
def N51 : List Str := ["_law_pot_here", "_law_most", "_law_many", "_law_pool", "_law_found", "_law_ties", "_law_turn", "_law_places", "_law_one", "_law_other", "_law_k"]
theorem sc51 : FnScope N51 ["_law_pot_here", "_law_most", "_law_many"] (defScope (top 51)) := ⟨rfl, rfl, rfl, by decide +kernel, rfl, by decide +kernel, by decide +kernel⟩
theorem ok_L_parts (T : Tx K mg A) : FnOk P w K mg base CX0 3 A.L_parts A.fd_L_parts ["_law_pot_here", "_law_most", "_law_many"] (toSp K (g_L_parts)) := by
  refine okDF T.F_L_parts sc51 (fun ds μ R h => ?_) ⟨_, fun cdv A0 outer s H E hr =>
    (dss_cons (ds_par3 (i := 3) (j := 4) (l := 5) (by rfl) sc51.nd rfl rfl rfl (by decide) (by decide) (by decide) rfl rfl rfl (da_cons (de_callTy (call_listS (by rfl)) sim_listSC (by rfl) T.z_list boot_list (da_cons de_str da_nil)) (da_cons (de_cell da_nil) (da_cons (de_cell da_nil) da_nil))) (by rfl))
      (dss_cons (ds_for PassesOwn.never rfl (di_range (by rfl) T.z_range (da_cons (de_op op_plus sim_plus de_int (de_call ((ok_L_dip T).mono (by decide)) hr (by rfl) T.g_L_dip T.F_L_dip.kp T.b_L_dip (da_cons (dv 0) (da_cons (dv 1) da_nil)))) da_nil)) (pg_name (i := 6) sc51.nd rfl (by first | exact Or.inl rfl | exact Or.inr rfl)) (sim_nm (i := 6))
      (dss_one (ds_expr (de_bm PySem.F.plainAttrs_list PySem.F.slot_list_append PySem.F.type_list_append mt_append sim_append ok_cell (dv 4) (da_cons (de_bm PySem.F.plainAttrs_list PySem.F.slot_list_pop PySem.F.type_list_pop mt_popAt sim_popAt ok_cell (dv 3) (da_cons (de_call ((ok_L_dip T).mono (by decide)) hr (by rfl) T.g_L_dip T.F_L_dip.kp T.b_L_dip (da_cons (dv 0) (da_cons (de_callB cr_len sim_lenC (by rfl) T.z_len boot_len (da_cons (dv 3) da_nil)) da_nil))) da_nil)) da_nil)))))
      (dss_cons (ds_set sc51.nd (i := 7) rfl (by first | exact Or.inl rfl | exact Or.inr rfl) (de_bm PySem.F.plainAttrs_str PySem.F.slot_str_join PySem.F.type_str_join mt_join sim_join ok_str de_str (da_cons (de_callB cr_sortedS sim_srtC (by rfl) T.z_sorted boot_sorted (da_cons (dv 4) da_nil)) da_nil)))
      (dss_cons (ds_if (dt_cmp (op_eqA hr.units) sim_eq (de_call ((ok_L_dip T).mono (by decide)) hr (by rfl) T.g_L_dip T.F_L_dip.kp T.b_L_dip (da_cons (dv 0) (da_cons de_int da_nil))) de_int (nomark _)) (dss_one (ds_setLcC (i := 5) (own := [("_law_k", 10)]) (by rfl) sc51.nd rfl rfl (sw_true rfl rfl rfl (by decide +kernel)) (di_range (by rfl) T.z_range (da_cons (de_op op_sub sim_minus (de_callB cr_len sim_len (by rfl) T.z_len boot_len (da_cons (dv 7) da_nil)) de_int) da_nil)) (blkOk_by (N := N51) (own := [("_law_k", 10)]) (sc := defScope (top 51)) (by decide +kernel)) (fun _ _ _ _ _ => (pg_name (i := 10) sc51.nd rfl (by first | exact Or.inl rfl | exact Or.inr rfl))) (sim_nm (i := 10)) (fun _ _ _ _ _ => dts_nil) (fun _ _ _ _ _ => (de_op op_plus sim_plus (de_ix ix_any sim_ix (dv 7) (dv 10) (fun _ _ => rfl)) (de_ix ix_any sim_ix (dv 7) (de_op op_plus sim_plus (dv 10) de_int) (fun _ _ => rfl)))))) dss_nil)
      (dss_cons (ds_for PassesOwn.never rfl (di_range (by rfl) T.z_range (da_cons (de_call ((ok_L_dip T).mono (by decide)) hr (by rfl) T.g_L_dip T.F_L_dip.kp T.b_L_dip (da_cons (dv 0) (da_cons (de_op op_sub sim_minus (de_op op_plus sim_plus (dv 2) de_int) (de_callB cr_len sim_lenC (by rfl) T.z_len boot_len (da_cons (dv 5) da_nil))) da_nil))) da_nil)) (pg_name (i := 6) sc51.nd rfl (by first | exact Or.inl rfl | exact Or.inr rfl)) (sim_nm (i := 6))
      (dss_cons (ds_par (i := 8) (j := 9) (by rfl) sc51.nd rfl rfl (by decide) rfl rfl (da_cons (de_call ((ok_L_any T).mono (by decide)) hr (by rfl) T.g_L_any T.F_L_any.kp T.b_L_any (da_cons (dv 0) (da_cons (dv 7) da_nil))) (da_cons (de_call ((ok_L_any T).mono (by decide)) hr (by rfl) T.g_L_any T.F_L_any.kp T.b_L_any (da_cons (dv 0) (da_cons (dv 7) da_nil))) da_nil)) (by rfl))
      (dss_cons (ds_if (dw_and (dt_cmp (op_eqA hr.units) sim_eq (dv 8) (dv 9) (nomark _)) (dw_and1 (dt_cmp op_gtA sim_ord (de_call ((ok_L_dip T).mono (by decide)) hr (by rfl) T.g_L_dip T.F_L_dip.kp T.b_L_dip (da_cons (dv 0) (da_cons de_int da_nil))) de_int (nomark _)))).dt (dss_one (ds_set sc51.nd (i := 9) rfl (by first | exact Or.inl rfl | exact Or.inr rfl) (de_call ((ok_L_any T).mono (by decide)) hr (by rfl) T.g_L_any T.F_L_any.kp T.b_L_any (da_cons (dv 0) (da_cons (dv 7) da_nil))))) dss_nil)
      (dss_one (ds_expr (de_bm PySem.F.plainAttrs_list PySem.F.slot_list_insert PySem.F.type_list_insert mt_insert sim_insert ok_cell (dv 5) (da_cons (de_call ((ok_L_dip T).mono (by decide)) hr (by rfl) T.g_L_dip T.F_L_dip.kp T.b_L_dip (da_cons (dv 0) (da_cons (de_op op_plus sim_plus (de_callB cr_len sim_lenC (by rfl) T.z_len boot_len (da_cons (dv 5) da_nil)) de_int) da_nil))) (da_cons (de_op op_plus sim_plus (de_callB (cr_minS (by rfl)) sim_minS (by rfl) T.z_min boot_min (da_cons (dv 8) (da_cons (dv 9) da_nil))) (de_callB (cr_maxS (by rfl)) sim_maxS (by rfl) T.z_max boot_max (da_cons (dv 8) (da_cons (dv 9) da_nil)))) da_nil))))))))
      (dss_one (ds_ret (de_tup (da_cons (dv 7) (da_cons (de_callTy call_tuple_of sim_tupC (by rfl) T.z_tuple boot_tuple (da_cons (dv 5) da_nil)) da_nil)))))))))), fun ds μ R h => ?_⟩
  · obtain ⟨a, x, y, z, rfl, _⟩ := h
    rfl
  · obtain ⟨a, x, y, z, rfl, ha, h⟩ := h
    have sl8 : ("abcdefgh" : Str).length ≤ sizeLine := by
      have e : ("abcdefgh" : Str).length = 8 := by decide +kernel
      rw [e, sizeLine_eq]
      omega
    have z0 : 0 ≤ sizeLine := by decide
    have s0 : Sa μ μ a := ⟨fun c o _ e => e, ⟨x, y, z, ha⟩⟩
    refine ⟨sl8, fun b1 n1 => ?_⟩
    obtain ⟨m1, e1⟩ := s0.new n1
    have s1 : Sa μ (put μ b1 (.lst (DL.signs ("abcdefgh" : Str)))) a := s0.cell m1 e1 _
    have c1 : Sc μ (put μ b1 (.lst (DL.signs ("abcdefgh" : Str)))) a b1 (chs eight) := ⟨by rw [put_same, eight_signs], m1, e1⟩
    generalize put μ b1 (.lst (DL.signs ("abcdefgh" : Str))) = μ1 at s1 c1 ⊢
    refine ⟨z0, fun b2 n2 => ?_⟩
    obtain ⟨m2, e2⟩ := s1.new n2
    have d12 : b1 ≠ b2 := c1.apart (l' := []) n2
    have s2 := s1.cell m2 e2 (.lst [])
    have c1 := c1.other (o := .lst []) d12
    have c2 : Sc μ (put μ1 b2 (.lst [])) a b2 (chs []) := ⟨put_same, m2, e2⟩
    generalize put μ1 b2 (.lst []) = μ2 at s2 c1 c2 ⊢
    refine ⟨z0, fun b3 n3 => ?_⟩
    obtain ⟨m3, e3⟩ := s2.new n3
    have d13 : b1 ≠ b3 := c1.apart (l' := []) n3
    have d23 : b2 ≠ b3 := c2.apart (l' := []) n3
    have s3 := s2.cell m3 e3 (.lst [])
    have c1 := c1.other (o := .lst []) d13
    have c2 := c2.other (o := .lst []) d23
    have c3 : Sc μ (put μ2 b3 (.lst [])) a b3 (List.map D.str []) := ⟨put_same, m3, e3⟩
    generalize put μ2 b3 (.lst []) = μ3 at s3 c1 c2 c3 ⊢
    obtain ⟨px, py, pz, hp⟩ := s3.has
    refine ⟨a, px, py, pz, 4, rfl, hp, by decide, by decide, fun d x y z hd => ?_⟩
    have s4 := s3.draw x y z
    have c1 := c1.draw x y z
    have c2 := c2.draw x y z
    have c3 := c3.draw x y z
    generalize put μ3 a (pot x y z) = μ4 at s4 c1 c2 c3 ⊢
    have hd : d < 4 := by omega
    refine ⟨⟨by omega, by omega⟩, ?_⟩
    have en : ((List.range (1 + (d : Int)).toNat).map fun i => D.int (i : Nat)).length = 1 + d := by
      rw [List.length_map, List.length_range]
      omega
    refine ⟨fun i δ' μ' => ∃ (pl fo : List Nat) (o6 : Option D), Sa μ μ' a ∧ Sc μ μ' a b1 (chs pl) ∧ Sc μ μ' a b2 (chs fo) ∧ Sc μ μ' a b3 (List.map D.str []) ∧ (pl ++ fo).Perm eight ∧ fo.length = i ∧
      δ' = [some (.adr a), some (.int 4), some (.int 6), some (.adr b1), some (.adr b2), some (.adr b3), o6, none, none, none, none], ⟨eight, [], none, s4, c1, c2, c3, by rw [List.append_nil], rfl, rfl⟩, ?_, ?_⟩
    · rintro i it δ' μ' hi ⟨pl, fo, o6, s, k1, k2, k3, hp, hl, rfl⟩
      obtain ⟨hi, rfl⟩ := range_at hi
      have hi : i < 1 + d := by
        omega
      have hpl : pl.length + fo.length = 8 := by
        have := hp.length_eq
        rw [List.length_append] at this
        exact this
      refine ⟨cell_ok k2.at_, ?_⟩
      refine ⟨cell_ok k1.at_, ?_⟩
      refine ⟨_, _, rfl, k1.at_, ?_⟩
      obtain ⟨px, py, pz, hpot⟩ := s.has
      have lc : (chs pl).length = pl.length := List.length_map _
      refine ⟨a, px, py, pz, _, rfl, hpot, by rw [lc]; omega, by rw [lc]; omega, fun v x y z hv => ?_⟩
      rw [lc] at hv
      have hv : v < pl.length := by omega
      have s := s.draw x y z
      have k1 := k1.draw x y z
      have k2 := k2.draw x y z
      have k3 := k3.draw x y z
      generalize put μ' a (pot x y z) = μ5 at s k1 k2 k3 ⊢
      refine ⟨_, k1.at_, by omega, by omega, .str (sg pl[v]), ?_, ?_⟩
      · show (chs pl)[v]? = _
        unfold chs
        rw [List.getElem?_map, List.getElem?_eq_getElem hv]
        rfl
      · have ee : (chs pl).eraseIdx ((v : Int)).toNat = chs (pl.eraseIdx v) := by
          unfold chs
          rw [erase_map]
          rfl
        rw [ee]
        have s := s.cell k1.new k1.ne (.lst (chs (pl.eraseIdx v)))
        have k2 := k2.other (o := .lst (chs (pl.eraseIdx v))) d12.symm
        have k3 := k3.other (o := .lst (chs (pl.eraseIdx v))) d13.symm
        have k1 := k1.same (m := chs (pl.eraseIdx v))
        generalize put μ5 b1 (.lst (chs (pl.eraseIdx v))) = μ6 at s k1 k2 k3 ⊢
        refine ⟨_, k2.at_, by unfold chs; rw [List.length_map, sizeLine_eq]; omega, ?_⟩
        have ef : chs fo ++ [.str (sg pl[v])] = chs (fo ++ [pl[v]]) := by
          unfold chs
          rw [List.map_append]
          rfl
        rw [ef]
        refine ⟨pl.eraseIdx v, fo ++ [pl[v]], _, s.cell k2.new k2.ne _, k1.other d12, k2.same, k3.other d23.symm, ?_, by rw [List.length_append, hl]; rfl, rfl⟩
        refine .trans ?_ hp
        have p1 : (pl[v] :: pl.eraseIdx v).Perm pl := erase_perm pl v hv
        refine .trans ?_ (p1.append_right fo)
        rw [← List.append_assoc]
        exact List.perm_append_comm.trans (by simp)
    · rintro δ' μ' ⟨pl, fo, o6, s, k1, k2, k3, hp, hl, rfl⟩
      rw [en] at hl
      refine ⟨trivial, ?_⟩
      refine ⟨_, fo.map sg, rfl, by rw [k2.at_]; unfold chs; rw [List.map_map]; rfl, by rw [List.length_map]; omega, fun ys hy hs => ?_⟩
      obtain ⟨p, q1, q2, rfl⟩ := sorted_signs hy hs
      have hpl : p.length = 1 + d := by rw [q1.length_eq, hl]
      have nod : (pl ++ fo).Nodup := hp.nodup_iff.mpr (by decide)
      have nf : fo.Nodup := (List.nodup_append.mp nod).2.1
      have np : p.Nodup := q1.nodup_iff.mpr nf
      have asc : p.Pairwise (· < ·) := by
        have := List.Pairwise.and q2 np
        exact this.imp fun h => Nat.lt_of_le_of_ne h.1 h.2
      have op : OkPlaces p := ⟨by omega, by omega, asc, fun c hc => by
        have : c ∈ eight := hp.subset (List.mem_append_right _ (q1.subset hc))
        simp [eight] at this
        omega⟩
      have e0 : ("" : Str).length = 0 := by decide +kernel
      refine ⟨_, rfl, by rw [sum_sg, e0]; omega, ?_⟩
      rw [join_sg]
      have tp : (toS p).length = p.length := toS_len p
      obtain ⟨px, py, pz, hpot⟩ := s.has
      refine ⟨a, px, py, pz, 2, rfl, hpot, by decide, by decide, fun v x y z hv => ?_⟩
      have s := s.draw x y z
      have k3 := k3.draw x y z
      generalize put μ' a (pot x y z) = μ5 at s k3 ⊢
      refine if_case (c := decide ((v : Int) = 0)) (fun e => ?a) (fun e => ?b)
      case' a =>
        refine ⟨by rw [tp, sizeLine_eq]; omega, ?_⟩
        refine ⟨⟨by omega, by omega⟩, ?_⟩
        refine ⟨fun b4 n4 => ?_⟩
        obtain ⟨m4, e4⟩ := s.new n4
        have en2 : ((List.range (((toS p).length : Int) - 1).toNat).map fun i => D.int (i : Nat)).length = p.length - 1 := by
          rw [List.length_map, List.length_range, tp]
          omega
        refine ⟨fun i μ' => μ' = put μ5 b4 (.lst ((rowT p i).map D.str)), rfl, ?_, ?_⟩
        rotate_left
        · rintro μ' rfl
          rw [en2]
          refine ⟨_, put_same, ?_⟩
          have s := s.cell m4 e4 (.lst ((rowT p (p.length - 1)).map D.str))
          have k3 : Sc μ (put μ5 b4 (.lst ((rowT p (p.length - 1)).map D.str))) a b4 ((rowT p (p.length - 1)).map D.str) := ⟨put_same, m4, e4⟩
          have ot : OkT p (rowT p (p.length - 1)) := rowT_ok asc (by omega)
          have tl3 : (rowT p (p.length - 1)).length ≤ 3 := by
            unfold rowT
            rw [List.length_map, List.length_range]
            omega
          generalize put μ5 b4 (.lst ((rowT p (p.length - 1)).map D.str)) = μ6 at s k3 ⊢
          generalize rowT p (p.length - 1) = tl at k3 ot tl3
          obtain ⟨px, py, pz, hpot⟩ := s.has
          have ltl : (tl.map D.str).length = tl.length := List.length_map _
          refine ⟨_, _, rfl, k3.at_, ?_⟩
          refine ⟨a, px, py, pz, _, rfl, hpot, by rw [ltl]; omega, by rw [ltl]; omega, fun d2 x y z hd2 => ?_⟩
          rw [ltl] at hd2
          have s := s.draw x y z
          have k3 := k3.draw x y z
          generalize put _ a (pot x y z) = μ7 at s k3 ⊢
          refine ⟨⟨by omega, by omega⟩, ?_⟩
          have en3 : ((List.range (d2 : Int).toNat).map fun i => D.int (i : Nat)).length = d2 := by simp
          refine ⟨fun i δ' μ' => ∃ (us : List Str) (o6 o8 o9 o10 : Option D), Sa μ μ' a ∧ Sc μ μ' a b4 (us.map D.str) ∧ OkT p us ∧ us.length = tl.length + i ∧
            δ' = [some (.adr a), some (.int 4), some (.int 6), some (.adr b1), some (.adr b2), some (.adr b4), o6, some (.str (toS p)), o8, o9, o10], ⟨tl, _, _, _, _, s, k3, ot, rfl, rfl⟩, ?_, ?_⟩
          · rintro i it δ' μ' hi ⟨us, o6, o8, o9, o10, s, k3, ot, hl, rfl⟩
            obtain ⟨hi, rfl⟩ := range_at hi
            have hi : i < d2 := by omega
            obtain ⟨px, py, pz, hpot⟩ := s.has
            refine ⟨a, px, py, pz, p, rfl, hpot, by omega, by omega, fun c0 x y z h0 => ?_⟩
            have s := s.draw x y z
            have k3 := k3.draw x y z
            generalize put μ' a (pot x y z) = μ8 at s k3 ⊢
            obtain ⟨px, py, pz, hpot⟩ := s.has
            refine ⟨a, px, py, pz, p, rfl, hpot, by omega, by omega, fun c1 x y z h1 => ?_⟩
            have s := s.draw x y z
            have k3 := k3.draw x y z
            generalize put μ8 a (pot x y z) = μ9 at s k3 ⊢
            refine if_case (c := decide (sg c0 = sg c1)) (fun e => ?_) (fun e => ?_)
            · obtain ⟨px, py, pz, hpot⟩ := s.has
              refine ⟨a, px, py, pz, 3, rfl, hpot, by decide, by decide, fun d3 x y z hd3 => ?_⟩
              have s := s.draw x y z
              have k3 := k3.draw x y z
              generalize put μ9 a (pot x y z) = μ10 at s k3 ⊢
              refine if_case (c := decide ((0 : Int) < (d3 : Int))) (fun e => ?_) (fun e => ?_)
              · obtain ⟨px, py, pz, hpot⟩ := s.has
                refine ⟨a, px, py, pz, p, rfl, hpot, by omega, by omega, fun c2 x y z h2 => ?_⟩
                have s := s.draw x y z
                have k3 := k3.draw x y z
                generalize put μ10 a (pot x y z) = μ11 at s k3 ⊢
                refine ⟨cell_ok k3.at_, ?_⟩
                refine ⟨_, _, rfl, k3.at_, ?_⟩
                obtain ⟨px, py, pz, hpot⟩ := s.has
                have lus : (us.map D.str).length = us.length := List.length_map _
                refine ⟨a, px, py, pz, _, rfl, hpot, by rw [lus]; omega, by rw [lus]; omega, fun d4 x y z hd4 => ?_⟩
                rw [lus] at hd4
                have s := s.draw x y z
                have k3 := k3.draw x y z
                generalize put _ a (pot x y z) = μ12 at s k3 ⊢
                have el : lowS c0 c2 = sg (min c0 c2) := min_sg c0 c2
                have eh : highS c0 c2 = sg (max c0 c2) := max_sg c0 c2
                refine ⟨?_, _, k3.at_, ?_, by omega, by omega, ?_⟩
                · show (lowS c0 c2).length + (highS c0 c2).length ≤ sizeLine
                  rw [el, eh]
                  show 1 + 1 ≤ sizeLine
                  decide
                · rw [lus, sizeLine_eq]
                  omega
                · have es : (us.map D.str).take ((d4 : Nat) : Int).toNat ++ [.str (lowS c0 c2 ++ highS c0 c2)] ++ (us.map D.str).drop ((d4 : Nat) : Int).toNat = (us.take d4 ++ [yTie (min c0 c2) (max c0 c2)] ++ us.drop d4).map D.str := by
                    rw [el, eh, sg_add, List.map_append, List.map_append, List.map_take, List.map_drop]
                    rfl
                  refine ⟨us.take d4 ++ [yTie (min c0 c2) (max c0 c2)] ++ us.drop d4, _, _, _, _, s.cell k3.new k3.ne _, ?_, ot.put h0 h2 d4, ?_, rfl⟩
                  · rw [← es]
                    exact k3.same
                  · rw [List.length_append, List.length_append, List.length_take, List.length_drop, List.length_singleton]
                    omega
              · refine ⟨cell_ok k3.at_, ?_⟩
                refine ⟨_, _, rfl, k3.at_, ?_⟩
                obtain ⟨px, py, pz, hpot⟩ := s.has
                have lus : (us.map D.str).length = us.length := List.length_map _
                refine ⟨a, px, py, pz, _, rfl, hpot, by rw [lus]; omega, by rw [lus]; omega, fun d4 x y z hd4 => ?_⟩
                rw [lus] at hd4
                have s := s.draw x y z
                have k3 := k3.draw x y z
                generalize put _ a (pot x y z) = μ12 at s k3 ⊢
                have el : lowS c0 c1 = sg (min c0 c1) := min_sg c0 c1
                have eh : highS c0 c1 = sg (max c0 c1) := max_sg c0 c1
                refine ⟨?_, _, k3.at_, ?_, by omega, by omega, ?_⟩
                · show (lowS c0 c1).length + (highS c0 c1).length ≤ sizeLine
                  rw [el, eh]
                  show 1 + 1 ≤ sizeLine
                  decide
                · rw [lus, sizeLine_eq]
                  omega
                · have es : (us.map D.str).take ((d4 : Nat) : Int).toNat ++ [.str (lowS c0 c1 ++ highS c0 c1)] ++ (us.map D.str).drop ((d4 : Nat) : Int).toNat = (us.take d4 ++ [yTie (min c0 c1) (max c0 c1)] ++ us.drop d4).map D.str := by
                    rw [el, eh, sg_add, List.map_append, List.map_append, List.map_take, List.map_drop]
                    rfl
                  refine ⟨us.take d4 ++ [yTie (min c0 c1) (max c0 c1)] ++ us.drop d4, _, _, _, _, s.cell k3.new k3.ne _, ?_, ot.put h0 h1 d4, ?_, rfl⟩
                  · rw [← es]
                    exact k3.same
                  · rw [List.length_append, List.length_append, List.length_take, List.length_drop, List.length_singleton]
                    omega
            · refine ⟨cell_ok k3.at_, ?_⟩
              refine ⟨_, _, rfl, k3.at_, ?_⟩
              obtain ⟨px, py, pz, hpot⟩ := s.has
              have lus : (us.map D.str).length = us.length := List.length_map _
              refine ⟨a, px, py, pz, _, rfl, hpot, by rw [lus]; omega, by rw [lus]; omega, fun d4 x y z hd4 => ?_⟩
              rw [lus] at hd4
              have s := s.draw x y z
              have k3 := k3.draw x y z
              generalize put _ a (pot x y z) = μ12 at s k3 ⊢
              have el : lowS c0 c1 = sg (min c0 c1) := min_sg c0 c1
              have eh : highS c0 c1 = sg (max c0 c1) := max_sg c0 c1
              refine ⟨?_, _, k3.at_, ?_, by omega, by omega, ?_⟩
              · show (lowS c0 c1).length + (highS c0 c1).length ≤ sizeLine
                rw [el, eh]
                show 1 + 1 ≤ sizeLine
                decide
              · rw [lus, sizeLine_eq]
                omega
              · have es : (us.map D.str).take ((d4 : Nat) : Int).toNat ++ [.str (lowS c0 c1 ++ highS c0 c1)] ++ (us.map D.str).drop ((d4 : Nat) : Int).toNat = (us.take d4 ++ [yTie (min c0 c1) (max c0 c1)] ++ us.drop d4).map D.str := by
                  rw [el, eh, sg_add, List.map_append, List.map_append, List.map_take, List.map_drop]
                  rfl
                refine ⟨us.take d4 ++ [yTie (min c0 c1) (max c0 c1)] ++ us.drop d4, _, _, _, _, s.cell k3.new k3.ne _, ?_, ot.put h0 h1 d4, ?_, rfl⟩
                · rw [← es]
                  exact k3.same
                · rw [List.length_append, List.length_append, List.length_take, List.length_drop, List.length_singleton]
                  omega
          · rintro δ' μ' ⟨us, o6, o8, o9, o10, s, k3, ot, hl, rfl⟩
            rw [en3] at hl
            refine ⟨_, _, rfl, k3.at_, ?_⟩
            refine ⟨by show 2 ≤ sizeLine; decide, ?_⟩
            exact s.back fun x y z => h p us x y z op ot (by omega) (by omega)
        · rintro i it μ' hi rfl
          obtain ⟨hi, rfl⟩ := range_at hi
          have hi : i + 1 < p.length := by omega
          have i1 : p[i]? = some p[i] := List.getElem?_eq_getElem (by omega)
          have i2 : p[i + 1]? = some p[i + 1] := List.getElem?_eq_getElem (by omega)
          refine ⟨by show p.toArray.size ≤ sizeLine; rw [List.size_toArray, sizeLine_eq]; omega, ?_⟩
          rw [toS_list, atI_nat i1]
          refine ⟨by show p.toArray.size ≤ sizeLine; rw [List.size_toArray, sizeLine_eq]; omega, ?_⟩
          rw [show ((i : Nat) : Int) + 1 = ((i + 1 : Nat) : Int) by omega, toS_list, atI_nat i2]
          refine ⟨by show 2 ≤ sizeLine; decide, _, put_same, ?_, ?_⟩
          · unfold rowT
            rw [List.length_map, List.length_map, List.length_range, sizeLine_eq]
            omega
          · show put _ _ _ = put μ5 b4 (.lst ((rowT p (i + 1)).map D.str))
            rw [put_put, rowT_snoc, List.map_append, List.getD_eq_getElem?_getD, List.getD_eq_getElem?_getD, i1, i2]
            rfl
      case' b =>
        have ot : OkT p [] := ⟨fun y hy => by cases hy⟩
        have tl3 : ([] : List Str).length ≤ 3 := by decide
        generalize ([] : List Str) = tl at k3 ot tl3
        generalize b3 = b4 at k3
        obtain ⟨px, py, pz, hpot⟩ := s.has
        have ltl : (tl.map D.str).length = tl.length := List.length_map _
        refine ⟨_, _, rfl, k3.at_, ?_⟩
        refine ⟨a, px, py, pz, _, rfl, hpot, by rw [ltl]; omega, by rw [ltl]; omega, fun d2 x y z hd2 => ?_⟩
        rw [ltl] at hd2
        have s := s.draw x y z
        have k3 := k3.draw x y z
        generalize put _ a (pot x y z) = μ7 at s k3 ⊢
        refine ⟨⟨by omega, by omega⟩, ?_⟩
        have en3 : ((List.range (d2 : Int).toNat).map fun i => D.int (i : Nat)).length = d2 := by simp
        refine ⟨fun i δ' μ' => ∃ (us : List Str) (o6 o8 o9 o10 : Option D), Sa μ μ' a ∧ Sc μ μ' a b4 (us.map D.str) ∧ OkT p us ∧ us.length = tl.length + i ∧
          δ' = [some (.adr a), some (.int 4), some (.int 6), some (.adr b1), some (.adr b2), some (.adr b4), o6, some (.str (toS p)), o8, o9, o10], ⟨tl, _, _, _, _, s, k3, ot, rfl, rfl⟩, ?_, ?_⟩
        · rintro i it δ' μ' hi ⟨us, o6, o8, o9, o10, s, k3, ot, hl, rfl⟩
          obtain ⟨hi, rfl⟩ := range_at hi
          have hi : i < d2 := by omega
          obtain ⟨px, py, pz, hpot⟩ := s.has
          refine ⟨a, px, py, pz, p, rfl, hpot, by omega, by omega, fun c0 x y z h0 => ?_⟩
          have s := s.draw x y z
          have k3 := k3.draw x y z
          generalize put μ' a (pot x y z) = μ8 at s k3 ⊢
          obtain ⟨px, py, pz, hpot⟩ := s.has
          refine ⟨a, px, py, pz, p, rfl, hpot, by omega, by omega, fun c1 x y z h1 => ?_⟩
          have s := s.draw x y z
          have k3 := k3.draw x y z
          generalize put μ8 a (pot x y z) = μ9 at s k3 ⊢
          refine if_case (c := decide (sg c0 = sg c1)) (fun e => ?_) (fun e => ?_)
          · obtain ⟨px, py, pz, hpot⟩ := s.has
            refine ⟨a, px, py, pz, 3, rfl, hpot, by decide, by decide, fun d3 x y z hd3 => ?_⟩
            have s := s.draw x y z
            have k3 := k3.draw x y z
            generalize put μ9 a (pot x y z) = μ10 at s k3 ⊢
            refine if_case (c := decide ((0 : Int) < (d3 : Int))) (fun e => ?_) (fun e => ?_)
            · obtain ⟨px, py, pz, hpot⟩ := s.has
              refine ⟨a, px, py, pz, p, rfl, hpot, by omega, by omega, fun c2 x y z h2 => ?_⟩
              have s := s.draw x y z
              have k3 := k3.draw x y z
              generalize put μ10 a (pot x y z) = μ11 at s k3 ⊢
              refine ⟨cell_ok k3.at_, ?_⟩
              refine ⟨_, _, rfl, k3.at_, ?_⟩
              obtain ⟨px, py, pz, hpot⟩ := s.has
              have lus : (us.map D.str).length = us.length := List.length_map _
              refine ⟨a, px, py, pz, _, rfl, hpot, by rw [lus]; omega, by rw [lus]; omega, fun d4 x y z hd4 => ?_⟩
              rw [lus] at hd4
              have s := s.draw x y z
              have k3 := k3.draw x y z
              generalize put _ a (pot x y z) = μ12 at s k3 ⊢
              have el : lowS c0 c2 = sg (min c0 c2) := min_sg c0 c2
              have eh : highS c0 c2 = sg (max c0 c2) := max_sg c0 c2
              refine ⟨?_, _, k3.at_, ?_, by omega, by omega, ?_⟩
              · show (lowS c0 c2).length + (highS c0 c2).length ≤ sizeLine
                rw [el, eh]
                show 1 + 1 ≤ sizeLine
                decide
              · rw [lus, sizeLine_eq]
                omega
              · have es : (us.map D.str).take ((d4 : Nat) : Int).toNat ++ [.str (lowS c0 c2 ++ highS c0 c2)] ++ (us.map D.str).drop ((d4 : Nat) : Int).toNat = (us.take d4 ++ [yTie (min c0 c2) (max c0 c2)] ++ us.drop d4).map D.str := by
                  rw [el, eh, sg_add, List.map_append, List.map_append, List.map_take, List.map_drop]
                  rfl
                refine ⟨us.take d4 ++ [yTie (min c0 c2) (max c0 c2)] ++ us.drop d4, _, _, _, _, s.cell k3.new k3.ne _, ?_, ot.put h0 h2 d4, ?_, rfl⟩
                · rw [← es]
                  exact k3.same
                · rw [List.length_append, List.length_append, List.length_take, List.length_drop, List.length_singleton]
                  omega
            · refine ⟨cell_ok k3.at_, ?_⟩
              refine ⟨_, _, rfl, k3.at_, ?_⟩
              obtain ⟨px, py, pz, hpot⟩ := s.has
              have lus : (us.map D.str).length = us.length := List.length_map _
              refine ⟨a, px, py, pz, _, rfl, hpot, by rw [lus]; omega, by rw [lus]; omega, fun d4 x y z hd4 => ?_⟩
              rw [lus] at hd4
              have s := s.draw x y z
              have k3 := k3.draw x y z
              generalize put _ a (pot x y z) = μ12 at s k3 ⊢
              have el : lowS c0 c1 = sg (min c0 c1) := min_sg c0 c1
              have eh : highS c0 c1 = sg (max c0 c1) := max_sg c0 c1
              refine ⟨?_, _, k3.at_, ?_, by omega, by omega, ?_⟩
              · show (lowS c0 c1).length + (highS c0 c1).length ≤ sizeLine
                rw [el, eh]
                show 1 + 1 ≤ sizeLine
                decide
              · rw [lus, sizeLine_eq]
                omega
              · have es : (us.map D.str).take ((d4 : Nat) : Int).toNat ++ [.str (lowS c0 c1 ++ highS c0 c1)] ++ (us.map D.str).drop ((d4 : Nat) : Int).toNat = (us.take d4 ++ [yTie (min c0 c1) (max c0 c1)] ++ us.drop d4).map D.str := by
                  rw [el, eh, sg_add, List.map_append, List.map_append, List.map_take, List.map_drop]
                  rfl
                refine ⟨us.take d4 ++ [yTie (min c0 c1) (max c0 c1)] ++ us.drop d4, _, _, _, _, s.cell k3.new k3.ne _, ?_, ot.put h0 h1 d4, ?_, rfl⟩
                · rw [← es]
                  exact k3.same
                · rw [List.length_append, List.length_append, List.length_take, List.length_drop, List.length_singleton]
                  omega
          · refine ⟨cell_ok k3.at_, ?_⟩
            refine ⟨_, _, rfl, k3.at_, ?_⟩
            obtain ⟨px, py, pz, hpot⟩ := s.has
            have lus : (us.map D.str).length = us.length := List.length_map _
            refine ⟨a, px, py, pz, _, rfl, hpot, by rw [lus]; omega, by rw [lus]; omega, fun d4 x y z hd4 => ?_⟩
            rw [lus] at hd4
            have s := s.draw x y z
            have k3 := k3.draw x y z
            generalize put _ a (pot x y z) = μ12 at s k3 ⊢
            have el : lowS c0 c1 = sg (min c0 c1) := min_sg c0 c1
            have eh : highS c0 c1 = sg (max c0 c1) := max_sg c0 c1
            refine ⟨?_, _, k3.at_, ?_, by omega, by omega, ?_⟩
            · show (lowS c0 c1).length + (highS c0 c1).length ≤ sizeLine
              rw [el, eh]
              show 1 + 1 ≤ sizeLine
              decide
            · rw [lus, sizeLine_eq]
              omega
            · have es : (us.map D.str).take ((d4 : Nat) : Int).toNat ++ [.str (lowS c0 c1 ++ highS c0 c1)] ++ (us.map D.str).drop ((d4 : Nat) : Int).toNat = (us.take d4 ++ [yTie (min c0 c1) (max c0 c1)] ++ us.drop d4).map D.str := by
                rw [el, eh, sg_add, List.map_append, List.map_append, List.map_take, List.map_drop]
                rfl
              refine ⟨us.take d4 ++ [yTie (min c0 c1) (max c0 c1)] ++ us.drop d4, _, _, _, _, s.cell k3.new k3.ne _, ?_, ot.put h0 h1 d4, ?_, rfl⟩
              · rw [← es]
                exact k3.same
              · rw [List.length_append, List.length_append, List.length_take, List.length_drop, List.length_singleton]
                omega
        · rintro δ' μ' ⟨us, o6, o8, o9, o10, s, k3, ot, hl, rfl⟩
          rw [en3] at hl
          refine ⟨_, _, rfl, k3.at_, ?_⟩
          refine ⟨by show 2 ≤ sizeLine; decide, ?_⟩
          exact s.back fun x y z => h p us x y z op ot (by omega) (by omega)
end
end K10
set_option Elab.async false
set_option linter.all false
set_option maxRecDepth 100000
namespace K10
open PySem PySem.Spec PyProof.Rows L2 DL
section
variable {P : Program} {w : World} {K : PySem.W.Frag} {mg : Str → Option Value} {base : Heap} {A : Ad}
/-! what repr is asked to show -/
structure Sh (d : PyData) (k w : Nat) : Prop where
  lay : PyData.canLay0 d = true
  shrt : PyData.intsShort 13 d = true
  show_ : PyData.showable d = true
  dp : PyData.depth d ≤ k
  wt : PyData.weight d ≤ w
theorem Sh.ok {d : PyData} {k w : Nat} (h : Sh d k w) (hk : k ≤ 20) (hw : w ≤ 2 ^ 20) : ShowOk d := by
  refine ⟨?_, h.shrt, h.show_, PyData.hasDict_of_canLay d h.lay, Nat.le_trans h.dp hk⟩
  unfold PyData.layable0
  rw [h.lay, decide_eq_true (show d.depth ≤ 64 by have := h.dp; omega), decide_eq_true (show d.weight ≤ 2 ^ 20 by have := h.wt; omega)]
  rfl
theorem Sh.many {k w : Nat} : ∀ {xs : List PyData}, (∀ x ∈ xs, Sh x k w) → PyData.canLayAll0 xs = true ∧ PyData.intsShortAll 13 xs = true ∧ PyData.showableAll xs = true ∧ PyData.depthAll xs ≤ k ∧ PyData.weightAll xs ≤ xs.length * (w + 1)
  | [], _ => by
    refine ⟨by unfold PyData.canLayAll0; rfl, by unfold PyData.intsShortAll; rfl, by unfold PyData.showableAll; rfl, by unfold PyData.depthAll; omega, by unfold PyData.weightAll; omega⟩
  | x :: xs, h => by
    have hx := h x List.mem_cons_self
    obtain ⟨h1, h2, h3, h4, h5⟩ := Sh.many (xs := xs) fun y hy => h y (List.mem_cons_of_mem _ hy)
    refine ⟨?_, ?_, ?_, ?_, ?_⟩
    · unfold PyData.canLayAll0
      rw [hx.lay, h1]
      rfl
    · unfold PyData.intsShortAll
      rw [hx.shrt, h2]
      rfl
    · unfold PyData.showableAll
      rw [hx.show_, h3]
      rfl
    · unfold PyData.depthAll
      have := hx.dp
      omega
    · unfold PyData.weightAll
      have := hx.wt
      rw [List.length_cons, Nat.succ_mul]
      omega
theorem Sh.tup {k w n : Nat} {xs : List PyData} (h : ∀ x ∈ xs, Sh x k w) (l : xs.length ≤ n) : Sh (.tuple xs) (k + 1) (n * (w + 1)) := by
  obtain ⟨h1, h2, h3, h4, h5⟩ := Sh.many h
  have := Nat.mul_le_mul_right (w + 1) l
  refine ⟨by unfold PyData.canLay0; exact h1, by unfold PyData.intsShort; exact h2, by unfold PyData.showable; exact h3, by unfold PyData.depth; omega, by unfold PyData.weight; omega⟩
theorem Sh.lst {k w n : Nat} {xs : List PyData} (h : ∀ x ∈ xs, Sh x k w) (l : xs.length ≤ n) : Sh (.list xs) (k + 1) (n * (w + 1)) := by
  obtain ⟨h1, h2, h3, h4, h5⟩ := Sh.many h
  have := Nat.mul_le_mul_right (w + 1) l
  refine ⟨by unfold PyData.canLay0; exact h1, by unfold PyData.intsShort; exact h2, by unfold PyData.showable; exact h3, by unfold PyData.depth; omega, by unfold PyData.weight; omega⟩
theorem Sh.mono {d : PyData} {k w k' w' : Nat} (h : Sh d k w) (hk : k ≤ k') (hw : w ≤ w') : Sh d k' w' := ⟨h.lay, h.shrt, h.show_, Nat.le_trans h.dp hk, Nat.le_trans h.wt hw⟩
theorem log_small {n : Nat} (h : n < 8192) : n.log2 < 13 := by
  by_cases e : n = 0
  · subst e
    decide
  · exact (Nat.log2_lt e).mpr h
theorem Sh.int {n : Nat} (h : n < 8192) : Sh (.int (n : Nat)) 0 13 := by
  have l := log_small h
  refine ⟨by unfold PyData.canLay0; rfl, ?_, ?_, by unfold PyData.depth; omega, ?_⟩
  · unfold PyData.intsShort
    rw [decide_eq_true_eq]
    exact PyData.shown_int_le (by show n < 10 ^ 12; omega)
  · unfold PyData.showable
    rw [decide_eq_true_eq]
    show n.log2 < 1920
    omega
  · unfold PyData.weight
    split
    · omega
    · show n.log2 + 1 ≤ 13
      omega
theorem Sh.str {x : Str} (h : ∀ c ∈ x.cps.toList, c < 0x110000) (l : x.cps.size ≤ 13) : Sh (.str x) 0 13 := by
  refine ⟨?_, by unfold PyData.intsShort; rfl, by unfold PyData.showable; rfl, by unfold PyData.depth; omega, by unfold PyData.weight; exact l⟩
  unfold PyData.canLay0 PyData.strOk
  rw [Array.all_eq_true]
  intro i hi
  have := h _ (Array.getElem_mem_toList hi)
  simpa using this
def pLot (u : List Nat) : PyData := .tuple (u.map fun k => .int (k : Nat))
theorem pyL_map {α : Type} {f : α → D} {g : α → PyData} : ∀ {l : List α}, (∀ x ∈ l, py (f x) = some (g x)) → pyL (l.map f) = some (l.map g)
  | [], _ => by
    rw [List.map_nil, List.map_nil]
    unfold pyL
    rfl
  | a :: l, h => by
    rw [List.map_cons, List.map_cons]
    unfold pyL
    rw [h a List.mem_cons_self, pyL_map fun x hx => h x (List.mem_cons_of_mem _ hx)]
theorem py_lot (u : List Nat) : py (dLot u) = some (pLot u) := by
  unfold dLot dI py
  rw [List.map_map, pyL_map (g := fun k : Nat => PyData.int (k : Nat)) fun x _ => by
    show py (.int (x : Nat)) = _
    unfold py
    rfl]
  rfl
theorem py_lots (L : List (List Nat)) : py (.tup (L.map dLot)) = some (.tuple (L.map pLot)) := by
  unfold py
  rw [pyL_map fun x _ => py_lot x]
  rfl
theorem sh_lot {u : List Nat} {n : Nat} (h : ∀ k ∈ u, k < 8192) (l : u.length ≤ n) : Sh (pLot u) 1 (n * 14) := Sh.tup (fun x hx => by
  obtain ⟨k, hk, rfl⟩ := List.mem_map.mp hx
  exact Sh.int (h k hk)) (by rw [List.length_map]; exact l)
/-! the counts that the law compares -/
theorem if_ne_str {x y : Str} {X Y : Prop} (e : x = y) (h : Y) : if (!decide (x = y)) = true then X else Y := by
  subst e
  simpa using h
theorem put_id {μ : Mu} {a : Addr} {o : MO} (h : μ a = some o) : put μ a o = μ := by
  funext b
  unfold put
  split
  · rename_i e
    rw [e, h]
  · rfl
theorem OkT.web {p : List Nat} {ts : List Str} (h : OkT p ts) (hp : OkPlaces p) (l : ts.length ≤ 11) : OkWeb p ts := ⟨by have := hp.few; omega, l, h.ends.ties⟩
theorem py_int (i : Int) : py (.int i) = some (.int i) := by unfold py; rfl
theorem Sh.shaped {d : PyData} {k w : Nat} (h : Sh d k w) (hk : k ≤ 64) : SeqAt.shaped d = true := by
  unfold SeqAt.shaped
  rw [h.lay, decide_eq_true (Nat.le_trans h.dp hk)]
  rfl
theorem Sh.eqv {d : PyData} {k w : Nat} (h : Sh d k w) : (!PyData.eqv d d) = false := by
  rw [SeqAt.eqv_refl d h.lay]
  rfl
def g_L_right : GC := fun ds μ R => ∃ (a : Addr) (x y z : Int), ds = [.adr a] ∧ μ a = some (pot x y z) ∧ ∀ x y z : Int, R (.bl true) (put μ a (pot x y z))
end
end K10
set_option Elab.async false
set_option linter.all false
set_option maxRecDepth 100000
namespace K10
open PySem PySem.Spec PyProof.Rows L2 DL
/-! ### a tree there is -/
theorem step_same {p r : List Nat} {y : Nat × Nat} (e : r.getD (p.idxOf y.1) 0 = r.getD (p.idxOf y.2) 0) : stepM p r y = r := by
  unfold stepM
  rw [e]
  have : (fun x : Nat => if x = max (r.getD (p.idxOf y.2) 0) (r.getD (p.idxOf y.2) 0) then min (r.getD (p.idxOf y.2) 0) (r.getD (p.idxOf y.2) 0) else x) = fun x => x := by
    funext x
    split
    · rename_i h
      rw [h]
      omega
    · rfl
  show r.map (fun x : Nat => if x = max (r.getD (p.idxOf y.2) 0) (r.getD (p.idxOf y.2) 0) then min (r.getD (p.idxOf y.2) 0) (r.getD (p.idxOf y.2) 0) else x) = r
  rw [this, List.map_id']
theorem step_up {p r : List Nat} (u : p.Pairwise (· ≠ ·)) (h : Roots p r) {y : Nat × Nat} (h1 : y.1 ∈ p) (h2 : y.2 ∈ p) (ne : r.getD (p.idxOf y.1) 0 ≠ r.getD (p.idxOf y.2) 0) : nonFix r p + 1 ≤ nonFix (stepM p r y) p := by
  have e1 := fix_count r p h.len
  have hs := h.step h1 h2
  have e2 := fix_count (stepM p r y) p hs.len
  rw [← fixes_len u h.len] at e1
  rw [← fixes_len u hs.len] at e2
  have l1 : p.idxOf y.1 < r.length := by rw [h.len]; exact List.idxOf_lt_length_of_mem h1
  have l2 : p.idxOf y.2 < r.length := by rw [h.len]; exact List.idxOf_lt_length_of_mem h2
  obtain ⟨a1, a2⟩ := h.own _ (getD_in l1)
  obtain ⟨b1, b2⟩ := h.own _ (getD_in l2)
  have key : ∀ c, c ∈ p → (stepM p r y).getD (p.idxOf c) 0 = (fun x => if x = max (r.getD (p.idxOf y.1) 0) (r.getD (p.idxOf y.2) 0) then min (r.getD (p.idxOf y.1) 0) (r.getD (p.idxOf y.2) 0) else x) (r.getD (p.idxOf c) 0) := fun c hc => by
    unfold stepM
    exact getD_map_ne (by rw [h.len]; exact List.idxOf_lt_length_of_mem hc)
  generalize r.getD (p.idxOf y.1) 0 = a at *
  generalize r.getD (p.idxOf y.2) 0 = b at *
  have mx : max a b ∈ p ∧ r.getD (p.idxOf (max a b)) 0 = max a b := by
    rcases Nat.le_total a b with q | q
    · rw [Nat.max_eq_right q]
      exact ⟨b1, b2⟩
    · rw [Nat.max_eq_left q]
      exact ⟨a1, a2⟩
  have mn : r.getD (p.idxOf (min a b)) 0 = min a b := by
    rcases Nat.le_total a b with q | q
    · rw [Nat.min_eq_left q]
      exact a2
    · rw [Nat.min_eq_right q]
      exact b2
  have lt : min a b < max a b := by omega
  have un : p.Nodup := u
  have := nodup_le (l := max a b :: fixes (stepM p r y) p) (m := fixes r p) (by
    refine List.nodup_cons.mpr ⟨fun hm => ?_, un.filter _⟩
    obtain ⟨k1, k2⟩ := List.mem_filter.mp hm
    have k2 := of_decide_eq_true k2
    rw [key _ k1, mx.2] at k2
    have k2 : (if max a b = max a b then min a b else max a b) = max a b := k2
    rw [if_pos rfl] at k2
    omega) (fun c hc => by
    rcases List.mem_cons.mp hc with e | hc
    · rw [e]
      exact List.mem_filter.mpr ⟨mx.1, decide_eq_true mx.2⟩
    · obtain ⟨k1, k2⟩ := List.mem_filter.mp hc
      have k2 := of_decide_eq_true k2
      rw [key _ k1] at k2
      have k2 : (if r.getD (p.idxOf c) 0 = max a b then min a b else r.getD (p.idxOf c) 0) = c := k2
      refine List.mem_filter.mpr ⟨k1, decide_eq_true ?_⟩
      by_cases e : r.getD (p.idxOf c) 0 = max a b
      · rw [if_pos e] at k2
        rw [← k2, mn] at e
        omega
      · rwa [if_neg e] at k2)
  rw [List.length_cons] at this
  omega
theorem ties_snoc (ts : List Str) (lot : List Nat) (i : Nat) : tiesOf ts (lot ++ [i]) = tiesOf ts lot ++ [ends (ts.getD i Str.empty)] := by
  unfold tiesOf
  rw [List.map_append]
  rfl
end K10
set_option Elab.async false
set_option linter.all false
set_option maxRecDepth 100000
namespace K10
open PySem PySem.Spec PyProof.Rows L2 DL
/-! ### marks tell what is joined, whatever the order of the ties -/
def markOf (p r : List Nat) (a : Nat) : Nat := r.getD (p.idxOf a) 0
inductive Conn (ys : List (Nat × Nat)) : Nat → Nat → Prop
  | refl (a : Nat) : Conn ys a a
  | tie {y : Nat × Nat} (h : y ∈ ys) : Conn ys y.1 y.2
  | symm {a b : Nat} (h : Conn ys a b) : Conn ys b a
  | trans {a b c : Nat} (h : Conn ys a b) (k : Conn ys b c) : Conn ys a c
theorem Conn.mono {ys zs : List (Nat × Nat)} (s : ∀ y ∈ ys, y ∈ zs) {a b : Nat} (h : Conn ys a b) : Conn zs a b := by
  induction h with
  | refl a => exact .refl a
  | tie h => exact .tie (s _ h)
  | symm _ ih => exact ih.symm
  | trans _ _ i1 i2 => exact i1.trans i2
theorem mark_step {p r : List Nat} (hl : r.length = p.length) {y : Nat × Nat} {a : Nat} (ha : a ∈ p) :
    markOf p (stepM p r y) a = if markOf p r a = max (markOf p r y.1) (markOf p r y.2) then min (markOf p r y.1) (markOf p r y.2) else markOf p r a := by
  unfold markOf stepM
  rw [getD_map_ne (by rw [hl]; exact List.idxOf_lt_length_of_mem ha)]
theorem mark_self {p : List Nat} {a : Nat} (ha : a ∈ p) : markOf p p a = a := by
  unfold markOf
  rw [List.getD_eq_getElem?_getD, List.getElem?_eq_getElem (List.idxOf_lt_length_of_mem ha), List.getElem_idxOf]
  rfl
theorem marks_len (p : List Nat) (ys : List (Nat × Nat)) : (marksL p ys).length = p.length := foldl_len p ys p
theorem snoc_ind {α : Type} {P : List α → Prop} (h0 : P []) (h1 : ∀ l a, P l → P (l ++ [a])) : ∀ l, P l := fun l => by
  have : ∀ (n : Nat) (l : List α), l.length = n → P l := by
    intro n
    induction n with
    | zero => intro l hl; rw [List.eq_nil_of_length_eq_zero hl]; exact h0
    | succ n ih =>
      intro l hl
      have hn : l ≠ [] := fun e => by rw [e] at hl; cases hl
      rw [← List.dropLast_concat_getLast hn]
      exact h1 _ _ (ih _ (by rw [List.length_dropLast, hl]; rfl))
  exact this l.length l rfl
def InP (p : List Nat) (ys : List (Nat × Nat)) : Prop := ∀ y ∈ ys, y.1 ∈ p ∧ y.2 ∈ p
theorem InP.left {p : List Nat} {ys : List (Nat × Nat)} {y : Nat × Nat} (h : InP p (ys ++ [y])) : InP p ys := fun z hz => h z (List.mem_append.mpr (.inl hz))
theorem InP.last {p : List Nat} {ys : List (Nat × Nat)} {y : Nat × Nat} (h : InP p (ys ++ [y])) : y.1 ∈ p ∧ y.2 ∈ p := h y (List.mem_append.mpr (.inr (List.mem_singleton.mpr rfl)))
/-- ties join their ends -/
theorem tie_marks {p : List Nat} : ∀ ys, InP p ys → ∀ y ∈ ys, markOf p (marksL p ys) y.1 = markOf p (marksL p ys) y.2 := by
  refine snoc_ind (P := fun ys => InP p ys → ∀ y ∈ ys, markOf p (marksL p ys) y.1 = markOf p (marksL p ys) y.2) (fun _ y hy => by cases hy) ?_
  intro ys z ih hp y hy
  obtain ⟨m1, m2⟩ := hp y hy
  rw [marksL_snoc, mark_step (marks_len p ys) m1, mark_step (marks_len p ys) m2]
  rcases List.mem_append.mp hy with q | q
  · rw [ih hp.left y q]
  · rw [List.mem_singleton.mp q]
    generalize markOf p (marksL p ys) z.1 = a
    generalize markOf p (marksL p ys) z.2 = b
    split <;> split <;> omega
theorem conn_marks {p : List Nat} {ys : List (Nat × Nat)} (hp : InP p ys) {a b : Nat} (h : Conn ys a b) : markOf p (marksL p ys) a = markOf p (marksL p ys) b := by
  induction h with
  | refl a => rfl
  | tie h => exact tie_marks ys hp _ h
  | symm _ ih => exact ih.symm
  | trans _ _ i1 i2 => exact i1.trans i2
theorem marks_conn {p : List Nat} : ∀ ys, InP p ys → ∀ a b, a ∈ p → b ∈ p → markOf p (marksL p ys) a = markOf p (marksL p ys) b → Conn ys a b := by
  refine snoc_ind (P := fun ys => InP p ys → ∀ a b, a ∈ p → b ∈ p → markOf p (marksL p ys) a = markOf p (marksL p ys) b → Conn ys a b) ?_ ?_
  · intro _ a b ha hb e
    have e : markOf p p a = markOf p p b := e
    rw [mark_self ha, mark_self hb] at e
    rw [e]
    exact .refl b
  · intro ys z ih hp a b ha hb e
    have sub : ∀ y ∈ ys, y ∈ ys ++ [z] := fun y hy => List.mem_append.mpr (.inl hy)
    obtain ⟨z1, z2⟩ := hp.last
    have hz : Conn (ys ++ [z]) z.1 z.2 := .tie (List.mem_append.mpr (.inr (List.mem_singleton.mpr rfl)))
    rw [marksL_snoc, mark_step (marks_len p ys) ha, mark_step (marks_len p ys) hb] at e
    have key : ∀ c d, c ∈ p → d ∈ p → markOf p (marksL p ys) c = markOf p (marksL p ys) d → Conn (ys ++ [z]) c d := fun c d hc hd h => (ih hp.left c d hc hd h).mono sub
    have ka1 := key a z.1 ha z1
    have ka2 := key a z.2 ha z2
    have kb1 := key b z.1 hb z1
    have kb2 := key b z.2 hb z2
    have kab := key a b ha hb
    generalize markOf p (marksL p ys) a = x at e ka1 ka2 kab
    generalize markOf p (marksL p ys) b = y at e kb1 kb2 kab
    generalize markOf p (marksL p ys) z.1 = m at e ka1 ka2 kb1 kb2
    generalize markOf p (marksL p ys) z.2 = n at e ka1 ka2 kb1 kb2
    by_cases exy : x = y
    · exact kab exy
    · have h : (x = m ∧ y = n) ∨ (x = n ∧ y = m) := by
        split at e <;> split at e <;> omega
      rcases h with ⟨h1, h2⟩ | ⟨h1, h2⟩
      · exact ((ka1 h1).trans hz).trans (kb2 h2).symm
      · exact ((ka2 h1).trans hz.symm).trans (kb1 h2).symm
theorem mark_le {p : List Nat} : ∀ ys, InP p ys → ∀ a ∈ p, markOf p (marksL p ys) a ≤ a := by
  refine snoc_ind (P := fun ys => InP p ys → ∀ a ∈ p, markOf p (marksL p ys) a ≤ a) (fun _ a ha => by show markOf p p a ≤ a; rw [mark_self ha]; exact Nat.le_refl _) ?_
  intro ys z ih hp a ha
  rw [marksL_snoc, mark_step (marks_len p ys) ha]
  have := ih hp.left a ha
  split <;> omega
theorem mark_root {p : List Nat} (u : p.Pairwise (· ≠ ·)) {ys : List (Nat × Nat)} (hp : InP p ys) {a : Nat} (ha : a ∈ p) : markOf p (marksL p ys) a ∈ p ∧ markOf p (marksL p ys) (markOf p (marksL p ys) a) = markOf p (marksL p ys) a :=
  (roots_marks u hp).own _ (getD_in (by rw [marks_len]; exact List.idxOf_lt_length_of_mem ha))
/-- the marks hang on what is joined alone -/
theorem same_marks {p : List Nat} (u : p.Pairwise (· ≠ ·)) {ys zs : List (Nat × Nat)} (hy : InP p ys) (hz : InP p zs) (h1 : ∀ y ∈ ys, y ∈ zs) (h2 : ∀ y ∈ zs, y ∈ ys) : marksL p ys = marksL p zs := by
  have le : ∀ {ys zs : List (Nat × Nat)}, InP p ys → InP p zs → (∀ y ∈ ys, y ∈ zs) → ∀ a ∈ p, markOf p (marksL p zs) a ≤ markOf p (marksL p ys) a := fun {ys zs} hy hz s a ha => by
    obtain ⟨r1, r2⟩ := mark_root u hy ha
    have c := (marks_conn ys hy a _ ha r1 r2.symm).mono s
    rw [conn_marks hz c]
    exact mark_le zs hz _ r1
  apply List.ext_getElem (by rw [marks_len, marks_len])
  intro i h3 h4
  have hi : i < p.length := by rwa [marks_len] at h3
  have e := Nat.le_antisymm (le hz hy h2 p[i] (List.getElem_mem hi)) (le hy hz h1 p[i] (List.getElem_mem hi))
  unfold markOf at e
  rw [idx_get u hi, List.getD_eq_getElem?_getD, List.getD_eq_getElem?_getD, List.getElem?_eq_getElem h3, List.getElem?_eq_getElem h4] at e
  exact e
/-! ### ranks of lots in any order -/
def Ends (p : List Nat) (ts : List Str) : Prop := ∀ y ∈ ts, (ends y).1 ∈ p ∧ (ends y).2 ∈ p
theorem ties_in {p : List Nat} {ts : List Str} (he : Ends p ts) {v : List Nat} (hv : ∀ k ∈ v, k < ts.length) : InP p (tiesOf ts v) := fun y hy => by
  obtain ⟨i, hi, e⟩ := List.mem_map.mp hy
  have hi2 := hv i hi
  have : ts.getD i Str.empty = ts[i] := by rw [List.getD_eq_getElem?_getD, List.getElem?_eq_getElem hi2]; rfl
  rw [← e, this]
  exact he _ (List.getElem_mem _)
theorem lot_marks {p : List Nat} (u : p.Pairwise (· ≠ ·)) {ts : List Str} (he : Ends p ts) {v w : List Nat} (hv : ∀ k ∈ v, k < ts.length) (hw : ∀ k ∈ w, k < ts.length) (h1 : ∀ k ∈ v, k ∈ w) (h2 : ∀ k ∈ w, k ∈ v) : marksL p (tiesOf ts v) = marksL p (tiesOf ts w) := by
  refine same_marks u (ties_in he hv) (ties_in he hw) (fun y hy => ?_) (fun y hy => ?_)
  · obtain ⟨i, hi, e⟩ := List.mem_map.mp hy
    exact List.mem_map.mpr ⟨i, h1 i hi, e⟩
  · obtain ⟨i, hi, e⟩ := List.mem_map.mp hy
    exact List.mem_map.mpr ⟨i, h2 i hi, e⟩
theorem lot_rank {p : List Nat} (u : p.Pairwise (· ≠ ·)) {ts : List Str} (he : Ends p ts) {v w : List Nat} (hv : ∀ k ∈ v, k < ts.length) (hw : ∀ k ∈ w, k < ts.length) (h1 : ∀ k ∈ v, k ∈ w) (h2 : ∀ k ∈ w, k ∈ v) : rankOf p ts v = rankOf p ts w := by
  show nonFix (marksL p (tiesOf ts v)) p = nonFix (marksL p (tiesOf ts w)) p
  rw [lot_marks u he hv hw h1 h2]
/-- whether a tie's ends are not joined by a lot -/
def partsL (p : List Nat) (ts : List Str) (v : List Nat) (k : Nat) : Bool := decide (markOf p (marksL p (tiesOf ts v)) (ends (ts.getD k Str.empty)).1 ≠ markOf p (marksL p (tiesOf ts v)) (ends (ts.getD k Str.empty)).2)
theorem rank_more {p : List Nat} (u : p.Pairwise (· ≠ ·)) {ts : List Str} (he : Ends p ts) {v : List Nat} {k : Nat} (hv : ∀ j ∈ v, j < ts.length) (hk : k < ts.length) : rankOf p ts (v ++ [k]) = rankOf p ts v + if partsL p ts v k = true then 1 else 0 := by
  have et : ts.getD k Str.empty = ts[k] := by rw [List.getD_eq_getElem?_getD, List.getElem?_eq_getElem hk]; rfl
  obtain ⟨m1, m2⟩ := he _ (List.getElem_mem hk)
  show nonFix (marksL p (tiesOf ts (v ++ [k]))) p = nonFix (marksL p (tiesOf ts v)) p + _
  rw [ties_snoc, marksL_snoc]
  by_cases c : markOf p (marksL p (tiesOf ts v)) (ends (ts.getD k Str.empty)).1 = markOf p (marksL p (tiesOf ts v)) (ends (ts.getD k Str.empty)).2
  · have hf : partsL p ts v k = false := decide_eq_false (fun h => h c)
    rw [hf, step_same c]
    rfl
  · have hf : partsL p ts v k = true := decide_eq_true c
    rw [hf, if_pos rfl]
    refine Nat.le_antisymm ?_ ?_
    · have := nonFix_step u (marksL p (tiesOf ts v)) (ends (ts.getD k Str.empty))
      exact this
    · rw [et] at c ⊢
      exact step_up u (roots_marks u (ties_in he hv)) m1 m2 c
/-! ### trees, and exchanges -/
structure IsTree (p : List Nat) (ts : List Str) (r : Nat) (v : List Nat) : Prop where
  asc : v.Pairwise (· < ·)
  few : ∀ k ∈ v, k < ts.length
  len : v.length = r
  rank : rankOf p ts v = r
theorem IsTree.nodup {p : List Nat} {ts : List Str} {r : Nat} {v : List Nat} (h : IsTree p ts r v) : v.Nodup := h.asc.imp fun h => Nat.ne_of_lt h
theorem lots_all : ∀ (n : Nat) (v : List Nat), v.Pairwise (· < ·) → (∀ k ∈ v, k < n) → v ∈ lotsL n
  | 0, v, _, h => by
    have : v = [] := List.eq_nil_iff_forall_not_mem.mpr fun k hk => Nat.not_lt_zero _ (h k hk)
    rw [this]
    exact List.mem_singleton.mpr rfl
  | n + 1, v, ha, h => by
    by_cases hn : n ∈ v
    · have ne : v ≠ [] := fun e => by rw [e] at hn; cases hn
      have ev := List.dropLast_concat_getLast ne
      have hl := h _ (List.getLast_mem ne)
      rw [← ev, List.pairwise_append] at ha
      have last : v.getLast ne = n := by
        rw [← ev] at hn
        rcases List.mem_append.mp hn with q | q
        · have := ha.2.2 n q _ (List.mem_singleton.mpr rfl)
          omega
        · exact (List.mem_singleton.mp q).symm
      refine List.mem_append.mpr (.inr (List.mem_map.mpr ⟨v.dropLast, lots_all n _ ha.1 (fun k hk => ?_), by rw [← last]; exact ev⟩))
      have := ha.2.2 k hk _ (List.mem_singleton.mpr rfl)
      omega
    · refine List.mem_append.mpr (.inl (lots_all n v ha fun k hk => ?_))
      have := h k hk
      have : k ≠ n := fun e => hn (e ▸ hk)
      omega
def wout (v : List Nat) (o : Nat) : List Nat := v.filter fun k => decide (k ≠ o)
theorem wout_mem {v : List Nat} {o k : Nat} : k ∈ wout v o ↔ k ∈ v ∧ k ≠ o := by
  unfold wout
  rw [List.mem_filter, decide_eq_true_eq]
theorem wout_len {v : List Nat} (u : v.Nodup) {o : Nat} (ho : o ∈ v) : (wout v o).length + 1 = v.length := by
  have e : (wout v o).length + 1 = (o :: wout v o).length := rfl
  rw [e]
  refine nodup_same (List.nodup_cons.mpr ⟨fun h => (wout_mem.mp h).2 rfl, u.filter _⟩) u fun x => ?_
  rw [List.mem_cons, wout_mem]
  constructor
  · rintro (rfl | h)
    · exact ho
    · exact h.1
  · intro h
    by_cases e : x = o
    · exact .inl e
    · exact .inr ⟨h, e⟩
section
variable {p : List Nat} {ts : List Str} {r : Nat}
theorem IsTree.less (u : p.Pairwise (· ≠ ·)) (he : Ends p ts) {v : List Nat} (h : IsTree p ts r v) {o : Nat} (ho : o ∈ v) : rankOf p ts (wout v o) + 1 = r ∧ partsL p ts (wout v o) o = true := by
  have hf : ∀ k ∈ wout v o, k < ts.length := fun k hk => h.few k (wout_mem.mp hk).1
  have e : rankOf p ts (wout v o ++ [o]) = r := by
    rw [← h.rank]
    refine lot_rank u he (fun k hk => ?_) h.few (fun k hk => ?_) (fun k hk => ?_)
    · rcases List.mem_append.mp hk with q | q
      · exact hf k q
      · rw [List.mem_singleton.mp q]; exact h.few o ho
    · rcases List.mem_append.mp hk with q | q
      · exact (wout_mem.mp q).1
      · rw [List.mem_singleton.mp q]; exact ho
    · by_cases e : k = o
      · exact List.mem_append.mpr (.inr (List.mem_singleton.mpr e))
      · exact List.mem_append.mpr (.inl (wout_mem.mpr ⟨hk, e⟩))
  rw [rank_more u he hf (h.few o ho)] at e
  have h1 := rank_le u ts (wout v o)
  have h2 := wout_len h.nodup ho
  have h3 := h.len
  cases c : partsL p ts (wout v o) o with
  | true => rw [c, if_pos rfl] at e; exact ⟨e, rfl⟩
  | false => rw [c] at e; simp at e; omega
/-- the other ties -/
def outs (v : List Nat) (n : Nat) : List Nat := (List.range n).filter fun k => decide (k ∉ v)
end
end K10
set_option Elab.async false
set_option linter.all false
set_option maxRecDepth 100000
namespace K10
open PySem PySem.Spec PyProof.Rows L2 DL
section
variable {P : Program} {w : World} {K : PySem.W.Frag} {mg : Str → Option Value} {base : Heap} {A : Ad}
/-! ### lots with a condition -/
theorem OkWeb.ends {p : List Nat} {ts : List Str} (ok : OkWeb p ts) : Ends p ts := fun y hy => (ok.ties y hy).2
end
end K10
set_option Elab.async false
set_option linter.all false
set_option maxRecDepth 100000
namespace K10
open DL
/-! ### ranks alone: early and late elements, and all lots (Crapo, Tutte) -/
def Lt (n : Nat) (v : List Nat) : Prop := ∀ k ∈ v, k < n
structure Mat (n : Nat) (ρ : List Nat → Nat) : Prop where
  nil : ρ [] = 0
  mem : ∀ v w, Lt n v → Lt n w → (∀ k, k ∈ v ↔ k ∈ w) → ρ v = ρ w
  step : ∀ v k, Lt n v → k < n → ρ (v ++ [k]) = ρ v ∨ ρ (v ++ [k]) = ρ v + 1
  clo : ∀ v w k, Lt n v → Lt n w → (∀ j ∈ v, j ∈ w) → k < n → ρ (v ++ [k]) = ρ v → ρ (w ++ [k]) = ρ w
theorem Lt.snoc {n : Nat} {v : List Nat} (h : Lt n v) {k : Nat} (hk : k < n) : Lt n (v ++ [k]) := fun j hj => by
  rcases List.mem_append.mp hj with q | q
  · exact h j q
  · rw [List.mem_singleton.mp q]; exact hk
theorem Lt.up {n : Nat} {v : List Nat} (h : Lt n v) : Lt (n + 1) v := fun j hj => Nat.lt_succ_of_lt (h j hj)
theorem Lt.wout {n : Nat} {v : List Nat} (h : Lt n v) (o : Nat) : Lt n (wout v o) := fun j hj => h j (wout_mem.mp hj).1
theorem lt_range (n : Nat) : Lt n (List.range n) := fun k hk => List.mem_range.mp hk
theorem lt_nil (n : Nat) : Lt n [] := fun k hk => (List.not_mem_nil hk).elim
section
variable {n : Nat} {ρ : List Nat → Nat}
theorem Mat.le (M : Mat n ρ) {v : List Nat} (hv : Lt n v) {k : Nat} (hk : k < n) : ρ v ≤ ρ (v ++ [k]) := by
  rcases M.step v k hv hk with h | h <;> omega
theorem Mat.le1 (M : Mat n ρ) {v : List Nat} (hv : Lt n v) {k : Nat} (hk : k < n) : ρ (v ++ [k]) ≤ ρ v + 1 := by
  rcases M.step v k hv hk with h | h <;> omega
theorem Mat.app (M : Mat n ρ) (v : List Nat) (hv : Lt n v) : ∀ w : List Nat, Lt n w → ρ v ≤ ρ (v ++ w) := by
  refine snoc_ind (P := fun w => Lt n w → ρ v ≤ ρ (v ++ w)) (fun _ => by rw [List.append_nil]; exact Nat.le_refl _) ?_
  intro w k ih hw
  have h1 := ih fun j hj => hw j (List.mem_append.mpr (.inl hj))
  rw [← List.append_assoc]
  exact Nat.le_trans h1 (M.le (fun j hj => (List.mem_append.mp hj).elim (hv j) fun q => hw j (List.mem_append.mpr (.inl q))) (hw k (List.mem_append.mpr (.inr (List.mem_singleton.mpr rfl)))))
theorem Mat.sub (M : Mat n ρ) {v w : List Nat} (hv : Lt n v) (hw : Lt n w) (s : ∀ k ∈ v, k ∈ w) : ρ v ≤ ρ w := by
  have h := M.app v hv w hw
  rw [M.mem (v ++ w) w (fun j hj => (List.mem_append.mp hj).elim (hv j) (hw j)) hw fun k => ⟨fun h => (List.mem_append.mp h).elim (s k) id, fun h => List.mem_append.mpr (.inr h)⟩] at h
  exact h
theorem Mat.full (M : Mat n ρ) {v : List Nat} (hv : Lt n v) : ρ v ≤ ρ (List.range n) := M.sub hv (lt_range n) fun k hk => List.mem_range.mpr (hv k hk)
theorem Mat.len (M : Mat n ρ) : ∀ v : List Nat, Lt n v → ρ v ≤ v.length := by
  refine snoc_ind (P := fun v => Lt n v → ρ v ≤ v.length) (fun _ => by rw [M.nil]; exact Nat.zero_le _) ?_
  intro v k ih hv
  have h0 : Lt n v := fun j hj => hv j (List.mem_append.mpr (.inl hj))
  have h1 := M.le1 h0 (hv k (List.mem_append.mpr (.inr (List.mem_singleton.mpr rfl))))
  have h2 := ih h0
  rw [List.length_append, List.length_singleton]
  omega
/-- what adds nothing one by one, adds nothing at all -/
theorem Mat.same (M : Mat n ρ) (v : List Nat) (hv : Lt n v) : ∀ w : List Nat, Lt n w → (∀ k ∈ w, ρ (v ++ [k]) = ρ v) → ρ (v ++ w) = ρ v := by
  refine snoc_ind (P := fun w => Lt n w → (∀ k ∈ w, ρ (v ++ [k]) = ρ v) → ρ (v ++ w) = ρ v) (fun _ _ => by rw [List.append_nil]) ?_
  intro w k ih hw h
  have hw0 : Lt n w := fun j hj => hw j (List.mem_append.mpr (.inl hj))
  have hk : k < n := hw k (List.mem_append.mpr (.inr (List.mem_singleton.mpr rfl)))
  have e := ih hw0 fun j hj => h j (List.mem_append.mpr (.inl hj))
  rw [← List.append_assoc, M.clo v (v ++ w) k hv (fun j hj => (List.mem_append.mp hj).elim (hv j) (hw0 j)) (fun j hj => List.mem_append.mpr (.inl hj)) hk (h k (List.mem_append.mpr (.inr (List.mem_singleton.mpr rfl))))]
  exact e
theorem Mat.down (M : Mat (n + 1) ρ) : Mat n ρ :=
  ⟨M.nil, fun v w hv hw => M.mem v w hv.up hw.up, fun v k hv hk => M.step v k hv.up (Nat.lt_succ_of_lt hk), fun v w k hv hw s hk => M.clo v w k hv.up hw.up s (Nat.lt_succ_of_lt hk)⟩
theorem Mat.swap (M : Mat n ρ) {v : List Nat} (hv : Lt n v) {j k : Nat} (hj : j < n) (hk : k < n) : ρ (v ++ [j] ++ [k]) = ρ (v ++ [k] ++ [j]) :=
  M.mem _ _ ((hv.snoc hj).snoc hk) ((hv.snoc hk).snoc hj) fun i => by simp only [List.mem_append, List.mem_singleton]; constructor <;> (rintro ((h | h) | h) <;> simp [h])
/-- the last element shut -/
def shutR (ρ : List Nat → Nat) (n : Nat) : List Nat → Nat := fun v => ρ (v ++ [n]) - ρ [n]
theorem Mat.shut_eq (M : Mat (n + 1) ρ) {v : List Nat} (hv : Lt n v) : ρ (v ++ [n]) = shutR ρ n v + ρ [n] := by
  have h : ρ [n] ≤ ρ (v ++ [n]) := M.sub (fun k hk => by rw [List.mem_singleton.mp hk]; exact Nat.lt_succ_self n) (hv.up.snoc (Nat.lt_succ_self n)) fun k hk => List.mem_append.mpr (.inr hk)
  unfold shutR
  omega
theorem Mat.shut (M : Mat (n + 1) ρ) : Mat n (shutR ρ n) := by
  have hn : n < n + 1 := Nat.lt_succ_self n
  refine ⟨by unfold shutR; rw [List.nil_append]; omega, fun v w hv hw h => ?_, fun v k hv hk => ?_, fun v w k hv hw s hk h => ?_⟩
  · unfold shutR
    rw [M.mem (v ++ [n]) (w ++ [n]) (hv.up.snoc hn) (hw.up.snoc hn) fun k => by rw [List.mem_append, List.mem_append, h k]]
  · have e1 := M.shut_eq hv
    have e2 := M.shut_eq (hv.snoc hk)
    rw [M.swap hv.up (Nat.lt_succ_of_lt hk) hn] at e2
    rcases M.step (v ++ [n]) k (hv.up.snoc hn) (Nat.lt_succ_of_lt hk) with h | h
    · left; omega
    · right; omega
  · have e1 := M.shut_eq hv
    have e2 := M.shut_eq (hv.snoc hk)
    have e3 := M.shut_eq hw
    have e4 := M.shut_eq (hw.snoc hk)
    rw [M.swap hv.up (Nat.lt_succ_of_lt hk) hn] at e2
    rw [M.swap hw.up (Nat.lt_succ_of_lt hk) hn] at e4
    have := M.clo (v ++ [n]) (w ++ [n]) k (hv.up.snoc hn) (hw.up.snoc hn) (fun j hj => (List.mem_append.mp hj).elim (fun q => List.mem_append.mpr (.inl (s j q))) fun q => List.mem_append.mpr (.inr q)) (Nat.lt_succ_of_lt hk) (by omega)
    omega
end
/-! ### trees, exchanges -/
def full (ρ : List Nat → Nat) (n : Nat) : Nat := ρ (List.range n)
def treesR (ρ : List Nat → Nat) (n : Nat) : List (List Nat) := (lotsL n).filter fun v => decide (v.length = ρ v ∧ ρ v = full ρ n)
/-- o of the tree is exchanged with k -/
def exch (ρ : List Nat → Nat) (n : Nat) (v : List Nat) (o k : Nat) : Prop := ρ (wout v o ++ [k]) = full ρ n
instance (ρ : List Nat → Nat) (n : Nat) (v : List Nat) (o k : Nat) : Decidable (exch ρ n v o k) := by unfold exch; infer_instance
def earlyB (ρ : List Nat → Nat) (n : Nat) (v : List Nat) (o : Nat) : Bool := decide (∀ k ∈ outs v n, exch ρ n v o k → o < k)
def lateB (ρ : List Nat → Nat) (n : Nat) (v : List Nat) (k : Nat) : Bool := decide (∀ o ∈ v, exch ρ n v o k → k < o)
def nEarly (ρ : List Nat → Nat) (n : Nat) (v : List Nat) : Nat := (v.filter (earlyB ρ n v)).length
def nLate (ρ : List Nat → Nat) (n : Nat) (v : List Nat) : Nat := ((outs v n).filter (lateB ρ n v)).length
theorem outs_mem {v : List Nat} {n k : Nat} : k ∈ outs v n ↔ k < n ∧ k ∉ v := by
  unfold outs
  rw [List.mem_filter, List.mem_range, decide_eq_true_eq]
structure TreeR (ρ : List Nat → Nat) (n : Nat) (v : List Nat) : Prop where
  asc : v.Pairwise (· < ·)
  lt : Lt n v
  len : v.length = ρ v
  top : ρ v = full ρ n
theorem treesR_mem {ρ : List Nat → Nat} {n : Nat} {v : List Nat} : v ∈ treesR ρ n ↔ TreeR ρ n v := by
  unfold treesR
  rw [List.mem_filter, decide_eq_true_eq]
  constructor
  · rintro ⟨h1, h2, h3⟩
    obtain ⟨a, b, c⟩ := lots_in n v h1
    exact ⟨c, a, h2, h3⟩
  · intro h
    exact ⟨lots_all n v h.asc h.lt, h.len, h.top⟩
section
variable {n : Nat} {ρ : List Nat → Nat}
theorem TreeR.nodup {v : List Nat} (h : TreeR ρ n v) : v.Nodup := h.asc.imp fun h => Nat.ne_of_lt h
theorem wout_back (M : Mat n ρ) {v : List Nat} (hv : Lt n v) {o : Nat} (ho : o ∈ v) : ρ (wout v o ++ [o]) = ρ v :=
  M.mem _ _ ((hv.wout o).snoc (hv o ho)) hv fun k => by
    rw [List.mem_append, List.mem_singleton, wout_mem]
    constructor
    · rintro (h | h)
      · exact h.1
      · rw [h]; exact ho
    · intro h
      by_cases e : k = o
      · exact .inr e
      · exact .inl ⟨h, e⟩
theorem TreeR.less (M : Mat n ρ) {v : List Nat} (h : TreeR ρ n v) {o : Nat} (ho : o ∈ v) : ρ (wout v o) + 1 = full ρ n := by
  have h1 := M.len _ (h.lt.wout o)
  have h2 := wout_len h.nodup ho
  have h3 := wout_back M h.lt ho
  have h4 := M.le1 (h.lt.wout o) (h.lt o ho)
  have h5 := h.len
  have h6 := h.top
  omega
/-- a tree has no element that adds nothing -/
theorem drop1 (M : Mat n ρ) {v W : List Nat} (h : TreeR ρ n v) (s : ∀ k ∈ W, k ∈ v) {f e : Nat} (hf : f ∈ W) (he : e < n) (c : ρ (W ++ [e]) = ρ W) (d : ¬ exch ρ n v f e) : ρ (wout W f ++ [e]) = ρ (wout W f) := by
  have hW : Lt n W := fun k hk => h.lt k (s k hk)
  have fv := s f hf
  have fn := h.lt f fv
  rcases M.step (wout W f) e (hW.wout f) he with q | q
  · exact q
  · exfalso
    have e1 : ρ (wout W f ++ [e] ++ [f]) = ρ W := by
      rw [M.swap (hW.wout f) he fn, ← c]
      refine M.mem _ _ (((hW.wout f).snoc fn).snoc he) (hW.snoc he) fun k => ?_
      simp only [List.mem_append, List.mem_singleton, wout_mem]
      constructor
      · rintro ((h | h) | h)
        · exact .inl h.1
        · rw [h]; exact .inl hf
        · exact .inr h
      · rintro (h | h)
        · by_cases e : k = f
          · exact .inl (.inr e)
          · exact .inl (.inl ⟨h, e⟩)
        · exact .inr h
    have e2 := M.le1 (hW.wout f) fn
    rw [wout_back M hW hf] at e2
    have e3 := M.le ((hW.wout f).snoc he) fn
    have e4 : ρ (wout W f ++ [e] ++ [f]) = ρ (wout W f ++ [e]) := by omega
    have e5 := M.clo _ (wout v f ++ [e]) f ((hW.wout f).snoc he) ((h.lt.wout f).snoc he) (fun k hk => by
      rcases List.mem_append.mp hk with q | q
      · obtain ⟨q1, q2⟩ := wout_mem.mp q
        exact List.mem_append.mpr (.inl (wout_mem.mpr ⟨s k q1, q2⟩))
      · exact List.mem_append.mpr (.inr q)) fn e4
    have e6 : ρ v ≤ ρ (wout v f ++ [e] ++ [f]) := M.sub h.lt (((h.lt.wout f).snoc he).snoc fn) fun k hk => by
      by_cases e : k = f
      · exact List.mem_append.mpr (.inr (List.mem_singleton.mpr e))
      · exact List.mem_append.mpr (.inl (List.mem_append.mpr (.inl (wout_mem.mpr ⟨hk, e⟩))))
    have e7 := M.full ((h.lt.wout f).snoc he)
    have e8 := h.top
    exact d (by unfold exch full at *; omega)
/-- an element that is no loop comes in for some element of each tree -/
theorem some_out (M : Mat n ρ) {v : List Nat} (h : TreeR ρ n v) {e : Nat} (he : e < n) (ev : ρ (v ++ [e]) = ρ v) (nl : ρ [e] ≠ 0) : ∃ o, o ∈ v ∧ exch ρ n v o e := by
  by_cases q : ∃ o, o ∈ v ∧ exch ρ n v o e
  · exact q
  · exfalso
    have all : ∀ (k : Nat) (W : List Nat), W.length ≤ k → (∀ j ∈ W, j ∈ v) → ρ (W ++ [e]) = ρ W → ρ [e] = 0 := by
      intro k
      induction k with
      | zero =>
        intro W hW _ c
        rw [List.eq_nil_of_length_eq_zero (Nat.le_zero.mp hW), M.nil] at c
        exact c
      | succ k ih =>
        intro W hW s c
        cases W with
        | nil => rw [M.nil] at c; exact c
        | cons f W =>
          have fW : f ∈ f :: W := List.mem_cons_self
          have c2 := drop1 M h s fW he c fun z => q ⟨f, s f fW, z⟩
          refine ih _ ?_ (fun j hj => s j (wout_mem.mp hj).1) c2
          have e1 : wout (f :: W) f = wout W f := by unfold wout; rw [List.filter_cons_of_neg (by simp)]
          rw [e1]
          have := List.length_filter_le (fun k => decide (k ≠ f)) W
          rw [List.length_cons] at hW
          unfold wout
          omega
    exact nl (all v.length v (Nat.le_refl _) (fun j hj => hj) ev)
/-- an element of a tree that is no bridge goes out for some other one -/
theorem some_in (M : Mat n ρ) {v : List Nat} (h : TreeR ρ n v) {e : Nat} (ev : e ∈ v) {W : List Nat} (hW : Lt n W) (ne : e ∉ W) (fW : ρ W = full ρ n) : ∃ k, k ∈ W ∧ k ∉ v ∧ exch ρ n v e k := by
  by_cases q : ∃ k, k ∈ W ∧ k ∉ v ∧ exch ρ n v e k
  · exact q
  · exfalso
    have hl := h.less M ev
    have hB := h.lt.wout e
    have e1 := M.same (wout v e) hB W hW fun k hk => by
      by_cases kv : k ∈ v
      · refine M.mem _ _ (hB.snoc (hW k hk)) hB fun j => ?_
        rw [List.mem_append, List.mem_singleton]
        constructor
        · rintro (h | h)
          · exact h
          · rw [h]; exact wout_mem.mpr ⟨kv, fun z => ne (z ▸ hk)⟩
        · exact .inl
      · rcases M.step (wout v e) k hB (hW k hk) with z | z
        · exact z
        · exact absurd ⟨k, hk, kv, by unfold exch; omega⟩ q
    have e2 : ρ W ≤ ρ (wout v e ++ W) := M.sub hW (fun j hj => (List.mem_append.mp hj).elim (hB j) (hW j)) fun j hj => List.mem_append.mpr (.inr hj)
    omega
end
/-! ### choosing -/
def ch : Nat → Nat → Nat
  | _, 0 => 1
  | 0, _ + 1 => 0
  | m + 1, k + 1 => ch m k + ch m (k + 1)
theorem ch_zero (m : Nat) : ch m 0 = 1 := by cases m <;> rfl
def cnt (ρ : List Nat → Nat) (n a b : Nat) : Nat := ((lotsL n).filter fun v => decide (a + ρ v = full ρ n ∧ v.length = ρ v + b)).length
def actS (ρ : List Nat → Nat) (n a b : Nat) : Nat := ((treesR ρ n).map fun v => ch (nEarly ρ n v) a * ch (nLate ρ n v) b).sum
theorem filter_none {α : Type} {p : α → Bool} {l : List α} (h : ∀ x ∈ l, p x = false) : l.filter p = [] := List.filter_eq_nil_iff.mpr fun x hx => by rw [h x hx]; exact Bool.false_ne_true
theorem lots_lt {n : Nat} {v : List Nat} (h : v ∈ lotsL n) : Lt n v := (lots_in n v h).1
theorem full_succ (ρ : List Nat → Nat) (n : Nat) : full ρ (n + 1) = ρ (List.range n ++ [n]) := by
  unfold full
  rw [List.range_succ]
theorem outs_up {v : List Nat} {n : Nat} (hv : Lt n v) : outs v (n + 1) = outs v n ++ [n] := by
  unfold outs
  rw [List.range_succ, List.filter_append]
  congr 1
  rw [List.filter_cons_of_pos (by rw [decide_eq_true_eq]; exact fun h => Nat.lt_irrefl n (hv n h))]
  rfl
theorem outs_with {v : List Nat} {n : Nat} (hv : Lt n v) : outs (v ++ [n]) (n + 1) = outs v n := by
  unfold outs
  rw [List.range_succ, List.filter_append, List.filter_cons_of_neg (by simp), List.filter_nil, List.append_nil]
  refine List.filter_congr fun k hk => ?_
  have hk := List.mem_range.mp hk
  refine decide_eq_decide.mpr ?_
  rw [List.mem_append, List.mem_singleton]
  constructor
  · exact fun h z => h (.inl z)
  · rintro h (z | z)
    · exact h z
    · omega
theorem wout_with {v : List Nat} {n : Nat} (hv : Lt n v) : wout (v ++ [n]) n = v := by
  unfold wout
  rw [List.filter_append, List.filter_cons_of_neg (by simp), List.filter_nil, List.append_nil]
  exact List.filter_eq_self.mpr fun k hk => by
    have := hv k hk
    rw [decide_eq_true_eq]
    omega
theorem wout_other {v : List Nat} {n o : Nat} (ho : o < n) : wout (v ++ [n]) o = wout v o ++ [n] := by
  unfold wout
  rw [List.filter_append, List.filter_cons_of_pos (by rw [decide_eq_true_eq]; omega)]
  rfl
section
variable {n : Nat} {ρ : List Nat → Nat}
/-! the lots without the last element, where the rank of all stays -/
theorem cnt_left (e : full ρ (n + 1) = full ρ n) (a b : Nat) : ((lotsL n).filter fun v => decide (a + ρ v = full ρ (n + 1) ∧ v.length = ρ v + b)).length = cnt ρ n a b := by
  rw [e]
  rfl
theorem trees_left (e : full ρ (n + 1) = full ρ n) : ((lotsL n).filter fun v => decide (v.length = ρ v ∧ ρ v = full ρ (n + 1))) = treesR ρ n := by
  rw [e]
  rfl
theorem early_left (e : full ρ (n + 1) = full ρ n) {v : List Nat} (hv : Lt n v) : nEarly ρ (n + 1) v = nEarly ρ n v := by
  unfold nEarly
  congr 1
  refine List.filter_congr fun o ho => ?_
  have on := hv o ho
  unfold earlyB
  refine decide_eq_decide.mpr ?_
  rw [outs_up hv]
  constructor
  · intro h k hk x
    exact h k (List.mem_append.mpr (.inl hk)) (by unfold exch at *; omega)
  · intro h k hk x
    rcases List.mem_append.mp hk with q | q
    · exact h k q (by unfold exch at *; omega)
    · rw [List.mem_singleton.mp q]; exact on
theorem late_left (e : full ρ (n + 1) = full ρ n) {v : List Nat} (hv : Lt n v) : nLate ρ (n + 1) v = nLate ρ n v + if lateB ρ (n + 1) v n = true then 1 else 0 := by
  unfold nLate
  rw [outs_up hv, List.filter_append, List.length_append]
  congr 1
  · congr 1
    refine List.filter_congr fun k hk => ?_
    unfold lateB
    refine decide_eq_decide.mpr ?_
    constructor
    · intro h o ho x
      exact h o ho (by unfold exch at *; omega)
    · intro h o ho x
      exact h o ho (by unfold exch at *; omega)
  · rw [List.filter_cons]
    split <;> rfl
/-! the lots with the last element, where that is no loop -/
variable (M : Mat (n + 1) ρ) (one : ρ [n] = 1)
include M one
theorem full_right : full ρ (n + 1) = full (shutR ρ n) n + 1 := by
  rw [full_succ, M.shut_eq (lt_range n), one]
  rfl
theorem cnt_right (a b : Nat) : (((lotsL n).map (· ++ [n])).filter fun v => decide (a + ρ v = full ρ (n + 1) ∧ v.length = ρ v + b)).length = cnt (shutR ρ n) n a b := by
  rw [List.filter_map, List.length_map]
  unfold cnt
  congr 1
  refine List.filter_congr fun v hv => ?_
  have e1 := M.shut_eq (lots_lt hv)
  rw [one] at e1
  have e2 := full_right M one
  show decide (a + ρ (v ++ [n]) = full ρ (n + 1) ∧ (v ++ [n]).length = ρ (v ++ [n]) + b) = _
  refine decide_eq_decide.mpr ?_
  rw [List.length_append, List.length_singleton]
  omega
theorem trees_right : (((lotsL n).map (· ++ [n])).filter fun v => decide (v.length = ρ v ∧ ρ v = full ρ (n + 1))) = (treesR (shutR ρ n) n).map (· ++ [n]) := by
  rw [List.filter_map]
  unfold treesR
  congr 1
  refine List.filter_congr fun v hv => ?_
  have e1 := M.shut_eq (lots_lt hv)
  rw [one] at e1
  have e2 := full_right M one
  show decide ((v ++ [n]).length = ρ (v ++ [n]) ∧ ρ (v ++ [n]) = full ρ (n + 1)) = _
  refine decide_eq_decide.mpr ?_
  rw [List.length_append, List.length_singleton]
  omega
theorem exch_right {v : List Nat} (hv : Lt n v) {o k : Nat} (ho : o < n) (hk : k < n) : exch ρ (n + 1) (v ++ [n]) o k ↔ exch (shutR ρ n) n v o k := by
  unfold exch
  rw [wout_other ho, M.swap (hv.wout o).up (Nat.lt_succ_self n) (Nat.lt_succ_of_lt hk), M.shut_eq ((hv.wout o).snoc hk), one, full_right M one]
  omega
theorem late_right {v : List Nat} (hv : Lt n v) : nLate ρ (n + 1) (v ++ [n]) = nLate (shutR ρ n) n v := by
  unfold nLate
  rw [outs_with hv]
  congr 1
  refine List.filter_congr fun k hk => ?_
  have kn := (outs_mem.mp hk).1
  unfold lateB
  refine decide_eq_decide.mpr ?_
  constructor
  · intro h o ho x
    exact h o (List.mem_append.mpr (.inl ho)) ((exch_right M one hv (hv o ho) kn).mpr x)
  · intro h o ho x
    rcases List.mem_append.mp ho with q | q
    · exact h o q ((exch_right M one hv (hv o q) kn).mp x)
    · rw [List.mem_singleton.mp q]; exact kn
theorem early_right {v : List Nat} (hv : Lt n v) : nEarly ρ (n + 1) (v ++ [n]) = nEarly (shutR ρ n) n v + if earlyB ρ (n + 1) (v ++ [n]) n = true then 1 else 0 := by
  unfold nEarly
  rw [List.filter_append, List.length_append]
  congr 1
  · congr 1
    refine List.filter_congr fun o ho => ?_
    unfold earlyB
    refine decide_eq_decide.mpr ?_
    rw [outs_with hv]
    constructor
    · intro h k hk x
      exact h k hk ((exch_right M one hv (hv o ho) (outs_mem.mp hk).1).mpr x)
    · intro h k hk x
      exact h k hk ((exch_right M one hv (hv o ho) (outs_mem.mp hk).1).mp x)
  · rw [List.filter_cons]
    split <;> rfl
end
theorem sum_add {α : Type} (f g : α → Nat) (l : List α) : (l.map fun x => f x + g x).sum = (l.map f).sum + (l.map g).sum := by
  induction l with
  | nil => rfl
  | cons a l ih => rw [List.map_cons, List.map_cons, List.map_cons, List.sum_cons, List.sum_cons, List.sum_cons, ih]; omega
theorem cnt_succ (ρ : List Nat → Nat) (n a b : Nat) : cnt ρ (n + 1) a b = ((lotsL n).filter fun v => decide (a + ρ v = full ρ (n + 1) ∧ v.length = ρ v + b)).length + (((lotsL n).map (· ++ [n])).filter fun v => decide (a + ρ v = full ρ (n + 1) ∧ v.length = ρ v + b)).length := by
  unfold cnt
  rw [← List.length_append, ← List.filter_append]
  rfl
theorem trees_succ (ρ : List Nat → Nat) (n : Nat) : treesR ρ (n + 1) = ((lotsL n).filter fun v => decide (v.length = ρ v ∧ ρ v = full ρ (n + 1))) ++ (((lotsL n).map (· ++ [n])).filter fun v => decide (v.length = ρ v ∧ ρ v = full ρ (n + 1))) := by
  unfold treesR
  rw [← List.filter_append]
  rfl
/-- lots by rank and spare are counted by trees with their early and late elements -/
theorem crapo : ∀ (n : Nat) (ρ : List Nat → Nat), Mat n ρ → ∀ a b, cnt ρ n a b = actS ρ n a b
  | 0, ρ, M, a, b => by
    have e0 : full ρ 0 = 0 := M.nil
    have et : treesR ρ 0 = [[]] := by
      unfold treesR
      show List.filter _ [[]] = _
      rw [List.filter_cons_of_pos (by rw [decide_eq_true_eq, e0, M.nil]; exact ⟨rfl, rfl⟩)]
      rfl
    unfold actS
    rw [et]
    have e1 : nEarly ρ 0 [] = 0 := rfl
    have e2 : nLate ρ 0 [] = 0 := rfl
    rw [List.map_cons, List.map_nil, List.sum_cons, List.sum_nil, e1, e2]
    unfold cnt
    show (List.filter _ [[]]).length = _
    rw [List.filter_cons, e0, M.nil, List.filter_nil]
    cases a with
    | zero =>
      cases b with
      | zero => rfl
      | succ b => rfl
    | succ a =>
      rw [if_neg (by rw [decide_eq_true_eq]; omega)]
      show 0 = ch 0 (a + 1) * ch 0 b + 0
      have : ch 0 (a + 1) = 0 := rfl
      rw [this, Nat.zero_mul]
  | n + 1, ρ, M, a, b => by
    have hn : n < n + 1 := Nat.lt_succ_self n
    have nn := lt_nil (n + 1)
    have s0 : ρ [n] = 0 ∨ ρ [n] = 1 := by
      have := M.step [] n nn hn
      rw [M.nil, List.nil_append] at this
      omega
    rw [cnt_succ]
    unfold actS
    rw [trees_succ]
    rcases s0 with s0 | s1
    · -- a loop
      have add : ∀ v, Lt n v → ρ (v ++ [n]) = ρ v := fun v hv => M.clo [] v n nn hv.up (fun k hk => (List.not_mem_nil hk).elim) hn (by rw [List.nil_append, s0, M.nil])
      have ef : full ρ (n + 1) = full ρ n := by rw [full_succ, add _ (lt_range n)]; rfl
      have t2 : (((lotsL n).map (· ++ [n])).filter fun v => decide (v.length = ρ v ∧ ρ v = full ρ (n + 1))) = [] := filter_none fun v hv => by
        obtain ⟨w, hw, rfl⟩ := List.mem_map.mp hv
        have h1 := add w (lots_lt hw)
        have h2 := M.len w (lots_lt hw).up
        refine decide_eq_false fun h => ?_
        have h := h.1
        have h : (w ++ [n]).length = ρ (w ++ [n]) := h
        rw [List.length_append, List.length_singleton] at h
        omega
      rw [t2, List.append_nil, trees_left ef, cnt_left ef]
      have late : ∀ v ∈ treesR ρ n, nEarly ρ (n + 1) v = nEarly ρ n v ∧ nLate ρ (n + 1) v = nLate ρ n v + 1 := fun v hv => by
        have tv := treesR_mem.mp hv
        refine ⟨early_left ef tv.lt, ?_⟩
        rw [late_left ef tv.lt, if_pos]
        refine decide_eq_true fun o ho x => ?_
        exfalso
        unfold exch at x
        have := tv.less M.down ho
        rw [add _ (tv.lt.wout o), ef] at x
        omega
      have c2 : (((lotsL n).map (· ++ [n])).filter fun v => decide (a + ρ v = full ρ (n + 1) ∧ v.length = ρ v + b)).length = match b with | 0 => 0 | b + 1 => cnt ρ n a b := by
        cases b with
        | zero =>
          rw [filter_none fun v hv => ?_]
          · rfl
          · obtain ⟨w, hw, rfl⟩ := List.mem_map.mp hv
            have h1 := add w (lots_lt hw)
            have h2 := M.len w (lots_lt hw).up
            refine decide_eq_false fun h => ?_
            have h : (w ++ [n]).length = ρ (w ++ [n]) + 0 := h.2
            rw [List.length_append, List.length_singleton] at h
            omega
        | succ b =>
          rw [List.filter_map, List.length_map]
          show _ = cnt ρ n a b
          unfold cnt
          congr 1
          refine List.filter_congr fun w hw => ?_
          have h1 := add w (lots_lt hw)
          show decide (a + ρ (w ++ [n]) = full ρ (n + 1) ∧ (w ++ [n]).length = ρ (w ++ [n]) + (b + 1)) = _
          refine decide_eq_decide.mpr ?_
          rw [List.length_append, List.length_singleton, h1, ef]
          omega
      rw [c2]
      have e1 : ((treesR ρ n).map fun v => ch (nEarly ρ (n + 1) v) a * ch (nLate ρ (n + 1) v) b) = (treesR ρ n).map fun v => ch (nEarly ρ n v) a * ch (nLate ρ n v + 1) b := List.map_congr_left fun v hv => by
        rw [(late v hv).1, (late v hv).2]
      rw [e1]
      cases b with
      | zero =>
        have := crapo n ρ M.down a 0
        rw [this]
        unfold actS
        show _ + 0 = _
        rw [Nat.add_zero]
        congr 1
        refine List.map_congr_left fun v _ => ?_
        rw [ch_zero, ch_zero]
      | succ b =>
        have h1 := crapo n ρ M.down a b
        have h2 := crapo n ρ M.down a (b + 1)
        show cnt ρ n a (b + 1) + cnt ρ n a b = _
        rw [h1, h2]
        unfold actS
        rw [← sum_add]
        congr 1
        refine List.map_congr_left fun v _ => ?_
        show _ = ch (nEarly ρ n v) a * (ch (nLate ρ n v) b + ch (nLate ρ n v) (b + 1))
        rw [Nat.mul_add, Nat.add_comm]
    · rw [trees_right M s1, cnt_right M s1, List.map_append, List.sum_append, List.map_map]
      by_cases br : full ρ (n + 1) = full ρ n
      · -- neither
        rw [trees_left br, cnt_left br, crapo n ρ M.down a b, crapo n (shutR ρ n) M.shut a b]
        unfold actS
        congr 1
        · congr 1
          refine List.map_congr_left fun v hv => ?_
          have tv := treesR_mem.mp hv
          have nl : lateB ρ (n + 1) v n = false := by
            refine decide_eq_false fun h => ?_
            have tv1 : TreeR ρ (n + 1) v := ⟨tv.asc, tv.lt.up, tv.len, by rw [br]; exact tv.top⟩
            have le := M.full (tv.lt.up.snoc hn)
            have ge := M.le tv.lt.up hn
            have tp := tv1.top
            obtain ⟨o, o1, o2⟩ := some_out M tv1 hn (by unfold full at tp; omega) (by rw [s1]; exact Nat.one_ne_zero)
            have := h o o1 o2
            have := tv.lt o o1
            omega
          rw [early_left br tv.lt, late_left br tv.lt, nl]
          rfl
        · congr 1
          refine List.map_congr_left fun v hv => ?_
          have tv := treesR_mem.mp hv
          show _ = ch (nEarly ρ (n + 1) (v ++ [n])) a * ch (nLate ρ (n + 1) (v ++ [n])) b
          have ne : earlyB ρ (n + 1) (v ++ [n]) n = false := by
            refine decide_eq_false fun h => ?_
            have e1 := M.shut_eq tv.lt
            rw [s1] at e1
            have e2 := full_right M s1
            have tv1 : TreeR ρ (n + 1) (v ++ [n]) := by
              refine ⟨List.pairwise_append.mpr ⟨tv.asc, by simp, fun x hx y hy => ?_⟩, tv.lt.up.snoc hn, ?_, ?_⟩
              · rw [List.mem_singleton.mp hy]; exact tv.lt x hx
              · rw [List.length_append, List.length_singleton, e1, tv.len]
              · rw [e1, e2, tv.top]
            obtain ⟨k, k1, k2, k3⟩ := some_in M tv1 (e := n) (List.mem_append.mpr (.inr (List.mem_singleton.mpr rfl))) (W := List.range n) (lt_range n).up (fun z => Nat.lt_irrefl n (List.mem_range.mp z)) (by rw [br]; rfl)
            have kn := List.mem_range.mp k1
            have := h k (outs_mem.mpr ⟨Nat.lt_succ_of_lt kn, k2⟩) k3
            omega
          rw [early_right M s1 tv.lt, late_right M s1 tv.lt, ne]
          rfl
      · -- a bridge
        have up : full ρ (n + 1) = full ρ n + 1 := by
          have h := M.step (List.range n) n (lt_range n).up hn
          rw [← full_succ ρ n] at h
          have e : full ρ n = ρ (List.range n) := rfl
          omega
        have add : ∀ v, Lt n v → ρ (v ++ [n]) = ρ v + 1 := fun v hv => by
          rcases M.step v n hv.up hn with h | h
          · exfalso
            have := M.clo v (List.range n) n hv.up (lt_range n).up (fun k hk => List.mem_range.mpr (hv k hk)) hn h
            rw [← full_succ ρ n] at this
            exact br this
          · exact h
        have sh : ∀ v, Lt n v → shutR ρ n v = ρ v := fun v hv => by
          have e1 := M.shut_eq hv
          rw [s1, add v hv] at e1
          omega
        have fs : full (shutR ρ n) n = full ρ n := sh _ (lt_range n)
        have t1 : ((lotsL n).filter fun v => decide (v.length = ρ v ∧ ρ v = full ρ (n + 1))) = [] := filter_none fun v hv => decide_eq_false fun h => by
          have := M.down.full (lots_lt hv)
          have e : full ρ n = ρ (List.range n) := rfl
          omega
        have c1 : ((lotsL n).filter fun v => decide (a + ρ v = full ρ (n + 1) ∧ v.length = ρ v + b)).length = match a with | 0 => 0 | a + 1 => cnt (shutR ρ n) n a b := by
          cases a with
          | zero =>
            rw [filter_none fun v hv => ?_]
            · rfl
            · have := M.down.full (lots_lt hv)
              have e : full ρ n = ρ (List.range n) := rfl
              exact decide_eq_false fun h => by omega
          | succ a =>
            show _ = cnt (shutR ρ n) n a b
            unfold cnt
            congr 1
            refine List.filter_congr fun v hv => ?_
            rw [fs, sh v (lots_lt hv)]
            refine decide_eq_decide.mpr ?_
            omega
        rw [t1, c1, List.map_nil, List.sum_nil, Nat.zero_add]
        have e1 : ((treesR (shutR ρ n) n).map ((fun v => ch (nEarly ρ (n + 1) v) a * ch (nLate ρ (n + 1) v) b) ∘ (· ++ [n]))) = (treesR (shutR ρ n) n).map fun v => ch (nEarly (shutR ρ n) n v + 1) a * ch (nLate (shutR ρ n) n v) b := List.map_congr_left fun v hv => by
          have tv := treesR_mem.mp hv
          show ch (nEarly ρ (n + 1) (v ++ [n])) a * ch (nLate ρ (n + 1) (v ++ [n])) b = _
          have ne : earlyB ρ (n + 1) (v ++ [n]) n = true := by
            refine decide_eq_true fun k hk x => ?_
            exfalso
            rw [outs_with tv.lt] at hk
            have kn := (outs_mem.mp hk).1
            unfold exch at x
            rw [wout_with tv.lt] at x
            have := M.down.full (tv.lt.snoc kn)
            have e : full ρ n = ρ (List.range n) := rfl
            omega
          rw [early_right M s1 tv.lt, late_right M s1 tv.lt, ne, if_pos rfl]
        rw [e1]
        cases a with
        | zero =>
          have := crapo n (shutR ρ n) M.shut 0 b
          show 0 + cnt (shutR ρ n) n 0 b = _
          rw [this, Nat.zero_add]
          unfold actS
          congr 1
          refine List.map_congr_left fun v _ => ?_
          rw [ch_zero, ch_zero]
        | succ a =>
          have h1 := crapo n (shutR ρ n) M.shut a b
          have h2 := crapo n (shutR ρ n) M.shut (a + 1) b
          show cnt (shutR ρ n) n a b + cnt (shutR ρ n) n (a + 1) b = _
          rw [h1, h2]
          unfold actS
          rw [← sum_add]
          congr 1
          refine List.map_congr_left fun v _ => ?_
          show _ = (ch (nEarly (shutR ρ n) n v) a + ch (nEarly (shutR ρ n) n v) (a + 1)) * ch (nLate (shutR ρ n) n v) b
          rw [Nat.add_mul]
end K10
set_option Elab.async false
set_option linter.all false
set_option maxRecDepth 100000
namespace K10
open PySem PySem.Spec PyProof.Rows L2 DL
section
variable {P : Program} {w : World} {K : PySem.W.Frag} {mg : Str → Option Value} {base : Heap} {A : Ad}
/-! ### the law's own exchanges -/
def g_L_anyL : GC := fun ds μ R => ∃ (a : Addr) (x y z : Int) (L : List D), ds = [.adr a, .lst L] ∧ μ a = some (pot x y z) ∧ 1 ≤ L.length ∧ L.length ≤ 1000000 ∧ ∀ (d : D) (x y z : Int), d ∈ L → R d (put μ a (pot x y z))
theorem ok_L_anyL (T : Tx K mg A) : FnOk P w K mg base CX0 2 A.L_any A.fd_L_any ["_law_pot_here", "_law_some"] (toSp K (g_L_anyL)) := by
  refine okD T.F_L_any sc50 (fun ds μ R h => ?_) ⟨_, fun cdv A0 outer s H E hr =>
    (dss_one (ds_ret (de_ix ix_any sim_ix (dv 1) (de_call ((ok_L_dip T).mono (by decide)) hr (by rfl) T.g_L_dip T.F_L_dip.kp T.b_L_dip (da_cons (dv 0) (da_cons (de_callB cr_len sim_len (by rfl) T.z_len boot_len (da_cons (dv 1) da_nil)) da_nil))) (fun _ _ => rfl)))), fun ds μ R h => ?_⟩
  · obtain ⟨a, x, y, z, p, rfl, _⟩ := h
    rfl
  · obtain ⟨a, x, y, z, L, rfl, ha, p1, p2, h⟩ := h
    refine ⟨a, x, y, z, _, rfl, ha, by omega, by omega, fun d x y z hd => ?_⟩
    have hd : d < L.length := by omega
    exact atK_nat (List.getElem?_eq_getElem hd) (h _ _ _ _ (List.getElem_mem hd))
theorem IsTree.size {p : List Nat} {ts : List Str} {r : Nat} {v : List Nat} (h : IsTree p ts r v) : v.length ≤ ts.length := asc_len ⟨h.asc, h.few⟩
end
end K10
set_option Elab.async false
set_option linter.all false
set_option maxRecDepth 100000
set_option Elab.async false
set_option linter.all false
set_option maxRecDepth 100000
namespace K10
open PySem PySem.Spec PyProof.Rows L2 DL
/-! ### what a lot joins -/
section
variable {p : List Nat} {ts : List Str} {r : Nat}
def In (ts : List Str) (v : List Nat) : Prop := ∀ k ∈ v, k < ts.length
theorem parts_conn (u : p.Pairwise (· ≠ ·)) (he : Ends p ts) {v : List Nat} (hv : In ts v) {k : Nat} (hk : k < ts.length) : partsL p ts v k = false ↔ Conn (tiesOf ts v) (ends (ts.getD k Str.empty)).1 (ends (ts.getD k Str.empty)).2 := by
  have et : ts.getD k Str.empty = ts[k] := by rw [List.getD_eq_getElem?_getD, List.getElem?_eq_getElem hk]; rfl
  obtain ⟨m1, m2⟩ := he _ (List.getElem_mem hk)
  rw [← et] at m1 m2
  constructor
  · intro h
    exact marks_conn _ (ties_in he hv) _ _ m1 m2 (Classical.not_not.mp (of_decide_eq_false h))
  · intro h
    exact decide_eq_false fun q => q (conn_marks (ties_in he hv) h)
theorem parts_mono (u : p.Pairwise (· ≠ ·)) (he : Ends p ts) {v w : List Nat} (hv : In ts v) (hw : In ts w) (s : ∀ k ∈ v, k ∈ w) {k : Nat} (hk : k < ts.length) (h : partsL p ts v k = false) : partsL p ts w k = false := by
  refine (parts_conn u he hw hk).mpr (((parts_conn u he hv hk).mp h).mono fun y hy => ?_)
  obtain ⟨i, hi, e⟩ := List.mem_map.mp hy
  exact List.mem_map.mpr ⟨i, s i hi, e⟩
end
/-! ### sums of lengths -/
def ins (a : Nat) : List Nat → List Nat
  | [] => [a]
  | b :: l => if a ≤ b then a :: b :: l else b :: ins a l
/-! ### least trees and one tie -/
end K10
set_option Elab.async false
set_option linter.all false
set_option maxRecDepth 100000
namespace K10
open PySem PySem.Spec PyProof.Rows L2 DL
/-! ### the numbers of trees by early and late elements hang on the counts of lots alone -/
theorem ch_less : ∀ {m k : Nat}, m < k → ch m k = 0
  | 0, k + 1, _ => rfl
  | m + 1, k + 1, h => by
    show ch m k + ch m (k + 1) = 0
    rw [ch_less (by omega), ch_less (by omega)]
section
variable {α : Type}
def wt (X : List α) (κ : α → Nat) (h : α → Nat) (k : Nat) : Nat := ((X.filter fun x => decide (κ x = k)).map h).sum
end
/-! ### lots of ties in another order -/
/-! ### webs -/
section
variable {p : List Nat} {ts : List Str}
theorem web_mat (u : p.Pairwise (· ≠ ·)) (he : Ends p ts) : Mat ts.length (rankOf p ts) := by
  refine ⟨nonFix_self p, fun v w hv hw h => lot_rank u he hv hw (fun k hk => (h k).mp hk) fun k hk => (h k).mpr hk, fun v k hv hk => ?_, fun v w k hv hw s hk h => ?_⟩
  · rw [rank_more u he hv hk]
    split
    · exact .inr rfl
    · exact .inl rfl
  · have e1 := rank_more u he hv hk
    have e2 := rank_more u he hw hk
    have c : partsL p ts v k = false := by
      cases q : partsL p ts v k with
      | false => rfl
      | true => rw [q, if_pos rfl] at e1; omega
    rw [parts_mono u he hv hw s hk c, if_neg Bool.false_ne_true] at e2
    exact e2
theorem range_getD {α : Type} {d : α} {L : List α} : (List.range L.length).map (fun k => L.getD k d) = L := by
  apply List.ext_getElem?
  intro i
  rw [List.getElem?_map]
  by_cases hi : i < L.length
  · rw [List.getElem?_range hi, List.getElem?_eq_getElem hi]
    show some (L.getD i d) = _
    rw [List.getD_eq_getElem?_getD, List.getElem?_eq_getElem hi]
    rfl
  · rw [List.getElem?_eq_none (by simp; omega), List.getElem?_eq_none (by omega)]
    rfl
/-! ### the program's early and late ties -/
end
end K10
set_option Elab.async false
set_option linter.all false
set_option maxRecDepth 100000
namespace K10
open PySem PySem.Spec PyProof.Rows L2 DL
section
variable {P : Program} {w : World} {K : PySem.W.Frag} {mg : Str → Option Value} {base : Heap} {A : Ad}
/-! ### early and late ties, as the program tells them -/
theorem outs_len {v : List Nat} (u : v.Nodup) {n : Nat} (hv : ∀ k ∈ v, k < n) : (outs v n).length + v.length = n := by
  have h := nodup_same (l := outs v n ++ v) (m := List.range n) (List.nodup_append.mpr ⟨(List.nodup_range).filter _, u, fun a ha b hb e => (outs_mem.mp ha).2 (e ▸ hb)⟩) List.nodup_range fun x => by
    rw [List.mem_append, outs_mem, List.mem_range]
    constructor
    · rintro (h | h)
      · exact h.1
      · exact hv x h
    · intro h
      by_cases e : x ∈ v
      · exact .inr e
      · exact .inl ⟨h, e⟩
  rw [List.length_append, List.length_range] at h
  exact h
/-! ### rows of numbers, each a cell -/
structure Rows (μ ν : Mu) (as : List Addr) (rs : List (List Nat)) : Prop where
  len : as.length = rs.length
  at_ : ∀ (i : Nat) (a : Addr) (r : List Nat), as[i]? = some a → rs[i]? = some r → ν a = some (.lst ((r.map Int.ofNat).map D.int))
  new : ∀ a ∈ as, μ a = none
  old : ∀ b, b ∉ as → ν b = μ b
  nod : as.Nodup
def dRows (as : List Addr) : D := .lst (as.map D.adr)
theorem Rows.start (μ : Mu) : Rows μ μ [] [] := ⟨rfl, fun i a r h => by simp at h, fun a h => (List.not_mem_nil h).elim, fun _ _ => rfl, .nil⟩
theorem Rows.has {μ ν : Mu} {as : List Addr} {rs : List (List Nat)} (h : Rows μ ν as rs) {a : Addr} (ha : a ∈ as) : ν a ≠ none := by
  obtain ⟨i, hi, e⟩ := List.getElem_of_mem ha
  have h1 : as[i]? = some a := by rw [List.getElem?_eq_getElem hi, e]
  have h2 : rs[i]? = some (rs[i]'(by rw [← h.len]; exact hi)) := List.getElem?_eq_getElem _
  rw [h.at_ i a _ h1 h2]
  simp
theorem Rows.snoc {μ ν : Mu} {as : List Addr} {rs : List (List Nat)} (h : Rows μ ν as rs) {c : Addr} (nc : ν c = none) (r : List Nat) : Rows μ (put ν c (.lst ((r.map Int.ofNat).map D.int))) (as ++ [c]) (rs ++ [r]) := by
  have cas : c ∉ as := fun z => h.has z nc
  refine ⟨by rw [List.length_append, List.length_append, h.len]; rfl, fun i a r' ha hr => ?_, fun a ha => ?_, fun b hb => ?_, ?_⟩
  · by_cases hi : i < as.length
    · rw [List.getElem?_append_left hi] at ha
      rw [List.getElem?_append_left (by rw [← h.len]; exact hi)] at hr
      have hm := List.mem_of_getElem? ha
      rw [put_ne (fun (z : a = c) => cas (z ▸ hm))]
      exact h.at_ i a r' ha hr
    · have e : i = as.length := by
        have := (List.getElem?_eq_some_iff.mp ha).1
        rw [List.length_append, List.length_singleton] at this
        omega
      subst e
      rw [List.getElem?_append_right (Nat.le_refl _), Nat.sub_self] at ha
      rw [List.getElem?_append_right (by rw [h.len]; exact Nat.le_refl _), h.len, Nat.sub_self] at hr
      have ea : c = a := by simpa using ha
      have er : r = r' := by simpa using hr
      rw [← ea, ← er]
      exact put_same
  · rcases List.mem_append.mp ha with q | q
    · exact h.new a q
    · rw [List.mem_singleton.mp q, ← h.old c cas]
      exact nc
  · have b1 : b ∉ as := fun z => hb (List.mem_append.mpr (.inl z))
    have b2 : b ≠ c := fun z => hb (List.mem_append.mpr (.inr (List.mem_singleton.mpr z)))
    rw [put_ne b2]
    exact h.old b b1
  · exact List.nodup_append.mpr ⟨h.nod, by simp, fun a ha b hb => by
      rw [List.mem_singleton.mp hb]
      exact fun z => cas (z ▸ ha)⟩
theorem Rows.write {μ ν : Mu} {as : List Addr} {rs : List (List Nat)} (h : Rows μ ν as rs) {i : Nat} {a : Addr} (ha : as[i]? = some a) (r : List Nat) : Rows μ (put ν a (.lst ((r.map Int.ofNat).map D.int))) as (rs.set i r) := by
  have hi : i < as.length := (List.getElem?_eq_some_iff.mp ha).1
  refine ⟨by rw [List.length_set]; exact h.len, fun j b r' hb hr => ?_, h.new, fun b hb => ?_, h.nod⟩
  · by_cases e : j = i
    · subst e
      rw [ha] at hb
      cases hb
      rw [List.getElem?_set_self (by rw [← h.len]; exact hi)] at hr
      cases hr
      exact put_same
    · rw [List.getElem?_set_ne (fun z => e z.symm)] at hr
      have ne : b ≠ a := fun z => by
        subst z
        obtain ⟨h1, e1⟩ := List.getElem?_eq_some_iff.mp ha
        obtain ⟨h2, e2⟩ := List.getElem?_eq_some_iff.mp hb
        rcases Nat.lt_or_gt_of_ne e with q | q
        · exact List.pairwise_iff_getElem.mp h.nod j i h2 h1 q (e2.trans e1.symm)
        · exact List.pairwise_iff_getElem.mp h.nod i j h1 h2 q (e1.trans e2.symm)
      rw [put_ne ne]
      exact h.at_ j b r' hb hr
  · rw [put_ne (fun (z : b = a) => hb (z ▸ List.mem_of_getElem? ha))]
    exact h.old b hb
theorem Rows.keep {μ ν : Mu} {as : List Addr} {rs : List (List Nat)} (h : Rows μ ν as rs) : ∀ c o, μ c = some o → ν c = some o := fun c o e => by
  rw [h.old c fun z => by rw [h.new c z] at e; cases e]
  exact e
def zeros (n : Nat) : List Nat := List.replicate n 0
theorem zero_flat (n : Nat) : (List.replicate n [D.int 0]).flatten = ((zeros n).map Int.ofNat).map D.int := by
  unfold zeros
  rw [List.map_replicate, List.map_replicate]
  induction n with
  | zero => rfl
  | succ n ih => rw [List.replicate_succ, List.flatten_cons, ih, List.replicate_succ]; rfl
/-- rows of noughts, one after the other -/
theorem rows_made {gt : GG} {ge : GE} {own : List Nat} {δ : DS} {μ : Mu} {R : KD} {m w : Nat} (hm : m ≤ 100)
    (hx : ∀ (i : Nat) (ν : Mu) (Y : KD), (∀ c, ν c = none → Y (.adr c) (put ν c (.lst (((zeros w).map Int.ofNat).map D.int)))) → gt (.int (i : Nat)) (wiped δ own) fun δ2 => ge δ2 ν Y)
    (hr : ∀ as ν, Rows μ ν as (List.replicate m (zeros w)) → R (dRows as) ν) :
    LcB gt gYes ge own δ R ((List.range m).map fun i => D.int (i : Nat)) μ := by
  refine lcb_eff (fun i ys ν => ∃ as, ys = as.map D.adr ∧ Rows μ ν as (List.replicate i (zeros w))) ?_ ?_ ?_ ?_ ?_
  · rw [List.length_map, List.length_range, sizeLine_eq]
    omega
  · exact ⟨[], rfl, Rows.start μ⟩
  · rintro i ys ν ⟨as, rfl, h⟩
    rw [List.length_map, h.len, List.length_replicate]
    exact Nat.le_refl _
  · rintro i it hi b ys ν N Y nb ⟨as, rfl, h⟩ hN hY
    obtain ⟨hi, rfl⟩ := range_at hi
    show gt _ (wiped δ own) fun δ2 => ge δ2 (put ν b (.lst (as.map D.adr))) Y
    refine hx i _ Y fun c nc => ?_
    have ne : c ≠ b := fun z => by rw [z, put_same] at nc; cases nc
    rw [put_ne ne] at nc
    rw [put_comm ne.symm]
    refine hY (.adr c) _ (by rw [put_ne ne.symm]; exact nb) ⟨as ++ [c], by rw [List.map_append]; rfl, ?_⟩
    rw [List.replicate_succ']
    exact h.snoc nc _
  · rintro ys ν ⟨as, rfl, h⟩
    rw [List.length_map, List.length_range] at h
    exact hr as ν h
def g_rows_of_noughts (C : Addr) : GC := fun ds μ R => ∃ (p : List Nat) (ts : List Str) (r : Nat), ds = [dWeb C p ts] ∧ OkWeb p ts ∧ r = rankOf p ts (List.range ts.length) ∧ r ≤ ts.length ∧
  ∀ as ν, Rows μ ν as (List.replicate (r + 1) (zeros (ts.length - r + 1))) → R (dRows as) ν
def N36 : List Str := ["web", "rank_of_all", "spare_of_all", "_"]
theorem sc36 : FnScope N36 ["web"] (defScope (top 36)) := ⟨rfl, rfl, rfl, by decide +kernel, rfl, by decide +kernel, by decide +kernel⟩
theorem ok_rows_of_noughts (T : Tx K mg A) : FnOk P w K mg base CX0 4 A.rows_of_noughts A.fd_rows_of_noughts ["web"] (toSp K (g_rows_of_noughts A.Web)) := by
  refine okD T.F_rows_of_noughts sc36 (fun ds μ R h => ?_) ⟨_, fun cdv A0 outer s H E hr =>
    (dss_cons (ds_set sc36.nd (i := 1) rfl (by first | exact Or.inl rfl | exact Or.inr rfl) (de_call ((ok_full_rank T).mono (by decide)) hr (by rfl) T.g_full_rank T.F_full_rank.kp T.b_full_rank (da_cons (dv 0) da_nil)))
      (dss_cons (ds_set sc36.nd (i := 2) rfl (by first | exact Or.inl rfl | exact Or.inr rfl) (de_op op_sub sim_minus (de_callB cr_len sim_len (by rfl) T.z_len boot_len (da_cons (de_fld T.k_Web T.n_ties (dv 0)) da_nil)) (dv 1)))
      (dss_one (ds_ret (de_lc (own := [("_", 3)]) (by rfl) sc36.nd (di_range (by rfl) T.z_range (da_cons (de_op op_plus sim_plus (dv 1) de_int) da_nil)) (blkOk_by (N := N36) (own := [("_", 3)]) (sc := defScope (top 36)) (by decide +kernel)) (fun _ _ _ _ _ => (pg_name (i := 3) sc36.nd rfl (by first | exact Or.inl rfl | exact Or.inr rfl))) (sim_nm (i := 3)) (fun _ _ _ _ _ => dts_nil) (fun _ _ _ _ _ => (de_op op_rep sim_repC (de_lst (da_cons de_int da_nil)) (de_op op_plus sim_plus (dv 2) de_int)))))))), fun ds μ R h => ?_⟩
  · obtain ⟨p, ts, r, rfl, _⟩ := h
    rfl
  · obtain ⟨p, ts, r, rfl, ok, hr, rl, h⟩ := h
    have few := ok.many
    have lt : (ts.map D.str).length = ts.length := List.length_map _
    refine ⟨p, ts, rfl, ok, ?_⟩
    rw [← hr]
    refine ⟨rfl, _, rfl, ?_⟩
    refine ⟨⟨by omega, by omega⟩, ?_⟩
    have en : ((r : Int) + 1).toNat = r + 1 := by omega
    show LcB _ _ _ _ _ _ _ _
    rw [en]
    refine rows_made (w := ts.length - r + 1) (by omega) ?_ ?_
    · intro i ν Y hY
      refine ⟨by show 1 ≤ sizeLine; decide, ?_⟩
      refine ⟨⟨by rw [lt]; omega, by rw [lt]; omega, by show 1 ≤ 1000; omega⟩, fun c nc => ?_⟩
      have ew : (((ts.map D.str).length : Int) - (r : Int) + 1).toNat = ts.length - r + 1 := by rw [lt]; omega
      rw [ew, zero_flat]
      exact hY c nc
    · intro as ν hR
      exact h as ν hR
def rowOf (μ : Mu) : D → D
  | .adr a => match μ a with
    | some (.lst ds) => .tup ds
    | _ => .non
  | d => d
theorem rows_tup {μ ν : Mu} {as : List Addr} {rs : List (List Nat)} (h : Rows μ ν as rs) : (as.map D.adr).map (rowOf ν) = rs.map dLot := by
  apply List.ext_getElem?
  intro i
  rw [List.getElem?_map, List.getElem?_map, List.getElem?_map]
  by_cases hi : i < as.length
  · have h1 : as[i]? = some as[i] := List.getElem?_eq_getElem hi
    have h2 : rs[i]? = some (rs[i]'(by rw [← h.len]; exact hi)) := List.getElem?_eq_getElem _
    rw [h1, h2]
    have := h.at_ i _ _ h1 h2
    show some (rowOf ν (.adr as[i])) = some (dLot (rs[i]'(by rw [← h.len]; exact hi)))
    unfold rowOf
    simp only [this]
    rfl
  · rw [List.getElem?_eq_none (by omega), List.getElem?_eq_none (by rw [← h.len]; omega)]
    rfl
/-- what [tuple(row) for row in rows] asks for -/
theorem row_ask {μ ν μ' : Mu} {as : List Addr} {rs : List (List Nat)} (h : Rows μ ν as rs) {x : D} (hx : x ∈ as.map D.adr) (keep : ∀ b o, ν b = some o → μ' b = some o) {Y : KD} (hy : Y (rowOf ν x) μ') : gTuple1 x μ' Y := by
  obtain ⟨a, ha, rfl⟩ := List.mem_map.mp hx
  obtain ⟨i, hi, e⟩ := List.getElem_of_mem ha
  have h1 : as[i]? = some a := by rw [List.getElem?_eq_getElem hi, e]
  have h2 : rs[i]? = some (rs[i]'(by rw [← h.len]; exact hi)) := List.getElem?_eq_getElem _
  have h3 := h.at_ i a _ h1 h2
  have h4 := keep a _ h3
  unfold rowOf at hy
  simp only [h3] at hy
  unfold gTuple1
  simp only [h4]
  exact hy
def g_tuple_of_rows : GC := fun ds ν R => ∃ (μ : Mu) (as : List Addr) (rs : List (List Nat)), ds = [dRows as] ∧ Rows μ ν as rs ∧ rs.length ≤ 1000 ∧ R (.tup (rs.map dLot)) ν
def N37 : List Str := ["rows", "row"]
theorem sc37 : FnScope N37 ["rows"] (defScope (top 37)) := ⟨rfl, rfl, rfl, by decide +kernel, rfl, by decide +kernel, by decide +kernel⟩
/-! ### the rows of numbers of trees -/
def grid (a b : Nat) (f : Nat → Nat → Nat) : List (List Nat) := (List.range a).map fun i => (List.range b).map fun j => f i j
theorem grid_get {a b : Nat} {f : Nat → Nat → Nat} {i : Nat} (hi : i < a) : (grid a b f)[i]? = some ((List.range b).map fun j => f i j) := by
  unfold grid
  rw [List.getElem?_map, List.getElem?_range hi]
  rfl
theorem row_get {b : Nat} {f : Nat → Nat} {j : Nat} (hj : j < b) : ((((List.range b).map f).map Int.ofNat).map D.int)[j]? = some (.int (f j : Nat)) := by
  rw [List.getElem?_map, List.getElem?_map, List.getElem?_map, List.getElem?_range hj]
  rfl
theorem grid_len {a b : Nat} {f : Nat → Nat → Nat} : (grid a b f).length = a := by unfold grid; rw [List.length_map, List.length_range]
theorem grid_zero {a b : Nat} {f : Nat → Nat → Nat} (h : ∀ i j, f i j = 0) : List.replicate a (zeros b) = grid a b f := by
  unfold grid zeros
  apply List.ext_getElem?
  intro i
  rw [List.getElem?_map, List.getElem?_replicate]
  by_cases hi : i < a
  · rw [if_pos hi, List.getElem?_range hi]
    show some _ = some _
    congr 1
    apply List.ext_getElem?
    intro j
    rw [List.getElem?_map, List.getElem?_replicate]
    by_cases hj : j < b
    · rw [if_pos hj, List.getElem?_range hj]
      show some 0 = some (f i j)
      rw [h]
    · rw [if_neg hj, List.getElem?_eq_none (by simp; omega)]
      rfl
  · rw [if_neg hi, List.getElem?_eq_none (by simp; omega)]
    rfl
theorem row_set {b j0 : Nat} {f g : Nat → Nat} (hj : j0 < b) (h0 : g j0 = f j0 + 1) (h1 : ∀ j, j ≠ j0 → g j = f j) : ((List.range b).map f).set j0 (f j0 + 1) = (List.range b).map g := by
  apply List.ext_getElem?
  intro j
  rw [List.getElem?_set]
  by_cases e : j0 = j
  · subst e
    rw [if_pos rfl, if_pos (by rw [List.length_map, List.length_range]; exact hj), List.getElem?_map, List.getElem?_range hj]
    show some _ = some _
    rw [h0]
  · rw [if_neg e, List.getElem?_map, List.getElem?_map]
    by_cases hb : j < b
    · rw [List.getElem?_range hb]
      show some _ = some _
      rw [h1 j fun z => e z.symm]
    · rw [List.getElem?_eq_none (by simp; omega)]
      rfl
theorem grid_set {a b i0 j0 : Nat} {f g : Nat → Nat → Nat} (hi : i0 < a) (hj : j0 < b) (h0 : g i0 j0 = f i0 j0 + 1) (h1 : ∀ i j, ¬ (i = i0 ∧ j = j0) → g i j = f i j) :
    (grid a b f).set i0 (((List.range b).map fun j => f i0 j).set j0 (f i0 j0 + 1)) = grid a b g := by
  rw [row_set (f := fun j => f i0 j) (g := fun j => g i0 j) hj h0 fun j hj => h1 i0 j fun z => hj z.2]
  unfold grid
  apply List.ext_getElem?
  intro i
  rw [List.getElem?_set]
  by_cases e : i0 = i
  · subst e
    rw [if_pos rfl, if_pos (by rw [List.length_map, List.length_range]; exact hi), List.getElem?_map, List.getElem?_range hi]
    rfl
  · rw [if_neg e, List.getElem?_map, List.getElem?_map]
    by_cases hb : i < a
    · rw [List.getElem?_range hb]
      show some _ = some _
      congr 1
      exact List.map_congr_left fun j _ => (h1 i j fun z => e z.1.symm).symm
    · rw [List.getElem?_eq_none (by simp; omega)]
      rfl
end
end K10
set_option Elab.async false
set_option linter.all false
set_option maxRecDepth 100000
namespace K10
open DL
/-! ### sums over 0 .. m - 1 -/
def S (f : Nat → Int) : Nat → Int
  | 0 => 0
  | m + 1 => S f m + f m
theorem S_congr {f g : Nat → Int} : ∀ {m : Nat}, (∀ k, k < m → f k = g k) → S f m = S g m
  | 0, _ => rfl
  | m + 1, h => by rw [S, S, S_congr fun k hk => h k (Nat.lt_succ_of_lt hk), h m (Nat.lt_succ_self m)]
theorem S_add (f g : Nat → Int) : ∀ m, S (fun k => f k + g k) m = S f m + S g m
  | 0 => rfl
  | m + 1 => by rw [S, S, S, S_add f g m]; omega
theorem S_mul (c : Int) (f : Nat → Int) : ∀ m, S (fun k => c * f k) m = c * S f m
  | 0 => (Int.mul_zero c).symm
  | m + 1 => by rw [S, S, S_mul c f m, Int.mul_add]
theorem S_mulr (c : Int) (f : Nat → Int) : ∀ m, S (fun k => f k * c) m = S f m * c
  | 0 => (Int.zero_mul c).symm
  | m + 1 => by rw [S, S, S_mulr c f m, Int.add_mul]
theorem S_zero : ∀ m, S (fun _ => 0) m = 0
  | 0 => rfl
  | m + 1 => by rw [S, S_zero m]; rfl
theorem S_swap (g : Nat → Nat → Int) (n : Nat) : ∀ m, S (fun i => S (fun j => g i j) n) m = S (fun j => S (fun i => g i j) m) n
  | 0 => (S_zero n).symm
  | m + 1 => by rw [S, S_swap g n m, ← S_add]; rfl
/-- a sum over a list of terms that are sums -/
theorem S_list {α : Type} (g : Nat → α → Int) (m : Nat) : ∀ X : List α, S (fun i => (X.map (g i)).sum) m = (X.map fun x => S (fun i => g i x) m).sum
  | [] => S_zero m
  | x :: X => by
    simp only [List.map_cons, List.sum_cons]
    rw [S_add, S_list g m X]
theorem S_first (f : Nat → Int) : ∀ m, S f (m + 1) = f 0 + S (fun k => f (k + 1)) m
  | 0 => by simp [S]
  | m + 1 => by rw [S, S_first f m, S]; omega
/-! ### signs, choosing, the shifted row -/
def sgn (k : Nat) : Int := if k % 2 = 0 then 1 else -1
theorem sgn_succ (k : Nat) : sgn (k + 1) = - sgn k := by
  unfold sgn
  rcases Nat.mod_two_eq_zero_or_one k with h | h
  · have h1 : ¬ (k + 1) % 2 = 0 := by omega
    rw [if_pos h, if_neg h1]
  · have h1 : (k + 1) % 2 = 0 := by omega
    have h2 : ¬ k % 2 = 0 := by omega
    rw [if_neg h2, if_pos h1]; rfl
theorem sgn_two (k : Nat) : sgn (k + 2) = sgn k := by rw [sgn_succ, sgn_succ, Int.neg_neg]
/-- a row of numbers of powers of x - 1, as one of powers of x -/
def shS (f : Nat → Int) (m l : Nat) : Int := S (fun p => sgn (p + l) * f p * (ch p l : Nat)) m
/-- the binomial rule, with both parts' powers -/
theorem binom (a b : Int) : ∀ p m : Nat, p < m → S (fun l => (ch p l : Int) * sgn (p + l) * a ^ l * b ^ (p - l)) m = (a - b) ^ p := by
  intro p
  induction p with
  | zero =>
    intro m hm
    obtain ⟨m, rfl⟩ : ∃ k, m = k + 1 := ⟨m - 1, by omega⟩
    rw [S_first, S_congr (g := fun _ => 0) fun k _ => ?_, S_zero]
    · simp [ch, sgn]
    · simp [ch]
  | succ p ih =>
    intro m hm
    obtain ⟨m, rfl⟩ : ∃ k, m = k + 1 := ⟨m - 1, by omega⟩
    have e1 : S (fun l => (ch (p + 1) (l + 1) : Int) * sgn (p + 1 + (l + 1)) * a ^ (l + 1) * b ^ (p + 1 - (l + 1))) m
        = a * S (fun l => (ch p l : Int) * sgn (p + l) * a ^ l * b ^ (p - l)) m + S (fun l => (ch p (l + 1) : Int) * sgn (p + (l + 1) + 1) * a ^ (l + 1) * b ^ (p - l)) m := by
      rw [← S_mul, ← S_add]
      refine S_congr fun l _ => ?_
      have q1 : sgn (p + 1 + (l + 1)) = sgn (p + l) := by rw [show p + 1 + (l + 1) = p + l + 2 by omega]; exact sgn_two _
      have q2 : sgn (p + (l + 1) + 1) = sgn (p + l) := by rw [show p + (l + 1) + 1 = p + l + 2 by omega]; exact sgn_two _
      rw [q1, q2, show p + 1 - (l + 1) = p - l by omega]
      show ((ch p l + ch p (l + 1) : Nat) : Int) * _ * _ * _ = _
      rw [Int.natCast_add, Int.pow_succ]
      grind
    have e2 : S (fun l => (ch p (l + 1) : Int) * sgn (p + (l + 1) + 1) * a ^ (l + 1) * b ^ (p - l)) m = - b * S (fun l => (ch p (l + 1) : Int) * sgn (p + (l + 1)) * a ^ (l + 1) * b ^ (p - (l + 1))) m := by
      rw [← S_mul]
      refine S_congr fun l _ => ?_
      rw [sgn_succ]
      by_cases h : l + 1 ≤ p
      · rw [show p - l = p - (l + 1) + 1 by omega, Int.pow_succ]
        grind
      · rw [ch_less (show p < l + 1 by omega)]
        simp
    rw [S_first, e1, e2, ih m (by omega)]
    have e3 := ih (m + 1) (by omega)
    rw [S_first] at e3
    have e4 : sgn (p + 1 + 0) = - sgn (p + 0) := sgn_succ p
    have z1 : ch (p + 1) 0 = 1 := ch_zero _
    have z2 : ch p 0 = 1 := ch_zero _
    rw [e4, z1, show p + 1 - 0 = p + 1 by omega, Int.pow_succ b p]
    rw [z2, Nat.sub_zero] at e3
    rw [Int.pow_succ (a - b) p]
    have e5 : S (fun k => (ch p (k + 1) : Int) * sgn (p + (k + 1)) * a ^ (k + 1) * b ^ (p - (k + 1))) m = (a - b) ^ p - ((1 : Nat) : Int) * sgn (p + 0) * a ^ 0 * b ^ p := by omega
    rw [e5]
    grind
/-- a shifted row's value at a / b is the row's own at (a - b) / b -/
theorem shS_value (f : Nat → Int) (a b : Int) (m : Nat) : S (fun l => shS f m l * (a ^ l * b ^ (m - 1 - l))) m = S (fun p => f p * ((a - b) ^ p * b ^ (m - 1 - p))) m := by
  have e1 : S (fun l => shS f m l * (a ^ l * b ^ (m - 1 - l))) m = S (fun l => S (fun p => sgn (p + l) * f p * (ch p l : Nat) * (a ^ l * b ^ (m - 1 - l))) m) m :=
    S_congr fun l _ => (S_mulr _ _ _).symm
  rw [e1, S_swap]
  refine S_congr fun p hp => ?_
  rw [← binom a b p m hp, ← S_mulr, ← S_mul]
  refine S_congr fun l hl => ?_
  by_cases h : l ≤ p
  · rw [show m - 1 - l = (p - l) + (m - 1 - p) by omega, Int.pow_add]
    grind
  · rw [ch_less (show p < l by omega)]
    simp
/-- both sides shifted -/
def tabS (c : Nat → Nat → Int) (m n i j : Nat) : Int := shS (fun p => shS (c p) n j) m i
theorem tabS_value (c : Nat → Nat → Int) (m n : Nat) (a b u v : Int) :
    S (fun i => S (fun j => tabS c m n i j * (a ^ i * b ^ (m - 1 - i)) * (u ^ j * v ^ (n - 1 - j))) n) m
      = S (fun i => S (fun j => c i j * ((a - b) ^ i * b ^ (m - 1 - i)) * ((u - v) ^ j * v ^ (n - 1 - j))) n) m := by
  rw [S_swap]
  have e1 : ∀ j, S (fun i => tabS c m n i j * (a ^ i * b ^ (m - 1 - i)) * (u ^ j * v ^ (n - 1 - j))) m = S (fun i => shS (c i) n j * ((a - b) ^ i * b ^ (m - 1 - i)) * (u ^ j * v ^ (n - 1 - j))) m := fun j => by
    rw [S_mulr, S_mulr]
    exact congrArg (· * _) (shS_value _ a b m)
  rw [S_congr fun j _ => e1 j, S_swap]
  refine S_congr fun i _ => ?_
  have e2 := shS_value (c i) u v n
  have e3 : S (fun j => shS (c i) n j * ((a - b) ^ i * b ^ (m - 1 - i)) * (u ^ j * v ^ (n - 1 - j))) n = ((a - b) ^ i * b ^ (m - 1 - i)) * S (fun j => shS (c i) n j * (u ^ j * v ^ (n - 1 - j))) n := by
    rw [← S_mul]
    exact S_congr fun j _ => by grind
  rw [e3, e2, ← S_mul]
  exact S_congr fun j _ => by grind
/-! ### the shifted table of what trees give -/
theorem orth : ∀ m : Nat, m < 13 → ∀ k, k < m → ∀ i, i < m → S (fun p => sgn (p + i) * (ch k p : Nat) * (ch p i : Nat)) m = if k = i then 1 else 0 := by decide +kernel
theorem shS_ch {m k i : Nat} (hm : m < 13) (hk : k < m) (hi : i < m) : shS (fun p => (ch k p : Nat)) m i = if k = i then 1 else 0 := orth m hm k hk i hi
theorem shS_mul (f : Nat → Int) (w : Int) (m l : Nat) : shS (fun p => f p * w) m l = shS f m l * w := by
  unfold shS
  rw [← S_mulr]
  exact S_congr fun p _ => by grind
theorem shS_list {α : Type} (X : List α) (f : α → Nat → Int) (m l : Nat) : shS (fun p => (X.map fun x => f x p).sum) m l = (X.map fun x => shS (f x) m l).sum := by
  unfold shS
  rw [← S_list]
  refine S_congr fun p _ => ?_
  induction X with
  | nil => simp
  | cons x X ih => simp only [List.map_cons, List.sum_cons]; rw [← ih]; grind
theorem shS_congr {f g : Nat → Int} {m l : Nat} (h : ∀ p, p < m → f p = g p) : shS f m l = shS g m l := S_congr fun p hp => by rw [h p hp]
theorem tab_trees {α : Type} (X : List α) (e l : α → Nat) (c : Nat → Nat → Int) (m n : Nat) (hm : m < 13) (hn : n < 13) (hX : ∀ x ∈ X, e x < m ∧ l x < n)
    (hc : ∀ a, a < m → ∀ b, b < n → c a b = ((X.map fun x => ch (e x) a * ch (l x) b).sum : Nat)) {i j : Nat} (hi : i < m) (hj : j < n) :
    tabS c m n i j = ((X.filter fun x => decide (e x = i ∧ l x = j)).length : Nat) := by
  have e1 : ∀ a, a < m → ∀ b, b < n → c a b = (X.map fun x => ((ch (e x) a : Nat) : Int) * ((ch (l x) b : Nat) : Int)).sum := fun a ha b hb => by
    rw [hc a ha b hb]
    clear hc hX
    induction X with
    | nil => rfl
    | cons x X ih => simp only [List.map_cons, List.sum_cons, Int.natCast_add, Int.natCast_mul]; rw [ih]
  have e2 : ∀ a, a < m → shS (c a) n j = (X.map fun x => ((ch (e x) a : Nat) : Int) * (if l x = j then 1 else 0)).sum := fun a ha => by
    rw [shS_congr (g := fun b => (X.map fun x => ((ch (l x) b : Nat) : Int) * ((ch (e x) a : Nat) : Int)).sum) fun b hb => by
      rw [e1 a ha b hb]
      exact congrArg List.sum (List.map_congr_left fun x _ => Int.mul_comm _ _)]
    rw [shS_list]
    refine congrArg List.sum (List.map_congr_left fun x hx => ?_)
    rw [shS_mul, shS_ch hn (hX x hx).2 hj, Int.mul_comm]
  unfold tabS
  rw [shS_congr e2, shS_list]
  rw [List.map_congr_left (g := fun x => (if e x = i then (1 : Int) else 0) * (if l x = j then 1 else 0)) fun x hx => by
    rw [shS_mul, shS_ch hm (hX x hx).1 hi]]
  clear e1 e2 hc hX
  induction X with
  | nil => rfl
  | cons x X ih =>
    rw [List.map_cons, List.sum_cons, ih]
    by_cases h1 : e x = i <;> by_cases h2 : l x = j <;> simp [h1, h2] <;> omega
/-! ### the greatest common divisor by turns -/
def itG : Nat → Nat → Nat → Nat
  | 0, x, _ => x
  | t + 1, x, y => if y = 0 then x else itG t y (x % y)
theorem itG_gcd : ∀ (k t x y : Nat), y < 2 ^ k → 2 * k ≤ t → itG t x y = Nat.gcd x y := by
  intro k
  induction k with
  | zero =>
    intro t x y h _
    have : y = 0 := by simp at h; exact h
    subst this
    cases t <;> simp [itG]
  | succ k ih =>
    intro t x y h ht
    obtain ⟨t, rfl⟩ : ∃ r, t = r + 2 := ⟨t - 2, by omega⟩
    rw [itG]
    split
    · rename_i e; subst e; simp
    · rename_i ne
      rw [itG]
      have g1 : Nat.gcd x y = Nat.gcd y (x % y) := by rw [Nat.gcd_comm, Nat.gcd_rec, Nat.gcd_comm]
      split
      · rename_i e
        rw [g1, e, Nat.gcd_zero_right]
      · rename_i ne2
        have g2 : Nat.gcd y (x % y) = Nat.gcd (x % y) (y % (x % y)) := by rw [Nat.gcd_comm, Nat.gcd_rec, Nat.gcd_comm]
        rw [g1, g2]
        refine ih t _ _ ?_ (by omega)
        have l1 : x % y < y := Nat.mod_lt _ (by omega)
        have l2 : y % (x % y) < x % y := Nat.mod_lt _ (by omega)
        have l3 : x % y + y % (x % y) ≤ y := by
          have d := Nat.div_add_mod y (x % y)
          have q : 1 ≤ y / (x % y) := Nat.div_pos (Nat.le_of_lt l1) (by omega)
          have := Nat.mul_le_mul_left (x % y) q
          omega
        rw [Nat.pow_succ] at h
        omega
end K10
set_option Elab.async false
set_option linter.all false
set_option maxRecDepth 100000
namespace K10
open PySem PySem.Spec PyProof.Rows L2 DL
section
variable {P : Program} {w : World} {K : PySem.W.Frag} {mg : Str → Option Value} {base : Heap} {A : Ad}
/-! ### counts of lots -/
def dRowI (r : List Int) : D := .lst (r.map D.int)
def dGridI (rs : List (List Int)) : D := .lst (rs.map dRowI)
def natI (r : List Nat) : List Int := r.map Int.ofNat
theorem rows_frz {μ ν : Mu} {as : List Addr} {rs : List (List Nat)} (h : Rows μ ν as rs) : Into (dRows as) ν (dGridI (rs.map natI)) μ := by
  have a2 : A2 (fun a r => ν a = some (.lst r)) as (rs.map fun r => (natI r).map D.int) := by
    have key : ∀ (as : List Addr) (rs : List (List Nat)), as.length = rs.length → (∀ (i : Nat) (a : Addr) (r : List Nat), as[i]? = some a → rs[i]? = some r → ν a = some (.lst ((r.map Int.ofNat).map D.int))) → A2 (fun a r => ν a = some (.lst r)) as (rs.map fun r => (natI r).map D.int) := by
      intro as
      induction as with
      | nil =>
        intro rs l _
        cases rs with
        | nil => trivial
        | cons _ _ => simp at l
      | cons a as ih =>
        intro rs l g
        cases rs with
        | nil => simp at l
        | cons r rs => exact ⟨g 0 a r rfl rfl, ih rs (by simpa using l) fun i b q hb hq => g (i + 1) b q (by simpa using hb) (by simpa using hq)⟩
    exact key as rs h.len h.at_
  have one := Into.frzAll as _ [] ν a2 h.nod
  rw [List.nil_append, List.nil_append, List.map_map] at one
  have e : dels ν as = μ := by
    funext b
    by_cases hb : b ∈ as
    · rw [h.new b hb]
      exact (dels_in as ν b hb).elim id False.elim
    · rw [dels_out as ν b hb]; exact h.old b hb
  rw [e] at one
  have e2 : (dGridI (rs.map natI)) = .lst (rs.map (D.lst ∘ fun r => (natI r).map D.int)) := by
    unfold dGridI
    rw [List.map_map]
    rfl
  rw [e2]
  exact one
def lotsOf (v : List Nat) : List (List Nat) := v.foldl (fun L i => L ++ L.map (· ++ [i])) [[]]
theorem lotsOf_snoc (v : List Nat) (k : Nat) : lotsOf (v ++ [k]) = lotsOf v ++ (lotsOf v).map (· ++ [k]) := by
  unfold lotsOf
  rw [List.foldl_append]
  rfl
theorem lotsOf_few : ∀ v : List Nat, (lotsOf v).length = 2 ^ v.length := by
  refine snoc_ind (P := fun v => (lotsOf v).length = 2 ^ v.length) rfl ?_
  intro w k ih
  rw [lotsOf_snoc, List.length_append, List.length_map, ih, List.length_append, List.length_singleton, Nat.pow_succ]
  omega
theorem lotsOf_len : ∀ v : List Nat, ∀ u ∈ lotsOf v, u.length ≤ v.length := by
  refine snoc_ind (P := fun v => ∀ u ∈ lotsOf v, u.length ≤ v.length) (fun u hu => by rw [List.mem_singleton.mp hu]; exact Nat.le_refl _) ?_
  intro w k ih u hu
  rw [lotsOf_snoc] at hu
  rw [List.length_append, List.length_singleton]
  rcases List.mem_append.mp hu with h | h
  · exact Nat.le_succ_of_le (ih u h)
  · obtain ⟨x, hx, rfl⟩ := List.mem_map.mp h
    have := ih x hx
    rw [List.length_append, List.length_singleton]
    omega
theorem lotsOf_range : ∀ n : Nat, lotsOf (List.range n) = lotsL n
  | 0 => rfl
  | n + 1 => by
    rw [List.range_succ, lotsOf_snoc, lotsOf_range n]
    rfl
def g_lots_within : GC := fun ds μ R => ∃ v : List Nat, ds = [dLot v] ∧ v.length ≤ 11 ∧ R (.lst ((lotsOf v).map dLot)) μ
def g_all_lots (C : Addr) : GC := fun ds μ R => ∃ (p : List Nat) (ts : List Str), ds = [dWeb C p ts] ∧ OkWeb p ts ∧ R (.lst ((lotsL ts.length).map dLot)) μ
def N31 : List Str := ["lot", "lots", "index", "shorter"]
theorem sc31 : FnScope N31 ["lot"] (defScope (top 31)) := ⟨rfl, rfl, rfl, by decide +kernel, rfl, by decide +kernel, by decide +kernel⟩
theorem ok_lots_within (T : Tx K mg A) : FnOk P w K mg base CX0 1 A.lots_within A.fd_lots_within ["lot"] (toSp K (g_lots_within)) := by
  refine okD T.F_lots_within sc31 (fun ds μ R h => ?_) ⟨_, fun cdv A0 outer s H E hr =>
    (dss_cons (ds_set sc31.nd (i := 1) rfl (by first | exact Or.inl rfl | exact Or.inr rfl) (de_lst (da_cons (de_tup da_nil) da_nil)))
      (dss_cons (ds_for PassesOwn.never rfl (di_both (dv 0)) (pg_name (i := 2) sc31.nd rfl (by first | exact Or.inl rfl | exact Or.inr rfl)) (sim_nm (i := 2))
      (dss_one (ds_set sc31.nd (i := 1) rfl (by first | exact Or.inl rfl | exact Or.inr rfl) (de_op op_plus sim_plus (dv 1) (de_lc (own := [("shorter", 3)]) (by rfl) sc31.nd (di_both (dv 1)) (blkOk_by (N := N31) (own := [("shorter", 3)]) (sc := defScope (top 31)) (by decide +kernel)) (fun _ _ _ _ _ => (pg_name (i := 3) sc31.nd rfl (by first | exact Or.inl rfl | exact Or.inr rfl))) (sim_nm (i := 3)) (fun _ _ _ _ _ => dts_nil) (fun _ _ _ _ _ => (de_op op_plus sim_plus (dv 3) (de_tup (da_cons (dv 2) da_nil)))))))))
      (dss_one (ds_ret (dv 1))))), fun ds μ R h => ?_⟩
  · obtain ⟨v, rfl, _⟩ := h
    rfl
  · obtain ⟨v, rfl, few0, h⟩ := h
    refine ⟨by show 0 ≤ sizeLine; decide, by show 1 ≤ sizeLine; decide, ?_⟩
    refine ⟨fun i δ' μ' => μ' = μ ∧ ∃ o2 o3, δ' = [some (dLot v), some (.lst ((lotsOf (v.take i)).map dLot)), o2, o3], ⟨rfl, none, none, rfl⟩, ?_, ?_⟩
    · rintro i x δ' μ' hx ⟨rfl, o2, o3, rfl⟩
      obtain ⟨k, hk, rfl⟩ := lot_at hx
      have hi : i < v.length := (List.getElem?_eq_some_iff.mp hk).1
      have lk : (v.take i).length = i := by rw [List.length_take]; omega
      have few : (lotsOf (v.take i)).length ≤ 2048 := by
        rw [lotsOf_few, lk]
        exact pow_few (by omega)
      show LcB _ _ _ _ _ _ _ _
      refine lcb_map (addI k) ?_ ?_ ?_
      · rw [List.length_map, sizeLine_eq]
        omega
      · intro x hx μ2 Y _ hy
        obtain ⟨u, hu, rfl⟩ := List.mem_map.mp hx
        have u2 := lotsOf_len _ u hu
        refine ⟨by show 1 ≤ sizeLine; decide, ?_, hy⟩
        show ((u.map Int.ofNat).map D.int).length + 1 ≤ sizeLine
        rw [List.length_map, List.length_map, sizeLine_eq]
        omega
      · rw [addI_map]
        refine ⟨by rw [List.length_map, List.length_map, List.length_map, sizeLine_eq]; omega, rfl, some (.int (k : Nat)), o3, ?_⟩
        show _ = [some (dLot v), some (.lst ((lotsOf (v.take (i + 1))).map dLot)), some (.int (k : Nat)), o3]
        rw [take_succ_get hk, lotsOf_snoc, List.map_append]
        rfl
    · rintro δ' μ' ⟨rfl, o2, o3, rfl⟩
      have en : ((v.map Int.ofNat).map D.int).length = v.length := by simp
      rw [en, List.take_length]
      exact h
def N32 : List Str := ["web"]
theorem sc32 : FnScope N32 ["web"] (defScope (top 32)) := ⟨rfl, rfl, rfl, by decide +kernel, rfl, by decide +kernel, by decide +kernel⟩
theorem ok_all_lots (T : Tx K mg A) : FnOk P w K mg base CX0 2 A.all_lots A.fd_all_lots ["web"] (toSp K (g_all_lots A.Web)) := by
  refine okD T.F_all_lots sc32 (fun ds μ R h => ?_) ⟨_, fun cdv A0 outer s H E hr =>
    (dss_one (ds_ret (de_call ((ok_lots_within T).mono (by decide)) hr (by rfl) T.g_lots_within T.F_lots_within.kp T.b_lots_within (da_cons (de_call ((ok_lot_of_all T).mono (by decide)) hr (by rfl) T.g_lot_of_all T.F_lot_of_all.kp T.b_lot_of_all (da_cons (dv 0) da_nil)) da_nil)))), fun ds μ R h => ?_⟩
  · obtain ⟨p, ts, rfl, _⟩ := h
    rfl
  · obtain ⟨p, ts, rfl, ok, h⟩ := h
    refine ⟨p, ts, rfl, ok, ?_⟩
    refine ⟨List.range ts.length, rfl, by rw [List.length_range]; exact ok.many, ?_⟩
    rw [lotsOf_range]
    exact h
theorem Mat.more {n : Nat} {ρ : List Nat → Nat} (M : Mat n ρ) (v : List Nat) (hv : Lt n v) : ∀ w : List Nat, Lt n w → ρ (v ++ w) ≤ ρ v + w.length := by
  refine snoc_ind (P := fun w => Lt n w → ρ (v ++ w) ≤ ρ v + w.length) (fun _ => by rw [List.append_nil]; exact Nat.le_refl _) ?_
  intro w k ih hw
  have h1 := ih fun j hj => hw j (List.mem_append.mpr (.inl hj))
  have h2 := M.le1 (v := v ++ w) (fun j hj => (List.mem_append.mp hj).elim (hv j) fun q => hw j (List.mem_append.mpr (.inl q))) (hw k (List.mem_append.mpr (.inr (List.mem_singleton.mpr rfl))))
  rw [← List.append_assoc, List.length_append, List.length_singleton]
  omega
/-- no lot has more ties to spare than all ties have -/
theorem mat_spare {n : Nat} {ρ : List Nat → Nat} (M : Mat n ρ) {v : List Nat} (hv : Lt n v) (nd : v.Nodup) : v.length + full ρ n ≤ ρ v + n := by
  have h := M.more v hv (outs v n) fun k hk => (outs_mem.mp hk).1
  have e : ρ (v ++ outs v n) = full ρ n := M.mem _ _ (fun k hk => (List.mem_append.mp hk).elim (hv k) fun q => (outs_mem.mp q).1) (lt_range n) fun k => by
    rw [List.mem_append, outs_mem, List.mem_range]
    constructor
    · rintro (q | q)
      · exact hv k q
      · exact q.1
    · intro q
      by_cases e : k ∈ v
      · exact .inl e
      · exact .inr ⟨q, e⟩
  have l := outs_len nd hv
  rw [e] at h
  omega
def cntOf (p : List Nat) (ts : List Str) (L : List (List Nat)) (a b : Nat) : Nat := (L.filter fun v => decide (a + rankOf p ts v = rankOf p ts (List.range ts.length) ∧ v.length = rankOf p ts v + b)).length
def cntT (p : List Nat) (ts : List Str) (L : List (List Nat)) : List (List Nat) := grid (rankOf p ts (List.range ts.length) + 1) (ts.length - rankOf p ts (List.range ts.length) + 1) (cntOf p ts L)
theorem cntOf_all (p : List Nat) (ts : List Str) (a b : Nat) : cntOf p ts (lotsL ts.length) a b = cnt (rankOf p ts) ts.length a b := rfl
theorem cntT_none (p : List Nat) (ts : List Str) (L : List (List Nat)) : List.replicate (rankOf p ts (List.range ts.length) + 1) (zeros (ts.length - rankOf p ts (List.range ts.length) + 1)) = cntT p ts (L.take 0) := grid_zero fun i j => by
  unfold cntOf
  rw [List.take_zero]
  rfl
theorem cntOf_take {p : List Nat} {ts : List Str} {L : List (List Nat)} {i : Nat} {v : List Nat} (h : L[i]? = some v) (a b : Nat) :
    cntOf p ts (L.take (i + 1)) a b = cntOf p ts (L.take i) a b + if (a + rankOf p ts v = rankOf p ts (List.range ts.length) ∧ v.length = rankOf p ts v + b) then 1 else 0 := by
  unfold cntOf
  rw [take_succ_get h, List.filter_append, List.length_append]
  congr 1
  rw [List.filter_cons]
  by_cases e : a + rankOf p ts v = rankOf p ts (List.range ts.length) ∧ v.length = rankOf p ts v + b
  · rw [if_pos e, if_pos (decide_eq_true e)]
    rfl
  · rw [if_neg e, if_neg (by rw [decide_eq_true_eq]; exact e)]
    rfl
/-- one more lot in the rows -/
theorem cntT_more {p : List Nat} {ts : List Str} (u : p.Pairwise (· ≠ ·)) (he : Ends p ts) {L : List (List Nat)} {i : Nat} {v : List Nat} (h : L[i]? = some v) (hv : Lt ts.length v) (nd : v.Nodup) :
    rankOf p ts v ≤ rankOf p ts (List.range ts.length) ∧ rankOf p ts v ≤ v.length ∧
    rankOf p ts (List.range ts.length) - rankOf p ts v < rankOf p ts (List.range ts.length) + 1 ∧ v.length - rankOf p ts v < ts.length - rankOf p ts (List.range ts.length) + 1 ∧
    (cntT p ts (L.take i)).set (rankOf p ts (List.range ts.length) - rankOf p ts v) (((List.range (ts.length - rankOf p ts (List.range ts.length) + 1)).map fun j => cntOf p ts (L.take i) (rankOf p ts (List.range ts.length) - rankOf p ts v) j).set (v.length - rankOf p ts v) (cntOf p ts (L.take i) (rankOf p ts (List.range ts.length) - rankOf p ts v) (v.length - rankOf p ts v) + 1)) = cntT p ts (L.take (i + 1)) := by
  have M := web_mat u he
  have h1 : rankOf p ts v ≤ rankOf p ts (List.range ts.length) := M.full hv
  have h2 := M.len v hv
  have h3 : v.length + rankOf p ts (List.range ts.length) ≤ rankOf p ts v + ts.length := mat_spare M hv nd
  have h4 : rankOf p ts (List.range ts.length) ≤ (List.range ts.length).length := M.len _ (lt_range _)
  rw [List.length_range] at h4
  refine ⟨h1, h2, by omega, by omega, grid_set (by omega) (by omega) ?_ fun a b hab => ?_⟩
  · rw [cntOf_take h, if_pos ⟨by omega, by omega⟩]
  · rw [cntOf_take h, if_neg (fun z => hab ⟨by omega, by omega⟩), Nat.add_zero]
theorem lots_nd {n : Nat} {v : List Nat} (h : v ∈ lotsL n) : v.Nodup := (lots_in n v h).2.2.imp fun h => Nat.ne_of_lt h
theorem grid_web {p : List Nat} {ts : List Str} (u : p.Pairwise (· ≠ ·)) (he : Ends p ts) : rankOf p ts (List.range ts.length) ≤ ts.length := by
  have h4 := (web_mat u he).len _ (lt_range ts.length)
  rw [List.length_range] at h4
  exact h4
def g_counts_of_lots (C : Addr) : GC := fun ds μ R => ∃ (p : List Nat) (ts : List Str), ds = [dWeb C p ts] ∧ OkWeb p ts ∧ p.Pairwise (· ≠ ·) ∧ R (dGridI ((cntT p ts (lotsL ts.length)).map natI)) μ
def N38 : List Str := ["web", "rank_of_all", "rows", "lot", "rank_of_lot"]
theorem sc38 : FnScope N38 ["web"] (defScope (top 38)) := ⟨rfl, rfl, rfl, by decide +kernel, rfl, by decide +kernel, by decide +kernel⟩
theorem ok_counts_of_lots (T : Tx K mg A) : FnOk P w K mg base CX0 7 A.counts_of_lots A.fd_counts_of_lots ["web"] (toSp K (g_counts_of_lots A.Web)) := by
  refine okDF T.F_counts_of_lots sc38 (fun ds μ R h => ?_) ⟨_, fun cdv A0 outer s H E hr =>
    (dss_cons (ds_set sc38.nd (i := 1) rfl (by first | exact Or.inl rfl | exact Or.inr rfl) (de_call ((ok_full_rank T).mono (by decide)) hr (by rfl) T.g_full_rank T.F_full_rank.kp T.b_full_rank (da_cons (dv 0) da_nil)))
      (dss_cons (ds_set sc38.nd (i := 2) rfl (by first | exact Or.inl rfl | exact Or.inr rfl) (de_call ((ok_rows_of_noughts T).mono (by decide)) hr (by rfl) T.g_rows_of_noughts T.F_rows_of_noughts.kp T.b_rows_of_noughts (da_cons (dv 0) da_nil)))
      (dss_cons (ds_for PassesOwn.never rfl (di_both (de_call ((ok_all_lots T).mono (by decide)) hr (by rfl) T.g_all_lots T.F_all_lots.kp T.b_all_lots (da_cons (dv 0) da_nil))) (pg_name (i := 3) sc38.nd rfl (by first | exact Or.inl rfl | exact Or.inr rfl)) (sim_nm (i := 3))
      (dss_cons (ds_set sc38.nd (i := 4) rfl (by first | exact Or.inl rfl | exact Or.inr rfl) (de_call ((ok_rank_of T).mono (by decide)) hr (by rfl) T.g_rank_of T.F_rank_of.kp T.b_rank_of (da_cons (dv 0) (da_cons (dv 3) da_nil))))
      (dss_one (ds_augS (de_ix ix_any sim_ix (dv 2) (de_op op_sub sim_minus (dv 1) (dv 4)) (fun _ _ => rfl)) (de_op op_sub sim_minus (de_callB cr_len sim_len (by rfl) T.z_len boot_len (da_cons (dv 3) da_nil)) (dv 4)) de_int ip_add sim_ipadd))))
      (dss_one (ds_ret (dv 2)))))), fun ds μ R h => ?_⟩
  · obtain ⟨p, ts, rfl, _⟩ := h
    rfl
  · obtain ⟨p, ts, rfl, ok, un, h⟩ := h
    have few := ok.many
    have rl := grid_web un ok.ends
    refine ⟨p, ts, rfl, ok, ?_⟩
    refine ⟨p, ts, _, rfl, ok, rfl, rl, fun as ν hR => ?_⟩
    refine ⟨p, ts, rfl, ok, ?_⟩
    rw [cntT_none p ts (lotsL ts.length)] at hR
    refine ⟨fun i δ' ν' => Rows μ ν' as (cntT p ts ((lotsL ts.length).take i)) ∧ ∃ o3 o4, δ' = [some (dWeb A.Web p ts), some (.int (rankOf p ts (List.range ts.length) : Nat)), some (dRows as), o3, o4], ⟨hR, none, none, rfl⟩, ?_, ?_⟩
    · rintro i x δ' ν' hi ⟨hR, o3, o4, rfl⟩
      rw [List.getElem?_map] at hi
      obtain ⟨v, hv, rfl⟩ : ∃ v, (lotsL ts.length)[i]? = some v ∧ dLot v = x := by
        cases e : (lotsL ts.length)[i]? with
        | none => rw [e] at hi; cases hi
        | some t => rw [e] at hi; exact ⟨t, rfl, Option.some.inj hi⟩
      have vm := List.mem_of_getElem? hv
      have vl := lots_lt vm
      obtain ⟨b1, b2, b3, b4, e3⟩ := cntT_more un ok.ends hv vl (lots_nd vm)
      have ha : as[rankOf p ts (List.range ts.length) - rankOf p ts v]? = some (as[rankOf p ts (List.range ts.length) - rankOf p ts v]'(by rw [hR.len]; unfold cntT; rw [grid_len]; exact b3)) := List.getElem?_eq_getElem _
      generalize as[rankOf p ts (List.range ts.length) - rankOf p ts v]'(by rw [hR.len]; unfold cntT; rw [grid_len]; exact b3) = a at ha
      have hc := hR.at_ _ a _ ha (grid_get b3)
      have lv : ((v.map Int.ofNat).map D.int).length = v.length := by rw [List.length_map, List.length_map]
      refine ⟨p, ts, v, rfl, ok, vl, ?_⟩
      have e1 : ((rankOf p ts (List.range ts.length) : Nat) : Int) - ((rankOf p ts v : Nat) : Int) = ((rankOf p ts (List.range ts.length) - rankOf p ts v : Nat) : Int) := by omega
      have e2 : (((v.map Int.ofNat).map D.int).length : Int) - ((rankOf p ts v : Nat) : Int) = ((v.length - rankOf p ts v : Nat) : Int) := by rw [lv]; omega
      refine (e1 ▸ atK_nat (d := .adr a) (by rw [List.getElem?_map, ha]; rfl) ?_ : atK _ _ _)
      refine ⟨a, v.length - rankOf p ts v, _, .int (cntOf p ts ((lotsL ts.length).take i) (rankOf p ts (List.range ts.length) - rankOf p ts v) (v.length - rankOf p ts v) : Nat), rfl, congrArg D.int e2, hc, row_get b4, ?_⟩
      refine ⟨_, v.length - rankOf p ts v, hc, ?_, ?_⟩
      · unfold ixN
        rw [if_pos (by omega), if_pos (by rw [List.length_map, List.length_map, List.length_map, List.length_range]; omega)]
        simp
      · refine ⟨?_, some (dLot v), some (.int (rankOf p ts v : Nat)), rfl⟩
        have hw := hR.write ha (((List.range (ts.length - rankOf p ts (List.range ts.length) + 1)).map fun j => cntOf p ts ((lotsL ts.length).take i) (rankOf p ts (List.range ts.length) - rankOf p ts v) j).set (v.length - rankOf p ts v) (cntOf p ts ((lotsL ts.length).take i) (rankOf p ts (List.range ts.length) - rankOf p ts v) (v.length - rankOf p ts v) + 1))
        rw [e3, List.map_set, List.map_set] at hw
        exact hw
    · rintro δ' ν' ⟨hR, o3, o4, rfl⟩
      rw [List.length_map, List.take_length] at hR
      exact ⟨_, μ, rows_frz hR, h⟩
/-! ### the table -/
theorem ch_small : ∀ a : Nat, a < 13 → ∀ b : Nat, ch a b < 2000 := by
  intro a ha b
  by_cases h : b < 13
  · have : ∀ a : Nat, a < 13 → ∀ b : Nat, b < 13 → ch a b < 2000 := by decide +kernel
    exact this a ha b h
  · rw [ch_less (by omega)]; decide
theorem comb_ch : ∀ a : Nat, a < 13 → ∀ b : Nat, b < 13 → PySem.W.mcComb (a : Int) (b : Int) = ((ch a b : Nat) : Int) := by decide +kernel
def shL (row : List Int) : List Int := (List.range row.length).map fun l => shS (fun q => row.getD q 0) row.length l
/-- the row of numbers behind some powers, and some lower ones of the next -/
def shA (row : List Int) (i k l : Nat) : Int := S (fun q => sgn (q + l) * row.getD q 0 * (ch q l : Nat)) (if l < k then i + 1 else i)
def shR (row : List Int) (i k : Nat) : List Int := (List.range row.length).map fun l => shA row i k l
theorem shR_start (row : List Int) : shR row 0 0 = List.replicate row.length 0 := by
  unfold shR shA
  apply List.ext_getElem?
  intro l
  by_cases h : l < row.length
  · rw [List.getElem?_map, List.getElem?_range h, List.getElem?_replicate, if_pos h]
    rfl
  · rw [List.getElem?_eq_none (by simp; omega), List.getElem?_eq_none (by simp; omega)]
theorem shR_next (row : List Int) (i : Nat) : shR row i (i + 1) = shR row (i + 1) 0 := by
  unfold shR
  refine List.map_congr_left fun l _ => ?_
  unfold shA
  rw [if_neg (Nat.not_lt_zero _)]
  split
  · rfl
  · rename_i h
    rw [S, ch_less (show i < l by omega)]
    simp
theorem shR_end (row : List Int) : shR row row.length 0 = shL row := by
  unfold shR shL
  refine List.map_congr_left fun l _ => ?_
  unfold shA
  rw [if_neg (Nat.not_lt_zero _)]
  rfl
theorem shR_set {row : List Int} {i k : Nat} (hk : k < row.length) : (shR row i k).set k (shA row i k k + sgn (i + k) * row.getD i 0 * (ch i k : Nat)) = shR row i (k + 1) := by
  unfold shR
  apply List.ext_getElem?
  intro l
  by_cases h : l < row.length
  · rw [List.getElem?_set, List.getElem?_map, List.getElem?_map, List.getElem?_range h, List.length_map, List.length_range]
    by_cases e : k = l
    · subst e
      rw [if_pos rfl, if_pos hk]
      unfold shA
      rw [if_neg (Nat.lt_irrefl _)]
      show some _ = some (S _ (if k < k + 1 then i + 1 else i))
      rw [if_pos (Nat.lt_succ_self _), S]
    · rw [if_neg e]
      unfold shA
      show some (S _ (if l < k then i + 1 else i)) = some (S _ (if l < k + 1 then i + 1 else i))
      by_cases h2 : l < k
      · rw [if_pos h2, if_pos (by omega)]
      · rw [if_neg h2, if_neg (by omega)]
  · rw [List.getElem?_eq_none (by simp; omega), List.getElem?_eq_none (by simp; omega)]
theorem shR_at {row : List Int} {i k : Nat} (hk : k < row.length) : ((shR row i k).map D.int)[k]? = some (.int (shA row i k k)) := by
  unfold shR
  rw [List.getElem?_map, List.getElem?_map, List.getElem?_range hk]
  rfl
def g_shifted : GC := fun ds μ R => ∃ row : List Int, ds = [dRowI row] ∧ row.length ≤ 12 ∧ R (dRowI (shL row)) μ
def N39 : List Str := ["row", "longer", "power", "many", "lower", "sign"]
theorem sc39 : FnScope N39 ["row"] (defScope (top 39)) := ⟨rfl, rfl, rfl, by decide +kernel, rfl, by decide +kernel, by decide +kernel⟩
theorem ok_shifted (T : Tx K mg A) : FnOk P w K mg base CX0 2 A.shifted A.fd_shifted ["row"] (toSp K (g_shifted)) := by
  refine okDF T.F_shifted sc39 (fun ds μ R h => ?_) ⟨_, fun cdv A0 outer s H E hr =>
    (dss_cons (ds_set sc39.nd (i := 1) rfl (by first | exact Or.inl rfl | exact Or.inr rfl) (de_op op_rep sim_repC (de_lst (da_cons de_int da_nil)) (de_callB cr_len sim_len (by rfl) T.z_len boot_len (da_cons (dv 0) da_nil))))
      (dss_cons (ds_for PassesOwn.never rfl (di_enumL (by rfl) T.z_enumerate (da_cons (dv 0) da_nil)) (pg_tup (n := 2) (by rfl) (pgs_cons (pg_name (i := 2) sc39.nd rfl (by first | exact Or.inl rfl | exact Or.inr rfl)) (pgs_cons (pg_name (i := 3) sc39.nd rfl (by first | exact Or.inl rfl | exact Or.inr rfl)) pgs_nil))) (sim_tupT (n := 2) (sim_consT (sim_nm (i := 2)) (sim_consT (sim_nm (i := 3)) sim_nilT)))
      (dss_one (ds_for PassesOwn.never rfl (di_range (by rfl) T.z_range (da_cons (de_op op_plus sim_plus (dv 2) de_int) da_nil)) (pg_name (i := 4) sc39.nd rfl (by first | exact Or.inl rfl | exact Or.inr rfl)) (sim_nm (i := 4))
      (dss_cons (ds_set sc39.nd (i := 5) rfl (by first | exact Or.inl rfl | exact Or.inr rfl) (de_if (dt_cmp (op_eqA hr.units) sim_eq (de_op op_modN sim_mod (de_op op_sub sim_minus (dv 2) (dv 4)) de_int) de_int (nomark _)) de_int (de_un un_neg sim_neg de_int)))
      (dss_one (ds_augS (dv 1) (dv 4) (de_op op_mul sim_mul (de_op op_mul sim_mul (dv 5) (dv 3)) (de_callBf cr_comb sim_comb (by rfl) T.m_comb (da_cons (dv 2) (da_cons (dv 4) da_nil)))) ip_add sim_ipadd))))))
      (dss_one (ds_ret (dv 1))))), fun ds μ R h => ?_⟩
  · obtain ⟨row, rfl, _⟩ := h
    rfl
  · obtain ⟨row, rfl, hn, h⟩ := h
    have lr : (row.map D.int).length = row.length := List.length_map _
    refine ⟨by show 1 ≤ sizeLine; decide, ?_⟩
    refine ⟨⟨by rw [lr]; omega, by rw [lr]; omega, by show 1 ≤ 1000; omega⟩, fun c nc => ?_⟩
    have ew : (((row.map D.int).length : Nat) : Int).toNat = row.length := by rw [lr]; omega
    have e0 : ((zeros row.length).map Int.ofNat).map D.int = (shR row 0 0).map D.int := by
      rw [shR_start]
      unfold zeros
      rw [List.map_replicate]
      rfl
    rw [ew, zero_flat, e0]
    refine ⟨fun i δ' μ' => μ' = put μ c (.lst ((shR row i 0).map D.int)) ∧ ∃ o2 o3 o4 o5, δ' = [some (dRowI row), some (.adr c), o2, o3, o4, o5], ⟨rfl, none, none, none, none, rfl⟩, ?_, ?_⟩
    · rintro i x δ' μ' hx ⟨rfl, o2, o3, o4, o5, rfl⟩
      unfold DL.numbered at hx
      rw [List.getElem?_mapIdx, List.getElem?_map] at hx
      have hi : i < row.length := by
        rcases Nat.lt_or_ge i row.length with q | q
        · exact q
        · rw [List.getElem?_eq_none q] at hx; cases hx
      have hr : row[i]? = some (row.getD i 0) := by rw [List.getD_eq_getElem?_getD, List.getElem?_eq_getElem hi]; rfl
      rw [hr] at hx
      obtain rfl : D.tup [.int (i : Nat), .int (row.getD i 0)] = x := Option.some.inj hx
      refine ⟨rfl, ?_⟩
      refine ⟨⟨by omega, by omega⟩, ?_⟩
      refine ⟨fun k δ' μ' => μ' = put μ c (.lst ((shR row i k).map D.int)) ∧ ∃ o4 o5, δ' = [some (dRowI row), some (.adr c), some (.int (i : Nat)), some (.int (row.getD i 0)), o4, o5], ⟨rfl, o4, o5, rfl⟩, ?_, ?_⟩
      · rintro k x δ' μ' hx ⟨rfl, o4, o5, rfl⟩
        obtain ⟨hk, rfl⟩ := range_at hx
        have hk : k ≤ i := by omega
        have hkr : k < row.length := by omega
        have step : ∀ (sg : Int) (o4 o5 : Option D), sg = sgn (i + k) → gAugS (gVar 1) (gVar 4) (gOp gMul (gOp gMul (gVar 5) (gVar 3)) (gCall (g2 gComb2) (DL.gCons (gVar 2) (DL.gCons (gVar 4) DL.gNil)))) (gII0 fun i j => D.int (i + j))
            { nx := fun δ' μ' => μ' = put μ c (.lst ((shR row i (k + 1)).map D.int)) ∧ ∃ o4 o5, δ' = [some (dRowI row), some (.adr c), some (.int (i : Nat)), some (.int (row.getD i 0)), o4, o5], rt := fun _ _ => False, bk := fun _ _ => False, ct := fun _ _ => False }
            [some (dRowI row), some (.adr c), some (.int (i : Nat)), some (.int (row.getD i 0)), some (.int (k : Nat)), some (.int sg)] (put μ c (.lst ((shR row i k).map D.int))) := by
          rintro sg o4 o5 rfl
          refine ⟨c, k, _, .int (shA row i k k), rfl, rfl, put_same, shR_at hkr, ?_⟩
          refine ⟨.inl (by unfold sgn; split <;> omega), ?_⟩
          refine ⟨⟨by omega, by omega, by omega⟩, ?_⟩
          rw [comb_ch i (by omega) k (by omega)]
          refine ⟨.inr ?_, ?_⟩
          · have := ch_small i (by omega) k
            omega
          refine ⟨_, k, put_same, ?_, ?_⟩
          · unfold ixN
            rw [if_pos (by omega), if_pos (by rw [List.length_map]; unfold shR; rw [List.length_map, List.length_range]; omega)]
            simp
          · refine ⟨?_, _, _, rfl⟩
            rw [put_put, ← shR_set hkr, List.map_set]
        refine ⟨show ((2 : Int) ≠ 0) by decide, ?_⟩
        refine if_case (c := decide (((i : Int) - (k : Int)).fmod 2 = 0)) (fun e => ?_) (fun e => ?_)
        · refine step 1 none none ?_
          have e1 := of_decide_eq_true e
          rw [Int.fmod_eq_emod_of_nonneg _ (by decide)] at e1
          unfold sgn
          rw [if_pos (by omega)]
        · refine step (-1) none none ?_
          have e1 := of_decide_eq_false e
          rw [Int.fmod_eq_emod_of_nonneg _ (by decide)] at e1
          unfold sgn
          rw [if_neg (by omega)]
      · rintro δ' μ' ⟨rfl, o4, o5, rfl⟩
        have el : ((List.range ((i : Int) + 1).toNat).map fun i => D.int (i : Nat)).length = i + 1 := by rw [List.length_map, List.length_range]; omega
        rw [el, shR_next]
        exact ⟨rfl, _, _, _, _, rfl⟩
    · rintro δ' μ' ⟨rfl, o2, o3, o4, o5, rfl⟩
      have el : (DL.numbered (row.map D.int)).length = row.length := by unfold DL.numbered; rw [List.length_mapIdx, lr]
      rw [el, shR_end]
      have ed : del (put μ c (.lst ((shL row).map D.int))) c = μ := del_put nc
      refine ⟨_, μ, ?_, h⟩
      have fz := Into.frz (put_same (μ := μ) (a := c) (o := .lst ((shL row).map D.int)))
      rw [ed] at fz
      exact fz
def colsOf (rs : List (List Int)) (m : Nat) : List (List Int) := (List.range m).map fun i => rs.map fun r => r.getD i 0
def g_across : GC := fun ds μ R => ∃ (rs : List (List Int)) (m : Nat), ds = [dGridI rs] ∧ rs ≠ [] ∧ rs.length ≤ 12 ∧ m ≤ 12 ∧ (∀ r ∈ rs, r.length = m) ∧ R (dGridI (colsOf rs m)) μ
def asLst : D → D
  | .tup ds => .lst ds
  | d => d
def N40 : List Str := ["rows", "column"]
theorem sc40 : FnScope N40 ["rows"] (defScope (top 40)) := ⟨rfl, rfl, rfl, by decide +kernel, rfl, by decide +kernel, by decide +kernel⟩
theorem ok_across (T : Tx K mg A) : FnOk P w K mg base CX0 2 A.across A.fd_across ["rows"] (toSp K (g_across)) := by
  refine okD T.F_across sc40 (fun ds μ R h => ?_) ⟨_, fun cdv A0 outer s H E hr =>
    (dss_one (ds_ret (de_lc (own := [("column", 1)]) (by rfl) sc40.nd (di_zipN (by rfl) T.z_zip (dv 0)) (blkOk_by (N := N40) (own := [("column", 1)]) (sc := defScope (top 40)) (by decide +kernel)) (fun _ _ _ _ _ => (pg_name (i := 1) sc40.nd rfl (by first | exact Or.inl rfl | exact Or.inr rfl))) (sim_nm (i := 1)) (fun _ _ _ _ _ => dts_nil) (fun _ _ _ _ _ => (de_callTy call_list_of sim_list (by rfl) T.z_list boot_list (da_cons (dv 1) da_nil)))))), fun ds μ R h => ?_⟩
  · obtain ⟨rs, m, rfl, _⟩ := h
    rfl
  · obtain ⟨rs, m, rfl, ne, hn, hm, hl, h⟩ := h
    refine ⟨rs.map fun r => r.map D.int, m, ?_, ?_, ?_, ?_, ?_⟩
    · show dGridI rs = _
      unfold dGridI
      rw [List.map_map]
      rfl
    · exact fun e => ne (List.map_eq_nil_iff.mp e)
    · rw [List.length_map]; omega
    · intro r hr
      obtain ⟨q, hq, rfl⟩ := List.mem_map.mp hr
      rw [List.length_map]
      exact hl q hq
    · show LcB _ _ _ _ _ _ _ _
      refine lcb_map asLst ?_ ?_ ?_
      · rw [List.length_map, List.length_range, sizeLine_eq]; omega
      · intro x hx μ2 Y _ hy
        obtain ⟨i, hi, rfl⟩ := List.mem_map.mp hx
        exact hy
      · have e : (((List.range m).map fun i => D.tup ((rs.map fun r => r.map D.int).map fun r => r.getD i D.non)).map asLst) = (colsOf rs m).map dRowI := by
          unfold colsOf
          rw [List.map_map, List.map_map]
          refine List.map_congr_left fun i hi => ?_
          show D.lst _ = D.lst _
          rw [List.map_map, List.map_map]
          refine congrArg D.lst (List.map_congr_left fun r hr => ?_)
          have := List.mem_range.mp hi
          have h2 := hl r hr
          show (r.map D.int).getD i D.non = D.int (r.getD i 0)
          rw [List.getD_eq_getElem?_getD, List.getD_eq_getElem?_getD, List.getElem?_map, List.getElem?_eq_getElem (by omega)]
          rfl
        rw [e]
        exact h
def gridI (m n : Nat) (c : Nat → Nat → Int) : List (List Int) := (List.range m).map fun i => (List.range n).map fun j => c i j
theorem gridI_nat (m n : Nat) (f : Nat → Nat → Nat) : (grid m n f).map natI = gridI m n fun i j => (f i j : Nat) := by
  unfold grid gridI natI
  rw [List.map_map]
  refine List.map_congr_left fun i _ => ?_
  show List.map Int.ofNat ((List.range n).map _) = _
  rw [List.map_map]
  rfl
theorem range_getI {n : Nat} {f : Nat → Int} {q : Nat} (h : q < n) : ((List.range n).map f).getD q 0 = f q := by
  rw [List.getD_eq_getElem?_getD, List.getElem?_map, List.getElem?_range h]
  rfl
theorem gridI_sh (m n : Nat) (c : Nat → Nat → Int) : (gridI m n c).map shL = gridI m n fun i j => shS (c i) n j := by
  unfold gridI
  rw [List.map_map]
  refine List.map_congr_left fun i _ => ?_
  show shL ((List.range n).map _) = _
  unfold shL
  rw [List.length_map, List.length_range]
  refine List.map_congr_left fun l _ => ?_
  exact shS_congr fun q hq => range_getI hq
theorem gridI_cols (m n : Nat) (c : Nat → Nat → Int) : colsOf (gridI m n c) n = gridI n m fun j i => c i j := by
  unfold colsOf gridI
  refine List.map_congr_left fun j hj => ?_
  rw [List.map_map]
  refine List.map_congr_left fun i _ => ?_
  exact range_getI (List.mem_range.mp hj)
theorem gridI_len {m n : Nat} {c : Nat → Nat → Int} : (gridI m n c).length = m := by unfold gridI; rw [List.length_map, List.length_range]
theorem gridI_row {m n : Nat} {c : Nat → Nat → Int} {r : List Int} (h : r ∈ gridI m n c) : r.length = n := by
  obtain ⟨i, _, rfl⟩ := List.mem_map.mp h
  rw [List.length_map, List.length_range]
theorem gridI_ne {m n : Nat} {c : Nat → Nat → Int} (h : 0 < m) : gridI m n c ≠ [] := fun e => by
  have := gridI_len (m := m) (n := n) (c := c)
  rw [e] at this
  simp at this
  omega
def intOf : D → Int
  | .int i => i
  | _ => 0
def rowInts : D → List Int
  | .lst ds => ds.map intOf
  | _ => []
theorem rowInts_row (r : List Int) : rowInts (dRowI r) = r := by
  show (r.map D.int).map intOf = r
  rw [List.map_map]
  exact List.map_id _
def shD (d : D) : D := dRowI (shL (rowInts d))
theorem shD_map (rs : List (List Int)) : (rs.map dRowI).map shD = (rs.map shL).map dRowI := by
  rw [List.map_map, List.map_map]
  refine List.map_congr_left fun r _ => ?_
  show dRowI (shL (rowInts (dRowI r))) = _
  rw [rowInts_row]
  rfl
/-- the web's table of numbers -/
def tabI (p : List Nat) (ts : List Str) : List (List Int) := gridI (rankOf p ts (List.range ts.length) + 1) (ts.length - rankOf p ts (List.range ts.length) + 1) (tabS (fun a b => (cnt (rankOf p ts) ts.length a b : Nat)) (rankOf p ts (List.range ts.length) + 1) (ts.length - rankOf p ts (List.range ts.length) + 1))
def cntI (p : List Nat) (ts : List Str) : List (List Int) := gridI (rankOf p ts (List.range ts.length) + 1) (ts.length - rankOf p ts (List.range ts.length) + 1) fun a b => (cnt (rankOf p ts) ts.length a b : Nat)
theorem cntT_I (p : List Nat) (ts : List Str) : (cntT p ts (lotsL ts.length)).map natI = cntI p ts := gridI_nat _ _ _
def g_table_of (C : Addr) : GC := fun ds μ R => ∃ (p : List Nat) (ts : List Str), ds = [dWeb C p ts] ∧ OkWeb p ts ∧ p.Pairwise (· ≠ ·) ∧ R (dGridI (tabI p ts)) μ
def N41 : List Str := ["web", "rows", "row", "column"]
theorem sc41 : FnScope N41 ["web"] (defScope (top 41)) := ⟨rfl, rfl, rfl, by decide +kernel, rfl, by decide +kernel, by decide +kernel⟩
theorem ok_table_of (T : Tx K mg A) : FnOk P w K mg base CX0 8 A.table_of A.fd_table_of ["web"] (toSp K (g_table_of A.Web)) := by
  refine okD T.F_table_of sc41 (fun ds μ R h => ?_) ⟨_, fun cdv A0 outer s H E hr =>
    (dss_cons (ds_setLc (i := 1) (own := [("row", 2)]) (by rfl) sc41.nd rfl rfl (sw_true rfl rfl rfl (by decide +kernel)) (di_both (de_call ((ok_counts_of_lots T).mono (by decide)) hr (by rfl) T.g_counts_of_lots T.F_counts_of_lots.kp T.b_counts_of_lots (da_cons (dv 0) da_nil))) (blkOk_by (N := N41) (own := [("row", 2)]) (sc := defScope (top 41)) (by decide +kernel)) (fun _ _ _ _ _ => (pg_name (i := 2) sc41.nd rfl (by first | exact Or.inl rfl | exact Or.inr rfl))) (sim_nm (i := 2)) (fun _ _ _ _ _ => dts_nil) (fun _ _ _ _ _ => (de_call ((ok_shifted T).mono (by decide)) hr (by rfl) T.g_shifted T.F_shifted.kp T.b_shifted (da_cons (dv 2) da_nil))))
      (dss_one (ds_ret (de_call ((ok_across T).mono (by decide)) hr (by rfl) T.g_across T.F_across.kp T.b_across (da_cons (de_lc (own := [("column", 3)]) (by rfl) sc41.nd (di_both (de_call ((ok_across T).mono (by decide)) hr (by rfl) T.g_across T.F_across.kp T.b_across (da_cons (dv 1) da_nil))) (blkOk_by (N := N41) (own := [("column", 3)]) (sc := defScope (top 41)) (by decide +kernel)) (fun _ _ _ _ _ => (pg_name (i := 3) sc41.nd rfl (by first | exact Or.inl rfl | exact Or.inr rfl))) (sim_nm (i := 3)) (fun _ _ _ _ _ => dts_nil) (fun _ _ _ _ _ => (de_call ((ok_shifted T).mono (by decide)) hr (by rfl) T.g_shifted T.F_shifted.kp T.b_shifted (da_cons (dv 3) da_nil)))) da_nil))))), fun ds μ R h => ?_⟩
  · obtain ⟨p, ts, rfl, _⟩ := h
    rfl
  · obtain ⟨p, ts, rfl, ok, un, h⟩ := h
    have few := ok.many
    have rl := grid_web un ok.ends
    refine ⟨p, ts, rfl, ok, un, ?_⟩
    rw [cntT_I]
    show LcB _ _ _ _ _ _ _ _
    refine lcb_map shD ?_ ?_ ?_
    · rw [List.length_map]
      unfold cntI
      rw [gridI_len, sizeLine_eq]; omega
    · intro x hx μ2 Y _ hy
      obtain ⟨r, hr, rfl⟩ := List.mem_map.mp hx
      refine ⟨r, rfl, by rw [gridI_row hr]; omega, ?_⟩
      unfold shD at hy
      rw [rowInts_row] at hy
      exact hy
    · rw [shD_map]
      unfold cntI
      rw [gridI_sh]
      refine ⟨_, _, rfl, gridI_ne (by omega), by rw [gridI_len]; omega, by omega, fun r hr => gridI_row hr, ?_⟩
      rw [gridI_cols]
      show LcB _ _ _ _ _ _ _ _
      refine lcb_map shD ?_ ?_ ?_
      · rw [List.length_map, gridI_len, sizeLine_eq]; omega
      · intro x hx μ2 Y _ hy
        obtain ⟨r, hr, rfl⟩ := List.mem_map.mp hx
        refine ⟨r, rfl, by rw [gridI_row hr]; omega, ?_⟩
        unfold shD at hy
        rw [rowInts_row] at hy
        exact hy
      · rw [shD_map, gridI_sh]
        refine ⟨_, _, rfl, gridI_ne (by omega), by rw [gridI_len]; omega, by omega, fun r hr => gridI_row hr, ?_⟩
        rw [gridI_cols]
        exact h
def powL (b : Int) (n : Nat) : List Int := (List.range (n + 1)).map fun k => b ^ k
def gIxE : G2 := fun x y μ R => ∃ (a : Addr) (i : Int) (ds : List D) (d : D), x = .adr a ∧ y = .int i ∧ μ a = some (.lst ds) ∧ L2.atI ds i = some d ∧ R d μ
theorem sim_ixE {K : PySem.W.Frag} : SimO K (rIxA K) gIxE := fun x y dx dy H μ Q R rm rx ry q f => by
  obtain ⟨a, i, ds, d, rfl, rfl, h1, h2, q⟩ := q
  refine sim_ix x y _ _ H μ Q R rm rx ry ?_ f
  unfold gIx
  simp only [h1]
  unfold atK
  rw [h2]
  exact q
theorem okCell_put {μ : Mu} {c : Addr} {ds : List D} : okCell (.adr c) (put μ c (.lst ds)) := by
  unfold okCell
  simp only [put_same]
theorem powL_last (b : Int) (i : Nat) : L2.atI ((powL b i).map D.int) (-1) = some (.int (b ^ i)) := by
  unfold L2.atI ixN powL
  rw [List.length_map, List.length_map, List.length_range, if_neg (by omega), if_pos (by omega)]
  show ((List.map _ _).map D.int)[((-1 : Int) + ((i + 1 : Nat) : Int)).toNat]? = _
  rw [show ((-1 : Int) + ((i + 1 : Nat) : Int)).toNat = i by omega, List.getElem?_map, List.getElem?_map, List.getElem?_range (by omega)]
  rfl
theorem powL_next (b : Int) (i : Nat) : (powL b i).map D.int ++ [D.int (b ^ i * b)] = (powL b (i + 1)).map D.int := by
  unfold powL
  rw [List.range_succ (n := i + 1), List.map_append, List.map_append]
  show _ = _ ++ [D.int (b ^ (i + 1))]
  rw [Int.pow_succ]
def g_powers : GC := fun ds μ R => ∃ (b : Int) (n : Nat), ds = [.int b, .int (n : Nat)] ∧ -(2 ^ 64) < b ∧ b < 2 ^ 64 ∧ n ≤ 12 ∧ R (dRowI (powL b n)) μ
def N42 : List Str := ["base", "most", "row", "_"]
theorem sc42 : FnScope N42 ["base", "most"] (defScope (top 42)) := ⟨rfl, rfl, rfl, by decide +kernel, rfl, by decide +kernel, by decide +kernel⟩
theorem ok_powers (T : Tx K mg A) : FnOk P w K mg base CX0 1 A.powers A.fd_powers ["base", "most"] (toSp K (g_powers)) := by
  refine okDF T.F_powers sc42 (fun ds μ R h => ?_) ⟨_, fun cdv A0 outer s H E hr =>
    (dss_cons (ds_set sc42.nd (i := 2) rfl (by first | exact Or.inl rfl | exact Or.inr rfl) (de_cell (da_cons de_int da_nil)))
      (dss_cons (ds_for PassesOwn.never rfl (di_range (by rfl) T.z_range (da_cons (dv 1) da_nil)) (pg_name (i := 3) sc42.nd rfl (by first | exact Or.inl rfl | exact Or.inr rfl)) (sim_nm (i := 3))
      (dss_one (ds_expr (de_bm PySem.F.plainAttrs_list PySem.F.slot_list_append PySem.F.type_list_append mt_append sim_append ok_cell (dv 2) (da_cons (de_op op_mul sim_mul (de_ix ix_any sim_ixE (dv 2) (de_un un_neg sim_neg de_int) (fun _ _ => rfl)) (dv 0)) da_nil)))))
      (dss_one (ds_ret (dv 2))))), fun ds μ R h => ?_⟩
  · obtain ⟨b, n, rfl, _⟩ := h
    rfl
  · obtain ⟨b, n, rfl, b1, b2, hn, h⟩ := h
    refine ⟨by show 1 ≤ sizeLine; decide, fun c nc => ?_⟩
    refine ⟨⟨by omega, by omega⟩, ?_⟩
    have e0 : [D.int 1] = (powL b 0).map D.int := by
      show _ = [D.int (b ^ 0)]
      rw [Int.pow_zero]
    rw [e0]
    refine ⟨fun i δ' μ' => μ' = put μ c (.lst ((powL b i).map D.int)) ∧ ∃ o3, δ' = [some (.int b), some (.int (n : Nat)), some (.adr c), o3], ⟨rfl, none, rfl⟩, ?_, ?_⟩
    · rintro i x δ' μ' hx ⟨rfl, o3, rfl⟩
      obtain ⟨hi, rfl⟩ := range_at hx
      have hi : i < n := by simpa using hi
      refine ⟨okCell_put, ?_⟩
      refine ⟨c, -1, _, .int (b ^ i), rfl, rfl, put_same, powL_last b i, ?_⟩
      refine ⟨.inr ⟨b1, b2⟩, ?_⟩
      refine ⟨_, put_same, by unfold powL; rw [List.length_map, List.length_map, List.length_range, sizeLine_eq]; omega, ?_⟩
      refine ⟨?_, _, rfl⟩
      rw [put_put, powL_next]
    · rintro δ' μ' ⟨rfl, o3, rfl⟩
      have el : ((List.range ((n : Nat) : Int).toNat).map fun i => D.int (i : Nat)).length = n := by simp
      rw [el]
      have fz := Into.frz (put_same (μ := μ) (a := c) (o := .lst ((powL b n).map D.int)))
      rw [del_put nc] at fz
      exact ⟨_, μ, fz, h⟩
theorem at_at2 {ds : List D} {i : Int} {d : D} {R : D → Prop} (h : L2.atI ds i = some d) (r : R d) : atK ds i R := by
  unfold atK
  rw [h]
  exact r
def scalL (a b : Int) (m : Nat) : List Int := (List.range (m + 1)).map fun k => a ^ k * b ^ (m - k)
def atD (a b : Int) (m : Nat) : D → D
  | .int k => .int (a ^ k.toNat * b ^ (m - k.toNat))
  | d => d
def Small (b : Int) : Prop := -1000 ≤ b ∧ b ≤ 1000
theorem small_pow {b : Int} (h : Small b) {k : Nat} (hk : k ≤ 6) : -(2 ^ 64) < b ^ k ∧ b ^ k < 2 ^ 64 := by
  have key : ∀ k : Nat, (b ^ k).natAbs ≤ 1000 ^ k := fun k => by
    rw [Int.natAbs_pow]
    exact Nat.pow_le_pow_left (by obtain ⟨h1, h2⟩ := h; omega) k
  have h1 := key k
  have h2 : 1000 ^ k ≤ 1000 ^ 6 := Nat.pow_le_pow_right (by decide) hk
  have h3 : (1000 : Nat) ^ 6 < 2 ^ 64 := by decide
  omega
theorem powL_at (b : Int) (n : Nat) {k : Nat} (h : k ≤ n) : ((powL b n).map D.int)[k]? = some (.int (b ^ k)) := by
  unfold powL
  rw [List.getElem?_map, List.getElem?_map, List.getElem?_range (by omega)]
  rfl
def g_scaled_powers : GC := fun ds μ R => ∃ (a b : Int) (m : Nat), ds = [.tup [.int a, .int b], .int (m : Nat)] ∧ -(2 ^ 64) < a ∧ a < 2 ^ 64 ∧ Small b ∧ m ≤ 6 ∧ R (dRowI (scalL a b m)) μ
def N43 : List Str := ["fraction", "most", "tops", "bottoms", "at"]
theorem sc43 : FnScope N43 ["fraction", "most"] (defScope (top 43)) := ⟨rfl, rfl, rfl, by decide +kernel, rfl, by decide +kernel, by decide +kernel⟩
theorem ok_scaled_powers (T : Tx K mg A) : FnOk P w K mg base CX0 3 A.scaled_powers A.fd_scaled_powers ["fraction", "most"] (toSp K (g_scaled_powers)) := by
  refine okD T.F_scaled_powers sc43 (fun ds μ R h => ?_) ⟨_, fun cdv A0 outer s H E hr =>
    (dss_cons (ds_set sc43.nd (i := 2) rfl (by first | exact Or.inl rfl | exact Or.inr rfl) (de_call ((ok_powers T).mono (by decide)) hr (by rfl) T.g_powers T.F_powers.kp T.b_powers (da_cons (de_ix ix_any sim_ix (dv 0) de_int (fun _ _ => rfl)) (da_cons (dv 1) da_nil))))
      (dss_cons (ds_set sc43.nd (i := 3) rfl (by first | exact Or.inl rfl | exact Or.inr rfl) (de_call ((ok_powers T).mono (by decide)) hr (by rfl) T.g_powers T.F_powers.kp T.b_powers (da_cons (de_ix ix_any sim_ix (dv 0) de_int (fun _ _ => rfl)) (da_cons (dv 1) da_nil))))
      (dss_one (ds_ret (de_lc (own := [("at", 4)]) (by rfl) sc43.nd (di_range (by rfl) T.z_range (da_cons (de_op op_plus sim_plus (dv 1) de_int) da_nil)) (blkOk_by (N := N43) (own := [("at", 4)]) (sc := defScope (top 43)) (by decide +kernel)) (fun _ _ _ _ _ => (pg_name (i := 4) sc43.nd rfl (by first | exact Or.inl rfl | exact Or.inr rfl))) (sim_nm (i := 4)) (fun _ _ _ _ _ => dts_nil) (fun _ _ _ _ _ => (de_op op_mul sim_mul (de_ix ix_any sim_ix (dv 2) (dv 4) (fun _ _ => rfl)) (de_ix ix_any sim_ix (dv 3) (de_op op_sub sim_minus (dv 1) (dv 4)) (fun _ _ => rfl))))))))), fun ds μ R h => ?_⟩
  · obtain ⟨a, b, m, rfl, _⟩ := h
    rfl
  · obtain ⟨a, b, m, rfl, a1, a2, sb, hm, h⟩ := h
    refine ⟨a, m, rfl, a1, a2, by omega, ?_⟩
    refine ⟨b, m, rfl, by obtain ⟨h1, h2⟩ := sb; omega, by obtain ⟨h1, h2⟩ := sb; omega, by omega, ?_⟩
    refine ⟨⟨by omega, by omega⟩, ?_⟩
    have en : ((m : Int) + 1).toNat = m + 1 := by omega
    show LcB _ _ _ _ _ _ _ _
    rw [en]
    refine lcb_map (atD a b m) ?_ ?_ ?_
    · rw [List.length_map, List.length_range, sizeLine_eq]; omega
    · intro x hx μ2 Y _ hy
      obtain ⟨k, hk, rfl⟩ := List.mem_map.mp hx
      have hk := List.mem_range.mp hk
      refine atK_nat (powL_at a m (by omega)) ?_
      have e1 : (m : Int) - (k : Int) = ((m - k : Nat) : Int) := by omega
      refine (e1 ▸ atK_nat (powL_at b m (by omega)) ?_ : atK _ _ _)
      exact ⟨.inr (small_pow sb (by omega)), hy⟩
    · have e : ((List.range (m + 1)).map fun i => D.int (i : Nat)).map (atD a b m) = (scalL a b m).map D.int := by
        unfold scalL
        rw [List.map_map, List.map_map]
        exact List.map_congr_left fun k _ => rfl
      rw [e]
      exact h
def dTabI (rs : List (List Int)) : D := .tup (rs.map fun r => .tup (r.map D.int))
def tupOf : D → D
  | .lst ds => .tup ds
  | d => d
def g_tuple_of_rowsI : GC := fun ds μ R => ∃ rs : List (List Int), ds = [dGridI rs] ∧ rs.length ≤ 1000 ∧ R (dTabI rs) μ
theorem ok_tuple_of_rowsI (T : Tx K mg A) : FnOk P w K mg base CX0 1 A.tuple_of_rows A.fd_tuple_of_rows ["rows"] (toSp K (g_tuple_of_rowsI)) := by
  refine okD T.F_tuple_of_rows sc37 (fun ds μ R h => ?_) ⟨_, fun cdv A0 outer s H E hr =>
    (dss_one (ds_ret (de_callTy call_tuple_of sim_tuple (by rfl) T.z_tuple boot_tuple (da_cons (de_lc (own := [("row", 1)]) (by rfl) sc37.nd (di_both (dv 0)) (blkOk_by (N := N37) (own := [("row", 1)]) (sc := defScope (top 37)) (by decide +kernel)) (fun _ _ _ _ _ => (pg_name (i := 1) sc37.nd rfl (by first | exact Or.inl rfl | exact Or.inr rfl))) (sim_nm (i := 1)) (fun _ _ _ _ _ => dts_nil) (fun _ _ _ _ _ => (de_callTy call_tuple_of sim_tuple (by rfl) T.z_tuple boot_tuple (da_cons (dv 1) da_nil)))) da_nil)))), fun ds μ R h => ?_⟩
  · obtain ⟨rs, rfl, _⟩ := h
    rfl
  · obtain ⟨rs, rfl, hl, h⟩ := h
    show LcB _ _ _ _ _ _ _ _
    refine lcb_map tupOf ?_ ?_ ?_
    · rw [List.length_map, sizeLine_eq]; omega
    · intro x hx μ2 Y _ hy
      obtain ⟨r, hr, rfl⟩ := List.mem_map.mp hx
      exact hy
    · rw [List.map_map]
      exact h
def g_lot_counts (C : Addr) : GC := fun ds μ R => ∃ (p : List Nat) (ts : List Str), ds = [dWeb C p ts] ∧ OkWeb p ts ∧ p.Pairwise (· ≠ ·) ∧ R (dTabI (cntI p ts)) μ
def g_table (C : Addr) : GC := fun ds μ R => ∃ (p : List Nat) (ts : List Str), ds = [dWeb C p ts] ∧ OkWeb p ts ∧ p.Pairwise (· ≠ ·) ∧ R (dTabI (tabI p ts)) μ
def N44 : List Str := ["web"]
theorem sc44 : FnScope N44 ["web"] (defScope (top 44)) := ⟨rfl, rfl, rfl, by decide +kernel, rfl, by decide +kernel, by decide +kernel⟩
theorem ok_lot_counts (T : Tx K mg A) : FnOk P w K mg base CX0 8 A.lot_counts A.fd_lot_counts ["web"] (toSp K (g_lot_counts A.Web)) := by
  refine okD T.F_lot_counts sc44 (fun ds μ R h => ?_) ⟨_, fun cdv A0 outer s H E hr =>
    (dss_cons (ds_expr (de_call ((ok_check_web T).mono (by decide)) hr (by rfl) T.g_check_web T.F_check_web.kp T.b_check_web (da_cons (dv 0) da_nil)))
      (dss_one (ds_ret (de_call ((ok_tuple_of_rowsI T).mono (by decide)) hr (by rfl) T.g_tuple_of_rows T.F_tuple_of_rows.kp T.b_tuple_of_rows (da_cons (de_call ((ok_counts_of_lots T).mono (by decide)) hr (by rfl) T.g_counts_of_lots T.F_counts_of_lots.kp T.b_counts_of_lots (da_cons (dv 0) da_nil)) da_nil))))), fun ds μ R h => ?_⟩
  · obtain ⟨p, ts, rfl, _⟩ := h
    rfl
  · obtain ⟨p, ts, rfl, ok, un, h⟩ := h
    refine ⟨p, ts, rfl, p, ts, rfl, ok, un, ?_⟩
    rw [cntT_I]
    have few := ok.many
    have rl := grid_web un ok.ends
    exact ⟨_, rfl, by unfold cntI; rw [gridI_len]; omega, h⟩
def N45 : List Str := ["web"]
theorem sc45 : FnScope N45 ["web"] (defScope (top 45)) := ⟨rfl, rfl, rfl, by decide +kernel, rfl, by decide +kernel, by decide +kernel⟩
theorem ok_table (T : Tx K mg A) : FnOk P w K mg base CX0 9 A.table A.fd_table ["web"] (toSp K (g_table A.Web)) := by
  refine okD T.F_table sc45 (fun ds μ R h => ?_) ⟨_, fun cdv A0 outer s H E hr =>
    (dss_cons (ds_expr (de_call ((ok_check_web T).mono (by decide)) hr (by rfl) T.g_check_web T.F_check_web.kp T.b_check_web (da_cons (dv 0) da_nil)))
      (dss_one (ds_ret (de_call ((ok_tuple_of_rowsI T).mono (by decide)) hr (by rfl) T.g_tuple_of_rows T.F_tuple_of_rows.kp T.b_tuple_of_rows (da_cons (de_call ((ok_table_of T).mono (by decide)) hr (by rfl) T.g_table_of T.F_table_of.kp T.b_table_of (da_cons (dv 0) da_nil)) da_nil))))), fun ds μ R h => ?_⟩
  · obtain ⟨p, ts, rfl, _⟩ := h
    rfl
  · obtain ⟨p, ts, rfl, ok, un, h⟩ := h
    refine ⟨p, ts, rfl, p, ts, rfl, ok, un, ?_⟩
    have few := ok.many
    have rl := grid_web un ok.ends
    exact ⟨_, rfl, by unfold tabI; rw [gridI_len]; omega, h⟩
end
end K10
set_option Elab.async false
set_option linter.all false
set_option maxRecDepth 100000
namespace K10
open PySem PySem.Spec PyProof.Rows L2 DL
section
variable {P : Program} {w : World} {K : PySem.W.Frag} {mg : Str → Option Value} {base : Heap} {A : Ad}
abbrev gFdivW : G2 := gII CDivW fun i j => .int (i / j)
theorem sim_fdivW {K : PySem.W.Frag} : SimO K (rI CDivW fun i j => .int (i / j)) gFdivW := sim_II fun _ _ _ _ => to_int
abbrev gMulW : G2 := gII CMulW fun i j => .int (i * j)
theorem sim_mulW {K : PySem.W.Frag} : SimO K (rI CMulW fun i j => .int (i * j)) gMulW := sim_II fun _ _ _ _ => to_int
/-! ### the table's numbers are numbers of trees -/
theorem early_few {n : Nat} {ρ : List Nat → Nat} {v : List Nat} (h : v ∈ treesR ρ n) : nEarly ρ n v < full ρ n + 1 ∧ nLate ρ n v < n - full ρ n + 1 := by
  have t := treesR_mem.mp h
  have h1 : nEarly ρ n v ≤ v.length := List.length_filter_le _ _
  have h2 : nLate ρ n v ≤ (outs v n).length := List.length_filter_le _ _
  have h3 := outs_len t.nodup t.lt
  have h4 := t.len
  have h5 := t.top
  omega
theorem tab_is {n : Nat} {ρ : List Nat → Nat} (M : Mat n ρ) (hn : n ≤ 11) {i j : Nat} (hi : i < full ρ n + 1) (hj : j < n - full ρ n + 1) :
    tabS (fun a b => (cnt ρ n a b : Nat)) (full ρ n + 1) (n - full ρ n + 1) i j = (((treesR ρ n).filter fun v => decide (nEarly ρ n v = i ∧ nLate ρ n v = j)).length : Nat) := by
  have h4 : full ρ n ≤ (List.range n).length := M.len _ (lt_range n)
  rw [List.length_range] at h4
  exact tab_trees (treesR ρ n) (nEarly ρ n) (nLate ρ n) _ _ _ (by omega) (by omega) (fun x hx => early_few hx) (fun a _ b _ => by rw [crapo n ρ M a b]; rfl) hi hj
theorem trees_many (ρ : List Nat → Nat) (n : Nat) : (treesR ρ n).length ≤ 2 ^ n := by
  have := List.length_filter_le (fun v => decide (v.length = ρ v ∧ ρ v = full ρ n)) (lotsL n)
  rw [lots_few] at this
  exact this
theorem tab_range {p : List Nat} {ts : List Str} (u : p.Pairwise (· ≠ ·)) (he : Ends p ts) (few : ts.length ≤ 11) {i j : Nat} (hi : i < rankOf p ts (List.range ts.length) + 1) (hj : j < ts.length - rankOf p ts (List.range ts.length) + 1) :
    0 ≤ tabS (fun a b => (cnt (rankOf p ts) ts.length a b : Nat)) (rankOf p ts (List.range ts.length) + 1) (ts.length - rankOf p ts (List.range ts.length) + 1) i j ∧
    tabS (fun a b => (cnt (rankOf p ts) ts.length a b : Nat)) (rankOf p ts (List.range ts.length) + 1) (ts.length - rankOf p ts (List.range ts.length) + 1) i j ≤ 2048 := by
  have e := tab_is (web_mat u he) few (i := i) (j := j) hi hj
  have e' : tabS (fun a b => (cnt (rankOf p ts) ts.length a b : Nat)) (rankOf p ts (List.range ts.length) + 1) (ts.length - rankOf p ts (List.range ts.length) + 1) i j = _ := e
  rw [e']
  have h1 := List.length_filter_le (fun v => decide (nEarly (rankOf p ts) ts.length v = i ∧ nLate (rankOf p ts) ts.length v = j)) (treesR (rankOf p ts) ts.length)
  have h2 := trees_many (rankOf p ts) ts.length
  have h3 := pow_few few
  omega
/-! ### fractions -/
structure Frac (a b : Int) : Prop where
  top : -(10 ^ 6) ≤ a ∧ a ≤ 10 ^ 6
  bot : 1 ≤ b ∧ b ≤ 1000
  low : Nat.gcd a.natAbs b.natAbs = 1
def g_is_fraction : GC := fun ds μ R => ∃ a b : Int, ds = [.tup [.int a, .int b]] ∧ Frac a b ∧ R (.bl true) μ
def N21 : List Str := ["value", "top", "bottom"]
theorem sc21 : FnScope N21 ["value"] (defScope (top 21)) := ⟨rfl, rfl, rfl, by decide +kernel, rfl, by decide +kernel, by decide +kernel⟩
theorem ok_is_fraction (T : Tx K mg A) : FnOk P w K mg base CX0 3 A.is_fraction A.fd_is_fraction ["value"] (toSp K (g_is_fraction)) := by
  refine okD T.F_is_fraction sc21 (fun ds μ R h => ?_) ⟨_, fun cdv A0 outer s H E hr =>
    (dss_cons (ds_if (dw_or (dt_not (dt_val (de_isi (T := "tuple") (by rfl) T.z_isinstance (by rfl) T.z_tuple (by decide +kernel) (dv 0)))) (dw_or1 (dt_cmp (op_neA hr.units) sim_ne (de_callB cr_len sim_len (by rfl) T.z_len boot_len (da_cons (dv 0) da_nil)) de_int (nomark _)))).dt (dss_one (ds_ret de_bl)) dss_nil)
      (dss_cons (ds_asg (dv 0) (pg_tup (n := 2) (by rfl) (pgs_cons (pg_name (i := 1) sc21.nd rfl (by first | exact Or.inl rfl | exact Or.inr rfl)) (pgs_cons (pg_name (i := 2) sc21.nd rfl (by first | exact Or.inl rfl | exact Or.inr rfl)) pgs_nil))) (sim_tupT (n := 2) (sim_consT (sim_nm (i := 1)) (sim_consT (sim_nm (i := 2)) sim_nilT))))
      (dss_cons (ds_if (dw_or (dt_not (dt_val (de_call ((ok_is_integer_from T).mono (by decide)) hr (by rfl) T.g_is_integer_from T.F_is_integer_from.kp T.b_is_integer_from (da_cons (dv 1) (da_cons (de_un un_neg sim_neg (de_globI (by rfl) T.c_MOST_TOP.choose_spec)) (da_cons (de_globI (by rfl) T.c_MOST_TOP.choose_spec) da_nil)))))) (dw_or1 (dt_not (dt_val (de_call ((ok_is_integer_from T).mono (by decide)) hr (by rfl) T.g_is_integer_from T.F_is_integer_from.kp T.b_is_integer_from (da_cons (dv 2) (da_cons de_int (da_cons (de_globI (by rfl) T.c_MOST_BOTTOM.choose_spec) da_nil)))))))).dt (dss_one (ds_ret de_bl)) dss_nil)
      (dss_one (ds_ret (de_cmp (op_eqA hr.units) sim_eq (de_callBf cr_gcd sim_gcd (by rfl) T.m_gcd (da_cons (dv 1) (da_cons (dv 2) da_nil))) de_int (nomark _))))))), fun ds μ R h => ?_⟩
  · obtain ⟨a, b, rfl, _⟩ := h
    rfl
  · obtain ⟨a, b, rfl, fr, h⟩ := h
    refine ⟨_, true, rfl, by decide +kernel, ?_⟩
    refine ⟨rfl, ?_⟩
    refine if_case (c := !(decide ((-1000000 : Int) ≤ a) && decide (a ≤ 1000000))) (fun e => ?_) (fun e => ?_)
    · have := fr.top
      simp at e
      omega
    · refine if_case (c := !(decide ((1 : Int) ≤ b) && decide (b ≤ 1000))) (fun e => ?_) (fun e => ?_)
      · have := fr.bot
        simp at e
        omega
      · have e9 : decide (((Nat.gcd a.natAbs b.natAbs : Nat) : Int) = 1) = true := by rw [fr.low]; rfl
        show R (.bl (decide (((Nat.gcd a.natAbs b.natAbs : Nat) : Int) = 1))) μ
        rw [e9]
        exact h
def g_check_fraction : GC := fun ds μ R => ∃ a b : Int, ds = [.tup [.int a, .int b]] ∧ Frac a b ∧ R .non μ
def N24 : List Str := ["value"]
theorem sc24 : FnScope N24 ["value"] (defScope (top 24)) := ⟨rfl, rfl, rfl, by decide +kernel, rfl, by decide +kernel, by decide +kernel⟩
theorem ok_check_fraction (T : Tx K mg A) : FnOk P w K mg base CX0 4 A.check_fraction A.fd_check_fraction ["value"] (toSp K (g_check_fraction)) := by
  refine okD T.F_check_fraction sc24 (fun ds μ R h => ?_) ⟨_, fun cdv A0 outer s H E hr =>
    (dss_one (ds_if (dt_not (dt_val (de_call ((ok_is_fraction T).mono (by decide)) hr (by rfl) T.g_is_fraction T.F_is_fraction.kp T.b_is_fraction (da_cons (dv 0) da_nil)))) (dss_one ds_never) dss_nil)), fun ds μ R h => ?_⟩
  · obtain ⟨a, b, rfl, _⟩ := h
    rfl
  · obtain ⟨a, b, rfl, fr, h⟩ := h
    exact ⟨a, b, rfl, fr, h⟩
theorem S_sum (f : Nat → Int) : ∀ n, ((List.range n).map f).sum = S f n
  | 0 => rfl
  | n + 1 => by rw [List.range_succ, List.map_append, List.sum_append, S_sum f n, S]; simp
def evS (c : Nat → Nat → Int) (m n : Nat) (a b u v : Int) : Int := S (fun i => S (fun j => c i j * (a ^ i * b ^ (m - 1 - i)) * (u ^ j * v ^ (n - 1 - j))) n) m
def rowV (c : Nat → Nat → Int) (s : Nat) (u v : Int) (i : Nat) : Int := S (fun j => c i j * (u ^ j * v ^ (s - j))) (s + 1)
def topV (c : Nat → Nat → Int) (r s : Nat) (a b u v : Int) (i : Nat) : Int := S (fun i => a ^ i * b ^ (r - i) * rowV c s u v i) i
theorem topV_end (c : Nat → Nat → Int) (r s : Nat) (a b u v : Int) : topV c r s a b u v (r + 1) = evS c (r + 1) (s + 1) a b u v := by
  unfold topV evS rowV
  refine S_congr fun i _ => ?_
  rw [← S_mul]
  refine S_congr fun j _ => ?_
  rw [Nat.add_sub_cancel, Nat.add_sub_cancel]
  grind
theorem factor_small {a b : Int} (fa : Frac a b) {r i : Nat} (hr : r ≤ 3) (hi : i ≤ r) : -(2 ^ 64) < a ^ i * b ^ (r - i) ∧ a ^ i * b ^ (r - i) < 2 ^ 64 := by
  have h1 : (a ^ i * b ^ (r - i)).natAbs ≤ (10 ^ 6) ^ i * (10 ^ 6) ^ (r - i) := by
    rw [Int.natAbs_mul, Int.natAbs_pow, Int.natAbs_pow]
    exact Nat.mul_le_mul (Nat.pow_le_pow_left (by have := fa.top; omega) i) (Nat.pow_le_pow_left (by have := fa.bot; omega) _)
  rw [← Nat.pow_add, show i + (r - i) = r by omega] at h1
  have h2 : ((10 : Nat) ^ 6) ^ r ≤ (10 ^ 6) ^ 3 := Nat.pow_le_pow_right (by decide) hr
  have h3 : ((10 : Nat) ^ 6) ^ 3 < 2 ^ 64 := by decide
  omega
def mulD : D → D
  | .tup [.int i, .int j] => .int (i * j)
  | d => d
def valD (t d : Int) : D := .tup [.int (t / (Nat.gcd t.natAbs d.natAbs : Nat)), .int (d / (Nat.gcd t.natAbs d.natAbs : Nat))]
def cntF (p : List Nat) (ts : List Str) (a b : Nat) : Int := (cnt (rankOf p ts) ts.length a b : Nat)
def g_value (C : Addr) : GC := fun ds μ R => ∃ (p : List Nat) (ts : List Str) (r s : Nat) (a b u v : Int), ds = [dWeb C p ts, .tup [.int a, .int b], .tup [.int u, .int v]] ∧ OkWeb p ts ∧ p.Pairwise (· ≠ ·) ∧
  r = rankOf p ts (List.range ts.length) ∧ s = ts.length - r ∧ r ≤ 3 ∧ s ≤ 6 ∧ Frac a b ∧ Frac u v ∧ R (valD (evS (tabS (cntF p ts) (r + 1) (s + 1)) (r + 1) (s + 1) a b u v) (b ^ r * v ^ s)) μ
def N46 : List Str := ["web", "x", "y", "rows", "most_x", "most_y", "by_x", "by_y", "top", "row", "factor", "bottom", "common", "many", "other"]
theorem sc46 : FnScope N46 ["web", "x", "y"] (defScope (top 46)) := ⟨rfl, rfl, rfl, by decide +kernel, rfl, by decide +kernel, by decide +kernel⟩
theorem ok_value (T : Tx K mg A) : FnOk P w K mg base CX0 9 A.value A.fd_value ["web", "x", "y"] (toSp K (g_value A.Web)) := by
  refine okD T.F_value sc46 (fun ds μ R h => ?_) ⟨_, fun cdv A0 outer s H E hr =>
    (dss_cons (ds_expr (de_call ((ok_check_web T).mono (by decide)) hr (by rfl) T.g_check_web T.F_check_web.kp T.b_check_web (da_cons (dv 0) da_nil)))
      (dss_cons (ds_expr (de_call ((ok_check_fraction T).mono (by decide)) hr (by rfl) T.g_check_fraction T.F_check_fraction.kp T.b_check_fraction (da_cons (dv 1) da_nil)))
      (dss_cons (ds_expr (de_call ((ok_check_fraction T).mono (by decide)) hr (by rfl) T.g_check_fraction T.F_check_fraction.kp T.b_check_fraction (da_cons (dv 2) da_nil)))
      (dss_cons (ds_set sc46.nd (i := 3) rfl (by first | exact Or.inl rfl | exact Or.inr rfl) (de_call ((ok_table_of T).mono (by decide)) hr (by rfl) T.g_table_of T.F_table_of.kp T.b_table_of (da_cons (dv 0) da_nil)))
      (dss_cons (ds_set sc46.nd (i := 4) rfl (by first | exact Or.inl rfl | exact Or.inr rfl) (de_op op_sub sim_minus (de_callB cr_len sim_len (by rfl) T.z_len boot_len (da_cons (dv 3) da_nil)) de_int))
      (dss_cons (ds_set sc46.nd (i := 5) rfl (by first | exact Or.inl rfl | exact Or.inr rfl) (de_op op_sub sim_minus (de_callB cr_len sim_len (by rfl) T.z_len boot_len (da_cons (de_ix ix_any sim_ix (dv 3) de_int (fun _ _ => rfl)) da_nil)) de_int))
      (dss_cons (ds_set sc46.nd (i := 6) rfl (by first | exact Or.inl rfl | exact Or.inr rfl) (de_call ((ok_scaled_powers T).mono (by decide)) hr (by rfl) T.g_scaled_powers T.F_scaled_powers.kp T.b_scaled_powers (da_cons (dv 1) (da_cons (dv 4) da_nil))))
      (dss_cons (ds_set sc46.nd (i := 7) rfl (by first | exact Or.inl rfl | exact Or.inr rfl) (de_call ((ok_scaled_powers T).mono (by decide)) hr (by rfl) T.g_scaled_powers T.F_scaled_powers.kp T.b_scaled_powers (da_cons (dv 2) (da_cons (dv 5) da_nil))))
      (dss_cons (ds_set sc46.nd (i := 8) rfl (by first | exact Or.inl rfl | exact Or.inr rfl) de_int)
      (dss_cons (ds_for PassesOwn.never rfl (di_zipL (by rfl) T.z_zip (da_cons (dv 3) (da_cons (dv 6) da_nil))) (pg_tup (n := 2) (by rfl) (pgs_cons (pg_name (i := 9) sc46.nd rfl (by first | exact Or.inl rfl | exact Or.inr rfl)) (pgs_cons (pg_name (i := 10) sc46.nd rfl (by first | exact Or.inl rfl | exact Or.inr rfl)) pgs_nil))) (sim_tupT (n := 2) (sim_consT (sim_nm (i := 9)) (sim_consT (sim_nm (i := 10)) sim_nilT)))
      (dss_one (ds_aug sc46.nd (i := 8) rfl (by first | exact Or.inl rfl | exact Or.inr rfl) (de_op op_mul sim_mul (dv 10) (de_callB (cr_sum (by rfl)) sim_sum (by rfl) T.z_sum boot_sum (da_cons (de_lc (own := [("many", 13), ("other", 14)]) (by rfl) sc46.nd (di_zipL (by rfl) T.z_zip (da_cons (dv 9) (da_cons (dv 7) da_nil))) (blkOk_by (N := N46) (own := [("many", 13), ("other", 14)]) (sc := defScope (top 46)) (by decide +kernel)) (fun _ _ _ _ _ => (pg_tup (n := 2) (by rfl) (pgs_cons (pg_name (i := 13) sc46.nd rfl (by first | exact Or.inl rfl | exact Or.inr rfl)) (pgs_cons (pg_name (i := 14) sc46.nd rfl (by first | exact Or.inl rfl | exact Or.inr rfl)) pgs_nil)))) (sim_tupT (n := 2) (sim_consT (sim_nm (i := 13)) (sim_consT (sim_nm (i := 14)) sim_nilT))) (fun _ _ _ _ _ => dts_nil) (fun _ _ _ _ _ => (de_op op_mul sim_mul (dv 13) (dv 14)))) da_nil))) ip_add sim_ipadd)))
      (dss_cons (ds_set sc46.nd (i := 11) rfl (by first | exact Or.inl rfl | exact Or.inr rfl) (de_op op_mul sim_mul (de_ix ix_any sim_ix (de_call ((ok_powers T).mono (by decide)) hr (by rfl) T.g_powers T.F_powers.kp T.b_powers (da_cons (de_ix ix_any sim_ix (dv 1) de_int (fun _ _ => rfl)) (da_cons (dv 4) da_nil))) (de_un un_neg sim_neg de_int) (fun _ _ => rfl)) (de_ix ix_any sim_ix (de_call ((ok_powers T).mono (by decide)) hr (by rfl) T.g_powers T.F_powers.kp T.b_powers (da_cons (de_ix ix_any sim_ix (dv 2) de_int (fun _ _ => rfl)) (da_cons (dv 5) da_nil))) (de_un un_neg sim_neg de_int) (fun _ _ => rfl))))
      (dss_cons (ds_set sc46.nd (i := 12) rfl (by first | exact Or.inl rfl | exact Or.inr rfl) (de_callBf cr_gcd sim_gcd (by rfl) T.m_gcd (da_cons (dv 8) (da_cons (dv 11) da_nil))))
      (dss_one (ds_ret (de_tup (da_cons (de_op op_fdivW sim_fdivW (dv 8) (dv 12)) (da_cons (de_op op_fdivW sim_fdivW (dv 11) (dv 12)) da_nil))))))))))))))))), fun ds μ R h => ?_⟩
  · obtain ⟨p, ts, r, s, a, b, u, v, rfl, _⟩ := h
    rfl
  · obtain ⟨p, ts, r, s, a, b, u, v, rfl, ok, un, hr, hs, r3, s6, fa, fu, h⟩ := h
    have few := ok.many
    have rl := grid_web un ok.ends
    have et : tabI p ts = gridI (r + 1) (s + 1) (tabS (cntF p ts) (r + 1) (s + 1)) := by
      unfold tabI
      rw [hs, hr]
      rfl
    refine ⟨p, ts, rfl, a, b, rfl, fa, u, v, rfl, fu, p, ts, rfl, ok, un, ?_⟩
    rw [et]
    have hb : ∀ i, i < r + 1 → ∀ j, j < s + 1 → 0 ≤ tabS (cntF p ts) (r + 1) (s + 1) i j ∧ tabS (cntF p ts) (r + 1) (s + 1) i j ≤ 2048 := fun i hi j hj => by
      rw [hs, hr] at hj ⊢
      rw [hr] at hi
      exact tab_range un ok.ends few hi hj
    generalize hc : tabS (cntF p ts) (r + 1) (s + 1) = c at h hb ⊢
    have l1 : (((gridI (r + 1) (s + 1) c).map dRowI).length : Int) - 1 = (r : Nat) := by rw [List.length_map, gridI_len]; omega
    have g0 : ∀ i, i < r + 1 → ((gridI (r + 1) (s + 1) c).map dRowI)[i]? = some (dRowI ((List.range (s + 1)).map fun j => c i j)) := fun i hi => by
      unfold gridI
      rw [List.getElem?_map, List.getElem?_map, List.getElem?_range hi]
      rfl
    refine atK_nat (j := 0) (g0 0 (by omega)) ?_
    have l2 : ((((List.range (s + 1)).map fun j => c 0 j).map D.int).length : Int) - 1 = (s : Nat) := by rw [List.length_map, List.length_map, List.length_range]; omega
    refine ⟨a, b, r, congrArg (fun z => [D.tup [D.int a, D.int b], D.int z]) l1, by have := fa.top; omega, by have := fa.top; omega, ⟨by have := fa.bot; omega, by have := fa.bot; omega⟩, by omega, ?_⟩
    refine ⟨u, v, s, congrArg (fun z => [D.tup [D.int u, D.int v], D.int z]) l2, by have := fu.top; omega, by have := fu.top; omega, ⟨by have := fu.bot; omega, by have := fu.bot; omega⟩, by omega, ?_⟩
    refine ⟨fun i δ' μ' => μ' = μ ∧ ∃ o9 o10 o11 o12 o13 o14, δ' = [some (dWeb A.Web p ts), some (.tup [.int a, .int b]), some (.tup [.int u, .int v]), some (dGridI (gridI (r + 1) (s + 1) c)), some (.int (r : Nat)), some (.int (s : Nat)), some (dRowI (scalL a b r)), some (dRowI (scalL u v s)), some (.int (topV c r s a b u v i)), o9, o10, o11, o12, o13, o14], ⟨rfl, none, none, none, none, none, none, by rw [← l1, ← l2]; rfl⟩, ?_, ?_⟩
    · rintro i x δ' μ' hx ⟨rfl, o9, o10, o11, o12, o13, o14, rfl⟩
      unfold pairsL at hx
      rw [List.getElem?_zipWith] at hx
      have hi : i < r + 1 := by
        rcases Nat.lt_or_ge i (r + 1) with q | q
        · exact q
        · rw [List.getElem?_eq_none (by rw [List.length_map, gridI_len]; exact q)] at hx; cases hx
      have gx : ((scalL a b r).map D.int)[i]? = some (.int (a ^ i * b ^ (r - i))) := by
        unfold scalL
        rw [List.getElem?_map, List.getElem?_map, List.getElem?_range hi]
        rfl
      rw [g0 i hi, gx] at hx
      obtain rfl : D.tup [dRowI ((List.range (s + 1)).map fun j => c i j), .int (a ^ i * b ^ (r - i))] = x := Option.some.inj hx
      refine ⟨rfl, ?_⟩
      show LcB _ _ _ _ _ _ _ _
      have ep : pairsL (((List.range (s + 1)).map fun j => c i j).map D.int) ((scalL u v s).map D.int) = (List.range (s + 1)).map fun j => D.tup [.int (c i j), .int (u ^ j * v ^ (s - j))] := by
        unfold pairsL scalL
        rw [List.map_map, List.map_map, List.zipWith_map, List.zipWith_self]
        rfl
      rw [ep]
      refine lcb_map mulD ?_ ?_ ?_
      · rw [List.length_map, List.length_range, sizeLine_eq]; omega
      · intro x hx μ2 Y _ hy
        obtain ⟨j, hj, rfl⟩ := List.mem_map.mp hx
        have hj := List.mem_range.mp hj
        have := hb i hi j hj
        exact ⟨rfl, .inl ⟨by omega, by omega⟩, hy⟩
      · refine ⟨(List.range (s + 1)).map fun j => c i j * (u ^ j * v ^ (s - j)), by rw [List.map_map, List.map_map]; rfl, ?_⟩
        rw [S_sum]
        exact ⟨.inl (factor_small fa r3 (by omega)), rfl, _, _, _, _, _, _, rfl⟩
    · rintro δ' μ' ⟨rfl, o9, o10, o11, o12, o13, o14, rfl⟩
      have el : (pairsL ((gridI (r + 1) (s + 1) c).map dRowI) ((scalL a b r).map D.int)).length = r + 1 := by
        unfold pairsL scalL
        rw [List.length_zipWith, List.length_map, gridI_len, List.length_map, List.length_map, List.length_range]
        omega
      rw [el, topV_end]
      refine ⟨b, r, rfl, by have := fa.bot; omega, by have := fa.bot; omega, by omega, ?_⟩
      refine at_at2 (ds := (powL b r).map D.int) (i := -1) (powL_last b r) ?_
      refine ⟨v, s, rfl, by have := fu.bot; omega, by have := fu.bot; omega, by omega, ?_⟩
      refine at_at2 (ds := (powL v s).map D.int) (i := -1) (powL_last v s) ?_
      have sb : Small b := ⟨by have := fa.bot; omega, by have := fa.bot; omega⟩
      have sv : Small v := ⟨by have := fu.bot; omega, by have := fu.bot; omega⟩
      refine ⟨.inl (small_pow sb (by omega)), ?_⟩
      have pos : 0 < b ^ r * v ^ s := Int.mul_pos (Int.pow_pos (by have := fa.bot; omega)) (Int.pow_pos (by have := fu.bot; omega))
      generalize evS c (r + 1) (s + 1) a b u v = tp at h ⊢
      have gp : 0 < Nat.gcd tp.natAbs (b ^ r * v ^ s).natAbs := Nat.gcd_pos_of_pos_right _ (by omega)
      have gl : (Nat.gcd tp.natAbs (b ^ r * v ^ s).natAbs).log2 < 9000 := by
        have h1 : Nat.gcd tp.natAbs (b ^ r * v ^ s).natAbs ≤ (b ^ r * v ^ s).natAbs := Nat.gcd_le_right _ (by omega)
        have h2 : (b ^ r * v ^ s).natAbs < 2 ^ 128 := by
          rw [Int.natAbs_mul]
          have s1 := small_pow sb (k := r) (by omega)
          have s2 := small_pow sv (k := s) (by omega)
          exact Nat.lt_of_lt_of_le (Nat.mul_lt_mul'' (show (b ^ r).natAbs < 2 ^ 64 by omega) (show (v ^ s).natAbs < 2 ^ 64 by omega)) (by decide)
        exact Nat.lt_of_lt_of_le ((Nat.log2_lt (by omega)).mpr (Nat.lt_of_le_of_lt h1 h2)) (by decide)
      have gw : CDivW tp (Nat.gcd tp.natAbs (b ^ r * v ^ s).natAbs : Nat) := ⟨by omega, by rw [Int.natAbs_natCast]; exact gl⟩
      have gw2 : CDivW (b ^ r * v ^ s) (Nat.gcd tp.natAbs (b ^ r * v ^ s).natAbs : Nat) := ⟨by omega, by rw [Int.natAbs_natCast]; exact gl⟩
      exact ⟨gw, gw2, by show 2 ≤ sizeLine; decide, h⟩
end
end K10
set_option Elab.async false
set_option linter.all false
set_option maxRecDepth 100000
namespace K10
open PySem PySem.Spec PyProof.Rows L2 DL
section
variable {P : Program} {w : World} {K : PySem.W.Frag} {mg : Str → Option Value} {base : Heap} {A : Ad}
/-! ### lots counted by the law -/
theorem tie_rank2 {p : List Nat} {ts : List Str} {v : List Nat} : nonFix (marksL p ((v.map fun j => ts.getD j Str.empty).map ends)) p = rankOf p ts v := by
  rw [List.map_map]
  rfl
theorem full_marks2 {p : List Nat} {ts : List Str} : nonFix (marksL p (ts.map ends)) p = rankOf p ts (List.range ts.length) := by
  have := tie_rank2 (p := p) (ts := ts) (v := List.range ts.length)
  rw [range_getD] at this
  exact this
theorem cntOf_perm {p : List Nat} {ts : List Str} {L M : List (List Nat)} (h : L.Perm M) (a b : Nat) : cntOf p ts L a b = cntOf p ts M a b := (h.filter _).length_eq
theorem cntT_perm {p : List Nat} {ts : List Str} {L M : List (List Nat)} (h : L.Perm M) : cntT p ts L = cntT p ts M := by
  unfold cntT grid
  exact List.map_congr_left fun i _ => List.map_congr_left fun j _ => cntOf_perm h i j
theorem dTab_nat (rs : List (List Nat)) : D.tup (rs.map dLot) = dTabI (rs.map natI) := by
  unfold dTabI
  rw [List.map_map]
  rfl
def g_L_counted : GC := fun ds μ R => ∃ (p : List Nat) (ts : List Str), ds = [.str (toS p), .tup (ts.map D.str)] ∧ OkPlaces p ∧ OkEnds p ts ∧ ts.length ≤ 11 ∧ R (dTabI (cntI p ts)) μ
def N55 : List Str := ["_law_places", "_law_ties", "_law_top", "_law_found", "_law_lot", "_law_joined", "_law_i", "_law_j", "_law_k", "_law_row"]
theorem sc55 : FnScope N55 ["_law_places", "_law_ties"] (defScope (top 55)) := ⟨rfl, rfl, rfl, by decide +kernel, rfl, by decide +kernel, by decide +kernel⟩
theorem ok_L_counted (T : Tx K mg A) : FnOk P w K mg base CX0 4 A.L_counted A.fd_L_counted ["_law_places", "_law_ties"] (toSp K (g_L_counted)) := by
  refine okDF T.F_L_counted sc55 (fun ds μ R h => ?_) ⟨_, fun cdv A0 outer s H E hr =>
    (dss_cons (ds_set sc55.nd (i := 2) rfl (by first | exact Or.inl rfl | exact Or.inr rfl) (de_call ((ok_L_rank T).mono (by decide)) hr (by rfl) T.g_L_rank T.F_L_rank.kp T.b_L_rank (da_cons (dv 0) (da_cons (dv 1) da_nil))))
      (dss_cons (ds_setLc (i := 3) (own := [("_law_k", 8)]) (by rfl) sc55.nd rfl rfl (sw_true rfl rfl rfl (by decide +kernel)) (di_range (by rfl) T.z_range (da_cons (de_op op_plus sim_plus (dv 2) de_int) da_nil)) (blkOk_by (N := N55) (own := [("_law_k", 8)]) (sc := defScope (top 55)) (by decide +kernel)) (fun _ _ _ _ _ => (pg_name (i := 8) sc55.nd rfl (by first | exact Or.inl rfl | exact Or.inr rfl))) (sim_nm (i := 8)) (fun _ _ _ _ _ => dts_nil) (fun _ _ _ _ _ => (de_op op_rep sim_repC (de_lst (da_cons de_int da_nil)) (de_op op_plus sim_plus (de_op op_sub sim_minus (de_callB cr_len sim_len (by rfl) T.z_len boot_len (da_cons (dv 1) da_nil)) (dv 2)) de_int))))
      (dss_cons (ds_for PassesOwn.never rfl (di_both (de_call ((ok_L_lots T).mono (by decide)) hr (by rfl) T.g_L_lots T.F_L_lots.kp T.b_L_lots (da_cons (de_callB cr_len sim_len (by rfl) T.z_len boot_len (da_cons (dv 1) da_nil)) da_nil))) (pg_name (i := 4) sc55.nd rfl (by first | exact Or.inl rfl | exact Or.inr rfl)) (sim_nm (i := 4))
      (dss_cons (ds_set sc55.nd (i := 5) rfl (by first | exact Or.inl rfl | exact Or.inr rfl) (de_call ((ok_L_rank T).mono (by decide)) hr (by rfl) T.g_L_rank T.F_L_rank.kp T.b_L_rank (da_cons (dv 0) (da_cons (de_lc (own := [("_law_k", 8)]) (by rfl) sc55.nd (di_both (dv 4)) (blkOk_by (N := N55) (own := [("_law_k", 8)]) (sc := defScope (top 55)) (by decide +kernel)) (fun _ _ _ _ _ => (pg_name (i := 8) sc55.nd rfl (by first | exact Or.inl rfl | exact Or.inr rfl))) (sim_nm (i := 8)) (fun _ _ _ _ _ => dts_nil) (fun _ _ _ _ _ => (de_ix ix_any sim_ix (dv 1) (dv 8) (fun _ _ => rfl)))) da_nil))))
      (dss_cons (ds_par (i := 6) (j := 7) (by rfl) sc55.nd rfl rfl (by decide) rfl rfl (da_cons (de_op op_sub sim_minus (dv 2) (dv 5)) (da_cons (de_op op_sub sim_minus (de_callB cr_len sim_len (by rfl) T.z_len boot_len (da_cons (dv 4) da_nil)) (dv 5)) da_nil)) (by rfl))
      (dss_one (ds_asgH (de_op op_plus sim_plus (de_ix ix_any sim_ixE (de_ix ix_any sim_ix (dv 3) (dv 6) (fun _ _ => rfl)) (dv 7) (fun _ _ => rfl)) de_int) (pg_subD (de_ix ix_any sim_ix (dv 3) (dv 6) (fun _ _ => rfl)) (dv 7)) simH_subD)))))
      (dss_one (ds_ret (de_callTy call_tuple_of sim_tuple (by rfl) T.z_tuple boot_tuple (da_cons (de_lc (own := [("_law_row", 9)]) (by rfl) sc55.nd (di_both (dv 3)) (blkOk_by (N := N55) (own := [("_law_row", 9)]) (sc := defScope (top 55)) (by decide +kernel)) (fun _ _ _ _ _ => (pg_name (i := 9) sc55.nd rfl (by first | exact Or.inl rfl | exact Or.inr rfl))) (sim_nm (i := 9)) (fun _ _ _ _ _ => dts_nil) (fun _ _ _ _ _ => (de_callTy call_tuple_of sim_tuple (by rfl) T.z_tuple boot_tuple (da_cons (dv 9) da_nil)))) da_nil))))))), fun ds μ R h => ?_⟩
  · obtain ⟨p, ts, rfl, _⟩ := h
    rfl
  · obtain ⟨p, ts, rfl, op, oe, few, h⟩ := h
    have un : p.Pairwise (· ≠ ·) := op.asc.imp fun h => Nat.ne_of_lt h
    have ok : OkWeb p ts := ⟨by have := op.few; omega, few, oe.ties⟩
    have rl := grid_web un ok.ends
    have lt : (ts.map D.str).length = ts.length := List.length_map _
    refine ⟨p, ts, _, rfl, .inl rfl, op, oe, ?_⟩
    rw [full_marks2]
    refine ⟨⟨by omega, by omega⟩, ?_⟩
    have en : ((rankOf p ts (List.range ts.length) : Int) + 1).toNat = rankOf p ts (List.range ts.length) + 1 := by omega
    show LcB _ _ _ _ _ _ _ _
    rw [en]
    refine rows_made (w := ts.length - rankOf p ts (List.range ts.length) + 1) (by omega) ?_ ?_
    · intro i ν Y hY
      refine ⟨by show 1 ≤ sizeLine; decide, ?_⟩
      refine ⟨⟨by rw [lt]; omega, by rw [lt]; omega, by show 1 ≤ 1000; omega⟩, fun c nc => ?_⟩
      have ew : (((ts.map D.str).length : Int) - (rankOf p ts (List.range ts.length) : Int) + 1).toNat = ts.length - rankOf p ts (List.range ts.length) + 1 := by rw [lt]; omega
      rw [ew, zero_flat]
      exact hY c nc
    · intro as ν hR
      refine ⟨ts.length, ?_, few, fun O hO hw => ?_⟩
      · show [D.int ((ts.map D.str).length : Int)] = _
        rw [List.length_map]
      rw [cntT_none p ts O] at hR
      refine ⟨fun i δ' ν' => Rows μ ν' as (cntT p ts (O.take i)) ∧ ∃ o4 o5 o6 o7 o8 o9, δ' = [some (.str (toS p)), some (.tup (ts.map D.str)), some (.int (rankOf p ts (List.range ts.length) : Nat)), some (dRows as), o4, o5, o6, o7, o8, o9], ⟨hR, none, none, none, none, none, none, rfl⟩, ?_, ?_⟩
      · rintro i x δ' ν' hi ⟨hR, o4, o5, o6, o7, o8, o9, rfl⟩
        rw [List.getElem?_map] at hi
        obtain ⟨v, hv, rfl⟩ : ∃ v, O[i]? = some v ∧ dLot v = x := by
          cases e : O[i]? with
          | none => rw [e] at hi; cases hi
          | some t => rw [e] at hi; exact ⟨t, rfl, Option.some.inj hi⟩
        have vm : v ∈ lotsL ts.length := hO.subset (List.mem_of_getElem? hv)
        have vl := lots_lt vm
        have l11 : v.length ≤ 11 := by have := asc_len ⟨(lots_in _ v vm).2.2, vl⟩; omega
        obtain ⟨b1, b2, b3, b4, e3⟩ := cntT_more un ok.ends hv vl (lots_nd vm)
        have ha : as[rankOf p ts (List.range ts.length) - rankOf p ts v]? = some (as[rankOf p ts (List.range ts.length) - rankOf p ts v]'(by rw [hR.len]; unfold cntT; rw [grid_len]; exact b3)) := List.getElem?_eq_getElem _
        generalize as[rankOf p ts (List.range ts.length) - rankOf p ts v]'(by rw [hR.len]; unfold cntT; rw [grid_len]; exact b3) = a at ha
        have hc := hR.at_ _ a _ ha (grid_get b3)
        have lv : ((v.map Int.ofNat).map D.int).length = v.length := by rw [List.length_map, List.length_map]
        show LcB _ _ _ _ _ _ _ _
        refine lcb_map (tieAt ts) ?_ ?_ ?_
        · rw [List.length_map, List.length_map, sizeLine_eq]
          omega
        · intro x hx μ2 Y _ hy
          obtain ⟨j, hj, rfl⟩ := items_lot hx
          have hj := vl j hj
          refine atK_nat (d := .str ts[j]) (by rw [List.getElem?_map, List.getElem?_eq_getElem hj]; rfl) ?_
          have : tieAt ts (.int (j : Nat)) = .str ts[j] := by
            show D.str (ts.getD j Str.empty) = _
            rw [List.getD_eq_getElem?_getD, List.getElem?_eq_getElem hj]
            rfl
          rw [this] at hy
          exact hy
        · have em : ((v.map Int.ofNat).map D.int).map (tieAt ts) = (v.map fun j => ts.getD j Str.empty).map D.str := by
            rw [List.map_map, List.map_map, List.map_map]
            exact List.map_congr_left fun j _ => rfl
          rw [em]
          have oeV : OkEnds p (v.map fun j => ts.getD j Str.empty) := ⟨fun y hy => by
            obtain ⟨j, hj, rfl⟩ := List.mem_map.mp hy
            have hj := vl j hj
            rw [List.getD_eq_getElem?_getD, List.getElem?_eq_getElem hj]
            exact oe.ties _ (List.getElem_mem hj)⟩
          refine ⟨p, _, _, rfl, .inr rfl, op, oeV, ?_⟩
          rw [tie_rank2]
          have e1 : ((rankOf p ts (List.range ts.length) : Nat) : Int) - ((rankOf p ts v : Nat) : Int) = ((rankOf p ts (List.range ts.length) - rankOf p ts v : Nat) : Int) := by omega
          have e2 : (((v.map Int.ofNat).map D.int).length : Int) - ((rankOf p ts v : Nat) : Int) = ((v.length - rankOf p ts v : Nat) : Int) := by rw [lv]; omega
          have gr : (as.map D.adr)[rankOf p ts (List.range ts.length) - rankOf p ts v]? = some (.adr a) := by rw [List.getElem?_map, ha]; rfl
          refine (e1 ▸ atK_nat gr ?_ : atK _ _ _)
          refine ⟨a, _, _, .int (cntOf p ts (O.take i) (rankOf p ts (List.range ts.length) - rankOf p ts v) (v.length - rankOf p ts v) : Nat), rfl, congrArg D.int e2, hc, by rw [atI_nat (row_get b4)], ?_⟩
          refine (e1 ▸ atK_nat gr ?_ : atK _ _ _)
          refine ⟨_, v.length - rankOf p ts v, hc, ?_, ?_⟩
          · rw [e2]
            unfold ixN
            rw [if_pos (by omega), if_pos (by rw [List.length_map, List.length_map, List.length_map, List.length_range]; omega)]
            simp
          · refine ⟨?_, _, _, _, _, _, _, rfl⟩
            have hw := hR.write ha (((List.range (ts.length - rankOf p ts (List.range ts.length) + 1)).map fun j => cntOf p ts (O.take i) (rankOf p ts (List.range ts.length) - rankOf p ts v) j).set (v.length - rankOf p ts v) (cntOf p ts (O.take i) (rankOf p ts (List.range ts.length) - rankOf p ts v) (v.length - rankOf p ts v) + 1))
            rw [e3, List.map_set, List.map_set] at hw
            exact hw
      · rintro δ' ν' ⟨hR, o4, o5, o6, o7, o8, o9, rfl⟩
        rw [List.length_map, List.take_length, cntT_perm hO] at hR
        show LcB _ _ _ _ _ _ _ _
        refine lcb_map (rowOf ν') ?_ ?_ ?_
        · rw [List.length_map, hR.len, sizeLine_eq]
          unfold cntT
          rw [grid_len]
          omega
        · intro x hx μ2 Y keep hy
          exact row_ask hR hx keep hy
        · rw [rows_tup hR]
          refine ⟨_, μ, .less hR.keep, ?_⟩
          show R (D.tup _) μ
          rw [dTab_nat, cntT_I]
          exact h
end
end K10
set_option Elab.async false
set_option linter.all false
set_option maxRecDepth 100000
namespace K10
open PySem PySem.Spec PyProof.Rows L2 DL
section
variable {P : Program} {w : World} {K : PySem.W.Frag} {mg : Str → Option Value} {base : Heap} {A : Ad}
/-! ### powers and sums by the law -/
def Bd (x : Int) (k : Nat) : Prop := x.natAbs ≤ 2 ^ k
theorem Bd.mul {x y : Int} {k l : Nat} (a : Bd x k) (b : Bd y l) : Bd (x * y) (k + l) := by
  unfold Bd at *
  rw [Int.natAbs_mul, Nat.pow_add]
  exact Nat.mul_le_mul a b
theorem Bd.pow {x : Int} {k : Nat} (a : Bd x k) (n : Nat) : Bd (x ^ n) (k * n) := by
  unfold Bd at *
  rw [Int.natAbs_pow, Nat.pow_mul]
  exact Nat.pow_le_pow_left a n
theorem Bd.up {x : Int} {k l : Nat} (a : Bd x k) (h : k ≤ l) : Bd x l := Nat.le_trans a (Nat.pow_le_pow_right (by decide) h)
theorem Bd.log {x : Int} {k : Nat} (a : Bd x k) : x.natAbs.log2 ≤ k := by
  unfold Bd at a
  by_cases h : x.natAbs = 0
  · rw [h]; exact Nat.zero_le _
  · have := (Nat.log2_lt h).mpr (Nat.lt_of_le_of_lt a (Nat.pow_lt_pow_right (by decide) (Nat.lt_succ_self k)))
    omega
theorem Bd.cw {x y : Int} {k l : Nat} (a : Bd x k) (b : Bd y l) (h : k + l < 1000000) : CMulW x y := by
  have := a.log
  have := b.log
  show _ + _ < _
  omega
theorem Bd.range {x : Int} (a : Bd x 21) : -(2 ^ 64) < x ∧ x < 2 ^ 64 := by
  unfold Bd at a
  omega
def g_L_power : GC := fun ds μ R => ∃ (b : Int) (m : Nat), ds = [.int b, .int (m : Nat)] ∧ Bd b 21 ∧ m ≤ 1000 ∧ R (.int (b ^ m)) μ
def N56 : List Str := ["_law_number", "_law_many", "_law_found", "_law_turn"]
theorem sc56 : FnScope N56 ["_law_number", "_law_many"] (defScope (top 56)) := ⟨rfl, rfl, rfl, by decide +kernel, rfl, by decide +kernel, by decide +kernel⟩
theorem ok_L_power (T : Tx K mg A) : FnOk P w K mg base CX0 1 A.L_power A.fd_L_power ["_law_number", "_law_many"] (toSp K (g_L_power)) := by
  refine okD T.F_L_power sc56 (fun ds μ R h => ?_) ⟨_, fun cdv A0 outer s H E hr =>
    (dss_cons (ds_set sc56.nd (i := 2) rfl (by first | exact Or.inl rfl | exact Or.inr rfl) de_int)
      (dss_cons (ds_for PassesOwn.never rfl (di_range (by rfl) T.z_range (da_cons (dv 1) da_nil)) (pg_name (i := 3) sc56.nd rfl (by first | exact Or.inl rfl | exact Or.inr rfl)) (sim_nm (i := 3))
      (dss_one (ds_set sc56.nd (i := 2) rfl (by first | exact Or.inl rfl | exact Or.inr rfl) (de_op op_mul sim_mul (dv 2) (dv 0)))))
      (dss_one (ds_ret (dv 2))))), fun ds μ R h => ?_⟩
  · obtain ⟨b, m, rfl, _⟩ := h
    rfl
  · obtain ⟨b, m, rfl, bb, hm, h⟩ := h
    refine ⟨⟨by omega, by omega⟩, ?_⟩
    have e0 : (1 : Int) = b ^ 0 := (Int.pow_zero b).symm
    refine ⟨fun i δ' μ' => μ' = μ ∧ ∃ o3, δ' = [some (.int b), some (.int (m : Nat)), some (.int (b ^ i)), o3], ⟨rfl, none, by rw [← e0]; rfl⟩, ?_, ?_⟩
    · rintro i x δ' μ' hx ⟨rfl, o3, rfl⟩
      refine ⟨.inr bb.range, rfl, x, ?_⟩
      rw [Int.pow_succ]
      rfl
    · rintro δ' μ' ⟨rfl, o3, rfl⟩
      have el : ((List.range ((m : Nat) : Int).toNat).map fun i => D.int (i : Nat)).length = m := by simp
      rw [el]
      exact h
def termV (c : Nat → Nat → Int) (m n : Nat) (a b u v : Int) (i j : Nat) : Int := c i j * (a ^ i * b ^ (m - i)) * u ^ j * v ^ (n - j)
def sumV (c : Nat → Nat → Int) (m n : Nat) (a b u v : Int) (i j : Nat) : Int := S (fun i => S (termV c m n a b u v i) (n + 1)) i + S (termV c m n a b u v i) j
theorem sumV_next (c : Nat → Nat → Int) (m n : Nat) (a b u v : Int) (i : Nat) : sumV c m n a b u v i (n + 1) = sumV c m n a b u v (i + 1) 0 := by
  unfold sumV
  rw [show S (termV c m n a b u v (i + 1)) 0 = 0 from rfl, Int.add_zero]
  rfl
theorem sumV_more (c : Nat → Nat → Int) (m n : Nat) (a b u v : Int) (i j : Nat) : sumV c m n a b u v i j + c i j * (a ^ i * b ^ (m - i)) * u ^ j * v ^ (n - j) = sumV c m n a b u v i (j + 1) := by
  unfold sumV
  rw [S]
  show _ + termV c m n a b u v i j = _
  omega
theorem sumV_end (c : Nat → Nat → Int) (m n : Nat) (a b u v : Int) : sumV c m n a b u v (m + 1) 0 = evS c (m + 1) (n + 1) a b u v := by
  unfold sumV evS
  rw [show S (termV c m n a b u v (m + 1)) 0 = 0 from rfl, Int.add_zero]
  refine S_congr fun i _ => S_congr fun j _ => ?_
  unfold termV
  rw [Nat.add_sub_cancel, Nat.add_sub_cancel]
  grind
def g_L_sum : GC := fun ds μ R => ∃ (m n : Nat) (c : Nat → Nat → Int) (a b u v : Int), ds = [dTabI (gridI (m + 1) (n + 1) c), .tup [.int a, .int b], .tup [.int u, .int v]] ∧ m ≤ 12 ∧ n ≤ 12 ∧ (∀ i, i < m + 1 → ∀ j, j < n + 1 → Bd (c i j) 64) ∧
  Bd a 21 ∧ Bd b 21 ∧ Bd u 21 ∧ Bd v 21 ∧ R (.tup [.int (evS c (m + 1) (n + 1) a b u v), .int (b ^ m * v ^ n)]) μ
def N57 : List Str := ["_law_rows", "_law_left_x", "_law_right_y", "_law_high", "_law_wide", "_law_top", "_law_i", "_law_j", "_law_left"]
theorem sc57 : FnScope N57 ["_law_rows", "_law_left_x", "_law_right_y"] (defScope (top 57)) := ⟨rfl, rfl, rfl, by decide +kernel, rfl, by decide +kernel, by decide +kernel⟩
theorem ok_L_sum (T : Tx K mg A) : FnOk P w K mg base CX0 2 A.L_sum A.fd_L_sum ["_law_rows", "_law_left_x", "_law_right_y"] (toSp K (g_L_sum)) := by
  refine okD T.F_L_sum sc57 (fun ds μ R h => ?_) ⟨_, fun cdv A0 outer s H E hr =>
    (dss_cons (ds_par3 (i := 3) (j := 4) (l := 5) (by rfl) sc57.nd rfl rfl rfl (by decide) (by decide) (by decide) rfl rfl rfl (da_cons (de_op op_sub sim_minus (de_callB cr_len sim_len (by rfl) T.z_len boot_len (da_cons (dv 0) da_nil)) de_int) (da_cons (de_op op_sub sim_minus (de_callB cr_len sim_len (by rfl) T.z_len boot_len (da_cons (de_ix ix_any sim_ix (dv 0) de_int (fun _ _ => rfl)) da_nil)) de_int) (da_cons de_int da_nil))) (by rfl))
      (dss_cons (ds_for PassesOwn.never rfl (di_range (by rfl) T.z_range (da_cons (de_op op_plus sim_plus (dv 3) de_int) da_nil)) (pg_name (i := 6) sc57.nd rfl (by first | exact Or.inl rfl | exact Or.inr rfl)) (sim_nm (i := 6))
      (dss_one (ds_for PassesOwn.never rfl (di_range (by rfl) T.z_range (da_cons (de_op op_plus sim_plus (dv 4) de_int) da_nil)) (pg_name (i := 7) sc57.nd rfl (by first | exact Or.inl rfl | exact Or.inr rfl)) (sim_nm (i := 7))
      (dss_cons (ds_set sc57.nd (i := 8) rfl (by first | exact Or.inl rfl | exact Or.inr rfl) (de_op op_mulW sim_mulW (de_call ((ok_L_power T).mono (by decide)) hr (by rfl) T.g_L_power T.F_L_power.kp T.b_L_power (da_cons (de_ix ix_any sim_ix (dv 1) de_int (fun _ _ => rfl)) (da_cons (dv 6) da_nil))) (de_call ((ok_L_power T).mono (by decide)) hr (by rfl) T.g_L_power T.F_L_power.kp T.b_L_power (da_cons (de_ix ix_any sim_ix (dv 1) de_int (fun _ _ => rfl)) (da_cons (de_op op_sub sim_minus (dv 3) (dv 6)) da_nil)))))
      (dss_one (ds_set sc57.nd (i := 5) rfl (by first | exact Or.inl rfl | exact Or.inr rfl) (de_op op_plus sim_plus (dv 5) (de_op op_mulW sim_mulW (de_op op_mulW sim_mulW (de_op op_mulW sim_mulW (de_ix ix_any sim_ix (de_ix ix_any sim_ix (dv 0) (dv 6) (fun _ _ => rfl)) (dv 7) (fun _ _ => rfl)) (dv 8)) (de_call ((ok_L_power T).mono (by decide)) hr (by rfl) T.g_L_power T.F_L_power.kp T.b_L_power (da_cons (de_ix ix_any sim_ix (dv 2) de_int (fun _ _ => rfl)) (da_cons (dv 7) da_nil)))) (de_call ((ok_L_power T).mono (by decide)) hr (by rfl) T.g_L_power T.F_L_power.kp T.b_L_power (da_cons (de_ix ix_any sim_ix (dv 2) de_int (fun _ _ => rfl)) (da_cons (de_op op_sub sim_minus (dv 4) (dv 7)) da_nil)))))))))))
      (dss_one (ds_ret (de_tup (da_cons (dv 5) (da_cons (de_op op_mulW sim_mulW (de_call ((ok_L_power T).mono (by decide)) hr (by rfl) T.g_L_power T.F_L_power.kp T.b_L_power (da_cons (de_ix ix_any sim_ix (dv 1) de_int (fun _ _ => rfl)) (da_cons (dv 3) da_nil))) (de_call ((ok_L_power T).mono (by decide)) hr (by rfl) T.g_L_power T.F_L_power.kp T.b_L_power (da_cons (de_ix ix_any sim_ix (dv 2) de_int (fun _ _ => rfl)) (da_cons (dv 4) da_nil)))) da_nil))))))), fun ds μ R h => ?_⟩
  · obtain ⟨m, n, c, a, b, u, v, rfl, _⟩ := h
    rfl
  · obtain ⟨m, n, c, a, b, u, v, rfl, hm, hn, hc, ba, bb, bu, bv, h⟩ := h
    have l1 : (((gridI (m + 1) (n + 1) c).map fun r => D.tup (r.map D.int)).length : Int) - 1 = (m : Nat) := by rw [List.length_map, gridI_len]; omega
    have g0 : ∀ i, i < m + 1 → ((gridI (m + 1) (n + 1) c).map fun r => D.tup (r.map D.int))[i]? = some (.tup (((List.range (n + 1)).map fun j => c i j).map D.int)) := fun i hi => by
      unfold gridI
      rw [List.getElem?_map, List.getElem?_map, List.getElem?_range hi]
      rfl
    have g1 : ∀ i j, j < n + 1 → (((List.range (n + 1)).map fun j => c i j).map D.int)[j]? = some (.int (c i j)) := fun i j hj => by
      rw [List.getElem?_map, List.getElem?_map, List.getElem?_range hj]
      rfl
    have l2 : ((((List.range (n + 1)).map fun j => c 0 j).map D.int).length : Int) - 1 = (n : Nat) := by rw [List.length_map, List.length_map, List.length_range]; omega
    refine atK_nat (j := 0) (g0 0 (by omega)) ?_
    refine ⟨⟨by rw [l1]; omega, by rw [l1]; omega⟩, ?_⟩
    have n1 : ((((gridI (m + 1) (n + 1) c).map fun r => D.tup (r.map D.int)).length : Int) - 1 + 1).toNat = m + 1 := by rw [l1]; omega
    refine ⟨fun i δ' μ' => μ' = μ ∧ ∃ o6 o7 o8, δ' = [some (dTabI (gridI (m + 1) (n + 1) c)), some (.tup [.int a, .int b]), some (.tup [.int u, .int v]), some (.int (m : Nat)), some (.int (n : Nat)), some (.int (sumV c m n a b u v i 0)), o6, o7, o8], ⟨rfl, none, none, none, by rw [← l1, ← l2]; rfl⟩, ?_, ?_⟩
    · rintro i x δ' μ' hx ⟨rfl, o6, o7, o8, rfl⟩
      obtain ⟨hi, rfl⟩ := range_at hx
      have hi : i < m + 1 := n1 ▸ hi
      refine ⟨⟨by omega, by omega⟩, ?_⟩
      refine ⟨fun j δ' μ2 => μ2 = μ' ∧ ∃ o7 o8, δ' = [some (dTabI (gridI (m + 1) (n + 1) c)), some (.tup [.int a, .int b]), some (.tup [.int u, .int v]), some (.int (m : Nat)), some (.int (n : Nat)), some (.int (sumV c m n a b u v i j)), some (.int (i : Nat)), o7, o8], ⟨rfl, o7, o8, rfl⟩, ?_, ?_⟩
      · rintro j x δ' μ2 hx ⟨rfl, o7, o8, rfl⟩
        obtain ⟨hj, rfl⟩ := range_at hx
        have hj : j < n + 1 := by omega
        have em : (m : Int) - (i : Int) = ((m - i : Nat) : Int) := by omega
        have en : (n : Int) - (j : Int) = ((n - j : Nat) : Int) := by omega
        have hb := hc i hi j hj
        refine ⟨a, i, rfl, ba, by omega, ?_⟩
        refine ⟨b, m - i, congrArg (fun z => [D.int b, D.int z]) em, bb, by omega, ?_⟩
        refine ⟨(ba.pow i).cw (bb.pow (m - i)) (by omega), ?_⟩
        refine atK_nat (g0 i hi) ?_
        refine atK_nat (g1 i j hj) ?_
        refine ⟨hb.cw ((ba.pow i).mul (bb.pow (m - i))) (by omega), ?_⟩
        refine ⟨u, j, rfl, bu, by omega, ?_⟩
        refine ⟨(hb.mul ((ba.pow i).mul (bb.pow (m - i)))).cw (bu.pow j) (by omega), ?_⟩
        refine ⟨v, n - j, congrArg (fun z => [D.int v, D.int z]) en, bv, by omega, ?_⟩
        refine ⟨((hb.mul ((ba.pow i).mul (bb.pow (m - i)))).mul (bu.pow j)).cw (bv.pow (n - j)) (by omega), rfl, some (.int (j : Nat)), some (.int (a ^ i * b ^ (m - i))), ?_⟩
        rw [← sumV_more]
        rfl
      · rintro δ' μ2 ⟨rfl, o7, o8, rfl⟩
        have el : ((List.range ((n : Int) + 1).toNat).map fun i => D.int (i : Nat)).length = n + 1 := by rw [List.length_map, List.length_range]; omega
        rw [el, sumV_next]
        exact ⟨rfl, _, _, _, rfl⟩
    · rintro δ' μ' ⟨rfl, o6, o7, o8, rfl⟩
      have el : ((List.range ((((gridI (m + 1) (n + 1) c).map fun r => D.tup (r.map D.int)).length : Int) - 1 + 1).toNat).map fun i => D.int (i : Nat)).length = m + 1 := by rw [List.length_map, List.length_range, n1]
      rw [el, sumV_end]
      exact ⟨b, m, rfl, bb, by omega, v, n, rfl, bv, by omega, (bb.pow m).cw (bv.pow n) (by omega), by show 2 ≤ sizeLine; decide, h⟩
def g_L_common : GC := fun ds μ R => ∃ x y : Int, ds = [.int x, .int y] ∧ y.natAbs < 2 ^ 199 ∧ R (.int (Nat.gcd x.natAbs y.natAbs : Nat)) μ
theorem abs_nat (i : Int) : (if i < 0 then -i else i) = (i.natAbs : Int) := by split <;> omega
def N58 : List Str := ["_law_one", "_law_other", "_law_turn"]
theorem sc58 : FnScope N58 ["_law_one", "_law_other"] (defScope (top 58)) := ⟨rfl, rfl, rfl, by decide +kernel, rfl, by decide +kernel, by decide +kernel⟩
theorem ok_L_common (T : Tx K mg A) : FnOk P w K mg base CX0 1 A.L_common A.fd_L_common ["_law_one", "_law_other"] (toSp K (g_L_common)) := by
  refine okD T.F_L_common sc58 (fun ds μ R h => ?_) ⟨_, fun cdv A0 outer s H E hr =>
    (dss_cons (ds_par (i := 0) (j := 1) (by rfl) sc58.nd rfl rfl (by decide) rfl rfl (da_cons (de_callB call_abs sim_abs (by rfl) T.z_abs boot_abs (da_cons (dv 0) da_nil)) (da_cons (de_callB call_abs sim_abs (by rfl) T.z_abs boot_abs (da_cons (dv 1) da_nil)) da_nil)) (by rfl))
      (dss_cons (ds_for PassesOwn.never rfl (di_range (by rfl) T.z_range (da_cons de_int da_nil)) (pg_name (i := 2) sc58.nd rfl (by first | exact Or.inl rfl | exact Or.inr rfl)) (sim_nm (i := 2))
      (dss_cons (ds_if (dt_cmp (op_eqA hr.units) sim_eq (dv 1) de_int (nomark _)) (dss_one ds_brk) dss_nil)
      (dss_one (ds_par (i := 0) (j := 1) (by rfl) sc58.nd rfl rfl (by decide) rfl rfl (da_cons (dv 1) (da_cons (de_op op_modN sim_mod (de_callTy call_int1 sim_int (by rfl) T.z_int boot_int (da_cons (dv 0) da_nil)) (dv 1)) da_nil)) (by rfl)))))
      (dss_one (ds_ret (dv 0))))), fun ds μ R h => ?_⟩
  · obtain ⟨x, y, rfl, _⟩ := h
    rfl
  · obtain ⟨x, y, rfl, hy, h⟩ := h
    refine ⟨⟨by decide, by decide⟩, ?_⟩
    have eG := itG_gcd 199 400 x.natAbs y.natAbs hy (by decide)
    generalize Nat.gcd x.natAbs y.natAbs = G at h eG
    refine ⟨fun i δ' μ' => μ' = μ ∧ ∃ (c d : Nat) (o : Option D), δ' = [some (.int (c : Nat)), some (.int (d : Nat)), o] ∧ itG (400 - i) c d = G, ⟨rfl, x.natAbs, y.natAbs, none, by rw [← abs_nat, ← abs_nat]; rfl, eG⟩, ?_, ?_⟩
    · rintro i x δ' μ' hx ⟨rfl, c, d, o, rfl, e⟩
      obtain ⟨hi, rfl⟩ := range_at hx
      have hi : i < 400 := hi
      obtain ⟨t, et⟩ : ∃ t, 400 - i = t + 1 := ⟨400 - i - 1, by omega⟩
      rw [et, itG] at e
      refine if_case (c := decide ((d : Int) = 0)) (fun z => ?_) (fun z => ?_)
      · have z := of_decide_eq_true z
        rw [if_pos (by omega)] at e
        subst e
        exact h
      · have z := of_decide_eq_false z
        rw [if_neg (by omega)] at e
        refine ⟨by omega, rfl, d, c % d, some (.int (i : Nat)), ?_, by rw [show 400 - (i + 1) = t by omega]; exact e⟩
        have ef : ((c : Int).fmod (d : Int)) = ((c % d : Nat) : Int) := by
          rw [Int.fmod_eq_emod_of_nonneg _ (by omega)]
          rfl
        show [some (D.int (d : Nat)), some (D.int ((c : Int).fmod (d : Int))), some (D.int (i : Nat))] = _
        rw [ef]
    · rintro δ' μ' ⟨rfl, c, d, o, rfl, e⟩
      have e : itG (400 - 400) c d = G := e
      have e : c = G := e
      subst e
      exact h
theorem low_frac {t d : Nat} (ht : t ≤ 1000000) (h1 : 1 ≤ d) (h2 : d ≤ 1000) (s : Int) (hs : s = 1 ∨ s = -1) : Frac (s * ((t / Nat.gcd t d : Nat) : Int)) ((d / Nat.gcd t d : Nat) : Int) := by
  have gp : 0 < Nat.gcd t d := Nat.gcd_pos_of_pos_right _ h1
  have e1 : t / Nat.gcd t d ≤ t := Nat.div_le_self _ _
  have e2 : d / Nat.gcd t d ≤ d := Nat.div_le_self _ _
  have e3 : 1 ≤ d / Nat.gcd t d := Nat.div_pos (Nat.gcd_le_right _ h1) gp
  have e4 : Nat.gcd (t / Nat.gcd t d) (d / Nat.gcd t d) = 1 := by
    have := Nat.gcd_div (Nat.gcd_dvd_left t d) (Nat.gcd_dvd_right t d)
    rw [this, Nat.div_self gp]
  refine ⟨?_, ⟨by omega, by omega⟩, ?_⟩
  · generalize t / Nat.gcd t d = q at e1 ⊢
    rcases hs with rfl | rfl <;> constructor <;> omega
  · rw [Int.natAbs_mul, Int.natAbs_natCast, Int.natAbs_natCast]
    have : s.natAbs = 1 := by rcases hs with rfl | rfl <;> rfl
    rw [this, Nat.one_mul, e4]
theorem few_frac {d : D} (h : d ∈ [D.int 0, D.int 1, D.int 2, D.int (-1), D.int 3, D.int (-2)]) : ∃ f : Int, d = .int f ∧ Frac f 1 := by
  simp only [List.mem_cons, List.not_mem_nil, or_false] at h
  rcases h with rfl | rfl | rfl | rfl | rfl | rfl <;> exact ⟨_, rfl, ⟨by decide, by decide⟩, ⟨by decide, by decide⟩, by decide⟩
def g_L_fraction : GC := fun ds μ R => ∃ (a : Addr) (x y z : Int), ds = [.adr a] ∧ μ a = some (pot x y z) ∧ ∀ f b x y z : Int, Frac f b → R (.tup [.int f, .int b]) (put μ a (pot x y z))
def N59 : List Str := ["_law_pot_here", "_law_way", "_law_sign", "_law_top", "_law_bottom", "_law_by"]
theorem sc59 : FnScope N59 ["_law_pot_here"] (defScope (top 59)) := ⟨rfl, rfl, rfl, by decide +kernel, rfl, by decide +kernel, by decide +kernel⟩
theorem ok_L_fraction (T : Tx K mg A) : FnOk P w K mg base CX0 3 A.L_fraction A.fd_L_fraction ["_law_pot_here"] (toSp K (g_L_fraction)) := by
  refine okD T.F_L_fraction sc59 (fun ds μ R h => ?_) ⟨_, fun cdv A0 outer s H E hr =>
    (dss_cons (ds_par (i := 1) (j := 2) (by rfl) sc59.nd rfl rfl (by decide) rfl rfl (da_cons (de_call ((ok_L_dip T).mono (by decide)) hr (by rfl) T.g_L_dip T.F_L_dip.kp T.b_L_dip (da_cons (dv 0) (da_cons de_int da_nil))) (da_cons (de_ix ix_any sim_ix (de_lst (da_cons de_int (da_cons (de_un un_neg sim_neg de_int) da_nil))) (de_call ((ok_L_dip T).mono (by decide)) hr (by rfl) T.g_L_dip T.F_L_dip.kp T.b_L_dip (da_cons (dv 0) (da_cons de_int da_nil))) (fun _ _ => rfl)) da_nil)) (by rfl))
      (dss_cons (ds_if (dt_cmp op_ltA sim_ord (dv 1) de_int (nomark _)) (dss_one (ds_ret (de_tup (da_cons (de_call ((ok_L_anyL T).mono (by decide)) hr (by rfl) T.g_L_any T.F_L_any.kp T.b_L_any (da_cons (dv 0) (da_cons (de_lst (da_cons de_int (da_cons de_int (da_cons de_int (da_cons (de_un un_neg sim_neg de_int) (da_cons de_int (da_cons (de_un un_neg sim_neg de_int) da_nil))))))) da_nil))) (da_cons de_int da_nil))))) dss_nil)
      (dss_cons (ds_par (i := 3) (j := 4) (by rfl) sc59.nd rfl rfl (by decide) rfl rfl (da_cons (de_call ((ok_L_dip T).mono (by decide)) hr (by rfl) T.g_L_dip T.F_L_dip.kp T.b_L_dip (da_cons (dv 0) (da_cons (de_ix ix_any sim_ix (de_lst (da_cons de_int (da_cons (de_op op_plus sim_plus (de_op op_pow sim_pow de_int de_int) de_int) da_nil))) (de_op op_sub sim_minus (dv 1) de_int) (fun _ _ => rfl)) da_nil))) (da_cons (de_op op_plus sim_plus de_int (de_call ((ok_L_dip T).mono (by decide)) hr (by rfl) T.g_L_dip T.F_L_dip.kp T.b_L_dip (da_cons (dv 0) (da_cons (de_ix ix_any sim_ix (de_lst (da_cons de_int (da_cons de_int da_nil))) (de_op op_sub sim_minus (dv 1) de_int) (fun _ _ => rfl)) da_nil)))) da_nil)) (by rfl))
      (dss_cons (ds_set sc59.nd (i := 5) rfl (by first | exact Or.inl rfl | exact Or.inr rfl) (de_call ((ok_L_common T).mono (by decide)) hr (by rfl) T.g_L_common T.F_L_common.kp T.b_L_common (da_cons (dv 3) (da_cons (dv 4) da_nil))))
      (dss_one (ds_ret (de_tup (da_cons (de_op op_mul sim_mul (dv 2) (de_op op_fdivN sim_fdiv (dv 3) (dv 5))) (da_cons (de_op op_fdivN sim_fdiv (dv 4) (dv 5)) da_nil))))))))), fun ds μ R h => ?_⟩
  · obtain ⟨a, x, y, z, rfl, _⟩ := h
    rfl
  · obtain ⟨a, x, y, z, rfl, ha, h⟩ := h
    refine ⟨a, x, y, z, 4, rfl, ha, by decide, by decide, fun d1 x y z hd1 => ?_⟩
    refine ⟨by show 2 ≤ sizeLine; decide, ?_⟩
    refine ⟨a, x, y, z, 2, rfl, put_same, by decide, by decide, fun d2 x y z hd2 => ?_⟩
    rw [put_put]
    obtain ⟨s, hs, es⟩ : ∃ s : Int, (s = 1 ∨ s = -1) ∧ L2.atI [D.int 1, D.int (-1)] ((d2 : Nat) : Int) = some (.int s) := by
      match d2, hd2 with
      | 0, _ => exact ⟨1, .inl rfl, rfl⟩
      | 1, _ => exact ⟨-1, .inr rfl, rfl⟩
      | n + 2, h => omega
    refine at_at2 es ?_
    have last : ∀ (t u : Nat) (x y z : Int), t ≤ 1000000 → u < 1000 → R (.tup [.int (s * ((t / Nat.gcd t (1 + u) : Nat) : Int)), .int (((1 + u) / Nat.gcd t (1 + u) : Nat) : Int)]) (put μ a (pot x y z)) := fun t u x y z ht hu => h _ _ _ _ _ (low_frac ht (by omega) (by omega) s hs)
    refine if_case (c := decide ((d1 : Int) < 2)) (fun e => ?_) (fun e => ?_)
    · refine ⟨by show 6 ≤ sizeLine; decide, ?_⟩
      refine ⟨a, x, y, z, _, rfl, put_same, by decide, by decide, fun d x y z hd => ?_⟩
      rw [put_put]
      obtain ⟨f, rfl, fr⟩ := few_frac hd
      exact ⟨by show 2 ≤ sizeLine; decide, h f 1 x y z fr⟩
    · have e := of_decide_eq_false e
      obtain rfl | rfl : d1 = 2 ∨ d1 = 3 := by omega
      · refine ⟨⟨by decide, by decide, by decide⟩, by show 2 ≤ sizeLine; decide, ?_⟩
        refine ⟨a, x, y, z, 10, rfl, put_same, by decide, by decide, fun t x y z ht => ?_⟩
        rw [put_put]
        refine ⟨by show 2 ≤ sizeLine; decide, ?_⟩
        refine ⟨a, x, y, z, 9, rfl, put_same, by decide, by decide, fun u x y z hu => ?_⟩
        rw [put_put]
        refine ⟨(t : Nat), 1 + (u : Nat), rfl, by omega, ?_⟩
        rw [Int.natAbs_natCast, show ((1 : Int) + (u : Int)).natAbs = 1 + u by omega]
        have lt := last t u x y z (by omega) (by omega)
        have gp : 0 < Nat.gcd t (1 + u) := Nat.gcd_pos_of_pos_right _ (by omega)
        have gl : Nat.gcd t (1 + u) ≤ 1 + u := Nat.gcd_le_right _ (by omega)
        have f1 : ((t : Nat) : Int).fdiv (Nat.gcd t (1 + u) : Nat) = ((t / Nat.gcd t (1 + u) : Nat) : Int) := by rw [Int.fdiv_eq_ediv_of_nonneg _ (by omega)]; rfl
        have f2 : ((1 : Int) + (u : Nat)).fdiv (Nat.gcd t (1 + u) : Nat) = (((1 + u) / Nat.gcd t (1 + u) : Nat) : Int) := by rw [Int.fdiv_eq_ediv_of_nonneg _ (by omega), show (1 : Int) + (u : Nat) = ((1 + u : Nat) : Int) by omega]; rfl
        have cd : ∀ i : Int, CDivN i (Nat.gcd t (1 + u) : Nat) := fun i => ⟨by omega, by rw [Int.natAbs_natCast]; omega⟩
        refine ⟨cd _, .inl ⟨by rcases hs with rfl | rfl <;> decide, by rcases hs with rfl | rfl <;> decide⟩, cd _, by show 2 ≤ sizeLine; decide, ?_⟩
        rw [← f1, ← f2] at lt
        exact lt
      · refine ⟨⟨by decide, by decide, by decide⟩, by show 2 ≤ sizeLine; decide, ?_⟩
        refine ⟨a, x, y, z, 1000001, rfl, put_same, by decide, by decide, fun t x y z ht => ?_⟩
        rw [put_put]
        refine ⟨by show 2 ≤ sizeLine; decide, ?_⟩
        refine ⟨a, x, y, z, 1000, rfl, put_same, by decide, by decide, fun u x y z hu => ?_⟩
        rw [put_put]
        refine ⟨(t : Nat), 1 + (u : Nat), rfl, by omega, ?_⟩
        rw [Int.natAbs_natCast, show ((1 : Int) + (u : Int)).natAbs = 1 + u by omega]
        have lt := last t u x y z (by omega) (by omega)
        have gp : 0 < Nat.gcd t (1 + u) := Nat.gcd_pos_of_pos_right _ (by omega)
        have gl : Nat.gcd t (1 + u) ≤ 1 + u := Nat.gcd_le_right _ (by omega)
        have f1 : ((t : Nat) : Int).fdiv (Nat.gcd t (1 + u) : Nat) = ((t / Nat.gcd t (1 + u) : Nat) : Int) := by rw [Int.fdiv_eq_ediv_of_nonneg _ (by omega)]; rfl
        have f2 : ((1 : Int) + (u : Nat)).fdiv (Nat.gcd t (1 + u) : Nat) = (((1 + u) / Nat.gcd t (1 + u) : Nat) : Int) := by rw [Int.fdiv_eq_ediv_of_nonneg _ (by omega), show (1 : Int) + (u : Nat) = ((1 + u : Nat) : Int) by omega]; rfl
        have cd : ∀ i : Int, CDivN i (Nat.gcd t (1 + u) : Nat) := fun i => ⟨by omega, by rw [Int.natAbs_natCast]; omega⟩
        refine ⟨cd _, .inl ⟨by rcases hs with rfl | rfl <;> decide, by rcases hs with rfl | rfl <;> decide⟩, cd _, by show 2 ≤ sizeLine; decide, ?_⟩
        rw [← f1, ← f2] at lt
        exact lt
end
end K10
set_option Elab.async false
set_option linter.all false
set_option maxRecDepth 100000
namespace K10
open PySem PySem.Spec PyProof.Rows L2 DL
section
variable {P : Program} {w : World} {K : PySem.W.Frag} {mg : Str → Option Value} {base : Heap} {A : Ad}
/-! ### the table, judged by the law -/
def lenD : D → D
  | .tup ds => .int (ds.length : Nat)
  | d => d
theorem lens_grid (m n : Nat) (c : Nat → Nat → Int) : (((gridI m n c).map fun r => D.tup (r.map D.int))).map lenD = (List.replicate m (n : Int)).map D.int := by
  unfold gridI
  rw [List.map_map, List.map_map, List.map_replicate]
  apply List.ext_getElem?
  intro i
  rw [List.getElem?_map, List.getElem?_replicate]
  by_cases h : i < m
  · rw [List.getElem?_range h, if_pos h]
    show some (D.int ((((List.range n).map fun j => c i j).map D.int).length : Nat)) = _
    rw [List.length_map, List.length_map, List.length_range]
  · rw [List.getElem?_eq_none (by rw [List.length_range]; omega), if_neg h]
    rfl
/-- what is compared with itself -/
theorem ne_self {d : D} {p : PyData} {k w : Nat} {F : Bool → Mu → Prop} {μ : Mu} (hp : py d = some p) (hs : PyData.canLay0 p = true) (hd : p.depth ≤ 64) (q : F false μ) : gEqD not d d μ (bK F) := by
  have sh : SeqAt.shaped p = true := by
    unfold SeqAt.shaped
    rw [hs, decide_eq_true hd]
    rfl
  refine ⟨p, p, hp, hp, sh, sh, ?_⟩
  show bK F (.bl (!PyData.eqv p p)) μ
  rw [SeqAt.eqv_refl p hs]
  exact q
theorem py_ints (l : List Int) : py (.lst (l.map D.int)) = some (.list (l.map PyData.int)) := by
  unfold py
  rw [pyL_map (g := PyData.int) fun x _ => py_int x]
  rfl
theorem lay_ints : ∀ l : List Int, PyData.canLayAll0 (l.map PyData.int) = true ∧ PyData.depthAll (l.map PyData.int) ≤ 0
  | [] => ⟨by rw [List.map_nil]; unfold PyData.canLayAll0; rfl, by rw [List.map_nil]; unfold PyData.depthAll; omega⟩
  | i :: l => by
    obtain ⟨h1, h2⟩ := lay_ints l
    rw [List.map_cons]
    refine ⟨?_, ?_⟩
    · unfold PyData.canLayAll0
      rw [h1]
      unfold PyData.canLay0
      rfl
    · unfold PyData.depthAll PyData.depth
      omega
theorem ne_ints {l : List Int} {F : Bool → Mu → Prop} {μ : Mu} (q : F false μ) : gEqD not (.lst (l.map D.int)) (.lst (l.map D.int)) μ (bK F) :=
  ne_self (k := 0) (w := 0) (py_ints l) (by unfold PyData.canLay0; exact (lay_ints l).1) (by unfold PyData.depth; have := (lay_ints l).2; omega) q
theorem ne_pair {i j : Int} {F : Bool → Mu → Prop} {μ : Mu} (q : F false μ) : gEqD not (.tup [.int i, .int j]) (.tup [.int i, .int j]) μ (bK F) :=
  ne_self (k := 0) (w := 0) (py_pair i j) (by unfold PyData.canLay0; exact (lay_ints [i, j]).1) (by unfold PyData.depth; have := (lay_ints [i, j]).2; have e : [i, j].map PyData.int = [.int i, .int j] := rfl; rw [e] at this; omega) q
theorem all_true (k : Nat) : (List.replicate k true).all id = true := by
  rw [List.all_eq_true]
  intro c hc
  rw [List.eq_of_mem_replicate hc]
  rfl
theorem evS_shift (c : Nat → Nat → Int) (m n : Nat) (a u : Int) : evS (tabS c (m + 1) (n + 1)) (m + 1) (n + 1) (a + 1) 1 (u + 1) 1 = evS c (m + 1) (n + 1) a 1 u 1 := by
  have h := tabS_value c (m + 1) (n + 1) (a + 1) 1 (u + 1) 1
  rw [Int.add_sub_cancel, Int.add_sub_cancel] at h
  exact h
def g_L_table_right : GC := fun ds μ R => ∃ (m n : Nat) (c : Nat → Nat → Int), ds = [dTabI (gridI (m + 1) (n + 1) (tabS c (m + 1) (n + 1))), dTabI (gridI (m + 1) (n + 1) c)] ∧ m ≤ 12 ∧ n ≤ 12 ∧
  (∀ i, i < m + 1 → ∀ j, j < n + 1 → 0 ≤ tabS c (m + 1) (n + 1) i j ∧ Bd (tabS c (m + 1) (n + 1) i j) 64) ∧ (∀ i, i < m + 1 → ∀ j, j < n + 1 → Bd (c i j) 64) ∧ R (.bl true) μ
def N60 : List Str := ["_law_told", "_law_counts", "_law_row", "_law_left_x", "_law_right_y", "_law_each"]
theorem sc60 : FnScope N60 ["_law_told", "_law_counts"] (defScope (top 60)) := ⟨rfl, rfl, rfl, by decide +kernel, rfl, by decide +kernel, by decide +kernel⟩
theorem ok_L_table_right (T : Tx K mg A) : FnOk P w K mg base CX0 3 A.L_table_right A.fd_L_table_right ["_law_told", "_law_counts"] (toSp K (g_L_table_right)) := by
  refine okD T.F_L_table_right sc60 (fun ds μ R h => ?_) ⟨_, fun cdv A0 outer s H E hr =>
    (dss_cons (ds_if (dw_or (dt_not (dt_val (de_isi (T := "tuple") (by rfl) T.z_isinstance (by rfl) T.z_tuple (by decide +kernel) (dv 0)))) (dw_or1 (dt_cmp (op_neA hr.units) sim_ne (de_lc (own := [("_law_row", 2)]) (by rfl) sc60.nd (di_both (dv 0)) (blkOk_by (N := N60) (own := [("_law_row", 2)]) (sc := defScope (top 60)) (by decide +kernel)) (fun _ _ _ _ _ => (pg_name (i := 2) sc60.nd rfl (by first | exact Or.inl rfl | exact Or.inr rfl))) (sim_nm (i := 2)) (fun _ _ _ _ _ => dts_nil) (fun _ _ _ _ _ => (de_callB cr_len sim_len (by rfl) T.z_len boot_len (da_cons (dv 2) da_nil)))) (de_lc (own := [("_law_row", 2)]) (by rfl) sc60.nd (di_both (dv 1)) (blkOk_by (N := N60) (own := [("_law_row", 2)]) (sc := defScope (top 60)) (by decide +kernel)) (fun _ _ _ _ _ => (pg_name (i := 2) sc60.nd rfl (by first | exact Or.inl rfl | exact Or.inr rfl))) (sim_nm (i := 2)) (fun _ _ _ _ _ => dts_nil) (fun _ _ _ _ _ => (de_callB cr_len sim_len (by rfl) T.z_len boot_len (da_cons (dv 2) da_nil)))) (nomark _)))).dt (dss_one (ds_ret de_bl)) dss_nil)
      (dss_cons (ds_for PassesOwn.never rfl (di_both (dv 0)) (pg_name (i := 2) sc60.nd rfl (by first | exact Or.inl rfl | exact Or.inr rfl)) (sim_nm (i := 2))
      (dss_cons (ds_if (dw_or (dt_not (dt_val (de_isi (T := "tuple") (by rfl) T.z_isinstance (by rfl) T.z_tuple (by decide +kernel) (dv 2)))) (dw_or1 (dt_not (dt_val (de_callB (cr_all (by rfl)) sim_all (by rfl) T.z_all boot_all (da_cons (de_lc (own := [("_law_each", 5)]) (by rfl) sc60.nd (di_both (dv 2)) (blkOk_by (N := N60) (own := [("_law_each", 5)]) (sc := defScope (top 60)) (by decide +kernel)) (fun _ _ _ _ _ => (pg_name (i := 5) sc60.nd rfl (by first | exact Or.inl rfl | exact Or.inr rfl))) (sim_nm (i := 5)) (fun _ _ _ _ _ => dts_nil) (fun _ _ _ _ _ => (de_and (de_isi (T := "int") (by rfl) T.z_isinstance (by rfl) T.z_int (by decide +kernel) (dv 5)) (de_one (de_cmp op_geA sim_ord (dv 5) de_int (nomark _)))))) da_nil)))))).dt (dss_one (ds_ret de_bl)) dss_nil)
      (dss_one (ds_if (dt_cmp op_inA sim_inB de_bl (de_lc (own := [("_law_each", 5)]) (by rfl) sc60.nd (di_both (dv 2)) (blkOk_by (N := N60) (own := [("_law_each", 5)]) (sc := defScope (top 60)) (by decide +kernel)) (fun _ _ _ _ _ => (pg_name (i := 5) sc60.nd rfl (by first | exact Or.inl rfl | exact Or.inr rfl))) (sim_nm (i := 5)) (fun _ _ _ _ _ => dts_nil) (fun _ _ _ _ _ => (de_isi (T := "bool") (by rfl) T.z_isinstance (by rfl) T.z_bool (by decide +kernel) (dv 5)))) rfl) (dss_one (ds_ret de_bl)) dss_nil))))
      (dss_cons (ds_for PassesOwn.never rfl (di_range (by rfl) T.z_range (da_cons (de_callB cr_len sim_len (by rfl) T.z_len boot_len (da_cons (dv 1) da_nil)) da_nil)) (pg_name (i := 3) sc60.nd rfl (by first | exact Or.inl rfl | exact Or.inr rfl)) (sim_nm (i := 3))
      (dss_one (ds_for PassesOwn.never rfl (di_range (by rfl) T.z_range (da_cons (de_callB cr_len sim_len (by rfl) T.z_len boot_len (da_cons (de_ix ix_any sim_ix (dv 1) de_int (fun _ _ => rfl)) da_nil)) da_nil)) (pg_name (i := 4) sc60.nd rfl (by first | exact Or.inl rfl | exact Or.inr rfl)) (sim_nm (i := 4))
      (dss_one (ds_if (dt_cmp (op_neA hr.units) sim_ne (de_call ((ok_L_sum T).mono (by decide)) hr (by rfl) T.g_L_sum T.F_L_sum.kp T.b_L_sum (da_cons (dv 0) (da_cons (de_tup (da_cons (de_op op_plus sim_plus (dv 3) de_int) (da_cons de_int da_nil))) (da_cons (de_tup (da_cons (de_op op_plus sim_plus (dv 4) de_int) (da_cons de_int da_nil))) da_nil)))) (de_call ((ok_L_sum T).mono (by decide)) hr (by rfl) T.g_L_sum T.F_L_sum.kp T.b_L_sum (da_cons (dv 1) (da_cons (de_tup (da_cons (dv 3) (da_cons de_int da_nil))) (da_cons (de_tup (da_cons (dv 4) (da_cons de_int da_nil))) da_nil)))) (nomark _)) (dss_one (ds_ret de_bl)) dss_nil)))))
      (dss_one (ds_ret de_bl))))), fun ds μ R h => ?_⟩
  · obtain ⟨m, n, c, rfl, _⟩ := h
    rfl
  · obtain ⟨m, n, c, rfl, hm, hn, ht, hc, h⟩ := h
    have evs : ∀ a u : Int, evS (tabS c (m + 1) (n + 1)) (m + 1) (n + 1) (a + 1) 1 (u + 1) 1 = evS c (m + 1) (n + 1) a 1 u 1 := evS_shift c m n
    generalize tabS c (m + 1) (n + 1) = t at ht evs h ⊢
    have lens : ∀ c' : Nat → Nat → Int, ((gridI (m + 1) (n + 1) c').map fun r => D.tup (r.map D.int)).length = m + 1 := fun c' => by rw [List.length_map, gridI_len]
    have row : ∀ (c' : Nat → Nat → Int) (i : Nat), i < m + 1 → ((gridI (m + 1) (n + 1) c').map fun r => D.tup (r.map D.int))[i]? = some (.tup (((List.range (n + 1)).map fun j => c' i j).map D.int)) := fun c' i hi => by
      unfold gridI
      rw [List.getElem?_map, List.getElem?_map, List.getElem?_range hi]
      rfl
    refine ⟨_, true, rfl, by decide +kernel, ?_⟩
    show LcB _ _ _ _ _ _ _ _
    refine lcb_map lenD ?_ ?_ ?_
    · rw [lens, sizeLine_eq]; omega
    · intro x hx μ2 Y _ hy
      obtain ⟨r, hr, rfl⟩ := List.mem_map.mp hx
      exact hy
    · rw [lens_grid]
      show LcB _ _ _ _ _ _ _ _
      refine lcb_map lenD ?_ ?_ ?_
      · rw [lens, sizeLine_eq]; omega
      · intro x hx μ2 Y _ hy
        obtain ⟨r, hr, rfl⟩ := List.mem_map.mp hx
        exact hy
      · rw [lens_grid]
        refine ne_ints ?_
        refine ⟨fun i δ' μ' => μ' = μ ∧ ∃ o2 o3 o4 o5, δ' = [some (dTabI (gridI (m + 1) (n + 1) t)), some (dTabI (gridI (m + 1) (n + 1) c)), o2, o3, o4, o5], ⟨rfl, none, none, none, none, rfl⟩, ?_, ?_⟩
        · rintro i x δ' μ' hx ⟨rfl, o2, o3, o4, o5, rfl⟩
          have hi : i < m + 1 := by
            rcases Nat.lt_or_ge i (m + 1) with q | q
            · exact q
            · rw [List.getElem?_eq_none (by rw [lens]; exact q)] at hx; cases hx
          rw [row t i hi] at hx
          obtain rfl := Option.some.inj hx
          refine ⟨_, true, rfl, by decide +kernel, ?_⟩
          have lr : (((List.range (n + 1)).map fun j => t i j).map D.int).length = n + 1 := by rw [List.length_map, List.length_map, List.length_range]
          show LcB _ _ _ _ _ _ _ _
          refine lcb_map (fun _ => .bl true) ?_ ?_ ?_
          · rw [lr, sizeLine_eq]; omega
          · intro x hx μ2 Y _ hy
            obtain ⟨v, hv, rfl⟩ := List.mem_map.mp hx
            obtain ⟨j, hj, rfl⟩ := List.mem_map.mp hv
            have hj := List.mem_range.mp hj
            refine ⟨_, true, rfl, by decide +kernel, ?_⟩
            show Y (.bl (decide ((0 : Int) ≤ t i j))) μ2
            rw [decide_eq_true (ht i hi j hj).1]
            exact hy
          · refine ⟨List.replicate (n + 1) true, by rw [List.map_const', lr, List.map_replicate], ?_⟩
            refine if_case (c := !((List.replicate (n + 1) true).all id)) (fun e => by rw [all_true] at e; cases e) (fun _ => ?_)
            show LcB _ _ _ _ _ _ _ _
            refine lcb_map (fun _ => .bl false) ?_ ?_ ?_
            · rw [lr, sizeLine_eq]; omega
            · intro x hx μ2 Y _ hy
              obtain ⟨v, hv, rfl⟩ := List.mem_map.mp hx
              exact ⟨_, false, rfl, by decide +kernel, hy⟩
            · refine ⟨true, List.replicate (n + 1) false, rfl, by rw [List.map_const', lr, List.map_replicate], ?_⟩
              refine if_case (c := decide (true ∈ List.replicate (n + 1) false)) (fun e => ?_) (fun _ => ?_)
              · have e := List.eq_of_mem_replicate (of_decide_eq_true e)
                cases e
              · exact ⟨rfl, _, _, _, _, rfl⟩
        · rintro δ' μ' ⟨rfl, o2, o3, o4, o5, rfl⟩
          refine ⟨⟨by rw [lens]; omega, by rw [lens]; omega⟩, ?_⟩
          refine ⟨fun i δ' μ2 => μ2 = μ' ∧ ∃ o2 o3 o4 o5, δ' = [some (dTabI (gridI (m + 1) (n + 1) t)), some (dTabI (gridI (m + 1) (n + 1) c)), o2, o3, o4, o5], ⟨rfl, o2, o3, o4, o5, rfl⟩, ?_, ?_⟩
          · rintro i x δ' μ2 hx ⟨rfl, o2, o3, o4, o5, rfl⟩
            obtain ⟨hi, rfl⟩ := range_at hx
            have hi : i < m + 1 := by rw [lens] at hi; omega
            refine atK_nat (j := 0) (row c 0 (by omega)) ?_
            have lr : (((List.range (n + 1)).map fun j => c 0 j).map D.int).length = n + 1 := by rw [List.length_map, List.length_map, List.length_range]
            refine ⟨⟨by rw [lr]; omega, by rw [lr]; omega⟩, ?_⟩
            refine ⟨fun j δ' μ3 => μ3 = μ2 ∧ ∃ o4 o5, δ' = [some (dTabI (gridI (m + 1) (n + 1) t)), some (dTabI (gridI (m + 1) (n + 1) c)), o2, some (.int (i : Nat)), o4, o5], ⟨rfl, o4, o5, rfl⟩, ?_, ?_⟩
            · rintro j x δ' μ3 hx ⟨rfl, o4, o5, rfl⟩
              obtain ⟨hj, rfl⟩ := range_at hx
              have hj : j < n + 1 := by rw [lr] at hj; omega
              have two : 2 ≤ sizeLine := by decide
              have b1 : Bd 1 21 := by unfold Bd; decide
              have bi : Bd ((i : Int) + 1) 21 := by unfold Bd; omega
              have bj : Bd ((j : Int) + 1) 21 := by unfold Bd; omega
              have ci : Bd (i : Int) 21 := by unfold Bd; omega
              have cj : Bd (j : Int) 21 := by unfold Bd; omega
              refine ⟨two, two, ?_⟩
              refine ⟨m, n, t, _, _, _, _, rfl, hm, hn, fun i hi j hj => (ht i hi j hj).2, bi, b1, bj, b1, ?_⟩
              refine ⟨two, two, ?_⟩
              refine ⟨m, n, c, _, _, _, _, rfl, hm, hn, hc, ci, b1, cj, b1, ?_⟩
              rw [evs]
              refine ne_pair ?_
              exact ⟨rfl, _, _, rfl⟩
            · rintro δ' μ3 ⟨rfl, o4, o5, rfl⟩
              exact ⟨rfl, _, _, _, _, rfl⟩
          · rintro δ' μ2 ⟨rfl, o2, o3, o4, o5, rfl⟩
            exact h
end
end K10
set_option Elab.async false
set_option linter.all false
set_option exponentiation.threshold 2000
set_option maxRecDepth 100000
namespace K10
open PySem PySem.Spec PyProof.Rows L2 DL
section
variable {P : Program} {w : World} {K : PySem.W.Frag} {mg : Str → Option Value} {base : Heap} {A : Ad}
/-! ### one web -/
theorem rank_places {p : List Nat} (un : p.Pairwise (· ≠ ·)) (hp : 1 ≤ p.length) {ts : List Str} (he : ∀ y ∈ ts, (ends y).1 ∈ p ∧ (ends y).2 ∈ p) {v : List Nat} (hv : ∀ k ∈ v, k < ts.length) : rankOf p ts v + 1 ≤ p.length := by
  have hy : ∀ y ∈ tiesOf ts v, y.1 ∈ p ∧ y.2 ∈ p := fun y hy => by
    obtain ⟨k, hk, rfl⟩ := List.mem_map.mp hy
    rw [List.getD_eq_getElem?_getD, List.getElem?_eq_getElem (hv k hk)]
    exact he _ (List.getElem_mem _)
  have rt := roots_marks un hy
  have h1 := fix_count (marksL p (tiesOf ts v)) p rt.len
  rw [← fixes_len un rt.len] at h1
  have h2 : 1 ≤ (fixes (marksL p (tiesOf ts v)) p).length := by
    have l0 : 0 < (marksL p (tiesOf ts v)).length := by rw [rt.len]; omega
    obtain ⟨m1, m2⟩ := rt.own _ (List.getElem_mem l0)
    exact List.length_pos_of_mem (List.mem_filter.mpr ⟨m1, decide_eq_true m2⟩)
  show nonFix (marksL p (tiesOf ts v)) p + 1 ≤ _
  omega
theorem S_few (f : Nat → Int) (B : Nat) : ∀ n, (∀ i, i < n → (f i).natAbs ≤ B) → (S f n).natAbs ≤ n * B
  | 0, _ => by rw [S]; simp
  | n + 1, h => by
    have h1 := S_few f B n fun i hi => h i (by omega)
    have h2 := h n (by omega)
    rw [S, Nat.succ_mul]
    have := Int.natAbs_add_le (S f n) (f n)
    omega
theorem evS_few {c : Nat → Nat → Int} {m n : Nat} {a b u v : Int} (hm : m ≤ 12) (hn : n ≤ 12) (hc : ∀ i, i < m + 1 → ∀ j, j < n + 1 → Bd (c i j) 64) (ba : Bd a 21) (bb : Bd b 21) (bu : Bd u 21) (bv : Bd v 21) : (evS c (m + 1) (n + 1) a b u v).natAbs ≤ 13 * (13 * 2 ^ 570) := by
  unfold evS
  have key : ∀ i, i < m + 1 → (S (fun j => c i j * (a ^ i * b ^ (m + 1 - 1 - i)) * (u ^ j * v ^ (n + 1 - 1 - j))) (n + 1)).natAbs ≤ 13 * 2 ^ 570 := fun i hi => by
    have h := S_few (fun j => c i j * (a ^ i * b ^ (m + 1 - 1 - i)) * (u ^ j * v ^ (n + 1 - 1 - j))) (2 ^ 570) (n + 1) fun j hj => by
      have e := ((hc i hi j hj).mul ((ba.pow i).mul (bb.pow (m + 1 - 1 - i)))).mul ((bu.pow j).mul (bv.pow (n + 1 - 1 - j)))
      exact e.up (by omega)
    have h2 : (n + 1) * 2 ^ 570 ≤ 13 * 2 ^ 570 := Nat.mul_le_mul_right _ (by omega)
    exact Nat.le_trans h h2
  have h := S_few (fun i => S (fun j => c i j * (a ^ i * b ^ (m + 1 - 1 - i)) * (u ^ j * v ^ (n + 1 - 1 - j))) (n + 1)) (13 * 2 ^ 570) (m + 1) key
  have h2 : (m + 1) * (13 * 2 ^ 570) ≤ 13 * (13 * 2 ^ 570) := Nat.mul_le_mul_right _ (by omega)
  exact Nat.le_trans h h2
theorem low_few {t : Int} {g : Nat} (h : t.natAbs ≤ 13 * (13 * 2 ^ 570)) : (t / (g : Int)).natAbs < 10 ^ 500 := by
  have h1 := Int.natAbs_ediv_le_natAbs t (g : Int)
  have h2 : 13 * (13 * 2 ^ 570) < 10 ^ 500 := by decide +kernel
  omega
theorem py_tab (rs : List (List Int)) : py (dTabI rs) = some (.tuple (rs.map fun r => .tuple (r.map PyData.int))) := by
  unfold dTabI py
  rw [pyL_map (g := fun r : List Int => PyData.tuple (r.map PyData.int)) fun r _ => by
    unfold py
    rw [pyL_map (g := PyData.int) fun x _ => py_int x]
    rfl]
  rfl
theorem lay_tab : ∀ rs : List (List Int), PyData.canLayAll0 (rs.map fun r => .tuple (r.map PyData.int)) = true ∧ PyData.depthAll (rs.map fun r => .tuple (r.map PyData.int)) ≤ 1
  | [] => ⟨by rw [List.map_nil]; unfold PyData.canLayAll0; rfl, by rw [List.map_nil]; unfold PyData.depthAll; omega⟩
  | r :: rs => by
    obtain ⟨h1, h2⟩ := lay_tab rs
    obtain ⟨h3, h4⟩ := lay_ints r
    rw [List.map_cons]
    refine ⟨?_, ?_⟩
    · unfold PyData.canLayAll0 PyData.canLay0
      rw [h1, h3]
      rfl
    · unfold PyData.depthAll PyData.depth
      omega
theorem ne_tab {rs : List (List Int)} {F : Bool → Mu → Prop} {μ : Mu} (q : F false μ) : gEqD not (dTabI rs) (dTabI rs) μ (bK F) :=
  ne_self (k := 0) (w := 0) (py_tab rs) (by unfold PyData.canLay0; exact (lay_tab rs).1) (by unfold PyData.depth; have := (lay_tab rs).2; omega) q
theorem sh_cnt {p : List Nat} {ts : List Str} (few : ts.length ≤ 11) (rl : rankOf p ts (List.range ts.length) ≤ ts.length) : Sh (.tuple ((cntT p ts (lotsL ts.length)).map pLot)) 2 (12 * (12 * 14 + 1)) := Sh.tup (fun x hx => by
  obtain ⟨u, hu, rfl⟩ := List.mem_map.mp hx
  unfold cntT grid at hu
  obtain ⟨i, _, rfl⟩ := List.mem_map.mp hu
  refine sh_lot (n := 12) (fun k hk => ?_) (by rw [List.length_map, List.length_range]; omega)
  obtain ⟨j, _, rfl⟩ := List.mem_map.mp hk
  have h1 : cntOf p ts (lotsL ts.length) i j ≤ (lotsL ts.length).length := List.length_filter_le _ _
  rw [lots_few] at h1
  have := pow_few few
  omega) (by rw [List.length_map]; unfold cntT; rw [grid_len]; omega)
theorem cntF_few {p : List Nat} {ts : List Str} (few : ts.length ≤ 11) (i j : Nat) : Bd (cntF p ts i j) 64 := by
  have h1 : cntOf p ts (lotsL ts.length) i j ≤ (lotsL ts.length).length := List.length_filter_le _ _
  rw [lots_few] at h1
  have h2 := pow_few few
  unfold Bd cntF
  rw [← cntOf_all, Int.natAbs_natCast]
  omega
def N61 : List Str := ["_law_pot_here", "_law_places", "_law_ties", "_law_mine", "_law_counts", "_law_turn", "_law_left_x", "_law_right_y", "_law_top", "_law_bottom", "_law_by", "_law_due"]
theorem sc61 : FnScope N61 ["_law_pot_here"] (defScope (top 61)) := ⟨rfl, rfl, rfl, by decide +kernel, rfl, by decide +kernel, by decide +kernel⟩
set_option maxHeartbeats 4000000 in
theorem okG_L_right (T : Tx K mg A) : FnG P w K mg base 10 A.L_right A.fd_L_right ["_law_pot_here"] (toSp K (g_L_right)) := by
  refine okDG T.F_L_right sc61 (fun ds μ R h => ?_) ⟨_, fun cdv A0 outer s H hr hG =>
    (dss_cons (ds_asg (de_call ((ok_L_parts T).mono (by decide)) hr (by rfl) T.g_L_parts T.F_L_parts.kp T.b_L_parts (da_cons (dv 0) (da_cons de_int (da_cons de_int da_nil)))) (pg_tup (n := 2) (by rfl) (pgs_cons (pg_name (i := 1) sc61.nd rfl (by first | exact Or.inl rfl | exact Or.inr rfl)) (pgs_cons (pg_name (i := 2) sc61.nd rfl (by first | exact Or.inl rfl | exact Or.inr rfl)) pgs_nil))) (sim_tupT (n := 2) (sim_consT (sim_nm (i := 1)) (sim_consT (sim_nm (i := 2)) sim_nilT))))
      (dss_cons (ds_par (i := 3) (j := 4) (by rfl) sc61.nd rfl rfl (by decide) rfl rfl (da_cons (de_make T.m_Web ((ok_Web_init T).mono (by decide)) hr (by rfl) T.g_Web T.b_Web_init (da_cons (dv 1) (da_cons (dv 2) da_nil))) (da_cons (de_call ((ok_L_counted T).mono (by decide)) hr (by rfl) T.g_L_counted T.F_L_counted.kp T.b_L_counted (da_cons (dv 1) (da_cons (dv 2) da_nil))) da_nil)) (by rfl))
      (dss_cons (ds_if (dw_or (dt_cmp (op_neA hr.units) sim_ne (de_callB (cr_repr hG hr.units) sim_repr (by rfl) T.z_repr boot_repr (da_cons (de_call ((ok_lot_counts T).mono (by decide)) hr (by rfl) T.g_lot_counts T.F_lot_counts.kp T.b_lot_counts (da_cons (dv 3) da_nil)) da_nil)) (de_callB (cr_repr hG hr.units) sim_repr (by rfl) T.z_repr boot_repr (da_cons (dv 4) da_nil)) (nomark _)) (dw_or1 (dt_cmp (op_neA hr.units) sim_ne (de_callK0 (gD := id) ((ok_lot_counts T).mono (by decide)) hr (by rfl) T.g_lot_counts T.F_lot_counts.kp T.kb_lot_counts (fun H μ ds vs h _ => by exact h) (dk_cons (dv 3) dk_nil)) (dv 4) (nomark _)))).dt (dss_one (ds_ret de_bl)) dss_nil)
      (dss_cons (ds_if (dw_or (dt_not (dt_val (de_call ((ok_L_table_right T).mono (by decide)) hr (by rfl) T.g_L_table_right T.F_L_table_right.kp T.b_L_table_right (da_cons (de_call ((ok_table T).mono (by decide)) hr (by rfl) T.g_table T.F_table.kp T.b_table (da_cons (dv 3) da_nil)) (da_cons (dv 4) da_nil))))) (dw_or1 (dt_cmp (op_neA hr.units) sim_ne (de_callK0 (gD := id) ((ok_table T).mono (by decide)) hr (by rfl) T.g_table T.F_table.kp T.kb_table (fun H μ ds vs h _ => by exact h) (dk_cons (dv 3) dk_nil)) (de_call ((ok_table T).mono (by decide)) hr (by rfl) T.g_table T.F_table.kp T.b_table (da_cons (dv 3) da_nil)) (nomark _)))).dt (dss_one (ds_ret de_bl)) dss_nil)
      (dss_cons (ds_for PassesOwn.never rfl (di_range (by rfl) T.z_range (da_cons de_int da_nil)) (pg_name (i := 5) sc61.nd rfl (by first | exact Or.inl rfl | exact Or.inr rfl)) (sim_nm (i := 5))
      (dss_cons (ds_par (i := 6) (j := 7) (by rfl) sc61.nd rfl rfl (by decide) rfl rfl (da_cons (de_call ((ok_L_fraction T).mono (by decide)) hr (by rfl) T.g_L_fraction T.F_L_fraction.kp T.b_L_fraction (da_cons (dv 0) da_nil)) (da_cons (de_call ((ok_L_fraction T).mono (by decide)) hr (by rfl) T.g_L_fraction T.F_L_fraction.kp T.b_L_fraction (da_cons (dv 0) da_nil)) da_nil)) (by rfl))
      (dss_cons (ds_asg (de_call ((ok_L_sum T).mono (by decide)) hr (by rfl) T.g_L_sum T.F_L_sum.kp T.b_L_sum (da_cons (dv 4) (da_cons (de_tup (da_cons (de_op op_sub sim_minus (de_ix ix_any sim_ix (dv 6) de_int (fun _ _ => rfl)) (de_ix ix_any sim_ix (dv 6) de_int (fun _ _ => rfl))) (da_cons (de_ix ix_any sim_ix (dv 6) de_int (fun _ _ => rfl)) da_nil))) (da_cons (de_tup (da_cons (de_op op_sub sim_minus (de_ix ix_any sim_ix (dv 7) de_int (fun _ _ => rfl)) (de_ix ix_any sim_ix (dv 7) de_int (fun _ _ => rfl))) (da_cons (de_ix ix_any sim_ix (dv 7) de_int (fun _ _ => rfl)) da_nil))) da_nil)))) (pg_tup (n := 2) (by rfl) (pgs_cons (pg_name (i := 8) sc61.nd rfl (by first | exact Or.inl rfl | exact Or.inr rfl)) (pgs_cons (pg_name (i := 9) sc61.nd rfl (by first | exact Or.inl rfl | exact Or.inr rfl)) pgs_nil))) (sim_tupT (n := 2) (sim_consT (sim_nm (i := 8)) (sim_consT (sim_nm (i := 9)) sim_nilT))))
      (dss_cons (ds_set sc61.nd (i := 10) rfl (by first | exact Or.inl rfl | exact Or.inr rfl) (de_call ((ok_L_common T).mono (by decide)) hr (by rfl) T.g_L_common T.F_L_common.kp T.b_L_common (da_cons (dv 8) (da_cons (dv 9) da_nil))))
      (dss_cons (ds_set sc61.nd (i := 11) rfl (by first | exact Or.inl rfl | exact Or.inr rfl) (de_tup (da_cons (de_op op_fdivW sim_fdivW (dv 8) (dv 10)) (da_cons (de_op op_fdivW sim_fdivW (dv 9) (dv 10)) da_nil))))
      (dss_one (ds_if (dw_or (dt_cmp (op_neA hr.units) sim_ne (de_callB (cr_reprW hG hr.units) sim_reprW (by rfl) T.z_repr boot_repr (da_cons (de_call ((ok_value T).mono (by decide)) hr (by rfl) T.g_value T.F_value.kp T.b_value (da_cons (dv 3) (da_cons (dv 6) (da_cons (dv 7) da_nil)))) da_nil)) (de_callB (cr_reprW hG hr.units) sim_reprW (by rfl) T.z_repr boot_repr (da_cons (dv 11) da_nil)) (nomark _)) (dw_or1 (dt_cmp (op_neA hr.units) sim_ne (de_callK0 (gD := rot) ((ok_value T).mono (by decide)) hr (by rfl) T.g_value T.F_value.kp T.kb_value (fun H μ ds vs h l => by exact rot_rep h l) (dk_cons (dv 7) (dk_cons (dv 3) (dk_cons (dv 6) dk_nil)))) (dv 11) (nomark _)))).dt (dss_one (ds_ret de_bl)) dss_nil)))))))
      (dss_one (ds_ret de_bl))))))), fun ds μ R h => ?_⟩
  · obtain ⟨a, x, y, z, rfl, _⟩ := h
    rfl
  · obtain ⟨a, x, y, z, rfl, ha, h⟩ := h
    refine ⟨a, x, y, z, rfl, ha, fun p ts x y z op ot l6 p4 => ?_⟩
    have h : ∀ x' y' z' : Int, R (.bl true) (put (put μ a (pot x y z)) a (pot x' y' z')) := fun x' y' z' => by
      rw [put_put]
      exact h x' y' z'
    have ha : put μ a (pot x y z) a = some (pot x y z) := put_same
    generalize put μ a (pot x y z) = μ1 at h ha ⊢
    have ok : OkWeb p ts := ot.web op (by omega)
    have un : p.Pairwise (· ≠ ·) := op.asc.imp fun h => Nat.ne_of_lt h
    have few : ts.length ≤ 11 := by omega
    have rl := grid_web un ok.ends
    have r3 : rankOf p ts (List.range ts.length) ≤ 3 := by
      have := rank_places un op.one (ts := ts) (v := List.range ts.length) (fun y hy => (ok.ties y hy).2) fun k hk => List.mem_range.mp hk
      omega
    obtain ⟨r, hr⟩ : ∃ r, r = rankOf p ts (List.range ts.length) := ⟨_, rfl⟩
    obtain ⟨s, hs⟩ : ∃ s, s = ts.length - r := ⟨_, rfl⟩
    have ec : cntI p ts = gridI (r + 1) (s + 1) (cntF p ts) := by
      unfold cntI
      rw [hs, hr]
      rfl
    have et : tabI p ts = gridI (r + 1) (s + 1) (tabS (cntF p ts) (r + 1) (s + 1)) := by
      unfold tabI
      rw [hs, hr]
      rfl
    have hb : ∀ i, i < r + 1 → ∀ j, j < s + 1 → 0 ≤ tabS (cntF p ts) (r + 1) (s + 1) i j ∧ tabS (cntF p ts) (r + 1) (s + 1) i j ≤ 2048 := fun i hi j hj => by
      rw [hs, hr] at hj ⊢
      rw [hr] at hi
      exact tab_range un ok.ends few hi hj
    have cc : ∀ i, i < r + 1 → ∀ j, j < s + 1 → Bd (cntF p ts i j) 64 := fun i _ j _ => cntF_few few i j
    have shC := sh_cnt (p := p) (ts := ts) few rl
    refine ⟨rfl, fun b nb => ?_⟩
    refine ⟨b, p, ts, rfl, op, ot.ok (by omega), put_same, ?_⟩
    refine ⟨_, put_same, ?_⟩
    rw [put_put, del_put nb]
    refine ⟨p, ts, rfl, op, ot.ends, few, ?_⟩
    refine ⟨p, ts, rfl, ok, un, ?_⟩
    have eC : dTabI (cntI p ts) = D.tup ((cntT p ts (lotsL ts.length)).map dLot) := by rw [dTab_nat, cntT_I]
    have pyC : py (dTabI (cntI p ts)) = some (.tuple ((cntT p ts (lotsL ts.length)).map pLot)) := by rw [eC]; exact py_lots _
    refine Or.inr ⟨_, rfl, pyC, shC.ok (by decide) (by decide), ?_⟩
    refine Or.inr ⟨_, rfl, pyC, shC.ok (by decide) (by decide), ?_⟩
    refine if_ne_str (x := PyData.shown (.tuple ((cntT p ts (lotsL ts.length)).map pLot))) (y := PyData.shown (.tuple ((cntT p ts (lotsL ts.length)).map pLot))) rfl ?_
    refine ⟨rfl, p, ts, rfl, ok, un, ?_⟩
    refine ne_tab ?_
    rw [ec]
    refine ⟨p, ts, rfl, ok, un, ?_⟩
    refine ⟨r, s, cntF p ts, by rw [et], by omega, by omega, fun i hi j hj => ⟨(hb i hi j hj).1, ?_⟩, cc, ?_⟩
    · have := hb i hi j hj
      unfold Bd
      omega
    refine ⟨rfl, p, ts, rfl, ok, un, ?_⟩
    refine ⟨p, ts, rfl, ok, un, ?_⟩
    refine ne_tab ?_
    refine ⟨⟨by omega, by omega⟩, ?_⟩
    have two : 2 ≤ sizeLine := by decide
    refine ⟨fun i δ' μ' => ∃ (x y z : Int) (o5 o6 o7 o8 o9 o10 o11 : Option D), μ' = put μ1 a (pot x y z) ∧ δ' = [some (.adr a), some (.str (toS p)), some (.tup (ts.map D.str)), some (dWeb A.Web p ts), some (dTabI (gridI (r + 1) (s + 1) (cntF p ts))), o5, o6, o7, o8, o9, o10, o11], ⟨x, y, z, none, none, none, none, none, none, none, (put_id ha).symm, rfl⟩, ?_, ?_⟩
    · rintro i it δ' μ' hi ⟨x, y, z, o5, o6, o7, o8, o9, o10, o11, rfl, rfl⟩
      refine ⟨a, x, y, z, rfl, put_same, fun f b x y z fa => ?_⟩
      rw [put_put]
      refine ⟨a, x, y, z, rfl, put_same, fun u v x y z fu => ?_⟩
      rw [put_put]
      have bf : Bd (f - b) 21 := by have h1 := fa.top; have h2 := fa.bot; unfold Bd; omega
      have bb : Bd b 21 := by have h2 := fa.bot; unfold Bd; omega
      have bu : Bd (u - v) 21 := by have h1 := fu.top; have h2 := fu.bot; unfold Bd; omega
      have bv : Bd v 21 := by have h2 := fu.bot; unfold Bd; omega
      refine ⟨two, two, ?_⟩
      refine ⟨r, s, cntF p ts, _, _, _, _, rfl, by omega, by omega, cc, bf, bb, bu, bv, ?_⟩
      have ev : evS (tabS (cntF p ts) (r + 1) (s + 1)) (r + 1) (s + 1) f b u v = evS (cntF p ts) (r + 1) (s + 1) (f - b) b (u - v) v := tabS_value (cntF p ts) (r + 1) (s + 1) f b u v
      have ef := evS_few (c := cntF p ts) (m := r) (n := s) (a := f - b) (b := b) (u := u - v) (v := v) (by omega) (by omega) cc bf bb bu bv
      refine ⟨rfl, ?_⟩
      have hbt : (b ^ r * v ^ s).natAbs ≤ 2 ^ 189 := ((bb.pow r).mul (bv.pow s)).up (by omega)
      have pos : 0 < b ^ r * v ^ s := Int.mul_pos (Int.pow_pos (by have := fa.bot; omega)) (Int.pow_pos (by have := fu.bot; omega))
      generalize evS (cntF p ts) (r + 1) (s + 1) (f - b) b (u - v) v = tp at ef ev ⊢
      generalize hbe : b ^ r * v ^ s = bt at hbt pos ⊢
      refine ⟨tp, bt, rfl, Nat.lt_of_le_of_lt hbt (by decide +kernel), ?_⟩
      have gp : 0 < Nat.gcd tp.natAbs bt.natAbs := Nat.gcd_pos_of_pos_right _ (by omega)
      have gb : Nat.gcd tp.natAbs bt.natAbs ≤ 2 ^ 189 := Nat.le_trans (Nat.gcd_le_right _ (by omega)) hbt
      have hbt2 : bt.natAbs ≤ 13 * (13 * 2 ^ 570) := Nat.le_trans hbt (by decide +kernel)
      have gl : (Nat.gcd tp.natAbs bt.natAbs).log2 < 9000 := Nat.lt_of_lt_of_le ((Nat.log2_lt (by omega)).mpr (Nat.lt_of_le_of_lt gb (show 2 ^ 189 < 2 ^ 190 by decide +kernel))) (by decide)
      have gw : ∀ i : Int, CDivW i (Nat.gcd tp.natAbs bt.natAbs : Nat) := fun i => ⟨by omega, by rw [Int.natAbs_natCast]; exact gl⟩
      refine ⟨gw _, gw _, two, ?_⟩
      have sh := showW_two (low_few (g := Nat.gcd tp.natAbs bt.natAbs) ef) (low_few (g := Nat.gcd tp.natAbs bt.natAbs) hbt2)
      refine ⟨p, ts, r, s, f, b, u, v, rfl, ok, un, hr, hs, by omega, by omega, fa, fu, ?_⟩
      rw [ev, hbe]
      refine Or.inr ⟨_, rfl, py_pair _ _, sh, ?_⟩
      refine Or.inr ⟨_, rfl, py_pair _ _, sh, ?_⟩
      refine if_ne_str rfl ?_
      refine ⟨rfl, ?_⟩
      refine ⟨p, ts, r, s, f, b, u, v, rfl, ok, un, hr, hs, by omega, by omega, fa, fu, ?_⟩
      rw [ev, hbe]
      refine ne_pair ?_
      exact ⟨x, y, z, _, _, _, _, _, _, _, rfl, rfl⟩
    · rintro δ' μ' ⟨x, y, z, o5, o6, o7, o8, o9, o10, o11, rfl, rfl⟩
      exact h x y z
end
end K10
set_option Elab.async false
set_option linter.all false
set_option maxRecDepth 100000
namespace K10
open PySem PySem.Spec PyProof.Rows L2 DL
section
variable {P : Program} {w : World} {K : PySem.W.Frag} {mg : Str → Option Value} {base : Heap} {A : Ad}
def g_law : GC := fun ds μ R => ∃ ns : List Int, ds = [.seq (ns.map D.int)] ∧ ns.length ≤ 63 ∧ ∀ μ', R (.bl true) μ'
def N62 : List Str := ["_law_script", "_law_k"]
theorem sc62 : FnScope N62 ["_law_script"] (defScope (top 62)) := ⟨rfl, rfl, rfl, by decide +kernel, rfl, by decide +kernel, by decide +kernel⟩
set_option maxHeartbeats 4000000 in
theorem okG_law (T : Tx K mg A) : FnG P w K mg base 11 A.law A.fd_law ["_law_script"] (toSp K (g_law)) := by
  refine okDG T.F_law sc62 (fun ds μ R h => ?_) ⟨_, fun cdv A0 outer s H hr hG =>
    (dss_one (ds_ret (de_callB (cr_all (by rfl)) sim_all (by rfl) T.z_all boot_all (da_cons (de_lc (own := [("_law_k", 1)]) (by rfl) sc62.nd (di_range (by rfl) T.z_range (da_cons (de_callB (call_max2 (by rfl)) sim_max2 (by rfl) T.z_max boot_max (da_cons de_int (da_cons (de_callB (call_min2 (by rfl)) sim_min2 (by rfl) T.z_min boot_min (da_cons (de_callB cr_len sim_len (by rfl) T.z_len boot_len (da_cons (dv 0) da_nil)) (da_cons de_int da_nil))) da_nil))) da_nil)) (blkOk_by (N := N62) (own := [("_law_k", 1)]) (sc := defScope (top 62)) (by decide +kernel)) (fun _ _ _ _ _ => (pg_name (i := 1) sc62.nd rfl (by first | exact Or.inl rfl | exact Or.inr rfl))) (sim_nm (i := 1)) (fun _ _ _ _ _ => dts_nil) (fun _ _ _ _ _ => (de_callG (okG_L_right T) hG hr (by rfl) T.g_L_right T.F_L_right.kp T.b_L_right (da_cons (de_call ((ok_L_pot T).mono (by decide)) hr (by rfl) T.g_L_pot T.F_L_pot.kp T.b_L_pot (da_cons (dv 0) (da_cons (dv 1) da_nil))) da_nil)))) da_nil)))), fun ds μ R h => ?_⟩
  · obtain ⟨ns, rfl, _⟩ := h
    rfl
  · obtain ⟨ns, rfl, ln, h⟩ := h
    have lm : (ns.map D.int).length = ns.length := List.length_map _
    refine ⟨⟨?_, ?_⟩, ?_⟩
    · split <;> (try split) <;> omega
    · split <;> (try split) <;> omega
    · show LcB _ _ _ _ _ _ _ _
      refine lcb_eff (fun i ys ν => ys = List.replicate i (.bl true)) ?_ rfl ?_ ?_ ?_
      · rw [List.length_map, List.length_range, sizeLine_eq]
        split <;> (try split) <;> omega
      · rintro i ys ν rfl
        rw [List.length_replicate]
        exact Nat.le_refl _
      · rintro i it hi b ys ν N Y nb rfl hN hY
        obtain ⟨hi, rfl⟩ := range_at hi
        refine ⟨ns, i, rfl, fun x y z a na => ?_⟩
        have ne : b ≠ a := fun e => by
          rw [← e, put_same] at na
          cases na
        refine ⟨a, x, y, z, rfl, put_same, fun x' y' z' => ?_⟩
        rw [put_put, put_comm ne]
        refine hY (.bl true) _ (by rw [put_ne ne]; exact nb) ?_
        rw [List.replicate_succ']
      · rintro ys ν rfl
        refine ⟨List.replicate _ true, (List.map_replicate).symm, ?_⟩
        show R (.bl ((List.replicate _ true).all id)) ν
        have e : ∀ k, (List.replicate k true).all id = true := fun k => by
          rw [List.all_eq_true]
          intro c hc
          rw [List.eq_of_mem_replicate hc]
          rfl
        rw [e]
        exact h ν
end
end K10
set_option Elab.async false
set_option linter.all false
set_option maxRecDepth 100000
namespace K10
open PySem L2 DL
/-- a def of the module as the top has written it -/
structure DefAt (K : PySem.W.Frag) (x : Str) (st : Stmt) (f : Addr) : Prop where
  ns : PySem.W.nsIn K mainGlobals x = some (some (.ref f))
  fn : ∃ fd, Fun K x x st f fd
theorem def_mk {K : PySem.W.Frag} {x : Str} {st : Stmt} {f : Addr} {oc : Value} {od an : Option Addr} {osl : Array (Option Value)} {kV doc pm cdv ct : Value} (a : PySem.W.nsIn K mainGlobals x = some (some (.ref f)))
    (l : K.lookup f = some ⟨oc, od, .func (PySem.W.fnOf x x (defArgs st) (defBody st) (defScope st) .none kV doc pm an cdv ct), osl⟩) (c : PySem.W.codeIn K cdv x = true) (k : PySem.W.keepIn K (.ref f) = true) : DefAt K x st f := ⟨a, _, fun_mk l c k⟩
theorem init_mk {K : PySem.W.Frag} {st : Stmt} {f : Addr} {oc : Value} {od an : Option Addr} {osl : Array (Option Value)} {kV doc pm cdv ct : Value}
    (l : K.lookup f = some ⟨oc, od, .func (PySem.W.fnOf "__init__" "Web.__init__" (defArgs st) (defBody st) (defScope st) .none kV doc pm an cdv ct), osl⟩) (c : PySem.W.codeIn K cdv "Web.__init__" = true) (k : PySem.W.keepIn K (.ref f) = true) : ∃ fd, Fun K "__init__" "Web.__init__" st f fd := ⟨_, fun_mk l c k⟩
theorem int_mk {K : PySem.W.Frag} {x : Str} {i : Int} {t : Tok} (e : PySem.W.nsIn K mainGlobals x = some (some (.int i t))) : ∃ t, PySem.W.nsIn K mainGlobals x = some (some (.int i t)) := ⟨t, e⟩
theorem str_mk {K : PySem.W.Frag} {x i : Str} {t : Tok} (e : PySem.W.nsIn K mainGlobals x = some (some (.str i t))) : ∃ t, PySem.W.nsIn K mainGlobals x = some (some (.str i t)) := ⟨t, e⟩
theorem rot_vals {zs : List V} {ws : List Value} (h : Vals zs ws) : Vals (rot zs) (rot ws) := by
  cases h with
  | nil => exact .nil
  | cons a h =>
    cases h with
    | nil => exact .cons a .nil
    | cons b h =>
      cases h with
      | nil => exact .cons a (.cons b .nil)
      | cons c h =>
        cases h with
        | nil => exact .cons b (.cons c (.cons a .nil))
        | cons d h => exact .cons a (.cons b (.cons c (.cons d h)))
structure Facts (K : PySem.W.Frag) (C I f_is_integer f_is_integer_from f_are_letters f_are_places f_is_tie f_first_wrong_tie f_is_fraction f_check_places f_check_ties f_check_fraction f_check_web f_marks f_lot_of_all f_lots_within f_all_lots f_rank_of f_full_rank f_rows_of_noughts f_tuple_of_rows f_counts_of_lots f_shifted f_across f_table_of f_powers f_scaled_powers f_lot_counts f_table f_value f_L_pot f_L_dip f_L_any f_L_parts f_L_rank f_L_lots f_L_counted f_L_power f_L_sum f_L_common f_L_fraction f_L_table_right f_L_right f_law : Addr) : Prop where
  d_is_integer : DefAt K "is_integer" (top 14) f_is_integer
  d_is_integer_from : DefAt K "is_integer_from" (top 15) f_is_integer_from
  d_are_letters : DefAt K "are_letters" (top 16) f_are_letters
  d_are_places : DefAt K "are_places" (top 17) f_are_places
  d_is_tie : DefAt K "is_tie" (top 18) f_is_tie
  d_first_wrong_tie : DefAt K "first_wrong_tie" (top 19) f_first_wrong_tie
  d_is_fraction : DefAt K "is_fraction" (top 21) f_is_fraction
  d_check_places : DefAt K "check_places" (top 22) f_check_places
  d_check_ties : DefAt K "check_ties" (top 23) f_check_ties
  d_check_fraction : DefAt K "check_fraction" (top 24) f_check_fraction
  d_check_web : DefAt K "check_web" (top 27) f_check_web
  d_marks : DefAt K "marks" (top 28) f_marks
  d_lot_of_all : DefAt K "lot_of_all" (top 30) f_lot_of_all
  d_lots_within : DefAt K "lots_within" (top 31) f_lots_within
  d_all_lots : DefAt K "all_lots" (top 32) f_all_lots
  d_rank_of : DefAt K "rank_of" (top 33) f_rank_of
  d_full_rank : DefAt K "full_rank" (top 34) f_full_rank
  d_rows_of_noughts : DefAt K "rows_of_noughts" (top 36) f_rows_of_noughts
  d_tuple_of_rows : DefAt K "tuple_of_rows" (top 37) f_tuple_of_rows
  d_counts_of_lots : DefAt K "counts_of_lots" (top 38) f_counts_of_lots
  d_shifted : DefAt K "shifted" (top 39) f_shifted
  d_across : DefAt K "across" (top 40) f_across
  d_table_of : DefAt K "table_of" (top 41) f_table_of
  d_powers : DefAt K "powers" (top 42) f_powers
  d_scaled_powers : DefAt K "scaled_powers" (top 43) f_scaled_powers
  d_lot_counts : DefAt K "lot_counts" (top 44) f_lot_counts
  d_table : DefAt K "table" (top 45) f_table
  d_value : DefAt K "value" (top 46) f_value
  d_L_pot : DefAt K "_law_pot" (top 48) f_L_pot
  d_L_dip : DefAt K "_law_dip" (top 49) f_L_dip
  d_L_any : DefAt K "_law_any" (top 50) f_L_any
  d_L_parts : DefAt K "_law_parts" (top 51) f_L_parts
  d_L_rank : DefAt K "_law_rank" (top 52) f_L_rank
  d_L_lots : DefAt K "_law_lots" (top 53) f_L_lots
  d_L_counted : DefAt K "_law_counted" (top 55) f_L_counted
  d_L_power : DefAt K "_law_power" (top 56) f_L_power
  d_L_sum : DefAt K "_law_sum" (top 57) f_L_sum
  d_L_common : DefAt K "_law_common" (top 58) f_L_common
  d_L_fraction : DefAt K "_law_fraction" (top 59) f_L_fraction
  d_L_table_right : DefAt K "_law_table_right" (top 60) f_L_table_right
  d_L_right : DefAt K "_law_right" (top 61) f_L_right
  d_law : DefAt K "law" (top 62) f_law
  i_d : ∃ fd, Fun K "__init__" "Web.__init__" (inClass (top 26) 0) I fd
  c_ns : PySem.W.nsIn K mainGlobals "Web" = some (some (.ref C))
  c_init : PySem.W.findIn K (.ref C) "__init__" = some (some (.ref I))
  c_fn : PySem.W.isFn K (.ref I) = true
  c_pg : PySem.W.plainGet K C Str.empty = true
  c_hd : PySem.W.hasDictIn K C = true
  c_po : PySem.W.plainOver K C = true
  c_sa : PySem.W.findIn K (.ref C) "__setattr__" = some (some (.builtin "object.__setattr__"))
  c_mk : PySem.W.makesIn K C = true
  c_kc : PySem.W.keepIn K (.ref C) = true
  c_pl : PySem.W.findIn K (.ref C) "places" = some none
  c_ti : PySem.W.findIn K (.ref C) "ties" = some none
  c_ha : PySem.W.findIn K (.ref C) "__class__" = some (some (.builtin "object.__class__"))
  c_hn : PySem.W.specialIn K (.builtin "object.__class__") "__get__" = some (some (.builtin "getset_descriptor.__get__"))
  c_ht : PySem.W.takesIn K (.builtin "object.__class__") = some true
  c_hm : PySem.W.mroIn K C (.type "object") = some true
  m_comb : PySem.W.nsIn K mainGlobals "comb" = some (some (.builtin "math.comb"))
  m_gcd : PySem.W.nsIn K mainGlobals "gcd" = some (some (.builtin "math.gcd"))
  z_abs : PySem.W.nsIn K mainGlobals "abs" = some none
  z_all : PySem.W.nsIn K mainGlobals "all" = some none
  z_bool : PySem.W.nsIn K mainGlobals "bool" = some none
  z_dict : PySem.W.nsIn K mainGlobals "dict" = some none
  z_divmod : PySem.W.nsIn K mainGlobals "divmod" = some none
  z_enumerate : PySem.W.nsIn K mainGlobals "enumerate" = some none
  z_int : PySem.W.nsIn K mainGlobals "int" = some none
  z_isinstance : PySem.W.nsIn K mainGlobals "isinstance" = some none
  z_len : PySem.W.nsIn K mainGlobals "len" = some none
  z_list : PySem.W.nsIn K mainGlobals "list" = some none
  z_max : PySem.W.nsIn K mainGlobals "max" = some none
  z_min : PySem.W.nsIn K mainGlobals "min" = some none
  z_range : PySem.W.nsIn K mainGlobals "range" = some none
  z_repr : PySem.W.nsIn K mainGlobals "repr" = some none
  z_set : PySem.W.nsIn K mainGlobals "set" = some none
  z_sorted : PySem.W.nsIn K mainGlobals "sorted" = some none
  z_str : PySem.W.nsIn K mainGlobals "str" = some none
  z_sum : PySem.W.nsIn K mainGlobals "sum" = some none
  z_tuple : PySem.W.nsIn K mainGlobals "tuple" = some none
  z_zip : PySem.W.nsIn K mainGlobals "zip" = some none
  k_MOST_PLACES : ∃ t, PySem.W.nsIn K mainGlobals "MOST_PLACES" = some (some (.int (7) t))
  k_MOST_TIES : ∃ t, PySem.W.nsIn K mainGlobals "MOST_TIES" = some (some (.int (11) t))
  k_LETTERS : ∃ t, PySem.W.nsIn K mainGlobals "LETTERS" = some (some (.str "abcdefgh" t))
  k_MOST_TOP : ∃ t, PySem.W.nsIn K mainGlobals "MOST_TOP" = some (some (.int (1000000) t))
  k_MOST_BOTTOM : ∃ t, PySem.W.nsIn K mainGlobals "MOST_BOTTOM" = some (some (.int (1000) t))
set_option maxHeartbeats 4000000 in
theorem all_mk {K : PySem.W.Frag} {h : Heap} {mg : Str → Option Value} {fa C I f_is_integer f_is_integer_from f_are_letters f_are_places f_is_tie f_first_wrong_tie f_is_fraction f_check_places f_check_ties f_check_fraction f_check_web f_marks f_lot_of_all f_lots_within f_all_lots f_rank_of f_full_rank f_rows_of_noughts f_tuple_of_rows f_counts_of_lots f_shifted f_across f_table_of f_powers f_scaled_powers f_lot_counts f_table f_value f_L_pot f_L_dip f_L_any f_L_parts f_L_rank f_L_lots f_L_counted f_L_power f_L_sum f_L_common f_L_fraction f_L_table_right f_L_right f_law : Addr} (X : K.In h) (G : h.Ns mainGlobals mg) (hfa : mg "law" = some (.ref fa)) (F : Facts K C I f_is_integer f_is_integer_from f_are_letters f_are_places f_is_tie f_first_wrong_tie f_is_fraction f_check_places f_check_ties f_check_fraction f_check_web f_marks f_lot_of_all f_lots_within f_all_lots f_rank_of f_full_rank f_rows_of_noughts f_tuple_of_rows f_counts_of_lots f_shifted f_across f_table_of f_powers f_scaled_powers f_lot_counts f_table f_value f_L_pot f_L_dip f_L_any f_L_parts f_L_rank f_L_lots f_L_counted f_L_power f_L_sum f_L_common f_L_fraction f_L_table_right f_L_right f_law) :
    ∃ A : Ad, A.law = fa ∧ Tx K mg A := by
  have e := hfa.symm.trans (PySem.W.mg_of X G F.d_law.ns)
  cases e
  obtain ⟨fd_is_integer, F_is_integer⟩ := F.d_is_integer.fn
  obtain ⟨fd_is_integer_from, F_is_integer_from⟩ := F.d_is_integer_from.fn
  obtain ⟨fd_are_letters, F_are_letters⟩ := F.d_are_letters.fn
  obtain ⟨fd_are_places, F_are_places⟩ := F.d_are_places.fn
  obtain ⟨fd_is_tie, F_is_tie⟩ := F.d_is_tie.fn
  obtain ⟨fd_first_wrong_tie, F_first_wrong_tie⟩ := F.d_first_wrong_tie.fn
  obtain ⟨fd_is_fraction, F_is_fraction⟩ := F.d_is_fraction.fn
  obtain ⟨fd_check_places, F_check_places⟩ := F.d_check_places.fn
  obtain ⟨fd_check_ties, F_check_ties⟩ := F.d_check_ties.fn
  obtain ⟨fd_check_fraction, F_check_fraction⟩ := F.d_check_fraction.fn
  obtain ⟨fd_check_web, F_check_web⟩ := F.d_check_web.fn
  obtain ⟨fd_marks, F_marks⟩ := F.d_marks.fn
  obtain ⟨fd_lot_of_all, F_lot_of_all⟩ := F.d_lot_of_all.fn
  obtain ⟨fd_lots_within, F_lots_within⟩ := F.d_lots_within.fn
  obtain ⟨fd_all_lots, F_all_lots⟩ := F.d_all_lots.fn
  obtain ⟨fd_rank_of, F_rank_of⟩ := F.d_rank_of.fn
  obtain ⟨fd_full_rank, F_full_rank⟩ := F.d_full_rank.fn
  obtain ⟨fd_rows_of_noughts, F_rows_of_noughts⟩ := F.d_rows_of_noughts.fn
  obtain ⟨fd_tuple_of_rows, F_tuple_of_rows⟩ := F.d_tuple_of_rows.fn
  obtain ⟨fd_counts_of_lots, F_counts_of_lots⟩ := F.d_counts_of_lots.fn
  obtain ⟨fd_shifted, F_shifted⟩ := F.d_shifted.fn
  obtain ⟨fd_across, F_across⟩ := F.d_across.fn
  obtain ⟨fd_table_of, F_table_of⟩ := F.d_table_of.fn
  obtain ⟨fd_powers, F_powers⟩ := F.d_powers.fn
  obtain ⟨fd_scaled_powers, F_scaled_powers⟩ := F.d_scaled_powers.fn
  obtain ⟨fd_lot_counts, F_lot_counts⟩ := F.d_lot_counts.fn
  obtain ⟨fd_table, F_table⟩ := F.d_table.fn
  obtain ⟨fd_value, F_value⟩ := F.d_value.fn
  obtain ⟨fd_L_pot, F_L_pot⟩ := F.d_L_pot.fn
  obtain ⟨fd_L_dip, F_L_dip⟩ := F.d_L_dip.fn
  obtain ⟨fd_L_any, F_L_any⟩ := F.d_L_any.fn
  obtain ⟨fd_L_parts, F_L_parts⟩ := F.d_L_parts.fn
  obtain ⟨fd_L_rank, F_L_rank⟩ := F.d_L_rank.fn
  obtain ⟨fd_L_lots, F_L_lots⟩ := F.d_L_lots.fn
  obtain ⟨fd_L_counted, F_L_counted⟩ := F.d_L_counted.fn
  obtain ⟨fd_L_power, F_L_power⟩ := F.d_L_power.fn
  obtain ⟨fd_L_sum, F_L_sum⟩ := F.d_L_sum.fn
  obtain ⟨fd_L_common, F_L_common⟩ := F.d_L_common.fn
  obtain ⟨fd_L_fraction, F_L_fraction⟩ := F.d_L_fraction.fn
  obtain ⟨fd_L_table_right, F_L_table_right⟩ := F.d_L_table_right.fn
  obtain ⟨fd_L_right, F_L_right⟩ := F.d_L_right.fn
  obtain ⟨fd_law, F_law⟩ := F.d_law.fn
  obtain ⟨fd_i, F_i⟩ := F.i_d
  have b_is_integer := F_is_integer.binds (ps := ["value"]) fun _ _ _ _ _ _ us hl => match us, hl with | [_], _ => rfl
  have b_is_integer_from := F_is_integer_from.binds (ps := ["value", "low", "high"]) fun _ _ _ _ _ _ us hl => match us, hl with | [_, _, _], _ => rfl
  have b_are_letters := F_are_letters.binds (ps := ["value"]) fun _ _ _ _ _ _ us hl => match us, hl with | [_], _ => rfl
  have b_are_places := F_are_places.binds (ps := ["value"]) fun _ _ _ _ _ _ us hl => match us, hl with | [_], _ => rfl
  have b_is_tie := F_is_tie.binds (ps := ["places", "value"]) fun _ _ _ _ _ _ us hl => match us, hl with | [_, _], _ => rfl
  have b_first_wrong_tie := F_first_wrong_tie.binds (ps := ["places", "ties"]) fun _ _ _ _ _ _ us hl => match us, hl with | [_, _], _ => rfl
  have b_is_fraction := F_is_fraction.binds (ps := ["value"]) fun _ _ _ _ _ _ us hl => match us, hl with | [_], _ => rfl
  have b_check_places := F_check_places.binds (ps := ["places"]) fun _ _ _ _ _ _ us hl => match us, hl with | [_], _ => rfl
  have b_check_ties := F_check_ties.binds (ps := ["places", "ties"]) fun _ _ _ _ _ _ us hl => match us, hl with | [_, _], _ => rfl
  have b_check_fraction := F_check_fraction.binds (ps := ["value"]) fun _ _ _ _ _ _ us hl => match us, hl with | [_], _ => rfl
  have b_check_web := F_check_web.binds (ps := ["web"]) fun _ _ _ _ _ _ us hl => match us, hl with | [_], _ => rfl
  have b_marks := F_marks.binds (ps := ["web", "lot"]) fun _ _ _ _ _ _ us hl => match us, hl with | [_, _], _ => rfl
  have b_lot_of_all := F_lot_of_all.binds (ps := ["web"]) fun _ _ _ _ _ _ us hl => match us, hl with | [_], _ => rfl
  have b_lots_within := F_lots_within.binds (ps := ["lot"]) fun _ _ _ _ _ _ us hl => match us, hl with | [_], _ => rfl
  have b_all_lots := F_all_lots.binds (ps := ["web"]) fun _ _ _ _ _ _ us hl => match us, hl with | [_], _ => rfl
  have b_rank_of := F_rank_of.binds (ps := ["web", "lot"]) fun _ _ _ _ _ _ us hl => match us, hl with | [_, _], _ => rfl
  have b_full_rank := F_full_rank.binds (ps := ["web"]) fun _ _ _ _ _ _ us hl => match us, hl with | [_], _ => rfl
  have b_rows_of_noughts := F_rows_of_noughts.binds (ps := ["web"]) fun _ _ _ _ _ _ us hl => match us, hl with | [_], _ => rfl
  have b_tuple_of_rows := F_tuple_of_rows.binds (ps := ["rows"]) fun _ _ _ _ _ _ us hl => match us, hl with | [_], _ => rfl
  have b_counts_of_lots := F_counts_of_lots.binds (ps := ["web"]) fun _ _ _ _ _ _ us hl => match us, hl with | [_], _ => rfl
  have b_shifted := F_shifted.binds (ps := ["row"]) fun _ _ _ _ _ _ us hl => match us, hl with | [_], _ => rfl
  have b_across := F_across.binds (ps := ["rows"]) fun _ _ _ _ _ _ us hl => match us, hl with | [_], _ => rfl
  have b_table_of := F_table_of.binds (ps := ["web"]) fun _ _ _ _ _ _ us hl => match us, hl with | [_], _ => rfl
  have b_powers := F_powers.binds (ps := ["base", "most"]) fun _ _ _ _ _ _ us hl => match us, hl with | [_, _], _ => rfl
  have b_scaled_powers := F_scaled_powers.binds (ps := ["fraction", "most"]) fun _ _ _ _ _ _ us hl => match us, hl with | [_, _], _ => rfl
  have b_lot_counts := F_lot_counts.binds (ps := ["web"]) fun _ _ _ _ _ _ us hl => match us, hl with | [_], _ => rfl
  have b_table := F_table.binds (ps := ["web"]) fun _ _ _ _ _ _ us hl => match us, hl with | [_], _ => rfl
  have b_value := F_value.binds (ps := ["web", "x", "y"]) fun _ _ _ _ _ _ us hl => match us, hl with | [_, _, _], _ => rfl
  have b_L_pot := F_L_pot.binds (ps := ["_law_script", "_law_k"]) fun _ _ _ _ _ _ us hl => match us, hl with | [_, _], _ => rfl
  have b_L_dip := F_L_dip.binds (ps := ["_law_pot_here", "_law_many"]) fun _ _ _ _ _ _ us hl => match us, hl with | [_, _], _ => rfl
  have b_L_any := F_L_any.binds (ps := ["_law_pot_here", "_law_some"]) fun _ _ _ _ _ _ us hl => match us, hl with | [_, _], _ => rfl
  have b_L_parts := F_L_parts.binds (ps := ["_law_pot_here", "_law_most", "_law_many"]) fun _ _ _ _ _ _ us hl => match us, hl with | [_, _, _], _ => rfl
  have b_L_rank := F_L_rank.binds (ps := ["_law_places", "_law_ties"]) fun _ _ _ _ _ _ us hl => match us, hl with | [_, _], _ => rfl
  have b_L_lots := F_L_lots.binds (ps := ["_law_many"]) fun _ _ _ _ _ _ us hl => match us, hl with | [_], _ => rfl
  have b_L_counted := F_L_counted.binds (ps := ["_law_places", "_law_ties"]) fun _ _ _ _ _ _ us hl => match us, hl with | [_, _], _ => rfl
  have b_L_power := F_L_power.binds (ps := ["_law_number", "_law_many"]) fun _ _ _ _ _ _ us hl => match us, hl with | [_, _], _ => rfl
  have b_L_sum := F_L_sum.binds (ps := ["_law_rows", "_law_left_x", "_law_right_y"]) fun _ _ _ _ _ _ us hl => match us, hl with | [_, _, _], _ => rfl
  have b_L_common := F_L_common.binds (ps := ["_law_one", "_law_other"]) fun _ _ _ _ _ _ us hl => match us, hl with | [_, _], _ => rfl
  have b_L_fraction := F_L_fraction.binds (ps := ["_law_pot_here"]) fun _ _ _ _ _ _ us hl => match us, hl with | [_], _ => rfl
  have b_L_table_right := F_L_table_right.binds (ps := ["_law_told", "_law_counts"]) fun _ _ _ _ _ _ us hl => match us, hl with | [_, _], _ => rfl
  have b_L_right := F_L_right.binds (ps := ["_law_pot_here"]) fun _ _ _ _ _ _ us hl => match us, hl with | [_], _ => rfl
  have b_law := F_law.binds (ps := ["_law_script"]) fun _ _ _ _ _ _ us hl => match us, hl with | [_], _ => rfl
  have b_i := F_i.binds (ps := ["self", "places", "ties"]) fun _ _ _ _ _ _ us hl => match us, hl with | [_, _, _], _ => rfl
  have kb_lot_counts : KBn K fd_lot_counts ["web"] 0 ["web"] (fun _ ws => ws) (fun _ zs => zs) := by
    obtain ⟨oc, od, kV, doc, pm, an, cdv, ct, osl, rfl, lk, hcd⟩ := F_lot_counts.ex
    exact ⟨fun s us ws _ h1 h2 => match us, ws, h1, h2 with | [], [_], _, _ => .of_eq (by first | kernel_rfl | rfl), fun _ r => r⟩
  have kb_table : KBn K fd_table ["web"] 0 ["web"] (fun _ ws => ws) (fun _ zs => zs) := by
    obtain ⟨oc, od, kV, doc, pm, an, cdv, ct, osl, rfl, lk, hcd⟩ := F_table.ex
    exact ⟨fun s us ws _ h1 h2 => match us, ws, h1, h2 with | [], [_], _, _ => .of_eq (by first | kernel_rfl | rfl), fun _ r => r⟩
  have kb_value : KBn K fd_value ["web", "x", "y"] 0 ["y", "web", "x"] (fun _ ws => rot ws) (fun _ zs => rot zs) := by
    obtain ⟨oc, od, kV, doc, pm, an, cdv, ct, osl, rfl, lk, hcd⟩ := F_value.ex
    exact ⟨fun s us ws _ h1 h2 => match us, ws, h1, h2 with | [], [_, _, _], _, _ => .of_eq (by first | kernel_rfl | rfl), fun _ r => rot_vals r⟩
  have kc : Cls K C := ⟨F.c_pg, F.c_hd, F.c_po, F.c_sa⟩
  refine ⟨{ is_integer := f_is_integer, fd_is_integer := fd_is_integer, is_integer_from := f_is_integer_from, fd_is_integer_from := fd_is_integer_from, are_letters := f_are_letters, fd_are_letters := fd_are_letters, are_places := f_are_places, fd_are_places := fd_are_places, is_tie := f_is_tie, fd_is_tie := fd_is_tie, first_wrong_tie := f_first_wrong_tie, fd_first_wrong_tie := fd_first_wrong_tie, is_fraction := f_is_fraction, fd_is_fraction := fd_is_fraction, check_places := f_check_places, fd_check_places := fd_check_places, check_ties := f_check_ties, fd_check_ties := fd_check_ties, check_fraction := f_check_fraction, fd_check_fraction := fd_check_fraction, check_web := f_check_web, fd_check_web := fd_check_web, marks := f_marks, fd_marks := fd_marks, lot_of_all := f_lot_of_all, fd_lot_of_all := fd_lot_of_all, lots_within := f_lots_within, fd_lots_within := fd_lots_within, all_lots := f_all_lots, fd_all_lots := fd_all_lots, rank_of := f_rank_of, fd_rank_of := fd_rank_of, full_rank := f_full_rank, fd_full_rank := fd_full_rank, rows_of_noughts := f_rows_of_noughts, fd_rows_of_noughts := fd_rows_of_noughts, tuple_of_rows := f_tuple_of_rows, fd_tuple_of_rows := fd_tuple_of_rows, counts_of_lots := f_counts_of_lots, fd_counts_of_lots := fd_counts_of_lots, shifted := f_shifted, fd_shifted := fd_shifted, across := f_across, fd_across := fd_across, table_of := f_table_of, fd_table_of := fd_table_of, powers := f_powers, fd_powers := fd_powers, scaled_powers := f_scaled_powers, fd_scaled_powers := fd_scaled_powers, lot_counts := f_lot_counts, fd_lot_counts := fd_lot_counts, table := f_table, fd_table := fd_table, value := f_value, fd_value := fd_value, L_pot := f_L_pot, fd_L_pot := fd_L_pot, L_dip := f_L_dip, fd_L_dip := fd_L_dip, L_any := f_L_any, fd_L_any := fd_L_any, L_parts := f_L_parts, fd_L_parts := fd_L_parts, L_rank := f_L_rank, fd_L_rank := fd_L_rank, L_lots := f_L_lots, fd_L_lots := fd_L_lots, L_counted := f_L_counted, fd_L_counted := fd_L_counted, L_power := f_L_power, fd_L_power := fd_L_power, L_sum := f_L_sum, fd_L_sum := fd_L_sum, L_common := f_L_common, fd_L_common := fd_L_common, L_fraction := f_L_fraction, fd_L_fraction := fd_L_fraction, L_table_right := f_L_table_right, fd_L_table_right := fd_L_table_right, L_right := f_L_right, fd_L_right := fd_L_right, law := fa, fd_law := fd_law, Web := C, Web_init := I, fd_Web_init := fd_i }, rfl, ?_⟩
  exact {
    F_is_integer := F_is_integer,
    b_is_integer := b_is_integer,
    g_is_integer := PySem.W.mg_of X G F.d_is_integer.ns,
    F_is_integer_from := F_is_integer_from,
    b_is_integer_from := b_is_integer_from,
    g_is_integer_from := PySem.W.mg_of X G F.d_is_integer_from.ns,
    F_are_letters := F_are_letters,
    b_are_letters := b_are_letters,
    g_are_letters := PySem.W.mg_of X G F.d_are_letters.ns,
    F_are_places := F_are_places,
    b_are_places := b_are_places,
    g_are_places := PySem.W.mg_of X G F.d_are_places.ns,
    F_is_tie := F_is_tie,
    b_is_tie := b_is_tie,
    g_is_tie := PySem.W.mg_of X G F.d_is_tie.ns,
    F_first_wrong_tie := F_first_wrong_tie,
    b_first_wrong_tie := b_first_wrong_tie,
    g_first_wrong_tie := PySem.W.mg_of X G F.d_first_wrong_tie.ns,
    F_is_fraction := F_is_fraction,
    b_is_fraction := b_is_fraction,
    g_is_fraction := PySem.W.mg_of X G F.d_is_fraction.ns,
    F_check_places := F_check_places,
    b_check_places := b_check_places,
    g_check_places := PySem.W.mg_of X G F.d_check_places.ns,
    F_check_ties := F_check_ties,
    b_check_ties := b_check_ties,
    g_check_ties := PySem.W.mg_of X G F.d_check_ties.ns,
    F_check_fraction := F_check_fraction,
    b_check_fraction := b_check_fraction,
    g_check_fraction := PySem.W.mg_of X G F.d_check_fraction.ns,
    F_check_web := F_check_web,
    b_check_web := b_check_web,
    g_check_web := PySem.W.mg_of X G F.d_check_web.ns,
    F_marks := F_marks,
    b_marks := b_marks,
    g_marks := PySem.W.mg_of X G F.d_marks.ns,
    F_lot_of_all := F_lot_of_all,
    b_lot_of_all := b_lot_of_all,
    g_lot_of_all := PySem.W.mg_of X G F.d_lot_of_all.ns,
    F_lots_within := F_lots_within,
    b_lots_within := b_lots_within,
    g_lots_within := PySem.W.mg_of X G F.d_lots_within.ns,
    F_all_lots := F_all_lots,
    b_all_lots := b_all_lots,
    g_all_lots := PySem.W.mg_of X G F.d_all_lots.ns,
    F_rank_of := F_rank_of,
    b_rank_of := b_rank_of,
    g_rank_of := PySem.W.mg_of X G F.d_rank_of.ns,
    F_full_rank := F_full_rank,
    b_full_rank := b_full_rank,
    g_full_rank := PySem.W.mg_of X G F.d_full_rank.ns,
    F_rows_of_noughts := F_rows_of_noughts,
    b_rows_of_noughts := b_rows_of_noughts,
    g_rows_of_noughts := PySem.W.mg_of X G F.d_rows_of_noughts.ns,
    F_tuple_of_rows := F_tuple_of_rows,
    b_tuple_of_rows := b_tuple_of_rows,
    g_tuple_of_rows := PySem.W.mg_of X G F.d_tuple_of_rows.ns,
    F_counts_of_lots := F_counts_of_lots,
    b_counts_of_lots := b_counts_of_lots,
    g_counts_of_lots := PySem.W.mg_of X G F.d_counts_of_lots.ns,
    F_shifted := F_shifted,
    b_shifted := b_shifted,
    g_shifted := PySem.W.mg_of X G F.d_shifted.ns,
    F_across := F_across,
    b_across := b_across,
    g_across := PySem.W.mg_of X G F.d_across.ns,
    F_table_of := F_table_of,
    b_table_of := b_table_of,
    g_table_of := PySem.W.mg_of X G F.d_table_of.ns,
    F_powers := F_powers,
    b_powers := b_powers,
    g_powers := PySem.W.mg_of X G F.d_powers.ns,
    F_scaled_powers := F_scaled_powers,
    b_scaled_powers := b_scaled_powers,
    g_scaled_powers := PySem.W.mg_of X G F.d_scaled_powers.ns,
    F_lot_counts := F_lot_counts,
    b_lot_counts := b_lot_counts,
    g_lot_counts := PySem.W.mg_of X G F.d_lot_counts.ns,
    F_table := F_table,
    b_table := b_table,
    g_table := PySem.W.mg_of X G F.d_table.ns,
    F_value := F_value,
    b_value := b_value,
    g_value := PySem.W.mg_of X G F.d_value.ns,
    F_L_pot := F_L_pot,
    b_L_pot := b_L_pot,
    g_L_pot := PySem.W.mg_of X G F.d_L_pot.ns,
    F_L_dip := F_L_dip,
    b_L_dip := b_L_dip,
    g_L_dip := PySem.W.mg_of X G F.d_L_dip.ns,
    F_L_any := F_L_any,
    b_L_any := b_L_any,
    g_L_any := PySem.W.mg_of X G F.d_L_any.ns,
    F_L_parts := F_L_parts,
    b_L_parts := b_L_parts,
    g_L_parts := PySem.W.mg_of X G F.d_L_parts.ns,
    F_L_rank := F_L_rank,
    b_L_rank := b_L_rank,
    g_L_rank := PySem.W.mg_of X G F.d_L_rank.ns,
    F_L_lots := F_L_lots,
    b_L_lots := b_L_lots,
    g_L_lots := PySem.W.mg_of X G F.d_L_lots.ns,
    F_L_counted := F_L_counted,
    b_L_counted := b_L_counted,
    g_L_counted := PySem.W.mg_of X G F.d_L_counted.ns,
    F_L_power := F_L_power,
    b_L_power := b_L_power,
    g_L_power := PySem.W.mg_of X G F.d_L_power.ns,
    F_L_sum := F_L_sum,
    b_L_sum := b_L_sum,
    g_L_sum := PySem.W.mg_of X G F.d_L_sum.ns,
    F_L_common := F_L_common,
    b_L_common := b_L_common,
    g_L_common := PySem.W.mg_of X G F.d_L_common.ns,
    F_L_fraction := F_L_fraction,
    b_L_fraction := b_L_fraction,
    g_L_fraction := PySem.W.mg_of X G F.d_L_fraction.ns,
    F_L_table_right := F_L_table_right,
    b_L_table_right := b_L_table_right,
    g_L_table_right := PySem.W.mg_of X G F.d_L_table_right.ns,
    F_L_right := F_L_right,
    b_L_right := b_L_right,
    g_L_right := PySem.W.mg_of X G F.d_L_right.ns,
    F_law := F_law,
    b_law := b_law,
    g_law := PySem.W.mg_of X G F.d_law.ns,
    m_comb := PySem.W.mg_of X G F.m_comb,
    m_gcd := PySem.W.mg_of X G F.m_gcd,
    z_abs := PySem.W.mg_none_of X G F.z_abs,
    z_all := PySem.W.mg_none_of X G F.z_all,
    z_bool := PySem.W.mg_none_of X G F.z_bool,
    z_dict := PySem.W.mg_none_of X G F.z_dict,
    z_divmod := PySem.W.mg_none_of X G F.z_divmod,
    z_enumerate := PySem.W.mg_none_of X G F.z_enumerate,
    z_int := PySem.W.mg_none_of X G F.z_int,
    z_isinstance := PySem.W.mg_none_of X G F.z_isinstance,
    z_len := PySem.W.mg_none_of X G F.z_len,
    z_list := PySem.W.mg_none_of X G F.z_list,
    z_max := PySem.W.mg_none_of X G F.z_max,
    z_min := PySem.W.mg_none_of X G F.z_min,
    z_range := PySem.W.mg_none_of X G F.z_range,
    z_repr := PySem.W.mg_none_of X G F.z_repr,
    z_set := PySem.W.mg_none_of X G F.z_set,
    z_sorted := PySem.W.mg_none_of X G F.z_sorted,
    z_str := PySem.W.mg_none_of X G F.z_str,
    z_sum := PySem.W.mg_none_of X G F.z_sum,
    z_tuple := PySem.W.mg_none_of X G F.z_tuple,
    z_zip := PySem.W.mg_none_of X G F.z_zip,
    c_MOST_PLACES := F.k_MOST_PLACES.elim fun t e => ⟨t, PySem.W.mg_of X G e⟩,
    c_MOST_TIES := F.k_MOST_TIES.elim fun t e => ⟨t, PySem.W.mg_of X G e⟩,
    c_LETTERS := F.k_LETTERS.elim fun t e => ⟨t, PySem.W.mg_of X G e⟩,
    c_MOST_TOP := F.k_MOST_TOP.elim fun t e => ⟨t, PySem.W.mg_of X G e⟩,
    c_MOST_BOTTOM := F.k_MOST_BOTTOM.elim fun t e => ⟨t, PySem.W.mg_of X G e⟩,
    g_Web := PySem.W.mg_of X G F.c_ns,
    k_Web := kc,
    i_Web := ⟨kc, F.c_ha, F.c_hn, F.c_ht, F.c_hm⟩,
    n_places := F.c_pl,
    n_ties := F.c_ti,
    m_Web := ⟨F.c_mk, F.c_init, F.c_fn, F.c_kc⟩,
    F_Web_init := F_i,
    b_Web_init := b_i,
    kb_lot_counts := kb_lot_counts,
    kb_table := kb_table,
    kb_value := kb_value }
theorem law_fn {P : Program} {w : World} {K : PySem.W.Frag} {mg : Str → Option Value} {fa : Addr} {h : Heap} (X : K.In h) (G : h.Ns mainGlobals mg) (H : ∃ A : Ad, A.law = fa ∧ Tx K mg A) :
    ∃ fd : FuncData, (∀ (s : Shared) (u : Value), BindsTo s fd ⟨[u], []⟩ [("_law_script", u)]) ∧ ∀ base : Heap, K.In base → base.Ns mainGlobals mg → FnG P w K mg base 11 fa fd ["_law_script"] (toSp K g_law) := by
  obtain ⟨A, rfl, T⟩ := H
  refine ⟨A.fd_law, fun s u => ?_, fun base _ _ => okG_law T⟩
  obtain ⟨oc, od, kV, doc, pm, an, cdv, ct, osl, e, lk, hcd⟩ := T.F_law.ex
  rw [e]
  exact .of_eq rfl
end K10
set_option Elab.async false
set_option linter.all false
open PySem PySem.W PyProof.Rows
set_option maxRecDepth 100000 in
set_option maxHeartbeats 0 in
theorem PySem.Challenge.cw_webreckon_k15_whole_lot_counts_tables_an_holds : PySem.Challenge.rw_webreckon_k15_whole_lot_counts_tables_an.Holds := by
  w_on; o_law; k_head; (case hw => w_witness2)
  k_fill
  refine DL.walk_ofD (l := PySem.Challenge.rw_webreckon_k15_whole_lot_counts_tables_an) (n := 63) (k := 11) (x := "_law_script") (g := K10.g_law) rfl (by decide) rfl ⟨rfl, by decide, by decide⟩ (fun w h Y => PySem.W.kIn_of Y) ?F ?hsp
  case hsp => exact fun ns hl _ => ⟨ns, rfl, hl, fun _ => rfl⟩
  case F =>
    intro w mg fa h KX G hmg
    refine' K10.law_fn KX G (K10.all_mk KX G hmg ?FF)
    case FF =>
      refine' K10.Facts.mk ?d_is_integer ?d_is_integer_from ?d_are_letters ?d_are_places ?d_is_tie ?d_first_wrong_tie ?d_is_fraction ?d_check_places ?d_check_ties ?d_check_fraction ?d_check_web ?d_marks ?d_lot_of_all ?d_lots_within ?d_all_lots ?d_rank_of ?d_full_rank ?d_rows_of_noughts ?d_tuple_of_rows ?d_counts_of_lots ?d_shifted ?d_across ?d_table_of ?d_powers ?d_scaled_powers ?d_lot_counts ?d_table ?d_value ?d_L_pot ?d_L_dip ?d_L_any ?d_L_parts ?d_L_rank ?d_L_lots ?d_L_counted ?d_L_power ?d_L_sum ?d_L_common ?d_L_fraction ?d_L_table_right ?d_L_right ?d_law ?i_d ?c_ns ?c_init ?c_fn ?c_pg ?c_hd ?c_po ?c_sa ?c_mk ?c_kc ?c_pl ?c_ti ?c_ha ?c_hn ?c_ht ?c_hm ?m_comb ?m_gcd ?z_abs ?z_all ?z_bool ?z_dict ?z_divmod ?z_enumerate ?z_int ?z_isinstance ?z_len ?z_list ?z_max ?z_min ?z_range ?z_repr ?z_set ?z_sorted ?z_str ?z_sum ?z_tuple ?z_zip ?k_MOST_PLACES ?k_MOST_TIES ?k_LETTERS ?k_MOST_TOP ?k_MOST_BOTTOM
      (case d_is_integer => refine' K10.def_mk ?a ?l ?c ?k; (case a => k_is); (case l => k_is); (case c => k_is); (case k => k_is))
      (case d_is_integer_from => refine' K10.def_mk ?a ?l ?c ?k; (case a => k_is); (case l => k_is); (case c => k_is); (case k => k_is))
      (case d_are_letters => refine' K10.def_mk ?a ?l ?c ?k; (case a => k_is); (case l => k_is); (case c => k_is); (case k => k_is))
      (case d_are_places => refine' K10.def_mk ?a ?l ?c ?k; (case a => k_is); (case l => k_is); (case c => k_is); (case k => k_is))
      (case d_is_tie => refine' K10.def_mk ?a ?l ?c ?k; (case a => k_is); (case l => k_is); (case c => k_is); (case k => k_is))
      (case d_first_wrong_tie => refine' K10.def_mk ?a ?l ?c ?k; (case a => k_is); (case l => k_is); (case c => k_is); (case k => k_is))
      (case d_is_fraction => refine' K10.def_mk ?a ?l ?c ?k; (case a => k_is); (case l => k_is); (case c => k_is); (case k => k_is))
      (case d_check_places => refine' K10.def_mk ?a ?l ?c ?k; (case a => k_is); (case l => k_is); (case c => k_is); (case k => k_is))
      (case d_check_ties => refine' K10.def_mk ?a ?l ?c ?k; (case a => k_is); (case l => k_is); (case c => k_is); (case k => k_is))
      (case d_check_fraction => refine' K10.def_mk ?a ?l ?c ?k; (case a => k_is); (case l => k_is); (case c => k_is); (case k => k_is))
      (case d_check_web => refine' K10.def_mk ?a ?l ?c ?k; (case a => k_is); (case l => k_is); (case c => k_is); (case k => k_is))
      (case d_marks => refine' K10.def_mk ?a ?l ?c ?k; (case a => k_is); (case l => k_is); (case c => k_is); (case k => k_is))
      (case d_lot_of_all => refine' K10.def_mk ?a ?l ?c ?k; (case a => k_is); (case l => k_is); (case c => k_is); (case k => k_is))
      (case d_lots_within => refine' K10.def_mk ?a ?l ?c ?k; (case a => k_is); (case l => k_is); (case c => k_is); (case k => k_is))
      (case d_all_lots => refine' K10.def_mk ?a ?l ?c ?k; (case a => k_is); (case l => k_is); (case c => k_is); (case k => k_is))
      (case d_rank_of => refine' K10.def_mk ?a ?l ?c ?k; (case a => k_is); (case l => k_is); (case c => k_is); (case k => k_is))
      (case d_full_rank => refine' K10.def_mk ?a ?l ?c ?k; (case a => k_is); (case l => k_is); (case c => k_is); (case k => k_is))
      (case d_rows_of_noughts => refine' K10.def_mk ?a ?l ?c ?k; (case a => k_is); (case l => k_is); (case c => k_is); (case k => k_is))
      (case d_tuple_of_rows => refine' K10.def_mk ?a ?l ?c ?k; (case a => k_is); (case l => k_is); (case c => k_is); (case k => k_is))
      (case d_counts_of_lots => refine' K10.def_mk ?a ?l ?c ?k; (case a => k_is); (case l => k_is); (case c => k_is); (case k => k_is))
      (case d_shifted => refine' K10.def_mk ?a ?l ?c ?k; (case a => k_is); (case l => k_is); (case c => k_is); (case k => k_is))
      (case d_across => refine' K10.def_mk ?a ?l ?c ?k; (case a => k_is); (case l => k_is); (case c => k_is); (case k => k_is))
      (case d_table_of => refine' K10.def_mk ?a ?l ?c ?k; (case a => k_is); (case l => k_is); (case c => k_is); (case k => k_is))
      (case d_powers => refine' K10.def_mk ?a ?l ?c ?k; (case a => k_is); (case l => k_is); (case c => k_is); (case k => k_is))
      (case d_scaled_powers => refine' K10.def_mk ?a ?l ?c ?k; (case a => k_is); (case l => k_is); (case c => k_is); (case k => k_is))
      (case d_lot_counts => refine' K10.def_mk ?a ?l ?c ?k; (case a => k_is); (case l => k_is); (case c => k_is); (case k => k_is))
      (case d_table => refine' K10.def_mk ?a ?l ?c ?k; (case a => k_is); (case l => k_is); (case c => k_is); (case k => k_is))
      (case d_value => refine' K10.def_mk ?a ?l ?c ?k; (case a => k_is); (case l => k_is); (case c => k_is); (case k => k_is))
      (case d_L_pot => refine' K10.def_mk ?a ?l ?c ?k; (case a => k_is); (case l => k_is); (case c => k_is); (case k => k_is))
      (case d_L_dip => refine' K10.def_mk ?a ?l ?c ?k; (case a => k_is); (case l => k_is); (case c => k_is); (case k => k_is))
      (case d_L_any => refine' K10.def_mk ?a ?l ?c ?k; (case a => k_is); (case l => k_is); (case c => k_is); (case k => k_is))
      (case d_L_parts => refine' K10.def_mk ?a ?l ?c ?k; (case a => k_is); (case l => k_is); (case c => k_is); (case k => k_is))
      (case d_L_rank => refine' K10.def_mk ?a ?l ?c ?k; (case a => k_is); (case l => k_is); (case c => k_is); (case k => k_is))
      (case d_L_lots => refine' K10.def_mk ?a ?l ?c ?k; (case a => k_is); (case l => k_is); (case c => k_is); (case k => k_is))
      (case d_L_counted => refine' K10.def_mk ?a ?l ?c ?k; (case a => k_is); (case l => k_is); (case c => k_is); (case k => k_is))
      (case d_L_power => refine' K10.def_mk ?a ?l ?c ?k; (case a => k_is); (case l => k_is); (case c => k_is); (case k => k_is))
      (case d_L_sum => refine' K10.def_mk ?a ?l ?c ?k; (case a => k_is); (case l => k_is); (case c => k_is); (case k => k_is))
      (case d_L_common => refine' K10.def_mk ?a ?l ?c ?k; (case a => k_is); (case l => k_is); (case c => k_is); (case k => k_is))
      (case d_L_fraction => refine' K10.def_mk ?a ?l ?c ?k; (case a => k_is); (case l => k_is); (case c => k_is); (case k => k_is))
      (case d_L_table_right => refine' K10.def_mk ?a ?l ?c ?k; (case a => k_is); (case l => k_is); (case c => k_is); (case k => k_is))
      (case d_L_right => refine' K10.def_mk ?a ?l ?c ?k; (case a => k_is); (case l => k_is); (case c => k_is); (case k => k_is))
      (case d_law => refine' K10.def_mk ?a ?l ?c ?k; (case a => k_is); (case l => k_is); (case c => k_is); (case k => k_is))
      (case c_ns => k_is)
      (case c_init => k_is)
      (case i_d => refine' K10.init_mk ?l ?c ?k; (case l => k_is); (case c => k_is); (case k => k_is))
      (case c_fn => k_is)
      (case c_pg => k_is)
      (case c_hd => k_is)
      (case c_po => k_is)
      (case c_sa => k_is)
      (case c_mk => k_is)
      (case c_kc => k_is)
      (case c_pl => k_is)
      (case c_ti => k_is)
      (case c_ha => k_is)
      (case c_hn => k_is)
      (case c_ht => k_is)
      (case c_hm => k_is)
      (case m_comb => k_is)
      (case m_gcd => k_is)
      (case z_abs => k_is)
      (case z_all => k_is)
      (case z_bool => k_is)
      (case z_dict => k_is)
      (case z_divmod => k_is)
      (case z_enumerate => k_is)
      (case z_int => k_is)
      (case z_isinstance => k_is)
      (case z_len => k_is)
      (case z_list => k_is)
      (case z_max => k_is)
      (case z_min => k_is)
      (case z_range => k_is)
      (case z_repr => k_is)
      (case z_set => k_is)
      (case z_sorted => k_is)
      (case z_str => k_is)
      (case z_sum => k_is)
      (case z_tuple => k_is)
      (case z_zip => k_is)
      (case k_MOST_PLACES => refine' K10.int_mk ?e; (case e => k_is))
      (case k_MOST_TIES => refine' K10.int_mk ?e; (case e => k_is))
      (case k_LETTERS => refine' K10.str_mk ?e; (case e => k_is))
      (case k_MOST_TOP => refine' K10.int_mk ?e; (case e => k_is))
      (case k_MOST_BOTTOM => refine' K10.int_mk ?e; (case e => k_is))
