import PyProof.Rows.All
import Wide.All
import OpenK.AllK
import Wide.FinOn
import HandS.ForMost
import HandS.Walk
import HandS.TupAny
import HandS.WideBits
import HandS.IsInst
import HandS.Replace
import HandS.More
import PyProof.ListStr
import HandS.Conv
import KE.GoesMore
import KE.GoesEnum
import PyProof.Rows.SortShellAny
import HandS.SortOrd
import HandS.TupLe
import HandS.TupSets
import HandS.Small
import HandS.Strs
import HandS.Zip
import HandS.Defaults
import HandS.Ends
import HandS.EndBits
import HandS.RaiseMore
import PyProof.ReprRoads
import PyProof.Rows.RegFStrParts
import HandS.Style
import HandS.ReplaceList
import PyProof.StrLawsIn
import HandS.TupMul
import HandS.CallLocal
import HandS.SetFor
import HandS.Deep
import PyProof.CallFns
import HandS.Gcd
import KE.KMathGC
import HandS.Star
import KE.KDictZip
import KE.SortData
import KE.DataMinMax
import HandS.SortKw
import OpenK.KMake
import PySem.Challenge.RW_webreckon_k23_whole_rings_between_leanin
import PyProof.StrBlock2
import HandS.Comp
import PyProof.ToksMono
import HandS.DictComp
import HandS.ListItems
import KE.KDictList
import PyProof.TupleOfSeq
import HandS.SetKeys
import PyProof.DictMoreH
import PyProof.SliceStr2
import KE.KRevSl
set_option Elab.async false
set_option linter.all false
set_option maxRecDepth 100000
/-! A data layer over the hand layer: values as deep data, a small store for what is mutable; readings without addresses of what never changes. -/
namespace DL
open PySem PySem.Spec PyProof.Rows L2

/-! ### data -/
inductive D where
  | non | bl (b : Bool) | int (i : Int) | str (x : Str) | tup (ds : List D) | lst (ds : List D) | seq (ds : List D)
  | ins (C : Addr) (fs : List (Str × D)) | adr (a : Addr)
/-- what is mutable -/
inductive MO where
  | lst (ds : List D) | dct (kvs : List (Key × D)) | dtt (kvs : List (List Key × D)) | ins (C : Addr) (fs : List (Str × D))
  /-- a dict that is walked -/
  | lck (kvs : List (List Key × D))
  /-- a tuple that was just made, its object known -/
  | ftp (ds : List D)
abbrev Mu := Addr → Option MO
def put (μ : Mu) (a : Addr) (o : MO) : Mu := fun b => if b = a then some o else μ b
def del (μ : Mu) (a : Addr) : Mu := fun b => if b = a then none else μ b
theorem put_same {μ : Mu} {a : Addr} {o : MO} : put μ a o a = some o := by unfold put; rw [if_pos rfl]
theorem put_ne {μ : Mu} {a b : Addr} {o : MO} (h : b ≠ a) : put μ a o b = μ b := by unfold put; rw [if_neg h]
theorem del_same {μ : Mu} {a : Addr} : del μ a a = none := by unfold del; rw [if_pos rfl]
theorem del_ne {μ : Mu} {a b : Addr} (h : b ≠ a) : del μ a b = μ b := by unfold del; rw [if_neg h]
theorem put_put {μ : Mu} {a : Addr} {o u : MO} : put (put μ a o) a u = put μ a u := by
  funext b; unfold put; split <;> rfl
theorem del_put {μ : Mu} {a : Addr} {o : MO} (h : μ a = none) : del (put μ a o) a = μ := by
  funext b; unfold del put; split
  · rename_i e; rw [e, h]
  · rfl
theorem put_comm {μ : Mu} {a b : Addr} {o u : MO} (h : a ≠ b) : put (put μ a o) b u = put (put μ b u) a o := by
  funext c; unfold put
  by_cases h1 : c = b
  · rw [if_pos h1, if_neg (fun e => h (e.symm.trans h1)), if_pos h1]
  · rw [if_neg h1, if_neg h1]
theorem del_put_ne {μ : Mu} {a b : Addr} {o : MO} (h : a ≠ b) : del (put μ a o) b = put (del μ b) a o := by
  funext c
  show (if c = b then none else if c = a then some o else μ c) = (if c = a then some o else if c = b then none else μ c)
  by_cases h1 : c = b
  · rw [if_pos h1, if_neg (fun e => h (e.symm.trans h1)), if_pos h1]
  · rw [if_neg h1, if_neg h1]

/-! ### what stands for what -/
section
variable (K : PySem.W.Frag) (H : Hp) (μ : Mu)
/-- a tuple, a list that nobody changes -/
def ImT (a : Addr) (vs : List V) : Prop := (H a = some (.tup vs) ∧ μ a = none) ∨ (∀ H' : Hp, SqT K H' a vs) ∧ False
def ImQ (a : Addr) (vs : List V) : Prop := (Rd H a (.lst vs) ∧ μ a = none) ∨ ∀ H' : Hp, SqL K H' a vs
mutual
def Rep : D → V → Prop
  | .non, v => v = .non
  | .bl b, v => v = .bl b
  | .int i, v => v = .int i
  | .str x, v => v = .str x
  | .tup ds, v => ∃ a vs, v = .ref a ∧ ImT K H μ a vs ∧ RepL ds vs
  | .lst ds, v => ∃ a vs, v = .ref a ∧ H a = some (.lst vs) ∧ μ a = none ∧ RepL ds vs
  | .seq ds, v => ∃ a vs, v = .ref a ∧ ImQ K H μ a vs ∧ RepL ds vs
  | .ins C fs, v => ∃ a dx fv, v = .ref a ∧ H a = some (.ins C dx fv) ∧ μ a = none ∧ RepF fs fv
  | .adr a, v => v = .ref a
def RepL : List D → List V → Prop
  | [], vs => vs = []
  | d :: ds, vs => ∃ v r, vs = v :: r ∧ Rep d v ∧ RepL ds r
def RepF : List (Str × D) → List (Str × V) → Prop
  | [], fv => fv = []
  | (x, d) :: fs, fv => ∃ v r, fv = (x, v) :: r ∧ Rep d v ∧ RepF fs r
end
def RepK {κ : Type} : List (κ × D) → List (κ × V) → Prop
  | [], kv => kv = []
  | (k, d) :: r, kv => ∃ v s, kv = (k, v) :: s ∧ Rep K H μ d v ∧ RepK r s
def RepO : MO → Addr → Prop
  | .lst ds, a => ∃ vs, H a = some (.lst vs) ∧ RepL K H μ ds vs
  | .dct kvs, a => ∃ kv, H a = some (.dK kv) ∧ RepK K H μ kvs kv
  | .dtt kvs, a => ∃ kv, H a = some (.dT kv) ∧ RepK K H μ kvs kv
  | .lck kvs, a => ∃ o kv, H a = some (.frz o (.dT kv)) ∧ RepK K H μ kvs kv
  | .ftp ds, a => ∃ o vs, H a = some (.frz o (.tup vs)) ∧ o.dict = none ∧ RepL K H μ ds vs
  | .ins C fs, a => ∃ dx fv, H a = some (.ins C dx fv) ∧ RepF K H μ fs fv
/-- the store is there -/
def RM : Prop := ∀ a o, μ a = some o → RepO K H μ o a
end
abbrev DS := List (Option D)
def RepS (K : PySem.W.Frag) (H : Hp) (μ : Mu) : DS → L2.St → Prop
  | [], σ => σ = []
  | none :: δ, σ => ∃ o r, σ = o :: r ∧ RepS K H μ δ r
  | some d :: δ, σ => ∃ v r, σ = some v :: r ∧ Rep K H μ d v ∧ RepS K H μ δ r

/-- what was tracked and not in the store stays; the store only takes what was there, or new -/
structure Kp (H : Hp) (μ : Mu) (H' : Hp) (μ' : Mu) : Prop where
  k1 : ∀ b o, H b = some o → μ b = none → H' b = some o
  k2 : ∀ b, μ' b ≠ none → μ b ≠ none ∨ H b = none
theorem Kp.refl (H : Hp) (μ : Mu) : Kp H μ H μ := ⟨fun _ _ h _ => h, fun _ h => .inl h⟩
theorem Kp.free {H H' : Hp} {μ μ' : Mu} (k : Kp H μ H' μ') {b : Addr} {o : HO} (h : H b = some o) (n : μ b = none) : μ' b = none := by
  cases q : μ' b with
  | none => rfl
  | some u =>
    rcases k.k2 b (by rw [q]; simp) with z | z
    · exact absurd n z
    · rw [h] at z; cases z
theorem Kp.trans {H H1 H2 : Hp} {μ μ1 μ2 : Mu} (a : Kp H μ H1 μ1) (b : Kp H1 μ1 H2 μ2) : Kp H μ H2 μ2 := by
  refine ⟨fun c o h n => b.k1 c o (a.k1 c o h n) (a.free h n), fun c h => ?_⟩
  rcases b.k2 c h with z | z
  · exact a.k2 c z
  · cases q : H c with
    | none => exact .inr rfl
    | some o =>
      left
      intro n
      have := a.k1 c o q n
      rw [z] at this; cases this
/-- something new, not in the store -/
theorem Kp.new {H : Hp} {μ : Mu} {p : Addr} {o : HO} (n : H p = none) : Kp H μ (upd H p o) μ :=
  ⟨fun b u e _ => by rw [upd_ne (ne_of_none e n)]; exact e, fun _ h => .inl h⟩
/-- something new, in the store -/
theorem Kp.cell {H : Hp} {μ : Mu} {p : Addr} {o : HO} {m : MO} (n : H p = none) : Kp H μ (upd H p o) (put μ p m) := by
  refine ⟨fun b u e _ => by rw [upd_ne (ne_of_none e n)]; exact e, fun b h => ?_⟩
  by_cases e : b = p
  · right; rw [e]; exact n
  · left; rw [put_ne e] at h; exact h
/-- what is in the store changes -/
theorem Kp.write {H : Hp} {μ : Mu} {p : Addr} {o : HO} {m u : MO} (n : μ p = some u) : Kp H μ (upd H p o) (put μ p m) := by
  refine ⟨fun b w e z => ?_, fun b h => ?_⟩
  · have : b ≠ p := by rintro rfl; rw [n] at z; cases z
    rw [upd_ne this]; exact e
  · by_cases e : b = p
    · left; rw [e, n]; simp
    · left; rw [put_ne e] at h; exact h
theorem Kp.drop {H : Hp} {μ : Mu} {p : Addr} : Kp H μ H (del μ p) := by
  refine ⟨fun b o e _ => e, fun b h => ?_⟩
  by_cases e : b = p
  · rw [e, del_same] at h; exact absurd rfl h
  · left; rw [del_ne e] at h; exact h

section
variable {K : PySem.W.Frag} {H H' : Hp} {μ μ' : Mu}
theorem ImT.mono {a : Addr} {vs : List V} (k : Kp H μ H' μ') (h : ImT K H μ a vs) : ImT K H' μ' a vs := by
  rcases h with ⟨h, n⟩ | h
  · exact .inl ⟨k.k1 _ _ h n, k.free h n⟩
  · exact .inr h
theorem ImQ.mono {a : Addr} {vs : List V} (k : Kp H μ H' μ') (h : ImQ K H μ a vs) : ImQ K H' μ' a vs := by
  rcases h with ⟨h, n⟩ | h
  · rcases h with h | ⟨o, h⟩
    · exact .inl ⟨.inl (k.k1 _ _ h n), k.free h n⟩
    · exact .inl ⟨.inr ⟨o, k.k1 _ _ h n⟩, k.free h n⟩
  · exact .inr h
theorem ImT.sq {a : Addr} {vs : List V} (h : ImT K H μ a vs) : SqT K H a vs := h.elim (fun h => .inl (.inl h.1)) fun h => h.2.elim
theorem ImT.at_ {a : Addr} {vs : List V} (h : ImT K H μ a vs) : H a = some (.tup vs) ∧ μ a = none := h.elim id fun h => h.2.elim
theorem ImQ.sq {a : Addr} {vs : List V} (h : ImQ K H μ a vs) : SqL K H a vs := h.elim (fun h => .inl h.1) fun h => h H
mutual
theorem Rep.mono (k : Kp H μ H' μ') : ∀ (d : D) (v : V), Rep K H μ d v → Rep K H' μ' d v
  | .non, _, h => by unfold Rep at h ⊢; exact h
  | .bl _, _, h => by unfold Rep at h ⊢; exact h
  | .int _, _, h => by unfold Rep at h ⊢; exact h
  | .str _, _, h => by unfold Rep at h ⊢; exact h
  | .tup ds, _, h => by
    unfold Rep at h ⊢
    obtain ⟨a, vs, e, i, r⟩ := h
    exact ⟨a, vs, e, i.mono k, RepL.mono k ds vs r⟩
  | .lst ds, _, h => by
    unfold Rep at h ⊢
    obtain ⟨a, vs, e, i, n, r⟩ := h
    exact ⟨a, vs, e, k.k1 _ _ i n, k.free i n, RepL.mono k ds vs r⟩
  | .seq ds, _, h => by
    unfold Rep at h ⊢
    obtain ⟨a, vs, e, i, r⟩ := h
    exact ⟨a, vs, e, i.mono k, RepL.mono k ds vs r⟩
  | .ins C fs, _, h => by
    unfold Rep at h ⊢
    obtain ⟨a, dx, fv, e, i, n, r⟩ := h
    exact ⟨a, dx, fv, e, k.k1 _ _ i n, k.free i n, RepF.mono k fs fv r⟩
  | .adr _, _, h => by unfold Rep at h ⊢; exact h
theorem RepL.mono (k : Kp H μ H' μ') : ∀ (ds : List D) (vs : List V), RepL K H μ ds vs → RepL K H' μ' ds vs
  | [], _, h => by unfold RepL at h ⊢; exact h
  | d :: ds, _, h => by
    unfold RepL at h ⊢
    obtain ⟨v, r, e, h1, h2⟩ := h
    exact ⟨v, r, e, Rep.mono k d v h1, RepL.mono k ds r h2⟩
theorem RepF.mono (k : Kp H μ H' μ') : ∀ (fs : List (Str × D)) (fv : List (Str × V)), RepF K H μ fs fv → RepF K H' μ' fs fv
  | [], _, h => by unfold RepF at h ⊢; exact h
  | (x, d) :: fs, _, h => by
    unfold RepF at h ⊢
    obtain ⟨v, r, e, h1, h2⟩ := h
    exact ⟨v, r, e, Rep.mono k d v h1, RepF.mono k fs r h2⟩
end
theorem RepK.mono {κ : Type} (k : Kp H μ H' μ') : ∀ (fs : List (κ × D)) (fv : List (κ × V)), RepK K H μ fs fv → RepK K H' μ' fs fv
  | [], _, h => by unfold RepK at h ⊢; exact h
  | (x, d) :: fs, _, h => by
    unfold RepK at h ⊢
    obtain ⟨v, r, e, h1, h2⟩ := h
    exact ⟨v, r, e, Rep.mono k d v h1, RepK.mono k fs r h2⟩
theorem RepS.mono (k : Kp H μ H' μ') : ∀ (δ : DS) (σ : L2.St), RepS K H μ δ σ → RepS K H' μ' δ σ
  | [], _, h => by unfold RepS at h ⊢; exact h
  | none :: δ, _, h => by
    unfold RepS at h ⊢
    obtain ⟨o, r, e, h2⟩ := h
    exact ⟨o, r, e, RepS.mono k δ r h2⟩
  | some d :: δ, _, h => by
    unfold RepS at h ⊢
    obtain ⟨v, r, e, h1, h2⟩ := h
    exact ⟨v, r, e, h1.mono k, RepS.mono k δ r h2⟩
end
section
variable {K : PySem.W.Frag} {H H' : Hp} {μ μ' : Mu}
theorem RepL.length : ∀ {ds : List D} {vs : List V}, RepL K H μ ds vs → vs.length = ds.length
  | [], _, h => by
    unfold RepL at h
    rw [h] <;> rfl
  | d :: ds, _, h => by
    unfold RepL at h
    obtain ⟨v, r, rfl, _, h2⟩ := h
    show r.length + 1 = ds.length + 1
    rw [RepL.length h2]
theorem RepL.at_ : ∀ {ds : List D} {vs : List V} {i : Nat} {d : D}, RepL K H μ ds vs → ds[i]? = some d → ∃ v, vs[i]? = some v ∧ Rep K H μ d v
  | [], _, _, _, h, e => by simp at e
  | d :: ds, _, 0, x, h, e => by
    unfold RepL at h
    obtain ⟨v, r, rfl, h1, _⟩ := h
    have e' : d = x := by simpa using e
    subst e'
    exact ⟨v, rfl, h1⟩
  | d :: ds, _, i + 1, x, h, e => by
    unfold RepL at h
    obtain ⟨v, r, rfl, _, h2⟩ := h
    obtain ⟨u, e1, h3⟩ := RepL.at_ (i := i) h2 (by simpa using e)
    exact ⟨u, by simpa using e1, h3⟩
theorem RepL.atV : ∀ {ds : List D} {vs : List V} {i : Nat} {v : V}, RepL K H μ ds vs → vs[i]? = some v → ∃ d, ds[i]? = some d ∧ Rep K H μ d v
  | [], _, _, _, h, e => by
    unfold RepL at h
    rw [h] at e
    simp at e
  | d :: ds, _, 0, x, h, e => by
    unfold RepL at h
    obtain ⟨v, r, rfl, h1, _⟩ := h
    have e' : v = x := by simpa using e
    subst e'
    exact ⟨d, rfl, h1⟩
  | d :: ds, _, i + 1, x, h, e => by
    unfold RepL at h
    obtain ⟨v, r, rfl, _, h2⟩ := h
    obtain ⟨u, e1, h3⟩ := RepL.atV (i := i) h2 (by simpa using e)
    exact ⟨u, by simpa using e1, h3⟩
theorem RepL.nil : RepL K H μ [] [] := by unfold RepL; rfl
theorem RepL.cons {d : D} {v : V} {ds : List D} {vs : List V} (h : Rep K H μ d v) (h2 : RepL K H μ ds vs) : RepL K H μ (d :: ds) (v :: vs) := by
  unfold RepL; exact ⟨v, vs, rfl, h, h2⟩
theorem RepL.append : ∀ {ds es : List D} {vs us : List V}, RepL K H μ ds vs → RepL K H μ es us → RepL K H μ (ds ++ es) (vs ++ us)
  | [], _, _, _, h, h' => by
    unfold RepL at h
    rw [h]
    exact h'
  | d :: ds, _, _, _, h, h' => by
    unfold RepL at h
    obtain ⟨v, r, rfl, h1, h2⟩ := h
    exact RepL.cons h1 (RepL.append h2 h')
theorem RepL.take : ∀ {ds : List D} {vs : List V} (n : Nat), RepL K H μ ds vs → RepL K H μ (ds.take n) (vs.take n)
  | _, _, 0, _ => by simpa using RepL.nil
  | [], _, n + 1, h => by
    unfold RepL at h
    rw [h]
    simpa using RepL.nil
  | d :: ds, _, n + 1, h => by
    unfold RepL at h
    obtain ⟨v, r, rfl, h1, h2⟩ := h
    simpa using RepL.cons h1 (RepL.take n h2)
theorem RepL.drop : ∀ {ds : List D} {vs : List V} (n : Nat), RepL K H μ ds vs → RepL K H μ (ds.drop n) (vs.drop n)
  | _, _, 0, h => by simpa using h
  | [], _, n + 1, h => by
    unfold RepL at h
    rw [h]
    simpa using RepL.nil
  | d :: ds, _, n + 1, h => by
    unfold RepL at h
    obtain ⟨v, r, rfl, h1, h2⟩ := h
    simpa using RepL.drop n h2
theorem RepL.set : ∀ {ds : List D} {vs : List V} {d : D} {v : V} (i : Nat), RepL K H μ ds vs → Rep K H μ d v → RepL K H μ (ds.set i d) (vs.set i v)
  | [], _, _, _, _, h, _ => by
    unfold RepL at h
    rw [h]
    simpa using RepL.nil
  | e :: ds, _, d, v, 0, h, h' => by
    unfold RepL at h
    obtain ⟨u, r, rfl, h1, h2⟩ := h
    simpa using RepL.cons h' h2
  | e :: ds, _, d, v, i + 1, h, h' => by
    unfold RepL at h
    obtain ⟨u, r, rfl, h1, h2⟩ := h
    simpa using RepL.cons h1 (RepL.set i h2 h')
theorem RepL.erase : ∀ {ds : List D} {vs : List V} (i : Nat), RepL K H μ ds vs → RepL K H μ (ds.eraseIdx i) (vs.eraseIdx i)
  | [], _, _, h => by
    unfold RepL at h
    rw [h]
    simpa using RepL.nil
  | e :: ds, _, 0, h => by
    unfold RepL at h
    obtain ⟨u, r, rfl, h1, h2⟩ := h
    simpa using h2
  | e :: ds, _, i + 1, h => by
    unfold RepL at h
    obtain ⟨u, r, rfl, h1, h2⟩ := h
    simpa using RepL.cons h1 (RepL.erase i h2)
theorem RepL.ints : ∀ {ns : List Int} {vs : List V}, RepL K H μ (ns.map D.int) vs → vs = ns.map V.int
  | [], _, h => by unfold RepL at h; exact h
  | n :: ns, _, h => by
    unfold RepL at h
    obtain ⟨v, r, rfl, h1, h2⟩ := h
    unfold Rep at h1
    rw [h1, RepL.ints h2]
    rfl
theorem RepL.bools : ∀ {ns : List Bool} {vs : List V}, RepL K H μ (ns.map D.bl) vs → vs = ns.map V.bl
  | [], _, h => by unfold RepL at h; exact h
  | n :: ns, _, h => by
    unfold RepL at h
    obtain ⟨v, r, rfl, h1, h2⟩ := h
    unfold Rep at h1
    rw [h1, RepL.bools h2]
    rfl
theorem RepL.strs : ∀ {ns : List Str} {vs : List V}, RepL K H μ (ns.map D.str) vs → vs = ns.map V.str
  | [], _, h => by unfold RepL at h; exact h
  | n :: ns, _, h => by
    unfold RepL at h
    obtain ⟨v, r, rfl, h1, h2⟩ := h
    unfold Rep at h1
    rw [h1, RepL.strs h2]
    rfl
theorem RepL.of_ints : ∀ (ns : List Int), RepL K H μ (ns.map D.int) (ns.map V.int)
  | [] => RepL.nil
  | n :: ns => RepL.cons (by unfold Rep; rfl) (RepL.of_ints ns)
theorem RepL.of_strs : ∀ (ns : List Str), RepL K H μ (ns.map D.str) (ns.map V.str)
  | [] => RepL.nil
  | n :: ns => RepL.cons (by unfold Rep; rfl) (RepL.of_strs ns)
/-! ### slots -/
theorem RepS.get : ∀ {δ : DS} {σ : L2.St} {i : Nat} {d : D}, RepS K H μ δ σ → δ[i]? = some (some d) → ∃ v, σ[i]? = some (some v) ∧ Rep K H μ d v
  | [], _, _, _, h, e => by simp at e
  | none :: δ, _, 0, x, h, e => by simp at e
  | some y :: δ, _, 0, x, h, e => by
    unfold RepS at h
    obtain ⟨v, r, rfl, h1, _⟩ := h
    have e' : y = x := by simpa using e
    subst e'
    exact ⟨v, rfl, h1⟩
  | none :: δ, _, i + 1, x, h, e => by
    unfold RepS at h
    obtain ⟨v, r, rfl, h2⟩ := h
    obtain ⟨u, e1, h3⟩ := RepS.get (i := i) h2 (by simpa using e)
    exact ⟨u, by simpa using e1, h3⟩
  | some y :: δ, _, i + 1, x, h, e => by
    unfold RepS at h
    obtain ⟨v, r, rfl, _, h2⟩ := h
    obtain ⟨u, e1, h3⟩ := RepS.get (i := i) h2 (by simpa using e)
    exact ⟨u, by simpa using e1, h3⟩
theorem RepS.set : ∀ {δ : DS} {σ : L2.St} {d : D} {v : V} (i : Nat), RepS K H μ δ σ → Rep K H μ d v → RepS K H μ (δ.set i (some d)) (σ.set i (some v))
  | [], _, _, _, _, h, _ => by
    unfold RepS at h
    rw [h]
    simp [RepS]
  | none :: δ, _, d, v, 0, h, h' => by
    unfold RepS at h
    obtain ⟨o, r, rfl, h2⟩ := h
    show RepS K H μ (some d :: δ) (some v :: r)
    unfold RepS
    exact ⟨v, r, rfl, h', h2⟩
  | some y :: δ, _, d, v, 0, h, h' => by
    unfold RepS at h
    obtain ⟨o, r, rfl, _, h2⟩ := h
    show RepS K H μ (some d :: δ) (some v :: r)
    unfold RepS
    exact ⟨v, r, rfl, h', h2⟩
  | none :: δ, _, d, v, i + 1, h, h' => by
    unfold RepS at h
    obtain ⟨o, r, rfl, h2⟩ := h
    show RepS K H μ (none :: δ.set i (some d)) (o :: r.set i (some v))
    unfold RepS
    exact ⟨o, _, rfl, RepS.set i h2 h'⟩
  | some y :: δ, _, d, v, i + 1, h, h' => by
    unfold RepS at h
    obtain ⟨o, r, rfl, h1, h2⟩ := h
    show RepS K H μ (some y :: δ.set i (some d)) (some o :: r.set i (some v))
    unfold RepS
    exact ⟨o, _, rfl, h1, RepS.set i h2 h'⟩
theorem RepS.unset : ∀ {δ : DS} {σ : L2.St} (i : Nat), RepS K H μ δ σ → RepS K H μ (δ.set i none) (σ.set i none)
  | [], _, _, h => by
    unfold RepS at h
    rw [h]
    simp [RepS]
  | none :: δ, _, 0, h => by
    unfold RepS at h
    obtain ⟨o, r, rfl, h2⟩ := h
    show RepS K H μ (none :: δ) (none :: r)
    unfold RepS
    exact ⟨none, r, rfl, h2⟩
  | some y :: δ, _, 0, h => by
    unfold RepS at h
    obtain ⟨o, r, rfl, _, h2⟩ := h
    show RepS K H μ (none :: δ) (none :: r)
    unfold RepS
    exact ⟨none, r, rfl, h2⟩
  | none :: δ, _, i + 1, h => by
    unfold RepS at h
    obtain ⟨o, r, rfl, h2⟩ := h
    show RepS K H μ (none :: δ.set i none) (o :: r.set i none)
    unfold RepS
    exact ⟨o, _, rfl, RepS.unset i h2⟩
  | some y :: δ, _, i + 1, h => by
    unfold RepS at h
    obtain ⟨o, r, rfl, h1, h2⟩ := h
    show RepS K H μ (some y :: δ.set i none) (some o :: r.set i none)
    unfold RepS
    exact ⟨o, _, rfl, h1, RepS.unset i h2⟩
/-- the slots of a block's own names forgotten -/
def wiped (δ : DS) : List Nat → DS
  | [] => δ
  | v :: vs => (wiped δ vs).set v none
theorem RepS.wipe {δ : DS} {σ : L2.St} (h : RepS K H μ δ σ) : ∀ vs : List Nat, RepS K H μ (wiped δ vs) (L2.wipe σ vs)
  | [] => h
  | v :: vs => (RepS.wipe h vs).unset v
/-- a def's slots at its start -/
def begin_ (N : List Str) (ds : List D) : DS := ds.map some ++ List.replicate (N.length - ds.length) none
end
end DL

set_option Elab.async false
set_option linter.all false
set_option maxRecDepth 100000
namespace DL
open PySem PySem.Spec PyProof.Rows L2
/-! ### readings over data -/
abbrev KD := D → Mu → Prop
abbrev GE := DS → Mu → KD → Prop
abbrev GT := DS → Mu → (Bool → Mu → Prop) → Prop
abbrev GA := DS → Mu → (List D → Mu → Prop) → Prop
structure DEnds where
  nx : DS → Mu → Prop
  rt : KD
  bk : DS → Mu → Prop := fun _ _ => False
  ct : DS → Mu → Prop := fun _ _ => False
abbrev GS := DEnds → DS → Mu → Prop
/-- what must be shown of a value's continuation -/
def Fw (K : PySem.W.Frag) (H : Hp) (μ : Mu) (R : KD) (Q : VK) : Prop := ∀ v d H' μ', Kp H μ H' μ' → RM K H' μ' → Rep K H' μ' d v → R d μ' → Q v H'
theorem Fw.re {K : PySem.W.Frag} {H H1 : Hp} {μ μ1 : Mu} {R : KD} {Q : VK} (k : Kp H μ H1 μ1) (f : Fw K H μ R Q) : Fw K H1 μ1 R Q := fun v d H' μ' k' => f v d H' μ' (k.trans k')
def SimE (K : PySem.W.Frag) (t : TE) (g : GE) : Prop := ∀ σ H δ μ (Q : VK) (R : KD), RM K H μ → RepS K H μ δ σ → g δ μ R → Fw K H μ R Q → t σ H Q
def SimT (K : PySem.W.Frag) (t : TT) (g : GT) : Prop := ∀ σ H δ μ (Q : Bool → Hp → Prop) (R : Bool → Mu → Prop), RM K H μ → RepS K H μ δ σ → g δ μ R →
  (∀ b H' μ', Kp H μ H' μ' → RM K H' μ' → R b μ' → Q b H') → t σ H Q
def SimA (K : PySem.W.Frag) (t : TA) (g : GA) : Prop := ∀ σ H δ μ (Q : List V → Hp → Prop) (R : List D → Mu → Prop), RM K H μ → RepS K H μ δ σ → g δ μ R →
  (∀ vs ds H' μ', Kp H μ H' μ' → RM K H' μ' → RepL K H' μ' ds vs → R ds μ' → Q vs H') → t σ H Q
structure EOk (K : PySem.W.Frag) (H0 : Hp) (μ0 : Mu) (E : Ends) (F : DEnds) : Prop where
  nx : ∀ σ H δ μ, Kp H0 μ0 H μ → RM K H μ → RepS K H μ δ σ → F.nx δ μ → E.nx σ H
  rt : Fw K H0 μ0 F.rt E.rt
  bk : ∀ σ H δ μ, Kp H0 μ0 H μ → RM K H μ → RepS K H μ δ σ → F.bk δ μ → E.bk σ H
  ct : ∀ σ H δ μ, Kp H0 μ0 H μ → RM K H μ → RepS K H μ δ σ → F.ct δ μ → E.ct σ H
theorem EOk.re {K : PySem.W.Frag} {H H1 : Hp} {μ μ1 : Mu} {E : Ends} {F : DEnds} (k : Kp H μ H1 μ1) (e : EOk K H μ E F) : EOk K H1 μ1 E F :=
  ⟨fun σ H δ μ k' => e.nx σ H δ μ (k.trans k'), e.rt.re k, fun σ H δ μ k' => e.bk σ H δ μ (k.trans k'), fun σ H δ μ k' => e.ct σ H δ μ (k.trans k')⟩
def SimS (K : PySem.W.Frag) (t : TS) (g : GS) : Prop := ∀ σ H δ μ (E : Ends) (F : DEnds), RM K H μ → RepS K H μ δ σ → EOk K H μ E F → g F δ μ → t E σ H
structure DE (X : Cx) (e : Expr) (g : GE) : Prop where
  ex : ∃ t, PE X e t ∧ SimE X.K t g
structure DT (X : Cx) (e : Expr) (g : GT) : Prop where
  ex : ∃ t, PT X e t ∧ SimT X.K t g
structure DW (X : Cx) (e : Expr) (g : GT) : Prop where
  ex : ∃ t, PW X e t ∧ SimT X.K t g
structure DA (X : Cx) (es : List Expr) (g : GA) : Prop where
  ex : ∃ t, PA X es t ∧ SimA X.K t g
structure DSt (X : Cx) (st : Stmt) (g : GS) : Prop where
  ex : ∃ t, PS X st t ∧ SimS X.K t g
structure DSs (X : Cx) (st : List Stmt) (g : GS) : Prop where
  ex : ∃ t, PSs X st t ∧ SimS X.K t g
theorem DW.dt {X : Cx} {e : Expr} {g : GT} (h : DW X e g) : DT X e g := let ⟨t, a, b⟩ := h.ex; ⟨t, a.pt, b⟩

/-! ### by values -/
abbrev G1 := D → Mu → KD → Prop
abbrev G2 := D → D → Mu → KD → Prop
abbrev GC := List D → Mu → KD → Prop
def SimU (K : PySem.W.Frag) (r : V → Hp → VK → Prop) (g : G1) : Prop := ∀ x dx H μ (Q : VK) (R : KD), RM K H μ → Rep K H μ dx x → g dx μ R → Fw K H μ R Q → r x H Q
def SimO (K : PySem.W.Frag) (r : R2) (g : G2) : Prop := ∀ x y dx dy H μ (Q : VK) (R : KD), RM K H μ → Rep K H μ dx x → Rep K H μ dy y → g dx dy μ R → Fw K H μ R Q → r x y H Q
def SimC (K : PySem.W.Frag) (r : List V → Hp → VK → Prop) (g : GC) : Prop := ∀ vs ds H μ (Q : VK) (R : KD), RM K H μ → RepL K H μ ds vs → g ds μ R → Fw K H μ R Q → r vs H Q

/-! ### expressions -/
def gVar (i : Nat) : GE := fun δ μ R => match δ.getD i none with
  | some d => R d μ
  | none => False
def gC (d : D) : GE := fun _ μ R => R d μ
section
variable {X : Cx}
theorem dv (i : Nat) {x : Str} {pos : Pos} (hN : X.N[i]? = some x := by rfl) (hv : Vis X.env.scope x := by first | exact Or.inl rfl | exact Or.inr (Or.inl rfl) | exact Or.inr (Or.inr rfl)) (hd : (x == ("__debug__" : Str)) = false := by decide)
    (hcd : (x == ("__classdict__" : Str)) = false := by decide) : DE X (.Name x pos) (gVar i) := by
  refine ⟨tVar i, pe_var hN hv hd hcd, fun σ H δ μ Q R rm rs g f => ?_⟩
  unfold gVar at g
  rw [List.getD_eq_getElem?_getD] at g
  cases e : δ[i]? with
  | none => rw [e] at g; exact False.elim g
  | some o =>
    cases o with
    | none => rw [e] at g; exact False.elim g
    | some d =>
      rw [e] at g
      obtain ⟨v, e2, rv⟩ := rs.get e
      exact ⟨v, e2, f v d H μ (Kp.refl _ _) rm rv g⟩
theorem de_c {e : Expr} {v : V} {d : D} (h : PE X e (tC v)) (r : ∀ H μ, Rep X.K H μ d v) : DE X e (gC d) := ⟨tC v, h, fun σ H δ μ Q R rm rs g f => f v d H μ (Kp.refl _ _) rm (r H μ) g⟩
theorem de_int {i j pos} : DE X (.Constant (.int i) j pos) (gC (.int i)) := de_c pe_int fun _ _ => by unfold Rep; rfl
theorem de_bl {i j pos} : DE X (.Constant (.bool i) j pos) (gC (.bl i)) := de_c pe_bl fun _ _ => by unfold Rep; rfl
theorem de_non {j pos} : DE X (.Constant .none j pos) (gC .non) := de_c pe_non fun _ _ => by unfold Rep; rfl
theorem de_str {x j pos} : DE X (.Constant (.str x) j pos) (gC (.str x)) := de_c pe_str fun _ _ => by unfold Rep; rfl
theorem de_globI {x : Str} {i : Int} {t : Tok} {pos : Pos} (hg : Gl X x) (hm : X.mg x = some (.int i t)) (hd : (x == ("__debug__" : Str)) = false := by decide) : DE X (.Name x pos) (gC (.int i)) :=
  de_c (pe_glob (v := .int i) hg hm ⟨t, rfl⟩ hd) fun _ _ => by unfold Rep; rfl
theorem de_globS {x : Str} {i : Str} {t : Tok} {pos : Pos} (hg : Gl X x) (hm : X.mg x = some (.str i t)) (hd : (x == ("__debug__" : Str)) = false := by decide) : DE X (.Name x pos) (gC (.str i)) :=
  de_c (pe_glob (v := .str i) hg hm ⟨t, rfl⟩ hd) fun _ _ => by unfold Rep; rfl
def gOp (r : G2) (ga gb : GE) : GE := fun δ μ R => ga δ μ fun x μ1 => gb δ μ1 fun y μ2 => r x y μ2 R
theorem sim_op {K : PySem.W.Frag} {r : R2} {ta tb : TE} {g : G2} {ga gb : GE} (h : SimO K r g) (ha : SimE K ta ga) (hb : SimE K tb gb) : SimE K (tOp r ta tb) (gOp g ga gb) := by
  intro σ H δ μ Q R rm rs q f
  refine ha σ H δ μ _ _ rm rs q fun v d H1 μ1 k1 rm1 r1 q1 => ?_
  refine hb σ H1 δ μ1 _ _ rm1 (rs.mono k1) q1 fun v2 d2 H2 μ2 k2 rm2 r2 q2 => ?_
  exact h v v2 d d2 H2 μ2 Q R rm2 (r1.mono k2) r2 q2 (f.re (k1.trans k2))
theorem de_op {op : Operator} {a b : Expr} {ga gb : GE} {r : R2} {g : G2} {pos : Pos} (ho : OpR X (binaryOp op) r) (h : SimO X.K r g) (ha : DE X a ga) (hb : DE X b gb) : DE X (.BinOp a op b pos) (gOp g ga gb) :=
  let ⟨_, a1, a2⟩ := ha.ex; let ⟨_, b1, b2⟩ := hb.ex; ⟨_, pe_op ho a1 b1, sim_op h a2 b2⟩
theorem de_cmp {op : CmpOp} {a b : Expr} {ga gb : GE} {r : R2} {g : G2} {pos : Pos} (ho : OpR X (compareOp op) r) (h : SimO X.K r g) (ha : DE X a ga) (hb : DE X b gb) (hm : behindInMarks op b = false) : DE X (.Compare a [op] [b] pos) (gOp g ga gb) :=
  let ⟨_, a1, a2⟩ := ha.ex; let ⟨_, b1, b2⟩ := hb.ex; ⟨_, pe_cmpR ho a1 b1 hm, sim_op h a2 b2⟩
theorem de_ix {a b : Expr} {ga gb : GE} {r : R2} {g : G2} {pos : Pos} (ho : IxR X r) (h : SimO X.K r g) (ha : DE X a ga) (hb : DE X b gb) (hs : PlainIx b) : DE X (.Subscript a b pos) (gOp g ga gb) :=
  let ⟨_, a1, a2⟩ := ha.ex; let ⟨_, b1, b2⟩ := hb.ex; ⟨_, pe_ix ho a1 b1 hs, sim_op h a2 b2⟩
def gUn (r : G1) (ga : GE) : GE := fun δ μ R => ga δ μ fun x μ1 => r x μ1 R
theorem sim_un {K : PySem.W.Frag} {r : V → Hp → VK → Prop} {ta : TE} {g : G1} {ga : GE} (h : SimU K r g) (ha : SimE K ta ga) : SimE K (tUn r ta) (gUn g ga) := by
  intro σ H δ μ Q R rm rs q f
  exact ha σ H δ μ _ _ rm rs q fun v d H1 μ1 k1 rm1 r1 q1 => h v d H1 μ1 Q R rm1 r1 q1 (f.re k1)
theorem de_un {op : UnaryOp} {a : Expr} {ga : GE} {r : V → Hp → VK → Prop} {g : G1} {pos : Pos} (ho : UnR X (unaryOp op) r) (h : SimU X.K r g) (ha : DE X a ga) : DE X (.UnaryOp op a pos) (gUn g ga) :=
  let ⟨_, a1, a2⟩ := ha.ex; ⟨_, pe_un ho a1, sim_un h a2⟩
/-- a value that is a bool, as a test -/
def bK (R : Bool → Mu → Prop) : KD := fun d μ => match d with
  | .bl b => R b μ
  | _ => False
def gB (g : GE) : GT := fun δ μ R => g δ μ (bK R)
theorem sim_b {K : PySem.W.Frag} {t : TE} {g : GE} (h : SimE K t g) : SimT K (fun σ H Q => t σ H fun x H1 => ∃ c, x = .bl c ∧ Q c H1) (gB g) := by
  intro σ H δ μ Q R rm rs q f
  refine h σ H δ μ _ _ rm rs q fun v d H1 μ1 k1 rm1 r1 q1 => ?_
  cases d <;> try exact False.elim q1
  rename_i b
  unfold Rep at r1
  exact ⟨b, r1, f b H1 μ1 k1 rm1 q1⟩
theorem dt_cmp {op : CmpOp} {a b : Expr} {ga gb : GE} {r : R2} {g : G2} {pos : Pos} (ho : OpR X (compareOp op) r) (h : SimO X.K r g) (ha : DE X a ga) (hb : DE X b gb) (hm : behindInMarks op b = false) : DT X (.Compare a [op] [b] pos) (gB (gOp g ga gb)) :=
  let ⟨_, a1, a2⟩ := ha.ex; let ⟨_, b1, b2⟩ := hb.ex; ⟨_, pt_cmpR ho a1 b1 hm, sim_b (sim_op h a2 b2)⟩
theorem dt_val {e : Expr} {g : GE} (h : DE X e g) (he : ∀ whole, isTrue e X.env whole = (do let v ← whole; standAt e.pos; holding [v] (truthy v)) := by intro _; rfl) : DT X e (gB g) :=
  let ⟨_, a1, a2⟩ := h.ex; ⟨_, pt_val a1 he, sim_b a2⟩
def gAnd (t u : GT) : GT := fun δ μ R => t δ μ fun c μ1 => if c = true then u δ μ1 R else R false μ1
def gOr (t u : GT) : GT := fun δ μ R => t δ μ fun c μ1 => if c = true then R true μ1 else u δ μ1 R
def gNot (t : GT) : GT := fun δ μ R => t δ μ fun c μ1 => R (!c) μ1
variable {a b : Expr} {rest : List Expr} {pos : Pos} {gt gu : GT} {ga gb : GE}
theorem dw_and1 (h : DT X a gt) : DW X (.BoolOp .And [a] pos) gt := let ⟨_, a1, a2⟩ := h.ex; ⟨_, pw_and1 a1, a2⟩
theorem dw_or1 (h : DT X a gt) : DW X (.BoolOp .Or [a] pos) gt := let ⟨_, a1, a2⟩ := h.ex; ⟨_, pw_or1 a1, a2⟩
theorem dw_and (h : DT X a gt) (h2 : DW X (.BoolOp .And (b :: rest) pos) gu) : DW X (.BoolOp .And (a :: b :: rest) pos) (gAnd gt gu) := by
  obtain ⟨t, a1, a2⟩ := h.ex
  obtain ⟨u, b1, b2⟩ := h2.ex
  refine ⟨_, pw_and a1 b1, fun σ H δ μ Q R rm rs q f => ?_⟩
  refine a2 σ H δ μ _ _ rm rs q fun c H1 μ1 k1 rm1 q1 => ?_
  cases c with
  | true => exact b2 σ H1 δ μ1 Q R rm1 (rs.mono k1) q1 fun b H2 μ2 k2 => f b H2 μ2 (k1.trans k2)
  | false => exact f false H1 μ1 k1 rm1 q1
theorem dw_or (h : DT X a gt) (h2 : DW X (.BoolOp .Or (b :: rest) pos) gu) : DW X (.BoolOp .Or (a :: b :: rest) pos) (gOr gt gu) := by
  obtain ⟨t, a1, a2⟩ := h.ex
  obtain ⟨u, b1, b2⟩ := h2.ex
  refine ⟨_, pw_or a1 b1, fun σ H δ μ Q R rm rs q f => ?_⟩
  refine a2 σ H δ μ _ _ rm rs q fun c H1 μ1 k1 rm1 q1 => ?_
  cases c with
  | false => exact b2 σ H1 δ μ1 Q R rm1 (rs.mono k1) q1 fun b H2 μ2 k2 => f b H2 μ2 (k1.trans k2)
  | true => exact f true H1 μ1 k1 rm1 q1
theorem dt_not (h : DT X a gt) : DT X (.UnaryOp .Not a pos) (gNot gt) := by
  obtain ⟨t, a1, a2⟩ := h.ex
  exact ⟨_, pt_not a1, fun σ H δ μ Q R rm rs q f => a2 σ H δ μ _ _ rm rs q fun c H1 μ1 k1 rm1 q1 => f (!c) H1 μ1 k1 rm1 q1⟩
/-- and, or, not as values (bools) -/
def gAndV (t u : GE) : GE := fun δ μ R => t δ μ (bK fun c μ1 => if c = true then u δ μ1 R else R (.bl false) μ1)
def gOrV (t u : GE) : GE := fun δ μ R => t δ μ (bK fun c μ1 => if c = true then R (.bl true) μ1 else u δ μ1 R)
def gNotV (t : GE) : GE := fun δ μ R => t δ μ (bK fun c μ1 => R (.bl (!c)) μ1)
theorem de_one {op} (h : DE X a ga) : DE X (.BoolOp op [a] pos) ga := let ⟨_, a1, a2⟩ := h.ex; ⟨_, pe_one a1, a2⟩
theorem de_and (h : DE X a ga) (h2 : DE X (.BoolOp .And (b :: rest) pos) gb) : DE X (.BoolOp .And (a :: b :: rest) pos) (gAndV ga gb) := by
  obtain ⟨t, a1, a2⟩ := h.ex
  obtain ⟨u, b1, b2⟩ := h2.ex
  refine ⟨_, pe_and a1 b1, fun σ H δ μ Q R rm rs q f => ?_⟩
  refine a2 σ H δ μ _ _ rm rs q fun v d H1 μ1 k1 rm1 r1 q1 => ?_
  cases d <;> try exact False.elim q1
  rename_i c
  unfold Rep at r1
  refine ⟨c, r1, ?_⟩
  cases c with
  | true => exact b2 σ H1 δ μ1 Q R rm1 (rs.mono k1) q1 (f.re k1)
  | false => exact f (.bl false) (.bl false) H1 μ1 k1 rm1 (by unfold Rep; rfl) q1
theorem de_or (h : DE X a ga) (h2 : DE X (.BoolOp .Or (b :: rest) pos) gb) : DE X (.BoolOp .Or (a :: b :: rest) pos) (gOrV ga gb) := by
  obtain ⟨t, a1, a2⟩ := h.ex
  obtain ⟨u, b1, b2⟩ := h2.ex
  refine ⟨_, pe_or a1 b1, fun σ H δ μ Q R rm rs q f => ?_⟩
  refine a2 σ H δ μ _ _ rm rs q fun v d H1 μ1 k1 rm1 r1 q1 => ?_
  cases d <;> try exact False.elim q1
  rename_i c
  unfold Rep at r1
  refine ⟨c, r1, ?_⟩
  cases c with
  | false => exact b2 σ H1 δ μ1 Q R rm1 (rs.mono k1) q1 (f.re k1)
  | true => exact f (.bl true) (.bl true) H1 μ1 k1 rm1 (by unfold Rep; rfl) q1
theorem de_not (h : DE X a ga) : DE X (.UnaryOp .Not a pos) (gNotV ga) := by
  obtain ⟨t, a1, a2⟩ := h.ex
  refine ⟨_, pe_not a1, fun σ H δ μ Q R rm rs q f => ?_⟩
  refine a2 σ H δ μ _ _ rm rs q fun v d H1 μ1 k1 rm1 r1 q1 => ?_
  cases d <;> try exact False.elim q1
  rename_i c
  unfold Rep at r1
  exact ⟨c, r1, f (.bl (!c)) (.bl (!c)) H1 μ1 k1 rm1 (by unfold Rep; rfl) q1⟩
def gIf (t : GT) (ga gb : GE) : GE := fun δ μ R => t δ μ fun c μ1 => if c = true then ga δ μ1 R else gb δ μ1 R
theorem de_if {c : Expr} (h : DT X c gt) (ha : DE X a ga) (hb : DE X b gb) : DE X (.IfExp c a b pos) (gIf gt ga gb) := by
  obtain ⟨t, c1, c2⟩ := h.ex
  obtain ⟨u, a1, a2⟩ := ha.ex
  obtain ⟨w, b1, b2⟩ := hb.ex
  refine ⟨_, pe_ifExp c1 a1 b1, fun σ H δ μ Q R rm rs q f => ?_⟩
  refine c2 σ H δ μ _ _ rm rs q fun c H1 μ1 k1 rm1 q1 => ?_
  cases c with
  | true => exact a2 σ H1 δ μ1 Q R rm1 (rs.mono k1) q1 (f.re k1)
  | false => exact b2 σ H1 δ μ1 Q R rm1 (rs.mono k1) q1 (f.re k1)
/-- a op1 b op2 c -/
def gChain (r r' : G2) (ga gb gc : GE) : GE := fun δ μ R => ga δ μ fun x μ1 => gb δ μ1 fun y μ2 => r x y μ2 (bK fun k μ3 => if k = true then gc δ μ3 fun z μ4 => r' y z μ4 R else R (.bl false) μ3)
theorem de_chain {op op' : CmpOp} {c : Expr} {r r' : R2} {g g' : G2} {gc : GE} (ho : OpR X (compareOp op) r) (h : SimO X.K r g) (ho' : OpR X (compareOp op') r') (h' : SimO X.K r' g') (ha : DE X a ga) (hb : DE X b gb) (hc : DE X c gc)
    (hm : lastMarks [op, op'] [b, c] = false := by with_unfolding_all rfl) : DE X (.Compare a [op, op'] [b, c] pos) (gChain g g' ga gb gc) := by
  obtain ⟨t, a1, a2⟩ := ha.ex
  obtain ⟨u, b1, b2⟩ := hb.ex
  obtain ⟨w, c1, c2⟩ := hc.ex
  refine ⟨_, pe_chain ho ho' a1 b1 c1 hm, fun σ H δ μ Q R rm rs q f => ?_⟩
  refine a2 σ H δ μ _ _ rm rs q fun v d H1 μ1 k1 rm1 r1 q1 => ?_
  refine b2 σ H1 δ μ1 _ _ rm1 (rs.mono k1) q1 fun v2 d2 H2 μ2 k2 rm2 r2 q2 => ?_
  refine h v v2 d d2 H2 μ2 _ _ rm2 (r1.mono k2) r2 q2 fun v3 d3 H3 μ3 k3 rm3 r3 q3 => ?_
  cases d3 <;> try exact False.elim q3
  rename_i k
  unfold Rep at r3
  refine ⟨k, r3, ?_⟩
  cases k with
  | false => exact f (.bl false) (.bl false) H3 μ3 (k1.trans (k2.trans k3)) rm3 (by unfold Rep; rfl) q3
  | true => exact c2 σ H3 δ μ3 _ _ rm3 (rs.mono (k1.trans (k2.trans k3))) q3 fun v4 d4 H4 μ4 k4 rm4 r4 q4 => h' v2 v4 d2 d4 H4 μ4 Q R rm4 (r2.mono (k3.trans k4)) r4 q4 (f.re (k1.trans (k2.trans (k3.trans k4))))
/-! ### arguments, displays -/
def gNil : GA := fun _ μ R => R [] μ
def gCons (ga : GE) (gr : GA) : GA := fun δ μ R => ga δ μ fun x μ1 => gr δ μ1 fun xs μ2 => R (x :: xs) μ2
variable {e : Expr} {es : List Expr} {gr : GA}
theorem da_nil : DA X [] gNil := ⟨_, pa_nil, fun σ H δ μ Q R rm rs q f => f [] [] H μ (Kp.refl _ _) rm RepL.nil q⟩
theorem da_cons (ha : DE X e ga) (hr : DA X es gr) (hs : starEach (e :: es) X.env = (false, eval e X.env) :: starEach es X.env := by rfl) : DA X (e :: es) (gCons ga gr) := by
  obtain ⟨t, a1, a2⟩ := ha.ex
  obtain ⟨u, b1, b2⟩ := hr.ex
  refine ⟨_, pa_cons a1 b1 hs, fun σ H δ μ Q R rm rs q f => ?_⟩
  refine a2 σ H δ μ _ _ rm rs q fun v d H1 μ1 k1 rm1 r1 q1 => ?_
  exact b2 σ H1 δ μ1 _ _ rm1 (rs.mono k1) q1 fun vs ds H2 μ2 k2 rm2 r2 q2 => f (v :: vs) (d :: ds) H2 μ2 (k1.trans k2) rm2 (RepL.cons (r1.mono k2) r2) q2
def gTup (g : GA) : GE := fun δ μ R => g δ μ fun ds μ1 => ds.length ≤ sizeLine ∧ R (.tup ds) μ1
def gLst (g : GA) : GE := fun δ μ R => g δ μ fun ds μ1 => ds.length ≤ sizeLine ∧ R (.lst ds) μ1
/-- a list that will change -/
def gCell (g : GA) : GE := fun δ μ R => g δ μ fun ds μ1 => ds.length ≤ sizeLine ∧ ∀ a, μ1 a = none → R (.adr a) (put μ1 a (.lst ds))
theorem RM.new {K : PySem.W.Frag} {H H' : Hp} {μ : Mu} (rm : RM K H μ) (k : Kp H μ H' μ) (h : ∀ a o, μ a = some o → H' a = H a) : RM K H' μ := fun a o e => by
  have q := rm a o e
  cases o with
  | lst ds => obtain ⟨vs, h1, h2⟩ := q; exact ⟨vs, (h _ _ e).trans h1, h2.mono k _ _⟩
  | dct kvs => obtain ⟨vs, h1, h2⟩ := q; exact ⟨vs, (h _ _ e).trans h1, h2.mono k _ _⟩
  | dtt kvs => obtain ⟨vs, h1, h2⟩ := q; exact ⟨vs, (h _ _ e).trans h1, h2.mono k _ _⟩
  | lck kvs => obtain ⟨o, vs, h1, h2⟩ := q; exact ⟨o, vs, (h _ _ e).trans h1, h2.mono k _ _⟩
  | ftp ds => obtain ⟨o, vs, h1, d, h2⟩ := q; exact ⟨o, vs, (h _ _ e).trans h1, d, h2.mono k _ _⟩
  | ins C fs => obtain ⟨dx, vs, h1, h2⟩ := q; exact ⟨dx, vs, (h _ _ e).trans h1, h2.mono k _ _⟩
theorem RM.has {K : PySem.W.Frag} {H : Hp} {μ : Mu} (rm : RM K H μ) {a : Addr} {o : MO} (e : μ a = some o) : H a ≠ none := by
  have q := rm a o e
  cases o with
  | lst ds => obtain ⟨vs, h1, h2⟩ := q; rw [h1]; simp
  | dct kvs => obtain ⟨vs, h1, h2⟩ := q; rw [h1]; simp
  | dtt kvs => obtain ⟨vs, h1, h2⟩ := q; rw [h1]; simp
  | lck kvs => obtain ⟨o, vs, h1, h2⟩ := q; rw [h1]; simp
  | ftp ds => obtain ⟨o, vs, h1, _, _⟩ := q; rw [h1]; simp
  | ins C fs => obtain ⟨dx, vs, h1, h2⟩ := q; rw [h1]; simp
theorem RM.free {K : PySem.W.Frag} {H : Hp} {μ : Mu} (rm : RM K H μ) {a : Addr} (e : H a = none) : μ a = none := by
  cases q : μ a with
  | none => rfl
  | some o => exact absurd e (rm.has q)
theorem RM.laid {K : PySem.W.Frag} {H : Hp} {μ : Mu} {p : Addr} {o : HO} (rm : RM K H μ) (n : H p = none) : RM K (upd H p o) μ :=
  rm.new (Kp.new n) fun a u e => upd_ne (fun z => rm.has e (by rw [z]; exact n))
/-- the store with p's new content -/
theorem RM.put {K : PySem.W.Frag} {H H' : Hp} {μ : Mu} {p : Addr} {m : MO} (rm : RM K H μ) (k : Kp H μ H' (put μ p m)) (h : ∀ a o, a ≠ p → μ a = some o → H' a = H a) (hp : RepO K H' (put μ p m) m p) : RM K H' (put μ p m) := fun a o e => by
  by_cases ea : a = p
  · rw [ea, put_same] at e
    cases e
    rw [ea]; exact hp
  · rw [put_ne ea] at e
    have q := rm a o e
    cases o with
    | lst ds => obtain ⟨vs, h1, h2⟩ := q; exact ⟨vs, (h _ _ ea e).trans h1, h2.mono k _ _⟩
    | dct kvs => obtain ⟨vs, h1, h2⟩ := q; exact ⟨vs, (h _ _ ea e).trans h1, h2.mono k _ _⟩
    | dtt kvs => obtain ⟨vs, h1, h2⟩ := q; exact ⟨vs, (h _ _ ea e).trans h1, h2.mono k _ _⟩
    | lck kvs => obtain ⟨o, vs, h1, h2⟩ := q; exact ⟨o, vs, (h _ _ ea e).trans h1, h2.mono k _ _⟩
    | ftp ds => obtain ⟨o, vs, h1, d, h2⟩ := q; exact ⟨o, vs, (h _ _ ea e).trans h1, d, h2.mono k _ _⟩
    | ins C fs => obtain ⟨dx, vs, h1, h2⟩ := q; exact ⟨dx, vs, (h _ _ ea e).trans h1, h2.mono k _ _⟩
theorem RM.drop {K : PySem.W.Frag} {H : Hp} {μ : Mu} {p : Addr} (rm : RM K H μ) : RM K H (del μ p) := fun a o e => by
  by_cases ea : a = p
  · rw [ea, del_same] at e; cases e
  · rw [del_ne ea] at e
    have q := rm a o e
    cases o with
    | lst ds => obtain ⟨vs, h1, h2⟩ := q; exact ⟨vs, h1, h2.mono Kp.drop _ _⟩
    | dct kvs => obtain ⟨vs, h1, h2⟩ := q; exact ⟨vs, h1, h2.mono Kp.drop _ _⟩
    | dtt kvs => obtain ⟨vs, h1, h2⟩ := q; exact ⟨vs, h1, h2.mono Kp.drop _ _⟩
    | lck kvs => obtain ⟨o, vs, h1, h2⟩ := q; exact ⟨o, vs, h1, h2.mono Kp.drop _ _⟩
    | ftp ds => obtain ⟨o, vs, h1, d, h2⟩ := q; exact ⟨o, vs, h1, d, h2.mono Kp.drop _ _⟩
    | ins C fs => obtain ⟨dx, vs, h1, h2⟩ := q; exact ⟨dx, vs, h1, h2.mono Kp.drop _ _⟩
theorem de_tup {x1} (h : DA X es gr) : DE X (.Tuple es x1 pos) (gTup gr) := by
  obtain ⟨t, a1, a2⟩ := h.ex
  refine ⟨_, pe_tup a1, fun σ H δ μ Q R rm rs q f => ?_⟩
  refine a2 σ H δ μ _ _ rm rs q fun vs ds H1 μ1 k1 rm1 r1 q1 => ⟨by rw [r1.length]; exact q1.1, fun p n => ?_⟩
  refine f (.ref p) (.tup ds) _ μ1 (k1.trans (Kp.new n)) (rm1.laid n) ?_ q1.2
  unfold Rep
  exact ⟨p, vs, rfl, .inl ⟨upd_same, rm1.free n⟩, r1.mono (Kp.new n) _ _⟩
theorem de_lst (h : DA X es gr) : DE X (.List es pos) (gLst gr) := by
  obtain ⟨t, a1, a2⟩ := h.ex
  refine ⟨_, pe_lst a1, fun σ H δ μ Q R rm rs q f => ?_⟩
  refine a2 σ H δ μ _ _ rm rs q fun vs ds H1 μ1 k1 rm1 r1 q1 => ⟨by rw [r1.length]; exact q1.1, fun p n => ?_⟩
  refine f (.ref p) (.lst ds) _ μ1 (k1.trans (Kp.new n)) (rm1.laid n) ?_ q1.2
  unfold Rep
  exact ⟨p, vs, rfl, upd_same, rm1.free n, r1.mono (Kp.new n) _ _⟩
theorem RM.cell {K : PySem.W.Frag} {H : Hp} {μ : Mu} {p : Addr} {vs : List V} {ds : List D} (rm : RM K H μ) (n : H p = none) (r : RepL K H μ ds vs) : RM K (upd H p (.lst vs)) (DL.put μ p (.lst ds)) :=
  rm.put (Kp.cell n) (fun a o ea e => upd_ne ea) ⟨vs, upd_same, r.mono (Kp.cell n) _ _⟩
theorem de_cell (h : DA X es gr) : DE X (.List es pos) (gCell gr) := by
  obtain ⟨t, a1, a2⟩ := h.ex
  refine ⟨_, pe_lst a1, fun σ H δ μ Q R rm rs q f => ?_⟩
  refine a2 σ H δ μ _ _ rm rs q fun vs ds H1 μ1 k1 rm1 r1 q1 => ⟨by rw [r1.length]; exact q1.1, fun p n => ?_⟩
  exact f (.ref p) (.adr p) _ _ (k1.trans (Kp.cell n)) (rm1.cell n r1) (by unfold Rep; rfl) (q1.2 p (rm1.free n))
/-- a cell is from here on a list that nobody changes -/
def gFreeze (g : GE) : GE := fun δ μ R => g δ μ fun d μ1 => match d with
  | .adr a => ∃ ds, μ1 a = some (.lst ds) ∧ R (.lst ds) (del μ1 a)
  | _ => False
theorem sim_freeze {K : PySem.W.Frag} {t : TE} {g : GE} (h : SimE K t g) : SimE K t (gFreeze g) := by
  intro σ H δ μ Q R rm rs q f
  refine h σ H δ μ _ _ rm rs q fun v d H1 μ1 k1 rm1 r1 q1 => ?_
  cases d <;> try exact False.elim q1
  rename_i a
  obtain ⟨ds, e, q1⟩ := q1
  obtain ⟨vs, h1, h2⟩ := rm1 a _ e
  unfold Rep at r1
  refine f v (.lst ds) H1 (del μ1 a) (k1.trans Kp.drop) rm1.drop ?_ q1
  unfold Rep
  exact ⟨a, vs, r1, h1, del_same, h2.mono Kp.drop _ _⟩
theorem de_freeze (h : DE X e ga) : DE X e (gFreeze ga) := let ⟨_, a1, a2⟩ := h.ex; ⟨_, a1, sim_freeze a2⟩
end
end DL

set_option Elab.async false
set_option linter.all false
set_option maxRecDepth 100000
namespace DL
open PySem PySem.Spec PyProof.Rows L2
/-! ### the one reading of a data reading -/
def tOf (K : PySem.W.Frag) (g : GE) : TE := fun σ H Q => ∃ δ μ R, RM K H μ ∧ RepS K H μ δ σ ∧ g δ μ R ∧ Fw K H μ R Q
def tTOf (K : PySem.W.Frag) (g : GT) : TT := fun σ H Q => ∃ δ μ R, RM K H μ ∧ RepS K H μ δ σ ∧ g δ μ R ∧ ∀ b H' μ', Kp H μ H' μ' → RM K H' μ' → R b μ' → Q b H'
theorem sim_of {K : PySem.W.Frag} {g : GE} : SimE K (tOf K g) g := fun σ H δ μ Q R rm rs q f => ⟨δ, μ, R, rm, rs, q, f⟩
theorem simT_of {K : PySem.W.Frag} {g : GT} : SimT K (tTOf K g) g := fun σ H δ μ Q R rm rs q f => ⟨δ, μ, R, rm, rs, q, f⟩
theorem DE.pe {X : Cx} {e : Expr} {g : GE} (h : DE X e g) : PE X e (tOf X.K g) := by
  obtain ⟨t, a, b⟩ := h.ex
  refine ⟨fun pins s σ H Q I ⟨δ, μ, R, rm, rs, q, f⟩ => a.run pins s σ H Q I (b σ H δ μ Q R rm rs q f)⟩
structure DTs (X : Cx) (es : List Expr) (g : GT) : Prop where
  ex : ∃ t, PTs X es t ∧ SimT X.K t g
theorem DTs.pt {X : Cx} {e : List Expr} {g : GT} (h : DTs X e g) : PTs X e (tTOf X.K g) := by
  obtain ⟨t, a, b⟩ := h.ex
  refine ⟨fun pins s σ H Q I ⟨δ, μ, R, rm, rs, q, f⟩ => a.run pins s σ H Q I (b σ H δ μ Q R rm rs q f)⟩
def gYes : GT := fun _ μ R => R true μ
theorem dts_nil {X : Cx} : DTs X [] gYes := ⟨_, pts_nil, fun σ H δ μ Q R rm rs q f => f true H μ (Kp.refl _ _) rm q⟩
theorem dts_one {X : Cx} {c : Expr} {g : GT} (h : DT X c g) : DTs X [c] g := let ⟨_, a, b⟩ := h.ex; ⟨_, pts_one a, b⟩

/-! ### targets -/
abbrev GG := D → DS → (DS → Prop) → Prop
abbrev GGs := List D → DS → (DS → Prop) → Prop
/-- ow: the slots that it stores -/
def SimG (K : PySem.W.Frag) (t : TG) (g : GG) (ow : List Nat) : Prop := ∀ v d σ H δ μ (Q : L2.St → Hp → Prop) (R : DS → Prop), RM K H μ → RepS K H μ δ σ → Rep K H μ d v → g d δ R →
  (∀ σ' δ', RepS K H μ δ' σ' → R δ' → (∀ vs : List Nat, (∀ i ∈ ow, i ∈ vs) → L2.wipe σ' vs = L2.wipe σ vs) → Q σ' H) → t v σ H Q
def SimGs (K : PySem.W.Frag) (t : TGs) (g : GGs) (ow : List Nat) : Prop := ∀ vs ds σ H δ μ (Q : L2.St → Hp → Prop) (R : DS → Prop), RM K H μ → RepS K H μ δ σ → RepL K H μ ds vs → g ds δ R →
  (∀ σ' δ', RepS K H μ δ' σ' → R δ' → (∀ vs : List Nat, (∀ i ∈ ow, i ∈ vs) → L2.wipe σ' vs = L2.wipe σ vs) → Q σ' H) → t vs σ H Q
theorem wipe_get (σ : L2.St) (j : Nat) : ∀ vs : List Nat, (L2.wipe σ vs)[j]? = if j ∈ vs then (if j < σ.length then some none else none) else σ[j]?
  | [] => by simp [L2.wipe]
  | v :: vs => by
    unfold L2.wipe
    by_cases h : v = j
    · subst h
      by_cases hl : v < σ.length
      · rw [List.getElem?_set_self (by rw [L2.wipe_length]; exact hl)]
        simp [hl]
      · rw [List.getElem?_eq_none (by rw [List.length_set, L2.wipe_length]; omega)]
        simp [hl]
    · rw [List.getElem?_set_ne h, wipe_get σ j vs]
      have h' : ¬ j = v := fun e => h e.symm
      simp [h']
theorem wipe_set {σ : L2.St} {i : Nat} {o : Option V} {vs : List Nat} (h : i ∈ vs) : L2.wipe (σ.set i o) vs = L2.wipe σ vs := by
  apply List.ext_getElem?
  intro j
  rw [wipe_get, wipe_get, List.length_set]
  by_cases hj : j ∈ vs
  · rw [if_pos hj, if_pos hj]
  · rw [if_neg hj, if_neg hj]
    rw [List.getElem?_set_ne]
    rintro rfl
    exact hj h
theorem wipe_wipe {σ : L2.St} {vs : List Nat} : L2.wipe (L2.wipe σ vs) vs = L2.wipe σ vs := by
  apply List.ext_getElem?
  intro j
  rw [wipe_get, wipe_get, L2.wipe_length]
  by_cases hj : j ∈ vs
  · rw [if_pos hj, if_pos hj]
  · rw [if_neg hj, if_neg hj]
def gNm (i : Nat) : GG := fun d δ R => R (δ.set i (some d))
theorem sim_nm {K : PySem.W.Frag} {i : Nat} : SimG K (gName i) (gNm i) [i] := fun v d σ H δ μ Q R rm rs r q f =>
  f _ _ (rs.set i r) q fun vs h => wipe_set (h i (List.mem_singleton.mpr rfl))
def gNilT : GGs := fun ds δ R => match ds with
  | [] => R δ
  | _ :: _ => False
def gConsT (t : GG) (u : GGs) : GGs := fun ds δ R => match ds with
  | d :: r => t d δ fun δ' => u r δ' R
  | [] => False
theorem sim_nilT {K : PySem.W.Frag} : SimGs K L2.gNil gNilT [] := by
  intro vs ds σ H δ μ Q R rm rs r q f
  cases ds with
  | nil =>
    unfold RepL at r
    exact ⟨r, f σ δ rs q fun _ _ => rfl⟩
  | cons d ds => exact False.elim q
theorem sim_consT {K : PySem.W.Frag} {t : TG} {u : TGs} {g : GG} {gs : GGs} {o os : List Nat} (h : SimG K t g o) (h2 : SimGs K u gs os) : SimGs K (L2.gCons t u) (gConsT g gs) (o ++ os) := by
  intro vs ds σ H δ μ Q R rm rs r q f
  cases ds with
  | nil => exact False.elim q
  | cons d ds =>
    unfold RepL at r
    obtain ⟨v, w, rfl, r1, r2⟩ := r
    refine ⟨v, w, rfl, h v d σ H δ μ _ _ rm rs r1 q fun σ' δ' rs' q' w1 => ?_⟩
    exact h2 w ds σ' H δ' μ _ _ rm rs' r2 q' fun σ2 δ2 rs2 q2 w2 => f σ2 δ2 rs2 q2 fun vs hv => (w2 vs fun i hi => hv i (List.mem_append_right _ hi)).trans (w1 vs fun i hi => hv i (List.mem_append_left _ hi))
def gTupT (n : Nat) (t : GGs) : GG := fun d δ R => match d with
  | .tup ds => ds.length = n ∧ t ds δ R
  | _ => False
theorem sim_tupT {K : PySem.W.Frag} {n : Nat} {t : TGs} {g : GGs} {o : List Nat} (h : SimGs K t g o) : SimG K (L2.gTup K n t) (gTupT n g) o := by
  intro v d σ H δ μ Q R rm rs r q f
  cases d <;> try exact False.elim q
  rename_i ds
  unfold Rep at r
  obtain ⟨a, vs, rfl, im, rl⟩ := r
  exact ⟨a, vs, rfl, im.sq, by rw [rl.length]; exact q.1, h vs ds σ H δ μ Q R rm rs rl q.2 f⟩

/-! ### what is walked -/
abbrev GI := DS → Mu → (List D → Mu → Prop) → Prop
abbrev WalkD (K : PySem.W.Frag) (J : It) (items : List D) (H1 : Hp) (μ1 : Mu) : Prop :=
  Walk J items.length (fun H => ∃ μ, Kp H1 μ1 H μ ∧ RM K H μ) (fun i H x H' => ∀ μ, Kp H1 μ1 H μ → RM K H μ → ∃ d, items[i]? = some d ∧ Rep K H' μ d x ∧ Kp H μ H' μ ∧ RM K H' μ)
def SimI (K : PySem.W.Frag) (t : TI) (g : GI) : Prop := ∀ σ H δ μ (Q : It → Hp → Prop) (R : List D → Mu → Prop), RM K H μ → RepS K H μ δ σ → g δ μ R →
  (∀ J items H' μ', Kp H μ H' μ' → RM K H' μ' → WalkD K J items H' μ' → R items μ' → Q J H') → t σ H Q
structure DI (X : Cx) (tg iter : Expr) (g : GI) : Prop where
  ex : ∃ t, PI X tg iter t ∧ SimI X.K t g
/-- over a list, a tuple, a text -/
def gItems (g : GE) : GI := fun δ μ R => g δ μ fun d μ1 => match d with
  | .lst ds => R ds μ1
  | .seq ds => R ds μ1
  | _ => False
def gItemsT (g : GE) : GI := fun δ μ R => g δ μ fun d μ1 => match d with
  | .tup ds => R ds μ1
  | _ => False
def signs (x : Str) : List D := x.cps.toList.map fun c => D.str ⟨#[c]⟩
def gItemsS (g : GE) : GI := fun δ μ R => g δ μ fun d μ1 => match d with
  | .str x => R (signs x) μ1
  | _ => False
def gRange (g : GA) : GI := fun δ μ R => g δ μ fun ds μ1 => match ds with
  | [.int n] => (-(2 ^ 62) ≤ n ∧ n < 2 ^ 62) ∧ R ((List.range n.toNat).map fun i => D.int (i : Nat)) μ1
  | _ => False
section
variable {X : Cx} {tg e : Expr} {g : GE} {ga : GA}
theorem walk_seq {K : PySem.W.Frag} {a : Addr} {vs : List V} {ds : List D} {H : Hp} {μ : Mu} (hq : ∀ H' μ', Kp H μ H' μ' → SqL K H' a vs) (r : RepL K H μ ds vs) : WalkD K (Itl K a) ds H μ := by
  have e := r.length
  rw [WalkD, ← e]
  refine (walk_list (K := K) (a := a) (xs := vs)).mono (fun H' ⟨μ', k, _⟩ => hq H' μ' k) fun i H' x H2 hi _ ⟨e1, e2⟩ μ' k rm => ?_
  subst e1
  obtain ⟨d, e3, r1⟩ := (r.mono k).atV e2
  exact ⟨d, e3, r1, Kp.refl _ _, rm⟩
theorem di_list (h : DE X e g) : DI X tg e (gItems g) := by
  obtain ⟨t, a1, a2⟩ := h.ex
  refine ⟨_, pi_list a1, fun σ H δ μ Q R rm rs q f => ?_⟩
  refine a2 σ H δ μ _ _ rm rs q fun v d H1 μ1 k1 rm1 r1 q1 => ?_
  cases d <;> try exact False.elim q1
  · unfold Rep at r1
    obtain ⟨a, vs, rfl, e1, e2, rl⟩ := r1
    exact ⟨a, rfl, ⟨vs, SqL.of e1⟩, f _ _ H1 μ1 k1 rm1 (walk_seq (fun H' μ' k => SqL.of (k.k1 _ _ e1 e2)) rl) q1⟩
  · unfold Rep at r1
    obtain ⟨a, vs, rfl, im, rl⟩ := r1
    exact ⟨a, rfl, ⟨vs, im.sq⟩, f _ _ H1 μ1 k1 rm1 (walk_seq (fun H' μ' k => (im.mono k).sq) rl) q1⟩
theorem di_tup (h : DE X e g) : DI X tg e (gItemsT g) := by
  obtain ⟨t, a1, a2⟩ := h.ex
  refine ⟨_, pi_tup a1, fun σ H δ μ Q R rm rs q f => ?_⟩
  refine a2 σ H δ μ _ _ rm rs q fun v d H1 μ1 k1 rm1 r1 q1 => ?_
  cases d <;> try exact False.elim q1
  rename_i ds
  unfold Rep at r1
  obtain ⟨a, vs, rfl, im, rl⟩ := r1
  refine ⟨a, rfl, ⟨vs, im.sq⟩, f _ ds H1 μ1 k1 rm1 ?_ q1⟩
  have e := rl.length
  rw [WalkD, ← e]
  refine (walk_tup (K := X.K) (a := a) (xs := vs)).mono (fun H' ⟨μ', k, _⟩ => (im.mono k).sq) fun i H' x H2 hi _ ⟨e1, e2⟩ μ' k rm => ?_
  subst e1
  obtain ⟨d, e3, r1⟩ := (rl.mono k).atV e2
  exact ⟨d, e3, r1, Kp.refl _ _, rm⟩
theorem di_str (h : DE X e g) : DI X tg e (gItemsS g) := by
  obtain ⟨t, a1, a2⟩ := h.ex
  refine ⟨_, pi_str a1, fun σ H δ μ Q R rm rs q f => ?_⟩
  refine a2 σ H δ μ _ _ rm rs q fun v d H1 μ1 k1 rm1 r1 q1 => ?_
  cases d <;> try exact False.elim q1
  rename_i x
  unfold Rep at r1
  refine ⟨x, r1, f _ (signs x) H1 μ1 k1 rm1 ?_ q1⟩
  have e : x.cps.size = (signs x).length := by simp [signs]
  rw [WalkD, ← e]
  refine (walk_str (z := x)).mono (fun H' _ => True.intro) fun i H' y H2 hi _ ⟨e1, c, e2, e3⟩ μ' k rm => ?_
  subst e1
  subst e3
  refine ⟨.str ⟨#[c]⟩, ?_, by unfold Rep; rfl, Kp.refl _ _, rm⟩
  unfold signs
  rw [List.getElem?_map, Array.getElem?_toList, e2]
  rfl
theorem di_range {p pos : Pos} (hg : Gl X "range") (hm : X.mg "range" = none) (h : DA X [e] ga) (hs : starEach [e] X.env = [(false, eval e X.env)] := by rfl) : DI X tg (.Call (.Name "range" p) [e] [] pos) (gRange ga) := by
  obtain ⟨t, a1, a2⟩ := h.ex
  refine ⟨_, pi_range1 hg hm a1 hs, fun σ H δ μ Q R rm rs q f => ?_⟩
  refine a2 σ H δ μ _ _ rm rs q fun vs ds H1 μ1 k1 rm1 r1 q1 => ?_
  unfold gRange at q
  match ds, q1, r1 with
  | [.int n], q1, r1 =>
    unfold RepL at r1
    obtain ⟨v, r, rfl, r2, r3⟩ := r1
    unfold RepL at r3
    unfold Rep at r2
    subst r2 r3
    refine ⟨n, rfl, q1.1.1, q1.1.2, f _ _ H1 μ1 k1 rm1 ?_ q1.2⟩
    have e : n.toNat = ((List.range n.toNat).map fun i => D.int (i : Nat)).length := by simp
    rw [WalkD, ← e]
    refine (walk_range (lo := 0) (n := n.toNat)).mono (fun H' _ => True.intro) fun i H' y H2 hi _ ⟨e1, e2⟩ μ' k rm => ?_
    subst e1 e2
    refine ⟨.int (0 + (i : Nat)), ?_, by unfold Rep; rfl, Kp.refl _ _, rm⟩
    rw [List.getElem?_map, List.getElem?_range hi]
    simp
end

/-! ### statements -/
def gNext : GS := fun F δ μ => F.nx δ μ
def gSeq (t u : GS) : GS := fun F δ μ => t { F with nx := u F } δ μ
section
variable {X : Cx} {st : Stmt} {rest body : List Stmt} {t u : GS} {e : Expr} {ge : GE} {pos : Pos} {a b : List Stmt}
theorem dss_nil : DSs X [] gNext := ⟨_, pss_nil, fun σ H δ μ E F rm rs e q => e.nx σ H δ μ (Kp.refl _ _) rm rs q⟩
theorem dss_one (h : DSt X st t) : DSs X [st] t := let ⟨_, a, b⟩ := h.ex; ⟨_, pss_one a, b⟩
theorem dss_cons (h : DSt X st t) (h2 : DSs X rest u) : DSs X (st :: rest) (gSeq t u) := by
  obtain ⟨t1, a1, a2⟩ := h.ex
  obtain ⟨u1, b1, b2⟩ := h2.ex
  refine ⟨_, pss_cons a1 b1, fun σ H δ μ E F rm rs e q => ?_⟩
  exact a2 σ H δ μ _ { F with nx := u F } rm rs ⟨fun σ1 H1 δ1 μ1 k1 rm1 rs1 q1 => b2 σ1 H1 δ1 μ1 E F rm1 rs1 (e.re k1) q1, e.rt, e.bk, e.ct⟩ q
def gDrop (g : GE) : GS := fun F δ μ => g δ μ fun _ μ1 => F.nx δ μ1
theorem ds_expr (h : DE X e ge) (hs : swapsWith e none pos.line X.env = pure false := by rfl) : DSt X (.Expr e pos) (gDrop ge) := by
  obtain ⟨t1, a1, a2⟩ := h.ex
  refine ⟨_, ps_expr a1 hs, fun σ H δ μ E F rm rs e q => ?_⟩
  exact a2 σ H δ μ _ _ rm rs q fun v d H1 μ1 k1 rm1 r1 q1 => e.nx σ H1 δ μ1 k1 rm1 (rs.mono k1) q1
def gRet (g : GE) : GS := fun F δ μ => g δ μ F.rt
theorem ds_ret (h : DE X e ge) : DSt X (.Return (some e) pos) (gRet ge) := by
  obtain ⟨t1, a1, a2⟩ := h.ex
  exact ⟨_, ps_ret a1, fun σ H δ μ E F rm rs e q => a2 σ H δ μ _ _ rm rs q e.rt⟩
def gRetN : GS := fun F _ μ => F.rt .non μ
theorem ds_retN : DSt X (.Return none pos) gRetN := ⟨_, ps_retN, fun σ H δ μ E F rm rs e q => e.rt .non .non H μ (Kp.refl _ _) rm (by unfold Rep; rfl) q⟩
def gIfS (c : GT) (t u : GS) : GS := fun F δ μ => c δ μ fun k μ1 => if k = true then t F δ μ1 else u F δ μ1
theorem ds_if {c : Expr} {gc : GT} (hc : DT X c gc) (ha : DSs X a t) (hb : DSs X b u) : DSt X (.If c a b pos) (gIfS gc t u) := by
  obtain ⟨t0, c1, c2⟩ := hc.ex
  obtain ⟨t1, a1, a2⟩ := ha.ex
  obtain ⟨u1, b1, b2⟩ := hb.ex
  refine ⟨_, ps_if c1 a1 b1, fun σ H δ μ E F rm rs e q => ?_⟩
  refine c2 σ H δ μ _ _ rm rs q fun k H1 μ1 k1 rm1 q1 => ?_
  cases k with
  | true => exact a2 σ H1 δ μ1 E F rm1 (rs.mono k1) (e.re k1) q1
  | false => exact b2 σ H1 δ μ1 E F rm1 (rs.mono k1) (e.re k1) q1
def gNever : GS := fun _ _ _ => False
theorem ds_never : DSt X st gNever := ⟨_, ps_never, fun _ _ _ _ _ _ _ _ _ q => q.elim⟩
theorem dss_never : DSs X rest gNever := ⟨_, pss_never, fun _ _ _ _ _ _ _ _ _ q => q.elim⟩
def gAsg (g : GE) (t : GG) : GS := fun F δ μ => g δ μ fun d μ1 => t d δ fun δ' => F.nx δ' μ1
theorem sim_asg {K : PySem.W.Frag} {te : TE} {tg : TG} {g : GE} {gg : GG} {ow : List Nat} (h : SimE K te g) (hg : SimG K tg gg ow) : SimS K (tAsg te tg) (gAsg g gg) := by
  intro σ H δ μ E F rm rs e q
  refine h σ H δ μ _ _ rm rs q fun v d H1 μ1 k1 rm1 r1 q1 => ?_
  exact hg v d σ H1 δ μ1 _ _ rm1 (rs.mono k1) r1 q1 fun σ2 δ2 rs2 q2 _ => e.nx σ2 H1 δ2 μ1 k1 rm1 rs2 q2
theorem ds_asg {tg : Expr} {g : TG} {gg : GG} {ow : List Nat} (he : DE X e ge) (hg : PG X tg g) (sg : SimG X.K g gg ow) (hs : swapsWithSole [tg] e pos.line X.env = pure false := by rfl) (hw : swappedStores [tg] e X.env = pure none := by rfl)
    (h1 : (assignEach [tg] X.env).map (·.2) = [assign tg X.env] := by rfl) : DSt X (.Assign [tg] e pos) (gAsg ge gg) := by
  obtain ⟨t1, a1, a2⟩ := he.ex
  exact ⟨_, ps_asg a1 hg hs hw h1, sim_asg a2 sg⟩
theorem ds_set {i : Nat} {x : Str} {pos' : Pos} (hN : X.N.Nodup) (hi : X.N[i]? = some x) (hx : Loc X.env.scope x) (he : DE X e ge) (hs : swapsWith e (some (.Name x pos')) pos.line X.env = pure false := by rfl) (hf : X.fn x = true ∨ X.env.scope.names.lookup x = some .local := by first | exact .inl rfl | exact .inr rfl | assumption) :
    DSt X (.Assign [.Name x pos'] e pos) (gAsg ge (gNm i)) := by
  obtain ⟨t1, a1, a2⟩ := he.ex
  exact ⟨_, ps_set hN hi hx a1 hs hf, sim_asg a2 sim_nm⟩
/-- a, b = x, y -/
def gPar (i j : Nat) (ga : GA) : GS := fun F δ μ => ga δ μ fun ds μ1 => match ds with
  | [d, e] => F.nx ((δ.set i (some d)).set j (some e)) μ1
  | _ => False
theorem ds_par {i j : Nat} {x y : Str} {a b : Expr} {ga : GA} {px py pt : Pos} {kt k2 pt2} (hc : X.calm = true) (hN : X.N.Nodup) (hi : X.N[i]? = some x) (hj : X.N[j]? = some y) (hij : i ≠ j)
    (hx : X.env.scope.names.lookup x = some .local) (hy : X.env.scope.names.lookup y = some .local) (ha : DA X [a, b] ga)
    (hw : swappedStores [.Tuple [.Name x px, .Name y py] kt pt] (.Tuple [a, b] k2 pt2) X.env = pure (some [x, y]))
    (hs : swapsWithSole [.Tuple [.Name x px, .Name y py] kt pt] (.Tuple [a, b] k2 pt2) pos.line X.env = pure false := by rfl) :
    DSt X (.Assign [.Tuple [.Name x px, .Name y py] kt pt] (.Tuple [a, b] k2 pt2) pos) (gPar i j ga) := by
  obtain ⟨t1, a1, a2⟩ := ha.ex
  refine ⟨_, ps_par hc hN hi hj hij hx hy a1 hw hs, fun σ H δ μ E F rm rs e q => ?_⟩
  refine a2 σ H δ μ _ _ rm rs q fun vs ds H1 μ1 k1 rm1 r1 q1 => ?_
  match ds, r1, q1 with
  | [d, d2], r1, q1 =>
    unfold RepL at r1
    obtain ⟨v, r, rfl, r2, r3⟩ := r1
    unfold RepL at r3
    obtain ⟨v2, r, rfl, r4, r5⟩ := r3
    unfold RepL at r5
    subst r5
    exact ⟨v, v2, rfl, e.nx _ H1 _ μ1 k1 rm1 (((rs.mono k1).set i r2).set j r4) q1⟩
/-- name op= e -/
def gAug (i : Nat) (g : GE) (r : G2) : GS := fun F δ μ => match δ.getD i none with
  | some d => g δ μ fun y μ1 => r d y μ1 fun z μ2 => F.nx (δ.set i (some z)) μ2
  | none => False
theorem ds_aug {i : Nat} {x : Str} {op : Operator} {ti : TIp} {g2 : G2} {pos' : Pos} (hN : X.N.Nodup) (hi : X.N[i]? = some x) (hx : Loc X.env.scope x) (he : DE X e ge) (ho : PIp X op ti) (h : SimO X.K ti g2) (hf : X.fn x = true ∨ X.env.scope.names.lookup x = some .local := by first | exact .inl rfl | exact .inr rfl | assumption) :
    DSt X (.AugAssign (.Name x pos') op e pos) (gAug i ge g2) := by
  obtain ⟨t1, a1, a2⟩ := he.ex
  refine ⟨_, ps_aug hN hi hx a1 ho hf, fun σ H δ μ E F rm rs e q => ?_⟩
  unfold gAug at q
  rw [List.getD_eq_getElem?_getD] at q
  cases e0 : δ[i]? with
  | none => rw [e0] at q; exact False.elim q
  | some o =>
    cases o with
    | none => rw [e0] at q; exact False.elim q
    | some d =>
      rw [e0] at q
      obtain ⟨v, e2, rv⟩ := rs.get e0
      refine ⟨v, e2, a2 σ H δ μ _ _ rm rs q fun w d2 H1 μ1 k1 rm1 r1 q1 => ?_⟩
      exact h v w d d2 H1 μ1 _ _ rm1 (rv.mono k1) r1 q1 fun z d3 H2 μ2 k2 rm2 r2 q2 => e.nx _ H2 _ μ2 (k1.trans k2) rm2 ((rs.mono (k1.trans k2)).set i r2) q2
/-- for -/
def gFor (gi : GI) (gt : GG) (gb : GS) : GS := fun F δ μ => gi δ μ fun items μ1 => ∃ Iv : Nat → DS → Mu → Prop, Iv 0 δ μ1 ∧
  (∀ i x δ' μ', items[i]? = some x → Iv i δ' μ' → gt x δ' fun δ2 => gb { F with nx := Iv (i + 1), ct := Iv (i + 1), bk := F.nx } δ2 μ') ∧ ∀ δ' μ', Iv items.length δ' μ' → F.nx δ' μ'
theorem ds_for {tg iter : Expr} {gi : GI} {g : TG} {gg : GG} {ow : List Nat} {gb : GS} (hp : PassesOwn (model X.prog X.w) X.A X.env X.xe) (hc : X.calm = true) (hi : DI X tg iter gi) (hg : PG X tg g) (sg : SimG X.K g gg ow) (hb : DSs X body gb)
    (hs : ∀ x, foldedSetIterable iter X.env x = pure x := by intro _; rfl) : DSt X (.For tg iter body [] pos) (gFor gi gg gb) := by
  obtain ⟨ti, i1, i2⟩ := hi.ex
  obtain ⟨tb, b1, b2⟩ := hb.ex
  refine ⟨_, ps_for hp hc i1 hg b1 hs, fun σ H δ μ E F rm rs e q => ?_⟩
  refine i2 σ H δ μ _ _ rm rs q fun J items H1 μ1 k1 rm1 wk ⟨Iv, h0, hstep, hend⟩ => ?_
  refine for_it wk (fun i σ H => ∃ δ μ, Kp H1 μ1 H μ ∧ RM X.K H μ ∧ RepS X.K H μ δ σ ∧ Iv i δ μ) ⟨δ, μ1, Kp.refl _ _, rm1, rs.mono k1, h0⟩ (fun i σ H _ ⟨_, μ, k, rm, _⟩ => ⟨μ, k, rm⟩) ?_ ?_
  · rintro i x σ2 H2 H3 hi ⟨δ2, μ2, k2, rm2, rs2, iv⟩ y
    obtain ⟨d, e1, r1, k3, rm3⟩ := y μ2 k2 rm2
    refine sg x d σ2 H3 δ2 μ2 _ _ rm3 (rs2.mono k3) r1 (hstep i d δ2 μ2 e1 iv) fun σ4 δ4 rs4 q4 _ => ?_
    refine b2 σ4 H3 δ4 μ2 _ _ rm3 rs4 ⟨?_, ?_, ?_, ?_⟩ q4
    · exact fun σ5 H5 δ5 μ5 k5 rm5 rs5 q5 => ⟨δ5, μ5, k2.trans (k3.trans k5), rm5, rs5, q5⟩
    · exact e.rt.re (k1.trans (k2.trans k3))
    · exact fun σ5 H5 δ5 μ5 k5 rm5 rs5 q5 => e.nx σ5 H5 δ5 μ5 (k1.trans (k2.trans (k3.trans k5))) rm5 rs5 q5
    · exact fun σ5 H5 δ5 μ5 k5 rm5 rs5 q5 => ⟨δ5, μ5, k2.trans (k3.trans k5), rm5, rs5, q5⟩
  · rintro σ2 H2 ⟨δ2, μ2, k2, rm2, rs2, iv⟩
    exact e.nx σ2 H2 δ2 μ2 (k1.trans k2) rm2 rs2 (hend δ2 μ2 iv)
/-- what a comprehension asks over its items -/
structure LcB (gt : GG) (gc : GT) (ge : GE) (own : List Nat) (δ : DS) (R : KD) (items : List D) (μ1 : Mu) : Prop where
  ex : ∀ a, μ1 a = none → ∃ Iv : Nat → Mu → Prop, Iv 0 (put μ1 a (.lst [])) ∧
  (∀ i x μ', items[i]? = some x → Iv i μ' → gt x (wiped δ own) fun δ2 => gc δ2 μ' fun b μ2 => if b = true then ge δ2 μ2 fun y μ3 => ∃ acc, μ3 a = some (.lst acc) ∧ acc.length < sizeLine ∧ Iv (i + 1) (put μ3 a (.lst (acc ++ [y]))) else Iv (i + 1) μ2) ∧
  ∀ μ', Iv items.length μ' → ∃ acc, μ' a = some (.lst acc) ∧ R (.lst acc) (del μ' a)
/-- [e for t in it if c] -/
def gLc (gi : GI) (gt : GG) (gc : GT) (ge : GE) (own : List Nat) : GE := fun δ μ R => gi δ μ (LcB gt gc ge own δ R)
theorem sim_lc {K : PySem.W.Frag} {ti : TI} {gi : GI} {g : TG} {gg : GG} {ow : List Nat} {tc : TT} {gc : GT} {te : TE} {ge : GE} {own : List Nat} (hi : SimI K ti gi) (sg : SimG K g gg ow) (ho : ∀ i ∈ ow, i ∈ own) (hc : SimT K tc gc) (he : SimE K te ge) :
    SimE K (tLc ti g tc te own) (gLc gi gg gc ge own) := by
  intro σ H δ μ Q R rm rs q f
  refine hi σ H δ μ _ _ rm rs q fun J items H1 μ1 k1 rm1 wk q1 => ?_
  intro D nD
  obtain ⟨Iv, h0, hstep, hend⟩ := q1.ex D (rm1.free nD)
  have kc : Kp H1 μ1 (upd H1 D (.lst [])) (put μ1 D (.lst [])) := Kp.cell nD
  refine lc_it wk (fun i H => ∃ μ, Kp H1 μ1 H μ ∧ RM K H μ ∧ Iv i μ) ⟨_, kc, rm1.cell nD RepL.nil, h0⟩ (fun i H _ ⟨μ, k, rm, _⟩ => ⟨μ, k, rm⟩) ?_ ?_
  · rintro i x H2 H3 hi2 ⟨μ2, k2, rm2, iv⟩ y
    obtain ⟨d, e1, r1, k3, rm3⟩ := y μ2 k2 rm2
    have rsw : RepS K H3 μ2 (wiped δ own) (L2.wipe σ own) := (rs.mono (k1.trans (k2.trans k3))).wipe own
    refine sg x d _ H3 _ μ2 _ _ rm3 rsw r1 (hstep i d μ2 e1 iv) fun σ4 δ4 rs4 q4 w4 => ⟨(w4 own ho).trans wipe_wipe, ?_⟩
    refine hc σ4 H3 δ4 μ2 _ _ rm3 rs4 q4 fun b H5 μ5 k5 rm5 q5 => ?_
    cases b with
    | false => exact ⟨μ5, k2.trans (k3.trans k5), rm5, q5⟩
    | true =>
      rw [if_pos rfl] at q5 ⊢
      refine he σ4 H5 δ4 μ5 _ _ rm5 (rs4.mono k5) q5 fun v d6 H6 μ6 k6 rm6 r6 q6 => ?_
      obtain ⟨acc, ea, hl, iv6⟩ := q6
      obtain ⟨vs, h1, h2⟩ := rm6 D _ ea
      refine ⟨vs, h1, by rw [h2.length]; exact hl, _, k2.trans (k3.trans (k5.trans (k6.trans (Kp.write ea)))), ?_, iv6⟩
      refine rm6.put (Kp.write ea) (fun a o n _ => upd_ne n) ⟨_, upd_same, ?_⟩
      exact (h2.append (RepL.cons r6 RepL.nil)).mono (Kp.write ea) _ _
  · rintro H2 ⟨μ2, k2, rm2, iv⟩
    obtain ⟨acc, ea, q3⟩ := hend μ2 iv
    obtain ⟨vs, h1, h2⟩ := rm2 D _ ea
    refine f (.ref D) (.lst acc) H2 (del μ2 D) (k1.trans (k2.trans Kp.drop)) rm2.drop ?_ q3
    unfold Rep
    exact ⟨D, vs, rfl, h1, del_same, h2.mono Kp.drop _ _⟩
theorem de_lc {elt tg iter : Expr} {ifs : List Expr} {scope : Scope} {own : List (Str × Nat)} {pos : Pos} {gi : GI} {g : TG} {gg : GG} {ow : List Nat} {gc : GT} {ge : GE} (hc : X.calm = true) (hN : X.N.Nodup) (hi : DI X tg iter gi) (ok : BlkOk X.N X.env.scope scope own)
    (hg : ∀ (s : Shared) (H : Hp) (C : Addr) (cl : List (Str × Addr)) (fp : List Addr), PG (X.blk s H scope (compEnvC scope cl C X.env) fp) tg g) (sg : SimG X.K g gg ow) (ht : ∀ (s : Shared) (H : Hp) (C : Addr) (cl : List (Str × Addr)) (fp : List Addr), DTs (X.blk s H scope (compEnvC scope cl C X.env) fp) ifs gc)
    (he : ∀ (s : Shared) (H : Hp) (C : Addr) (cl : List (Str × Addr)) (fp : List Addr), DE (X.blk s H scope (compEnvC scope cl C X.env) fp) elt ge) (ho : ∀ i ∈ ow, i ∈ own.map (·.2) := by decide) (hs : ∀ x, foldedSetIterable iter X.env x = pure x := by intro _; rfl) :
    DE X (.ListComp elt [⟨tg, iter, ifs, 0⟩] scope pos) (gLc gi gg gc ge (own.map (·.2))) := by
  obtain ⟨ti, i1, i2⟩ := hi.ex
  exact ⟨_, pe_lc hc hN i1 ok hg (fun s H C cl fp => (ht s H C cl fp).pt) (fun s H C cl fp => (he s H C cl fp).pe) hs, sim_lc i2 sg ho simT_of sim_of⟩
theorem ds_setLc {i : Nat} {y : Str} {py : Pos} {elt tg iter : Expr} {ifs : List Expr} {scope : Scope} {own : List (Str × Nat)} {pos spos : Pos} {gi : GI} {g : TG} {gg : GG} {ow : List Nat} {gc : GT} {ge : GE} (hc : X.calm = true) (hN : X.N.Nodup) (hy : X.N[i]? = some y) (hyl : X.env.scope.names.lookup y = some .local)
    (hsw : swapsWith (.ListComp elt [⟨tg, iter, ifs, 0⟩] scope pos) (some (.Name y py)) spos.line X.env = pure true) (hi : DI X tg iter gi) (ok : BlkOk X.N X.env.scope scope own)
    (hg : ∀ (s : Shared) (H : Hp) (C : Addr) (cl : List (Str × Addr)) (fp : List Addr), PG (X.blk s H scope (compEnvC scope cl C X.env) fp) tg g) (sg : SimG X.K g gg ow) (ht : ∀ (s : Shared) (H : Hp) (C : Addr) (cl : List (Str × Addr)) (fp : List Addr), DTs (X.blk s H scope (compEnvC scope cl C X.env) fp) ifs gc)
    (he : ∀ (s : Shared) (H : Hp) (C : Addr) (cl : List (Str × Addr)) (fp : List Addr), DE (X.blk s H scope (compEnvC scope cl C X.env) fp) elt ge) (ho : ∀ i ∈ ow, i ∈ own.map (·.2) := by decide) (hs : ∀ x, foldedSetIterable iter X.env x = pure x := by intro _; rfl) :
    DSt X (.Assign [.Name y py] (.ListComp elt [⟨tg, iter, ifs, 0⟩] scope pos) spos) (gAsg (gLc gi gg gc ge (own.map (·.2))) (gNm i)) := by
  obtain ⟨ti, i1, i2⟩ := hi.ex
  exact ⟨_, ps_setLc hc hN hy hyl hsw i1 ok hg (fun s H C cl fp => (ht s H C cl fp).pt) (fun s H C cl fp => (he s H C cl fp).pe) hs, sim_asg (sim_lc i2 sg ho simT_of sim_of) sim_nm⟩
end

/-! ### defs, calls -/
def toSp (K : PySem.W.Frag) (g : GC) : Sp := fun vs H Q _ => ∃ ds μ R, RM K H μ ∧ RepL K H μ ds vs ∧ g ds μ R ∧ Fw K H μ R Q
theorem repS_some {K : PySem.W.Frag} {H : Hp} {μ : Mu} (n : Nat) : ∀ {ds : List D} {vs : List V}, RepL K H μ ds vs → RepS K H μ (ds.map some ++ List.replicate n none) (vs.map some ++ List.replicate n none)
  | [], _, h => by
    unfold RepL at h
    subst h
    show RepS K H μ (List.replicate n none) (List.replicate n none)
    induction n with
    | zero => simp [RepS]
    | succ n ih =>
      rw [List.replicate_succ, List.replicate_succ]
      unfold RepS
      exact ⟨_, _, rfl, ih⟩
  | d :: ds, _, h => by
    unfold RepL at h
    obtain ⟨v, r, rfl, h1, h2⟩ := h
    show RepS K H μ (some d :: (ds.map some ++ List.replicate n none)) (some v :: (r.map some ++ List.replicate n none))
    unfold RepS
    exact ⟨v, _, rfl, h1, repS_some n h2⟩
section
variable {P : Program} {w : World} {K : PySem.W.Frag} {mg : Str → Option Value} {base : Heap}
theorem okD {x qual : Str} {st : Stmt} {f : Addr} {fd : FuncData} {N ps : List Str} {k : Nat} {g : GC} (F : Fun K x qual st f fd) (S : FnScope N ps (defScope st)) (len : ∀ ds μ R, g ds μ R → ds.length = ps.length)
    (h : ∃ gb : GS, (∀ (cdv : Value) (A : Around) (outer : List Env) (s : Shared) (H : Hp) (E : XK), Room k (A.deeper (envOfC qual (defScope st) s.heap.objs.size f cdv)) →
        DSs (cxOf CX0 P w K mg base N qual (defScope st) f cdv A outer s H E).nox (defBody st) gb) ∧
      ∀ ds μ R, g ds μ R → gb { nx := fun _ μ' => R .non μ', rt := R } (begin_ N ds) μ) : FnOk P w K mg base CX0 (k + 1) f fd ps (toSp K g) := by
  obtain ⟨gb, hb, hg⟩ := h
  refine F.ok S (fun vs H Q E ⟨ds, μ, R, rm, rl, q, fw⟩ => by rw [rl.length]; exact len ds μ R q) fun cdv A outer s H vs Q E hr ⟨ds, μ, R, rm, rl, q, fw⟩ => ?_
  obtain ⟨t, a, b⟩ := (hb cdv A outer s H E hr).ex
  refine ⟨t, a, b _ H (begin_ N ds) μ _ { nx := fun _ μ' => R .non μ', rt := R } rm ?_ ⟨fun σ H' δ μ' k rm' _ q' => fw .non .non H' μ' k rm' (by unfold Rep; rfl) q', fw, fun _ _ _ _ _ _ _ z => z, fun _ _ _ _ _ _ _ z => z⟩ (hg ds μ R q)⟩
  show RepS K H μ (ds.map some ++ List.replicate (N.length - ds.length) none) (vs.map some ++ List.replicate (N.length - vs.length) none)
  rw [rl.length]
  exact repS_some _ rl
end
section
variable {X : Cx} {k : Nat} {f C : Addr} {fd : FuncData} {ps : List Str} {g : GC} {x : Str} {p pos : Pos} {e : Expr} {es : List Expr} {ga gk : GA}
def gCall (g : GC) (ga : GA) : GE := fun δ μ R => ga δ μ fun ds μ1 => g ds μ1 R
theorem de_call (F : FnOk X.prog X.w X.K X.mg X.base CX0 k f fd ps (toSp X.K g)) (hr : Room k X.A) (hg : Gl X x) (hm : X.mg x = some (.ref f)) (hk : PySem.W.keepIn X.K (.ref f) = true) (hb : Binds X.K fd ps [])
    (ha : DA X (e :: es) ga) (hdb : (x == ("__debug__" : Str)) = false := by decide) (he : starEach (e :: es) X.env = (false, eval e X.env) :: starEach es X.env := by rfl) (hpl : (backTo pos (starEach es X.env)).any (·.1) = false := by rfl) :
    DE X (.Call (.Name x p) (e :: es) [] pos) (gCall g ga) := by
  obtain ⟨t, a1, a2⟩ := ha.ex
  refine ⟨_, pe_call F hr hg hm hk hb .nil (pass0 (X := X)) a1 hdb he hpl, fun σ H δ μ Q R rm rs q f => ?_⟩
  refine a2 σ H δ μ _ _ rm rs q fun vs ds H1 μ1 k1 rm1 r1 q1 => ?_
  show toSp X.K g (vs ++ []) H1 Q E0
  rw [List.append_nil]
  exact ⟨ds, μ1, R, rm1, r1, q1, f.re k1⟩
/-- C(..), the new instance frozen behind its __init__ -/
def gMake (C : Addr) (g : GC) (ga : GA) : GE := fun δ μ R => ga δ μ fun ds μ1 => ∀ a, μ1 a = none → g (.adr a :: ds) (put μ1 a (.ins C [])) fun d μ2 => match d with
  | .non => ∃ fs, μ2 a = some (.ins C fs) ∧ R (.ins C fs) (del μ2 a)
  | _ => False
theorem de_make (M : Mk X.K C f) (F : FnOk X.prog X.w X.K X.mg X.base CX0 k f fd ps (toSp X.K g)) (hr : Room (k + 1) X.A) (hg : Gl X x) (hm : X.mg x = some (.ref C)) (hb : Binds X.K fd ps [])
    (ha : DA X (e :: es) ga) (hdb : (x == ("__debug__" : Str)) = false := by decide) (he : starEach (e :: es) X.env = (false, eval e X.env) :: starEach es X.env := by rfl) (hpl : (backTo pos (starEach es X.env)).any (·.1) = false := by rfl) :
    DE X (.Call (.Name x p) (e :: es) [] pos) (gMake C g ga) := by
  obtain ⟨t, a1, a2⟩ := ha.ex
  refine ⟨_, pe_make M F hr hg hm hb .nil (pass0 (X := X)) a1 hdb he hpl, fun σ H δ μ Q R rm rs q f => ?_⟩
  refine a2 σ H δ μ _ _ rm rs q fun vs ds H1 μ1 k1 rm1 r1 q1 => ?_
  intro a dx na nd ne
  have n2 : upd H1 dx (.own a) a = none := by rw [upd_ne (Ne.symm ne)]; exact na
  have rm2 : RM X.K (upd H1 dx (.own a)) μ1 := rm1.laid nd
  have kc : Kp (upd H1 dx (.own a)) μ1 (upd (upd H1 dx (.own a)) a (.ins C dx [])) (put μ1 a (.ins C [])) := Kp.cell n2
  have k2 : Kp H1 μ1 (upd (upd H1 dx (.own a)) a (.ins C dx [])) (put μ1 a (.ins C [])) := (Kp.new nd).trans kc
  have rm3 : RM X.K (upd (upd H1 dx (.own a)) a (.ins C dx [])) (put μ1 a (.ins C [])) := rm2.put kc (fun b o n _ => upd_ne n) ⟨dx, [], upd_same, by unfold RepF; rfl⟩
  show toSp X.K g (V.ref a :: (vs ++ [])) _ _ E0
  rw [List.append_nil]
  refine ⟨.adr a :: ds, _, _, rm3, RepL.cons (by unfold Rep; rfl) (r1.mono k2 _ _), q1 a (rm1.free na), fun v d H4 μ4 k4 rm4 r4 q4 => ?_⟩
  cases d <;> try exact False.elim q4
  obtain ⟨fs, e4, q4⟩ := q4
  obtain ⟨dx4, fv, h1, h2⟩ := rm4 a _ e4
  unfold Rep at r4
  refine ⟨r4, f (.ref a) (.ins C fs) H4 (del μ4 a) (k1.trans (k2.trans (k4.trans Kp.drop))) rm4.drop ?_ q4⟩
  unfold Rep
  exact ⟨a, dx4, fv, rfl, h1, del_same, h2.mono Kp.drop _ _⟩
end
end DL

set_option Elab.async false
set_option linter.all false
set_option maxRecDepth 100000
namespace DL
open PySem PySem.Spec PyProof.Rows L2
section
variable {X : Cx}
theorem OpR.or {f : Value → Value → Sem Value} {r r' : R2} (h : OpR X f r) (h' : OpR X f r') : OpR X f (fun x y H Q => r x y H Q ∨ r' x y H Q) := by
  intro pins s σ H x y v u Q I rx ry q
  rcases q with q | q
  · exact h pins s σ H x y v u Q I rx ry q
  · exact h' pins s σ H x y v u Q I rx ry q
theorem CallR.or {f : Value} {r r' : List V → Hp → VK → Prop} (h : CallR X f r) (h' : CallR X f r') : CallR X f (fun xs H Q => r xs H Q ∨ r' xs H Q) := by
  intro pins s σ H xs us Q I rx q
  rcases q with q | q
  · exact h pins s σ H xs us Q I rx q
  · exact h' pins s σ H xs us Q I rx q
end
section
variable {K : PySem.W.Frag} {H : Hp} {μ : Mu}
theorem rep_int {i : Int} {v : V} (h : Rep K H μ (.int i) v) : v = .int i := by unfold Rep at h; exact h
theorem rep_str {i : Str} {v : V} (h : Rep K H μ (.str i) v) : v = .str i := by unfold Rep at h; exact h
theorem rep_bl {i : Bool} {v : V} (h : Rep K H μ (.bl i) v) : v = .bl i := by unfold Rep at h; exact h
theorem rep_non {v : V} (h : Rep K H μ .non v) : v = .non := by unfold Rep at h; exact h
theorem rep_adr {a : Addr} {v : V} (h : Rep K H μ (.adr a) v) : v = .ref a := by unfold Rep at h; exact h
theorem rep_tup {ds : List D} {v : V} (h : Rep K H μ (.tup ds) v) : ∃ a vs, v = .ref a ∧ ImT K H μ a vs ∧ RepL K H μ ds vs := by unfold Rep at h; exact h
theorem rep_lst {ds : List D} {v : V} (h : Rep K H μ (.lst ds) v) : ∃ a vs, v = .ref a ∧ H a = some (.lst vs) ∧ μ a = none ∧ RepL K H μ ds vs := by unfold Rep at h; exact h
theorem rep_seq {ds : List D} {v : V} (h : Rep K H μ (.seq ds) v) : ∃ a vs, v = .ref a ∧ ImQ K H μ a vs ∧ RepL K H μ ds vs := by unfold Rep at h; exact h
theorem rep_ins {C : Addr} {fs : List (Str × D)} {v : V} (h : Rep K H μ (.ins C fs) v) : ∃ a dx fv, v = .ref a ∧ H a = some (.ins C dx fv) ∧ μ a = none ∧ RepF K H μ fs fv := by unfold Rep at h; exact h
theorem to_int {i : Int} : Rep K H μ (.int i) (.int i) := by unfold Rep; rfl
theorem to_str {i : Str} : Rep K H μ (.str i) (.str i) := by unfold Rep; rfl
theorem to_bl {i : Bool} : Rep K H μ (.bl i) (.bl i) := by unfold Rep; rfl
theorem to_non : Rep K H μ .non .non := by unfold Rep; rfl
theorem to_adr {a : Addr} : Rep K H μ (.adr a) (.ref a) := by unfold Rep; rfl
theorem to_tup {p : Addr} {vs : List V} {ds : List D} (h : H p = some (.tup vs)) (n : μ p = none) (r : RepL K H μ ds vs) : Rep K H μ (.tup ds) (.ref p) := by unfold Rep; exact ⟨p, vs, rfl, .inl ⟨h, n⟩, r⟩
theorem to_lst {p : Addr} {vs : List V} {ds : List D} (h : H p = some (.lst vs)) (n : μ p = none) (r : RepL K H μ ds vs) : Rep K H μ (.lst ds) (.ref p) := by unfold Rep; exact ⟨p, vs, rfl, h, n, r⟩
/-- a new tuple, a new list -/
theorem fw_tup {R : KD} {Q : VK} {p : Addr} {vs : List V} {ds : List D} (rm : RM K H μ) (n : H p = none) (r : RepL K H μ ds vs) (q : R (.tup ds) μ) (f : Fw K H μ R Q) : Q (.ref p) (upd H p (.tup vs)) :=
  f _ _ _ μ (Kp.new n) (rm.laid n) (to_tup upd_same (rm.free n) (r.mono (Kp.new n) _ _)) q
theorem fw_lst {R : KD} {Q : VK} {p : Addr} {vs : List V} {ds : List D} (rm : RM K H μ) (n : H p = none) (r : RepL K H μ ds vs) (q : R (.lst ds) μ) (f : Fw K H μ R Q) : Q (.ref p) (upd H p (.lst vs)) :=
  f _ _ _ μ (Kp.new n) (rm.laid n) (to_lst upd_same (rm.free n) (r.mono (Kp.new n) _ _)) q
theorem fw_cell {R : KD} {Q : VK} {p : Addr} {vs : List V} {ds : List D} (rm : RM K H μ) (n : H p = none) (r : RepL K H μ ds vs) (q : ∀ a, μ a = none → R (.adr a) (put μ a (.lst ds))) (f : Fw K H μ R Q) : Q (.ref p) (upd H p (.lst vs)) :=
  f _ _ _ _ (Kp.cell n) (rm.cell n r) to_adr (q p (rm.free n))
/-- a cell written -/
theorem fw_write {R : KD} {Q : VK} {p : Addr} {vs : List V} {ds es : List D} {d : D} {v : V} (rm : RM K H μ) (e : μ p = some (.lst es)) (r : RepL K H μ ds vs) (rv : Rep K H μ d v) (q : R d (put μ p (.lst ds))) (f : Fw K H μ R Q) : Q v (upd H p (.lst vs)) :=
  f v d _ (put μ p (.lst ds)) (Kp.write e) (rm.put (m := .lst ds) (Kp.write e) (fun a o n _ => upd_ne n) ⟨_, upd_same, r.mono (Kp.write e) _ _⟩) (rv.mono (Kp.write e)) q
theorem fw_now {R : KD} {Q : VK} {d : D} {v : V} (rm : RM K H μ) (rv : Rep K H μ d v) (q : R d μ) (f : Fw K H μ R Q) : Q v H := f _ _ _ _ (Kp.refl _ _) rm rv q
end

/-! ### operators -/
def gPlus : G2 := fun x y μ R => match x, y with
  | .int i, .int j => R (.int (i + j)) μ
  | .str a, .str b => a.length + b.length ≤ sizeLine ∧ R (.str (a ++ b)) μ
  | .tup a, .tup b => a.length + b.length ≤ sizeLine ∧ R (.tup (a ++ b)) μ
  | .lst a, .lst b => a.length + b.length ≤ sizeLine ∧ R (.lst (a ++ b)) μ
  | _, _ => False
def rPlus (K : PySem.W.Frag) : R2 := fun x y H Q => (rI0 fun i j => .int (i + j)) x y H Q ∨ (∃ i j, x = .str i ∧ y = .str j ∧ i.length + j.length ≤ sizeLine ∧ Q (.str (i ++ j)) H) ∨ rCatA K x y H Q ∨ rCat x y H Q
theorem op_plus {X : Cx} : OpR X (binaryOp .Add) (rPlus X.K) := OpR.or op_add (OpR.or op_add_str (OpR.or op_catA op_cat))
theorem sim_plus {K : PySem.W.Frag} : SimO K (rPlus K) gPlus := by
  intro x y dx dy H μ Q R rm rx ry q f
  cases dx <;> cases dy <;> try exact False.elim q
  · rw [rep_int rx, rep_int ry]
    exact .inl ⟨_, _, rfl, rfl, fw_now rm to_int q f⟩
  · rw [rep_str rx, rep_str ry]
    exact .inr (.inl ⟨_, _, rfl, rfl, q.1, fw_now rm to_str q.2 f⟩)
  · rename_i a b
    obtain ⟨p, vs, rfl, i1, l1⟩ := rep_tup rx
    obtain ⟨p2, vs2, rfl, i2, l2⟩ := rep_tup ry
    refine .inr (.inr (.inl ⟨p, p2, vs, vs2, rfl, rfl, i1.sq, i2.sq, by rw [l1.length, l2.length]; exact q.1, fun e => ?_, fun e e2 => ?_, fun _ _ t n => fw_tup rm n (l1.append l2) q.2 f⟩))
    · subst e
      have e0 : a = [] := List.eq_nil_of_length_eq_zero (by rw [← l1.length]; rfl)
      subst e0
      exact fw_now rm ry q.2 f
    · subst e2
      have e0 : b = [] := List.eq_nil_of_length_eq_zero (by rw [← l2.length]; rfl)
      subst e0
      have q2 := q.2
      rw [List.append_nil] at q2
      exact fw_now rm rx q2 f
  · obtain ⟨p, vs, rfl, i1, n1, l1⟩ := rep_lst rx
    obtain ⟨p2, vs2, rfl, i2, n2, l2⟩ := rep_lst ry
    exact .inr (.inr (.inr ⟨p, p2, vs, vs2, rfl, rfl, i1, i2, by rw [l1.length, l2.length]; exact q.1, fun t n => fw_lst rm n (l1.append l2) q.2 f⟩))
/-- two ints -/
def gII (C : Int → Int → Prop) (h : Int → Int → D) : G2 := fun x y μ R => match x, y with
  | .int i, .int j => C i j ∧ R (h i j) μ
  | _, _ => False
def gII0 (h : Int → Int → D) : G2 := fun x y μ R => match x, y with
  | .int i, .int j => R (h i j) μ
  | _, _ => False
theorem sim_II {K : PySem.W.Frag} {C : Int → Int → Prop} {g : Int → Int → V} {h : Int → Int → D} (e : ∀ H μ i j, Rep K H μ (h i j) (g i j)) : SimO K (rI C g) (gII C h) := by
  intro x y dx dy H μ Q R rm rx ry q f
  cases dx <;> cases dy <;> try exact False.elim q
  rw [rep_int rx, rep_int ry]
  exact ⟨_, _, rfl, rfl, q.1, fw_now rm (e _ _ _ _) q.2 f⟩
theorem sim_II0 {K : PySem.W.Frag} {g : Int → Int → V} {h : Int → Int → D} (e : ∀ H μ i j, Rep K H μ (h i j) (g i j)) : SimO K (rI0 g) (gII0 h) := by
  intro x y dx dy H μ Q R rm rx ry q f
  cases dx <;> cases dy <;> try exact False.elim q
  rw [rep_int rx, rep_int ry]
  exact ⟨_, _, rfl, rfl, fw_now rm (e _ _ _ _) q f⟩
abbrev gMinus : G2 := gII0 fun i j => .int (i - j)
abbrev gMul : G2 := gII CMul fun i j => .int (i * j)
abbrev gFdiv : G2 := gII CDivN fun i j => .int (i.fdiv j)
abbrev gMod : G2 := gII (fun _ j => j ≠ 0) fun i j => .int (i.fmod j)
abbrev gPow : G2 := gII CPow fun i j => .int (i ^ j.toNat)
theorem sim_minus {K : PySem.W.Frag} : SimO K (rI0 fun i j => .int (i - j)) gMinus := sim_II0 fun _ _ _ _ => to_int
theorem sim_mul {K : PySem.W.Frag} : SimO K (rI CMul fun i j => .int (i * j)) gMul := sim_II fun _ _ _ _ => to_int
theorem sim_fdiv {K : PySem.W.Frag} : SimO K (rI CDivN fun i j => .int (i.fdiv j)) gFdiv := sim_II fun _ _ _ _ => to_int
theorem sim_mod {K : PySem.W.Frag} : SimO K (rI (fun _ j => j ≠ 0) fun i j => .int (i.fmod j)) gMod := sim_II fun _ _ _ _ => to_int
theorem sim_pow {K : PySem.W.Frag} : SimO K (rI CPow fun i j => .int (i ^ j.toNat)) gPow := sim_II fun _ _ _ _ => to_int
/-- <, <=, >, >= of ints, of texts -/
def gOrd (h : Int → Int → Bool) (k : List Nat → List Nat → Bool) : G2 := fun x y μ R => match x, y with
  | .int i, .int j => R (.bl (h i j)) μ
  | .str a, .str b => R (.bl (k a.cps.toList b.cps.toList)) μ
  | _, _ => False
def rOrd (h : Int → Int → Bool) (k : List Nat → List Nat → Bool) : R2 := fun x y H Q => (rI0 fun i j => .bl (h i j)) x y H Q ∨ ∃ i j, x = .str i ∧ y = .str j ∧ Q (.bl (k i.cps.toList j.cps.toList)) H
theorem sim_ord {K : PySem.W.Frag} {h : Int → Int → Bool} {k : List Nat → List Nat → Bool} : SimO K (rOrd h k) (gOrd h k) := by
  intro x y dx dy H μ Q R rm rx ry q f
  cases dx <;> cases dy <;> try exact False.elim q
  · rw [rep_int rx, rep_int ry]
    exact .inl ⟨_, _, rfl, rfl, fw_now rm to_bl q f⟩
  · rw [rep_str rx, rep_str ry]
    exact .inr ⟨_, _, rfl, rfl, fw_now rm to_bl q f⟩
abbrev gLt : G2 := gOrd (fun i j => decide (i < j)) fun a b => decide (a < b)
abbrev gLe : G2 := gOrd (fun i j => decide (i ≤ j)) fun a b => !decide (b < a)
abbrev gGt : G2 := gOrd (fun i j => decide (j < i)) fun a b => decide (b < a)
abbrev gGe : G2 := gOrd (fun i j => decide (j ≤ i)) fun a b => !decide (a < b)
section
variable {X : Cx}
theorem op_ltA : OpR X (compareOp .Lt) (rOrd (fun i j => decide (i < j)) fun a b => decide (a < b)) := OpR.or op_lt op_lt_str
theorem op_leA : OpR X (compareOp .LtE) (rOrd (fun i j => decide (i ≤ j)) fun a b => !decide (b < a)) := OpR.or op_le op_le_str
theorem op_gtA : OpR X (compareOp .Gt) (rOrd (fun i j => decide (j < i)) fun a b => decide (b < a)) := OpR.or op_gt op_gt_str
theorem op_geA : OpR X (compareOp .GtE) (rOrd (fun i j => decide (j ≤ i)) fun a b => !decide (a < b)) := OpR.or op_ge op_ge_str
end
/-! ### ==, != -/
mutual
def py : D → Option PyData
  | .non => some .none
  | .bl b => some (.bool b)
  | .int i => some (.int i)
  | .str x => some (.str x)
  | .tup ds => (pyL ds).map .tuple
  | .lst ds => (pyL ds).map .list
  | .seq ds => (pyL ds).map .list
  | .ins _ _ => none
  | .adr _ => none
def pyL : List D → Option (List PyData)
  | [] => some []
  | d :: ds => match py d, pyL ds with
    | some a, some b => some (a :: b)
    | _, _ => none
end
section
variable {K : PySem.W.Frag} {H : Hp} {μ : Mu}
mutual
theorem Rep.dp : ∀ (d : D) (v : V) (e : PyData), Rep K H μ d v → py d = some e → Dp K H v e
  | .non, _, _, h, q => by
    rw [rep_non h]
    unfold py at q
    cases q
    exact .non
  | .bl _, _, _, h, q => by
    rw [rep_bl h]
    unfold py at q
    cases q
    exact .bl _
  | .int _, _, _, h, q => by
    rw [rep_int h]
    unfold py at q
    cases q
    exact .int _
  | .str _, _, _, h, q => by
    rw [rep_str h]
    unfold py at q
    cases q
    exact .str _
  | .tup ds, _, _, h, q => by
    obtain ⟨a, vs, rfl, i, r⟩ := rep_tup h
    unfold py at q
    cases e : pyL ds with
    | none => rw [e] at q; cases q
    | some es =>
      rw [e] at q
      cases q
      exact .tup i.sq (RepL.dp ds vs es r e)
  | .lst ds, _, _, h, q => by
    obtain ⟨a, vs, rfl, i, _, r⟩ := rep_lst h
    unfold py at q
    cases e : pyL ds with
    | none => rw [e] at q; cases q
    | some es =>
      rw [e] at q
      cases q
      exact .lst (SqL.of i) (RepL.dp ds vs es r e)
  | .seq ds, _, _, h, q => by
    obtain ⟨a, vs, rfl, i, r⟩ := rep_seq h
    unfold py at q
    cases e : pyL ds with
    | none => rw [e] at q; cases q
    | some es =>
      rw [e] at q
      cases q
      exact .lst i.sq (RepL.dp ds vs es r e)
  | .ins _ _, _, _, h, q => by unfold py at q; cases q
  | .adr _, _, _, h, q => by unfold py at q; cases q
theorem RepL.dp : ∀ (ds : List D) (vs : List V) (es : List PyData), RepL K H μ ds vs → pyL ds = some es → DpAll K H vs es
  | [], _, _, h, q => by
    unfold RepL at h
    unfold pyL at q
    cases q
    rw [h]
    exact .nil
  | d :: ds, _, _, h, q => by
    unfold RepL at h
    obtain ⟨v, r, rfl, h1, h2⟩ := h
    unfold pyL at q
    cases e1 : py d with
    | none => rw [e1] at q; cases q
    | some a =>
      cases e2 : pyL ds with
      | none => rw [e1, e2] at q; cases q
      | some b =>
        rw [e1, e2] at q
        cases q
        exact .cons (Rep.dp d v a h1 e1) (RepL.dp ds r b h2 e2)
end
end
def gEqD (k : Bool → Bool) : G2 := fun x y μ R => ∃ a b, py x = some a ∧ py y = some b ∧ SeqAt.shaped a = true ∧ SeqAt.shaped b = true ∧ R (.bl (k (PyData.eqv a b))) μ
def gEqK (k : Bool → Bool) : G2 := fun x y μ R => match x, y with
  | .int i, .int j => R (.bl (k (decide (i = j)))) μ
  | .str i, .str j => R (.bl (k (decide (i = j)))) μ
  | .bl i, .bl j => R (.bl (k (decide (i = j)))) μ
  | .non, .non => R (.bl (k true)) μ
  | x, y => gEqD k x y μ R
abbrev gEq : G2 := gEqK id
abbrev gNe : G2 := gEqK not
def rEqA (K : PySem.W.Frag) : R2 := fun x y H Q => rEq x y H Q ∨ rEqD K x y H Q
def rNeA (K : PySem.W.Frag) : R2 := fun x y H Q => rNe x y H Q ∨ rNeD K x y H Q
section
variable {X : Cx}
theorem op_eqA (hu : X.A.units + 64 < cLine) : OpR X (compareOp .Eq) (rEqA X.K) := OpR.or op_eq (op_eqD hu)
theorem op_neA (hu : X.A.units + 64 < cLine) : OpR X (compareOp .NotEq) (rNeA X.K) := OpR.or op_ne (op_neD hu)
end
theorem dec_ref {α β : Type} [DecidableEq α] [DecidableEq β] {f : α → β} (inj : ∀ x y, f x = f y → x = y) {i j : α} : decide (f i = f j) = decide (i = j) := by
  by_cases h : i = j
  · subst h; simp
  · rw [decide_eq_false h, decide_eq_false fun e => h (inj _ _ e)]
theorem sim_eqD {K : PySem.W.Frag} {x y : V} {dx dy : D} {H : Hp} {μ : Mu} {Q : VK} {R : KD} (rm : RM K H μ) (rx : Rep K H μ dx x) (ry : Rep K H μ dy y) (q : gEqD id dx dy μ R) (f : Fw K H μ R Q) : rEqA K x y H Q := by
  obtain ⟨a, b, e1, e2, s1, s2, q⟩ := q
  exact .inr ⟨a, b, Rep.dp _ _ _ rx e1, Rep.dp _ _ _ ry e2, s1, s2, fw_now rm to_bl q f⟩
theorem sim_neD {K : PySem.W.Frag} {x y : V} {dx dy : D} {H : Hp} {μ : Mu} {Q : VK} {R : KD} (rm : RM K H μ) (rx : Rep K H μ dx x) (ry : Rep K H μ dy y) (q : gEqD not dx dy μ R) (f : Fw K H μ R Q) : rNeA K x y H Q := by
  obtain ⟨a, b, e1, e2, s1, s2, q⟩ := q
  exact .inr ⟨a, b, Rep.dp _ _ _ rx e1, Rep.dp _ _ _ ry e2, s1, s2, fw_now rm to_bl q f⟩
theorem sim_eq {K : PySem.W.Frag} : SimO K (rEqA K) gEq := by
  intro x y dx dy H μ Q R rm rx ry q f
  cases dx <;> cases dy <;> try exact sim_eqD rm rx ry q f
  · rw [rep_non rx, rep_non ry]
    exact .inl ⟨rfl, fw_now rm to_bl q f⟩
  · rw [rep_bl rx, rep_bl ry]
    refine .inl ⟨rfl, ?_⟩
    rw [dec_ref (f := V.bl) fun _ _ e => V.bl.inj e]
    exact fw_now rm to_bl q f
  · rw [rep_int rx, rep_int ry]
    refine .inl ⟨rfl, ?_⟩
    rw [dec_ref (f := V.int) fun _ _ e => V.int.inj e]
    exact fw_now rm to_bl q f
  · rw [rep_str rx, rep_str ry]
    refine .inl ⟨rfl, ?_⟩
    rw [dec_ref (f := V.str) fun _ _ e => V.str.inj e]
    exact fw_now rm to_bl q f
theorem sim_ne {K : PySem.W.Frag} : SimO K (rNeA K) gNe := by
  intro x y dx dy H μ Q R rm rx ry q f
  cases dx <;> cases dy <;> try exact sim_neD rm rx ry q f
  · rw [rep_non rx, rep_non ry]
    exact .inl ⟨rfl, fw_now rm to_bl q f⟩
  · rw [rep_bl rx, rep_bl ry]
    refine .inl ⟨rfl, ?_⟩
    rw [dec_ref (f := V.bl) fun _ _ e => V.bl.inj e]
    exact fw_now rm to_bl q f
  · rw [rep_int rx, rep_int ry]
    refine .inl ⟨rfl, ?_⟩
    rw [dec_ref (f := V.int) fun _ _ e => V.int.inj e]
    exact fw_now rm to_bl q f
  · rw [rep_str rx, rep_str ry]
    refine .inl ⟨rfl, ?_⟩
    rw [dec_ref (f := V.str) fun _ _ e => V.str.inj e]
    exact fw_now rm to_bl q f
/-- is None, is not None -/
def D.isNon : D → Bool
  | .non => true
  | _ => false
def gIsN (k : Bool → Bool) : G2 := fun x y μ R => match y with
  | .non => R (.bl (k x.isNon)) μ
  | _ => False
theorem isNon_rep {K : PySem.W.Frag} {H : Hp} {μ : Mu} {d : D} {v : V} (h : Rep K H μ d v) : decide (v = .non) = d.isNon := by
  cases d
  · rw [rep_non h]; rfl
  · rw [rep_bl h]; rfl
  · rw [rep_int h]; rfl
  · rw [rep_str h]; rfl
  · obtain ⟨a, vs, rfl, _⟩ := rep_tup h; rfl
  · obtain ⟨a, vs, rfl, _⟩ := rep_lst h; rfl
  · obtain ⟨a, vs, rfl, _⟩ := rep_seq h; rfl
  · obtain ⟨a, dx, vs, rfl, _⟩ := rep_ins h; rfl
  · rw [rep_adr h]; rfl
theorem sim_isN {K : PySem.W.Frag} : SimO K (fun x y H Q => y = .non ∧ Q (.bl (decide (x = .non))) H) (gIsN id) := by
  intro x y dx dy H μ Q R rm rx ry q f
  cases dy <;> try exact False.elim q
  refine ⟨rep_non ry, ?_⟩
  rw [isNon_rep rx]
  exact fw_now rm to_bl q f
theorem sim_notN {K : PySem.W.Frag} : SimO K (fun x y H Q => y = .non ∧ Q (.bl (!decide (x = .non))) H) (gIsN not) := by
  intro x y dx dy H μ Q R rm rx ry q f
  cases dy <;> try exact False.elim q
  refine ⟨rep_non ry, ?_⟩
  rw [isNon_rep rx]
  exact fw_now rm to_bl q f
/-! ### in, not in -/
def inDs (x : D) (ds : List D) (R : Bool → Prop) : Prop := (∃ i ns, x = .int i ∧ ds = List.map D.int ns ∧ R (decide (i ∈ ns))) ∨ ∃ i ns, x = .str i ∧ ds = List.map D.str ns ∧ R (decide (i ∈ ns))
def gIn (k : Bool → Bool) : G2 := fun x y μ R => match y with
  | .str z => ∃ c, x = .str ⟨#[c]⟩ ∧ R (.bl (k (decide (c ∈ z.cps.toList)))) μ
  | .tup ds => inDs x ds fun b => R (.bl (k b)) μ
  | .lst ds => inDs x ds fun b => R (.bl (k b)) μ
  | _ => False
theorem inV_int (i : Int) : ∀ ns : List Int, inV (.int i) (ns.map V.int) = decide (i ∈ ns)
  | [] => rfl
  | n :: ns => by
    have ih := inV_int i ns
    unfold inV at ih ⊢
    rw [List.map_cons, List.any_cons, ih]
    show ((n == i) || decide (i ∈ ns)) = decide (i ∈ n :: ns)
    by_cases h : n = i
    · subst h; simp
    · have h' : ¬ i = n := fun e => h e.symm
      simp [h, h']
theorem inV_str (i : Str) : ∀ ns : List Str, inV (.str i) (ns.map V.str) = decide (i ∈ ns)
  | [] => rfl
  | n :: ns => by
    have ih := inV_str i ns
    unfold inV at ih ⊢
    rw [List.map_cons, List.any_cons, ih]
    show ((n == i) || decide (i ∈ ns)) = decide (i ∈ n :: ns)
    by_cases h : n = i
    · subst h; simp
    · have h' : ¬ i = n := fun e => h e.symm
      simp [h, h']
theorem flat_ints (ns : List Int) : (ns.map V.int).all flatV = true := by
  rw [List.all_eq_true]
  intro v hv
  obtain ⟨n, _, rfl⟩ := List.mem_map.mp hv
  rfl
theorem flat_strs (ns : List Str) : (ns.map V.str).all flatV = true := by
  rw [List.all_eq_true]
  intro v hv
  obtain ⟨n, _, rfl⟩ := List.mem_map.mp hv
  rfl
theorem inDs_seq {K : PySem.W.Frag} {x : V} {dx : D} {H : Hp} {μ : Mu} {ds : List D} {vs : List V} {R : Bool → Prop} (rx : Rep K H μ dx x) (l : RepL K H μ ds vs) (q : inDs dx ds R) : flatV x = true ∧ vs.all flatV = true ∧ R (inV x vs) := by
  rcases q with ⟨i, ns, rfl, rfl, q⟩ | ⟨i, ns, rfl, rfl, q⟩
  · rw [rep_int rx, l.ints]
    exact ⟨rfl, flat_ints ns, by rw [inV_int]; exact q⟩
  · rw [rep_str rx, l.strs]
    exact ⟨rfl, flat_strs ns, by rw [inV_str]; exact q⟩
def rInA (K : PySem.W.Frag) : R2 := fun x y H Q => (∃ (c : Nat) (z : Str), x = .str ⟨#[c]⟩ ∧ y = .str z ∧ Q (.bl (decide (c ∈ z.cps.toList))) H) ∨ rIn K false x y H Q
def rNotInA (K : PySem.W.Frag) : R2 := fun x y H Q => (∃ (c : Nat) (z : Str), x = .str ⟨#[c]⟩ ∧ y = .str z ∧ Q (.bl (!decide (c ∈ z.cps.toList))) H) ∨ rIn K true x y H Q
section
variable {X : Cx}
theorem op_inA : OpR X (compareOp .In) (rInA X.K) := OpR.or op_in_sign op_in_seq
theorem op_notInA : OpR X (compareOp .NotIn) (rNotInA X.K) := OpR.or op_notIn_sign op_notIn_seq
end
theorem sim_in {K : PySem.W.Frag} : SimO K (rInA K) (gIn id) := by
  intro x y dx dy H μ Q R rm rx ry q f
  cases dy <;> try exact False.elim q
  · obtain ⟨c, rfl, q⟩ := q
    rw [rep_str rx, rep_str ry]
    exact .inl ⟨c, _, rfl, rfl, fw_now rm to_bl q f⟩
  · obtain ⟨p, vs, rfl, i1, l1⟩ := rep_tup ry
    obtain ⟨a, b, q⟩ := inDs_seq (R := fun b => R (.bl b) μ) rx l1 q
    exact .inr ⟨p, vs, rfl, .inr i1.sq, a, b, fw_now rm to_bl q f⟩
  · obtain ⟨p, vs, rfl, i1, n1, l1⟩ := rep_lst ry
    obtain ⟨a, b, q⟩ := inDs_seq (R := fun b => R (.bl b) μ) rx l1 q
    exact .inr ⟨p, vs, rfl, .inl (SqL.of i1), a, b, fw_now rm to_bl q f⟩
theorem sim_notIn {K : PySem.W.Frag} : SimO K (rNotInA K) (gIn not) := by
  intro x y dx dy H μ Q R rm rx ry q f
  cases dy <;> try exact False.elim q
  · obtain ⟨c, rfl, q⟩ := q
    rw [rep_str rx, rep_str ry]
    exact .inl ⟨c, _, rfl, rfl, fw_now rm to_bl q f⟩
  · obtain ⟨p, vs, rfl, i1, l1⟩ := rep_tup ry
    obtain ⟨a, b, q⟩ := inDs_seq (R := fun b => R (.bl (!b)) μ) rx l1 q
    exact .inr ⟨p, vs, rfl, .inr i1.sq, a, b, fw_now rm to_bl q f⟩
  · obtain ⟨p, vs, rfl, i1, n1, l1⟩ := rep_lst ry
    obtain ⟨a, b, q⟩ := inDs_seq (R := fun b => R (.bl (!b)) μ) rx l1 q
    exact .inr ⟨p, vs, rfl, .inl (SqL.of i1), a, b, fw_now rm to_bl q f⟩
/-! ### subscripts -/
theorem RepL.atI {K : PySem.W.Frag} {H : Hp} {μ : Mu} {ds : List D} {vs : List V} {i : Int} {d : D} (r : RepL K H μ ds vs) (e : L2.atI ds i = some d) : ∃ v, L2.atI vs i = some v ∧ Rep K H μ d v := by
  unfold L2.atI at e ⊢
  rw [r.length]
  cases q : ixN ds.length i with
  | none => rw [q] at e; cases e
  | some j =>
    rw [q] at e
    exact r.at_ (by simpa using e)
def atK (ds : List D) (i : Int) (R : D → Prop) : Prop := match L2.atI ds i with
  | some d => R d
  | none => False
def gIx : G2 := fun x y μ R => match x, y with
  | .lst ds, .int i => atK ds i fun d => R d μ
  | .seq ds, .int i => atK ds i fun d => R d μ
  | .tup ds, .int i => atK ds i fun d => R d μ
  | .adr a, .int i => match μ a with
    | some (.lst ds) => atK ds i fun d => R d μ
    | _ => False
  | .str z, .int i => z.length ≤ sizeLine ∧ match L2.atI z.cps.toList i with
    | some c => R (.str ⟨#[c]⟩) μ
    | none => False
  | _, _ => False
def rIxA (K : PySem.W.Frag) : R2 := fun x y H Q => rIxL K x y H Q ∨ rIxT K x y H Q ∨ rIxS x y H Q
theorem ix_any {X : Cx} : IxR X (rIxA X.K) := ix_list.or (ix_tup.or ix_str)
theorem atK_of {ds : List D} {i : Int} {R : D → Prop} (h : atK ds i R) : ∃ d, L2.atI ds i = some d ∧ R d := by
  unfold atK at h
  cases e : L2.atI ds i with
  | none => rw [e] at h; exact False.elim h
  | some d => rw [e] at h; exact ⟨d, rfl, h⟩
theorem sim_ix {K : PySem.W.Frag} : SimO K (rIxA K) gIx := by
  intro x y dx dy H μ Q R rm rx ry q f
  cases dx <;> cases dy <;> try exact False.elim q
  · rename_i z i
    rw [rep_str rx, rep_int ry]
    obtain ⟨h1, h2⟩ := q
    cases e : L2.atI z.cps.toList i with
    | none => rw [e] at h2; exact False.elim h2
    | some c =>
      rw [e] at h2
      exact .inr (.inr ⟨z, i, c, rfl, rfl, h1, e, fw_now rm to_str h2 f⟩)
  · obtain ⟨p, vs, rfl, i1, l1⟩ := rep_tup rx
    obtain ⟨d, e, q⟩ := atK_of q
    obtain ⟨v, e2, rv⟩ := l1.atI e
    rw [rep_int ry]
    exact .inr (.inl ⟨p, vs, _, v, rfl, rfl, i1.sq, e2, fw_now rm rv q f⟩)
  · obtain ⟨p, vs, rfl, i1, n1, l1⟩ := rep_lst rx
    obtain ⟨d, e, q⟩ := atK_of q
    obtain ⟨v, e2, rv⟩ := l1.atI e
    rw [rep_int ry]
    exact .inl ⟨p, vs, _, v, rfl, rfl, SqL.of i1, e2, fw_now rm rv q f⟩
  · obtain ⟨p, vs, rfl, i1, l1⟩ := rep_seq rx
    obtain ⟨d, e, q⟩ := atK_of q
    obtain ⟨v, e2, rv⟩ := l1.atI e
    rw [rep_int ry]
    exact .inl ⟨p, vs, _, v, rfl, rfl, i1.sq, e2, fw_now rm rv q f⟩
  · rename_i a i
    have q : (match μ a with | some (.lst ds) => atK ds i fun d => R d μ | _ => False) := q
    cases e0 : μ a with
    | none => rw [e0] at q; exact False.elim q
    | some o =>
      rw [e0] at q
      cases o <;> try exact False.elim q
      obtain ⟨vs, h1, l1⟩ := rm a _ e0
      obtain ⟨d, e, q⟩ := atK_of q
      obtain ⟨v, e2, rv⟩ := l1.atI e
      rw [rep_int ry, rep_adr rx]
      exact .inl ⟨a, vs, _, v, rfl, rfl, SqL.of h1, e2, fw_now rm rv q f⟩
end DL

set_option Elab.async false
set_option linter.all false
set_option maxRecDepth 100000
namespace DL
open PySem PySem.Spec PyProof.Rows L2
/-! ### built-ins called by name -/
section
variable {X : Cx} {id : String} {T : String} {r : List V → Hp → VK → Prop} {g : GC} {ga : GA} {x : Str} {p pos : Pos} {e : Expr} {es : List Expr}
theorem sim_cb {K : PySem.W.Frag} {t : TA} (h : SimC K r g) (a : SimA K t ga) : SimE K (tCB r t) (gCall g ga) := fun σ H δ μ Q R rm rs q f =>
  a σ H δ μ _ _ rm rs q fun vs ds H1 μ1 k1 rm1 r1 q1 => h vs ds H1 μ1 Q R rm1 r1 q1 (f.re k1)
theorem de_callB (hc : CallR X (.builtin id) r) (h : SimC X.K r g) (hg : Gl X x) (hm : X.mg x = none) (hv : bootBuiltins x = some (.builtin id)) (ha : DA X (e :: es) ga) (hn : x ≠ "__name__" := by decide) (hdb : (x == ("__debug__" : Str)) = false := by decide)
    (he : starEach (e :: es) X.env = (false, eval e X.env) :: starEach es X.env := by rfl) (hpl : (backTo pos (starEach es X.env)).any (·.1) = false := by rfl) : DE X (.Call (.Name x p) (e :: es) [] pos) (gCall g ga) :=
  let ⟨_, a, b⟩ := ha.ex; ⟨_, pe_callB hc hg hm hv a hn hdb he hpl, sim_cb h b⟩
theorem de_callTy (hc : CallR X (.type T) r) (h : SimC X.K r g) (hg : Gl X x) (hm : X.mg x = none) (hv : bootBuiltins x = some (.type T)) (ha : DA X (e :: es) ga) (hn : x ≠ "__name__" := by decide) (hdb : (x == ("__debug__" : Str)) = false := by decide)
    (he : starEach (e :: es) X.env = (false, eval e X.env) :: starEach es X.env := by rfl) (hpl : (backTo pos (starEach es X.env)).any (·.1) = false := by rfl) : DE X (.Call (.Name x p) (e :: es) [] pos) (gCall g ga) :=
  let ⟨_, a, b⟩ := ha.ex; ⟨_, pe_callTy hc hg hm hv a hn hdb he hpl, sim_cb h b⟩
end
theorem repL1 {K : PySem.W.Frag} {H : Hp} {μ : Mu} {d : D} {vs : List V} (h : RepL K H μ [d] vs) : ∃ v, vs = [v] ∧ Rep K H μ d v := by
  unfold RepL at h
  obtain ⟨v, r, rfl, h1, h2⟩ := h
  unfold RepL at h2
  subst h2
  exact ⟨v, rfl, h1⟩
theorem repL2 {K : PySem.W.Frag} {H : Hp} {μ : Mu} {d e : D} {vs : List V} (h : RepL K H μ [d, e] vs) : ∃ v w, vs = [v, w] ∧ Rep K H μ d v ∧ Rep K H μ e w := by
  unfold RepL at h
  obtain ⟨v, r, rfl, h1, h2⟩ := h
  obtain ⟨w, rfl, h3⟩ := repL1 h2
  exact ⟨v, w, rfl, h1, h3⟩
/-- one argument -/
def g1 (g : G1) : GC := fun ds μ R => match ds with
  | [d] => g d μ R
  | _ => False
def g2 (g : G2) : GC := fun ds μ R => match ds with
  | [d, e] => g d e μ R
  | _ => False
theorem sim_g1 {K : PySem.W.Frag} {r : List V → Hp → VK → Prop} {g : G1} (h : ∀ v d H μ (Q : VK) (R : KD), RM K H μ → Rep K H μ d v → g d μ R → Fw K H μ R Q → r [v] H Q) : SimC K r (g1 g) := by
  intro vs ds H μ Q R rm rl q f
  match ds, rl, q with
  | [d], rl, q =>
    obtain ⟨v, rfl, r1⟩ := repL1 rl
    exact h v d H μ Q R rm r1 q f
theorem sim_g2 {K : PySem.W.Frag} {r : List V → Hp → VK → Prop} {g : G2} (h : ∀ v w d e H μ (Q : VK) (R : KD), RM K H μ → Rep K H μ d v → Rep K H μ e w → g d e μ R → Fw K H μ R Q → r [v, w] H Q) : SimC K r (g2 g) := by
  intro vs ds H μ Q R rm rl q f
  match ds, rl, q with
  | [d, e], rl, q =>
    obtain ⟨v, w, rfl, r1, r2⟩ := repL2 rl
    exact h v w d e H μ Q R rm r1 r2 q f
/-- len -/
def gLen1 : G1 := fun x μ R => match x with
  | .lst ds => R (.int ds.length) μ
  | .seq ds => R (.int ds.length) μ
  | .tup ds => R (.int ds.length) μ
  | .str z => z.length ≤ sizeLine ∧ R (.int z.length) μ
  | .adr a => match μ a with
    | some (.lst ds) => R (.int ds.length) μ
    | _ => False
  | _ => False
def rLenA (K : PySem.W.Frag) : List V → Hp → VK → Prop := fun xs H Q => (∃ p ys, xs = [.ref p] ∧ (SqL K H p ys ∨ SqT K H p ys) ∧ Q (.int ys.length) H) ∨ ∃ z, xs = [.str z] ∧ z.length ≤ sizeLine ∧ Q (.int z.length) H
theorem cr_len {X : Cx} : CallR X (.builtin "len") (rLenA X.K) := CallR.or call_len_seq call_len_str
theorem sim_len {K : PySem.W.Frag} : SimC K (rLenA K) (g1 gLen1) := sim_g1 fun v d H μ Q R rm rv q f => by
  cases d <;> try exact False.elim q
  · rw [rep_str rv]
    exact .inr ⟨_, rfl, q.1, fw_now rm to_int q.2 f⟩
  · obtain ⟨p, vs, rfl, i, l⟩ := rep_tup rv
    exact .inl ⟨p, vs, rfl, .inr i.sq, by rw [l.length]; exact fw_now rm to_int q f⟩
  · obtain ⟨p, vs, rfl, i, _, l⟩ := rep_lst rv
    exact .inl ⟨p, vs, rfl, .inl (SqL.of i), by rw [l.length]; exact fw_now rm to_int q f⟩
  · obtain ⟨p, vs, rfl, i, l⟩ := rep_seq rv
    exact .inl ⟨p, vs, rfl, .inl i.sq, by rw [l.length]; exact fw_now rm to_int q f⟩
  · rename_i a
    have q : (match μ a with | some (.lst ds) => R (.int ds.length) μ | _ => False) := q
    cases e0 : μ a with
    | none => rw [e0] at q; exact False.elim q
    | some o =>
      rw [e0] at q
      cases o <;> try exact False.elim q
      obtain ⟨vs, h1, l⟩ := rm a _ e0
      rw [rep_adr rv]
      exact .inl ⟨a, vs, rfl, .inl (SqL.of h1), by rw [l.length]; exact fw_now rm to_int q f⟩
/-- all, any of a list of bools -/
def gBools (k : List Bool → Bool) : G1 := fun x μ R => match x with
  | .lst ds => ∃ bs, ds = List.map D.bl bs ∧ R (.bl (k bs)) μ
  | _ => False
theorem sim_all {K : PySem.W.Frag} : SimC K (rAll K) (g1 (gBools fun bs => bs.all id)) := sim_g1 fun v d H μ Q R rm rv q f => by
  cases d <;> try exact False.elim q
  obtain ⟨bs, rfl, q⟩ := q
  obtain ⟨p, vs, rfl, i, _, l⟩ := rep_lst rv
  exact ⟨p, bs, rfl, SqL.of (by rw [i, l.bools]), fw_now rm to_bl q f⟩
theorem sim_any {K : PySem.W.Frag} : SimC K (rAny K) (g1 (gBools fun bs => bs.any id)) := sim_g1 fun v d H μ Q R rm rv q f => by
  cases d <;> try exact False.elim q
  obtain ⟨bs, rfl, q⟩ := q
  obtain ⟨p, vs, rfl, i, _, l⟩ := rep_lst rv
  exact ⟨p, bs, rfl, SqL.of (by rw [i, l.bools]), fw_now rm to_bl q f⟩
/-- sum, max, min of a list of ints -/
def gSum1 : G1 := fun x μ R => match x with
  | .lst ds => ∃ ns, ds = List.map D.int ns ∧ R (.int ns.sum) μ
  | _ => False
theorem sim_sum {K : PySem.W.Frag} : SimC K (rSum K) (g1 gSum1) := sim_g1 fun v d H μ Q R rm rv q f => by
  cases d <;> try exact False.elim q
  obtain ⟨bs, rfl, q⟩ := q
  obtain ⟨p, vs, rfl, i, _, l⟩ := rep_lst rv
  exact ⟨p, bs, rfl, SqL.of (by rw [i, l.ints]), fw_now rm to_int q f⟩
/-- int(n), abs(n) -/
def gInt1 : G1 := fun x μ R => match x with
  | .int i => R (.int i) μ
  | _ => False
theorem sim_int {K : PySem.W.Frag} : SimC K (fun xs H Q => (∃ i, xs = [.int i] ∧ Q (.int i) H) ∨ ∃ k, xs = [.bl k] ∧ Q (.int (if k then 1 else 0)) H) (g1 gInt1) := sim_g1 fun v d H μ Q R rm rv q f => by
  cases d <;> try exact False.elim q
  rw [rep_int rv]
  exact .inl ⟨_, rfl, fw_now rm to_int q f⟩
def gAbs1 : G1 := fun x μ R => match x with
  | .int i => R (.int (if i < 0 then -i else i)) μ
  | _ => False
theorem sim_abs {K : PySem.W.Frag} : SimC K (fun xs H Q => ∃ i, xs = [.int i] ∧ Q (.int (if i < 0 then -i else i)) H) (g1 gAbs1) := sim_g1 fun v d H μ Q R rm rv q f => by
  cases d <;> try exact False.elim q
  rw [rep_int rv]
  exact ⟨_, rfl, fw_now rm to_int q f⟩
/-- max, min of two ints -/
theorem sim_max2 {K : PySem.W.Frag} : SimC K (fun xs H Q => ∃ i j, xs = [.int i, .int j] ∧ Q (.int (if j > i then j else i)) H) (g2 (gII0 fun i j => .int (if j > i then j else i))) := sim_g2 fun v w d e H μ Q R rm rv rw q f => by
  cases d <;> cases e <;> try exact False.elim q
  rw [rep_int rv, rep_int rw]
  exact ⟨_, _, rfl, fw_now rm to_int q f⟩
theorem sim_min2 {K : PySem.W.Frag} : SimC K (fun xs H Q => ∃ i j, xs = [.int i, .int j] ∧ Q (.int (if j < i then j else i)) H) (g2 (gII0 fun i j => .int (if j < i then j else i))) := sim_g2 fun v w d e H μ Q R rm rv rw q f => by
  cases d <;> cases e <;> try exact False.elim q
  rw [rep_int rv, rep_int rw]
  exact ⟨_, _, rfl, fw_now rm to_int q f⟩
/-- tuple(list), tuple(tuple) -/
def gTuple1 : G1 := fun x μ R => match x with
  | .lst ds => R (.tup ds) μ
  | .seq ds => R (.tup ds) μ
  | .tup ds => R (.tup ds) μ
  | .adr a => match μ a with
    | some (.lst ds) => R (.tup ds) μ
    | _ => False
  | _ => False
theorem sim_tuple {K : PySem.W.Frag} : SimC K (fun xs H Q => ∃ p ys, xs = [.ref p] ∧ ((SqL K H p ys ∧ ∀ l, H l = none → Q (.ref l) (upd H l (.tup ys))) ∨ (SqT K H p ys ∧ Q (.ref p) H))) (g1 gTuple1) := sim_g1 fun v d H μ Q R rm rv q f => by
  cases d <;> try exact False.elim q
  · obtain ⟨p, vs, rfl, i, l⟩ := rep_tup rv
    exact ⟨p, vs, rfl, .inr ⟨i.sq, fw_now rm rv q f⟩⟩
  · obtain ⟨p, vs, rfl, i, _, l⟩ := rep_lst rv
    exact ⟨p, vs, rfl, .inl ⟨SqL.of i, fun t n => fw_tup rm n l q f⟩⟩
  · obtain ⟨p, vs, rfl, i, l⟩ := rep_seq rv
    exact ⟨p, vs, rfl, .inl ⟨i.sq, fun t n => fw_tup rm n l q f⟩⟩
  · rename_i a
    have q : (match μ a with | some (.lst ds) => R (.tup ds) μ | _ => False) := q
    cases e0 : μ a with
    | none => rw [e0] at q; exact False.elim q
    | some o =>
      rw [e0] at q
      cases o <;> try exact False.elim q
      obtain ⟨vs, h1, l⟩ := rm a _ e0
      rw [rep_adr rv]
      exact ⟨a, vs, rfl, .inl ⟨SqL.of h1, fun t n => fw_tup rm n l q f⟩⟩
/-- list(list), list(tuple): a new list; one that will change -/
def gList1 : G1 := fun x μ R => match x with
  | .lst ds => R (.lst ds) μ
  | .seq ds => R (.lst ds) μ
  | .tup ds => R (.lst ds) μ
  | _ => False
def gListC1 : G1 := fun x μ R => match x with
  | .lst ds => ∀ a, μ a = none → R (.adr a) (put μ a (.lst ds))
  | .seq ds => ∀ a, μ a = none → R (.adr a) (put μ a (.lst ds))
  | .tup ds => ∀ a, μ a = none → R (.adr a) (put μ a (.lst ds))
  | _ => False
abbrev rListOf (K : PySem.W.Frag) : List V → Hp → VK → Prop := fun xs H Q => ∃ p ys, xs = [.ref p] ∧ (SqL K H p ys ∨ SqT K H p ys) ∧ ∀ l, H l = none → Q (.ref l) (upd H l (.lst ys))
theorem sim_list {K : PySem.W.Frag} : SimC K (rListOf K) (g1 gList1) := sim_g1 fun v d H μ Q R rm rv q f => by
  cases d <;> try exact False.elim q
  · obtain ⟨p, vs, rfl, i, l⟩ := rep_tup rv
    exact ⟨p, vs, rfl, .inr i.sq, fun t n => fw_lst rm n l q f⟩
  · obtain ⟨p, vs, rfl, i, _, l⟩ := rep_lst rv
    exact ⟨p, vs, rfl, .inl (SqL.of i), fun t n => fw_lst rm n l q f⟩
  · obtain ⟨p, vs, rfl, i, l⟩ := rep_seq rv
    exact ⟨p, vs, rfl, .inl i.sq, fun t n => fw_lst rm n l q f⟩
theorem sim_listC {K : PySem.W.Frag} : SimC K (rListOf K) (g1 gListC1) := sim_g1 fun v d H μ Q R rm rv q f => by
  cases d <;> try exact False.elim q
  · obtain ⟨p, vs, rfl, i, l⟩ := rep_tup rv
    exact ⟨p, vs, rfl, .inr i.sq, fun t n => fw_cell rm n l q f⟩
  · obtain ⟨p, vs, rfl, i, _, l⟩ := rep_lst rv
    exact ⟨p, vs, rfl, .inl (SqL.of i), fun t n => fw_cell rm n l q f⟩
  · obtain ⟨p, vs, rfl, i, l⟩ := rep_seq rv
    exact ⟨p, vs, rfl, .inl i.sq, fun t n => fw_cell rm n l q f⟩
/-- divmod -/
def gDivmod2 : G2 := fun x y μ R => match x, y with
  | .int i, .int j => (0 < j ∧ j < 1073741824) ∧ R (.tup [.int (i / j), .int (i % j)]) μ
  | _, _ => False
theorem sim_divmod {K : PySem.W.Frag} : SimC K (fun xs H Q => ∃ i j, xs = [.int i, .int j] ∧ CDivP i j ∧ ∀ p, H p = none → Q (.ref p) (upd H p (.tup [.int (i / j), .int (i % j)]))) (g2 gDivmod2) := sim_g2 fun v w d e H μ Q R rm rv rw q f => by
  cases d <;> cases e <;> try exact False.elim q
  rename_i i j
  rw [rep_int rv, rep_int rw]
  have q : (0 < j ∧ j < 1073741824) ∧ R (.tup [.int (i / j), .int (i % j)]) μ := q
  exact ⟨i, j, rfl, ⟨q.1.1, PyProof.noPylong_small (by omega)⟩, fun t n => fw_tup rm n (RepL.cons to_int (RepL.cons to_int RepL.nil)) q.2 f⟩
/-- sorted of texts -/
def gSortedS1 : G1 := fun x μ R => match x with
  | .lst ds => ∃ ss : List Str, ds = List.map D.str ss ∧ ss.length < 64 ∧ ∀ ys : List Str, ys.Perm ss → sortedS ys = true → R (.lst (List.map D.str ys)) μ
  | .adr a => match μ a with
    | some (.lst ds) => ∃ ss : List Str, ds = List.map D.str ss ∧ ss.length < 64 ∧ ∀ ys : List Str, ys.Perm ss → sortedS ys = true → R (.lst (List.map D.str ys)) μ
    | _ => False
  | _ => False
theorem sim_sortedS {K : PySem.W.Frag} : SimC K (rSortedS K) (g1 gSortedS1) := sim_g1 fun v d H μ Q R rm rv q f => by
  cases d <;> try exact False.elim q
  · obtain ⟨ss, rfl, h64, q⟩ := q
    obtain ⟨p, vs, rfl, i, _, l⟩ := rep_lst rv
    exact ⟨p, ss, rfl, SqL.of (by rw [i, l.strs]), h64, fun ys t hp hs n => fw_lst rm n (RepL.of_strs ys) (q ys hp hs) f⟩
  · rename_i a
    have q : (match μ a with | some (.lst ds) => ∃ ss : List Str, ds = List.map D.str ss ∧ ss.length < 64 ∧ ∀ ys : List Str, ys.Perm ss → sortedS ys = true → R (.lst (List.map D.str ys)) μ | _ => False) := q
    cases e0 : μ a with
    | none => rw [e0] at q; exact False.elim q
    | some o =>
      rw [e0] at q
      cases o <;> try exact False.elim q
      obtain ⟨ss, rfl, h64, q⟩ := q
      obtain ⟨vs, h1, l⟩ := rm a _ e0
      rw [rep_adr rv]
      exact ⟨a, ss, rfl, SqL.of (by rw [h1, l.strs]), h64, fun ys t hp hs n => fw_lst rm n (RepL.of_strs ys) (q ys hp hs) f⟩
/-- isinstance(x, T), T a built-in class written by its name -/
def tyName : D → Option String
  | .non => some "NoneType"
  | .bl _ => some "bool"
  | .int _ => some "int"
  | .str _ => some "str"
  | .tup _ => some "tuple"
  | .lst _ => some "list"
  | _ => none
theorem tyX_of {K : PySem.W.Frag} {H : Hp} {μ : Mu} {d : D} {v : V} {n : String} (h : Rep K H μ d v) (e : tyName d = some n) (ht : ∀ ds, d = .tup ds → ∃ a vs, v = .ref a ∧ H a = some (.tup vs)) : TyX K H v (.type n) := by
  cases d <;> cases e
  · rw [rep_non h]; exact .base .non
  · rw [rep_bl h]; exact .base (.bl _)
  · rw [rep_int h]; exact .base (.int _)
  · rw [rep_str h]; exact .base (.str _)
  · obtain ⟨a, vs, rfl, h1⟩ := ht _ rfl
    exact .base (.tup h1)
  · obtain ⟨a, vs, rfl, i, _⟩ := rep_lst h
    exact .base (.lst i)
/-! ### methods -/
abbrev GM := D → List D → Mu → KD → Prop
def gBM (ok : D → Mu → Prop) (g : GM) (go : GE) (ga : GA) : GE := fun δ μ R => go δ μ fun x μ1 => ok x μ1 ∧ ga δ μ1 fun xs μ2 => g x xs μ2 R
def gBM0 (ok : D → Mu → Prop) (g : GM) (go : GE) : GE := fun δ μ R => go δ μ fun x μ1 => ok x μ1 ∧ g x [] μ1 R
def okStr : D → Mu → Prop := fun d _ => match d with
  | .str _ => True
  | _ => False
def okCell : D → Mu → Prop := fun d μ => match d with
  | .adr a => match μ a with
    | some (.lst _) => True
    | _ => False
  | _ => False
def OkTy (K : PySem.W.Frag) (T : String) (ok : D → Mu → Prop) : Prop := ∀ v d H μ, RM K H μ → Rep K H μ d v → ok d μ → tyV K T v H
theorem ok_str {K : PySem.W.Frag} : OkTy K "str" okStr := fun v d H μ rm r h => by
  cases d <;> try exact False.elim h
  rw [rep_str r]
  rfl
theorem ok_cell {K : PySem.W.Frag} : OkTy K "list" okCell := fun v d H μ rm r h => by
  cases d <;> try exact False.elim h
  rename_i a
  have h : (match μ a with | some (.lst _) => True | _ => False) := h
  cases e0 : μ a with
  | none => rw [e0] at h; exact False.elim h
  | some o =>
    rw [e0] at h
    cases o <;> try exact False.elim h
    obtain ⟨vs, h1, l⟩ := rm a _ e0
    rw [rep_adr r]
    exact .inl ⟨rfl, _, SqL.of h1⟩
def SimM (K : PySem.W.Frag) (r : V → List V → Hp → VK → Prop) (g : GM) : Prop := ∀ x dx vs ds H μ (Q : VK) (R : KD), RM K H μ → Rep K H μ dx x → RepL K H μ ds vs → g dx ds μ R → Fw K H μ R Q → r x vs H Q
section
variable {X : Cx} {o e : Expr} {es : List Expr} {name : Str} {apos cpos : Pos} {T id : String} {r : V → List V → Hp → VK → Prop} {ok : D → Mu → Prop} {g : GM} {go : GE} {ga : GA}
theorem de_bm (pa : PlainAttrs T) (slot : Slot T name id) (hty : typeOf (.builtin id) = pure (.type "method_descriptor")) (hm : MtR X id r) (sm : SimM X.K r g) (hok : OkTy X.K T ok) (ho : DE X o go) (ha : DA X (e :: es) ga)
    (hbase : attributeBase o name X.env (eval o X.env) = eval o X.env := by rfl)
    (hfew : ((backTo cpos (starEach (e :: es) X.env)).all (fun x => !x.1) && (backToKw cpos (keywordEach [] X.env)).all (fun x => x.1.isSome)
      && decide ((e :: es).length + ([] : List Keyword).length + (if ([] : List Keyword).isEmpty then 0 else 1) < 30)) = true := by rfl)
    (hline : (apos.endLine == cpos.line) = true := by rfl) (hs : starEach (e :: es) X.env = (false, eval e X.env) :: starEach es X.env := by rfl) (hplain : (backTo cpos (starEach es X.env)).any (·.1) = false := by rfl) :
    DE X (.Call (.Attribute o name apos) (e :: es) [] cpos) (gBM ok g go ga) := by
  obtain ⟨t, a1, a2⟩ := ho.ex
  obtain ⟨u, b1, b2⟩ := ha.ex
  refine ⟨_, pe_bm pa slot hty hm a1 b1 hbase hfew hline hs hplain, fun σ H δ μ Q R rm rs q f => ?_⟩
  refine a2 σ H δ μ _ _ rm rs q fun v d H1 μ1 k1 rm1 r1 q1 => ⟨hok v d H1 μ1 rm1 r1 q1.1, ?_⟩
  exact b2 σ H1 δ μ1 _ _ rm1 (rs.mono k1) q1.2 fun vs ds H2 μ2 k2 rm2 r2 q2 => sm v d vs ds H2 μ2 Q R rm2 (r1.mono k2) r2 q2 (f.re (k1.trans k2))
theorem de_bm0 (pa : PlainAttrs T) (slot : Slot T name id) (hty : typeOf (.builtin id) = pure (.type "method_descriptor")) (hm : MtR X id r) (sm : SimM X.K r g) (hok : OkTy X.K T ok) (ho : DE X o go)
    (hbase : attributeBase o name X.env (eval o X.env) = eval o X.env := by rfl) (hline : (apos.endLine == cpos.line) = true := by rfl) : DE X (.Call (.Attribute o name apos) [] [] cpos) (gBM0 ok g go) := by
  obtain ⟨t, a1, a2⟩ := ho.ex
  refine ⟨_, pe_bm0 pa slot hty hm a1 hbase hline, fun σ H δ μ Q R rm rs q f => ?_⟩
  exact a2 σ H δ μ _ _ rm rs q fun v d H1 μ1 k1 rm1 r1 q1 => ⟨hok v d H1 μ1 rm1 r1 q1.1, sm v d [] [] H1 μ1 Q R rm1 r1 RepL.nil q1.2 (f.re k1)⟩
end
/-- one argument; two -/
def gM1 (g : G2) : GM := fun x xs μ R => match xs with
  | [d] => g x d μ R
  | _ => False
def gM2 (g : D → D → D → Mu → KD → Prop) : GM := fun x xs μ R => match xs with
  | [d, e] => g x d e μ R
  | _ => False
theorem sim_m1 {K : PySem.W.Frag} {r : V → List V → Hp → VK → Prop} {g : G2} (h : ∀ x v dx d H μ (Q : VK) (R : KD), RM K H μ → Rep K H μ dx x → Rep K H μ d v → g dx d μ R → Fw K H μ R Q → r x [v] H Q) : SimM K r (gM1 g) := by
  intro x dx vs ds H μ Q R rm rx rl q f
  match ds, rl, q with
  | [d], rl, q =>
    obtain ⟨v, rfl, r1⟩ := repL1 rl
    exact h x v dx d H μ Q R rm rx r1 q f
theorem sim_m2 {K : PySem.W.Frag} {r : V → List V → Hp → VK → Prop} {g : D → D → D → Mu → KD → Prop} (h : ∀ x v w dx d e H μ (Q : VK) (R : KD), RM K H μ → Rep K H μ dx x → Rep K H μ d v → Rep K H μ e w → g dx d e μ R → Fw K H μ R Q → r x [v, w] H Q) : SimM K r (gM2 g) := by
  intro x dx vs ds H μ Q R rm rx rl q f
  match ds, rl, q with
  | [d, e], rl, q =>
    obtain ⟨v, w, rfl, r1, r2⟩ := repL2 rl
    exact h x v w dx d e H μ Q R rm rx r1 r2 q f
/-- two texts -/
def gSS (h : Str → Str → KD → Mu → Prop) : G2 := fun x y μ R => match x, y with
  | .str a, .str b => h a b R μ
  | _, _ => False
/-- text.count(text) -/
abbrev gCount : GM := gM1 (gSS fun a b R μ => R (.int (Txt.count a b)) μ)
theorem sim_count {K : PySem.W.Frag} : SimM K (fun x xs H Q => ∃ a b, x = .str a ∧ xs = [.str b] ∧ Q (.int (Txt.count a b)) H) gCount := sim_m1 fun x v dx d H μ Q R rm rx rv q f => by
  cases dx <;> cases d <;> try exact False.elim q
  rw [rep_str rx, rep_str rv]
  exact ⟨_, _, rfl, rfl, fw_now rm to_int q f⟩
/-- text.index(text) -/
abbrev gIndex : GM := gM1 (gSS fun a b R μ => ∃ i rest, Builtin.Str.occurrences a b 0 a.length 1 = i :: rest ∧ R (.int (i : Nat)) μ)
theorem sim_index {K : PySem.W.Frag} : SimM K (fun x xs H Q => ∃ a b i rest, x = .str a ∧ xs = [.str b] ∧ Builtin.Str.occurrences a b 0 a.length 1 = i :: rest ∧ Q (.int (i : Nat)) H) gIndex := sim_m1 fun x v dx d H μ Q R rm rx rv q f => by
  cases dx <;> cases d <;> try exact False.elim q
  obtain ⟨i, rest, e, q⟩ := q
  rw [rep_str rx, rep_str rv]
  exact ⟨_, _, i, rest, rfl, rfl, e, fw_now rm to_int q f⟩
/-- sep.join(texts) -/
def gJoin2 : G2 := fun x y μ R => match x, y with
  | .str a, .lst ds => ∃ ys : List Str, ds = List.map D.str ys ∧ (ys.map (·.length)).sum + ys.length * a.length ≤ 16777216 ∧ R (.str (Txt.join a ys)) μ
  | _, _ => False
theorem sim_join {K : PySem.W.Frag} : SimM K (fun x xs H Q => ∃ a p, ∃ ys : List Str, x = .str a ∧ xs = [.ref p] ∧ (SqL K H p (ys.map V.str) ∨ SqT K H p (ys.map V.str)) ∧ (ys.map (·.length)).sum + ys.length * a.length ≤ 16777216 ∧ Q (.str (Txt.join a ys)) H) (gM1 gJoin2) := sim_m1 fun x v dx d H μ Q R rm rx rv q f => by
  cases dx <;> cases d <;> try exact False.elim q
  obtain ⟨ys, rfl, hz, q⟩ := q
  obtain ⟨p, vs, rfl, i, _, l⟩ := rep_lst rv
  exact ⟨_, p, ys, rep_str rx, rfl, .inl (SqL.of (by rw [i, l.strs])), hz, fw_now rm to_str q f⟩
/-- cell.append(v) -/
def gAppend2 : G2 := fun x d μ R => match x with
  | .adr a => ∃ ds, μ a = some (.lst ds) ∧ ds.length < sizeLine ∧ R .non (put μ a (.lst (ds ++ [d])))
  | _ => False
theorem sim_append {K : PySem.W.Frag} : SimM K rAppend (gM1 gAppend2) := sim_m1 fun x v dx d H μ Q R rm rx rv q f => by
  cases dx <;> try exact False.elim q
  rename_i a
  obtain ⟨ds, e0, hz, q⟩ := q
  obtain ⟨vs, h1, l⟩ := rm a _ e0
  exact ⟨a, vs, v, rep_adr rx, rfl, h1, by rw [l.length]; exact hz, fw_write rm e0 (l.append (RepL.cons rv RepL.nil)) to_non q f⟩
/-- cell.pop(i), 0 ≤ i in bounds -/
def gPopAt2 : G2 := fun x y μ R => match x, y with
  | .adr a, .int i => ∃ ds, μ a = some (.lst ds) ∧ 0 ≤ i ∧ i < 2 ^ 63 ∧ ∃ d, ds[i.toNat]? = some d ∧ R d (put μ a (.lst (ds.eraseIdx i.toNat)))
  | _, _ => False
theorem sim_popAt {K : PySem.W.Frag} : SimM K rPopAt (gM1 gPopAt2) := sim_m1 fun x v dx d H μ Q R rm rx rv q f => by
  cases dx <;> cases d <;> try exact False.elim q
  rename_i a i
  obtain ⟨ds, e0, h0, hz, d, ed, q⟩ := q
  obtain ⟨vs, h1, l⟩ := rm a _ e0
  obtain ⟨y, ey, ry⟩ := l.at_ ed
  have hl : i.toNat < vs.length := (List.getElem?_eq_some_iff.mp ey).1
  rw [rep_int rv]
  exact ⟨a, vs, i, i.toNat, y, rep_adr rx, rfl, h1, by omega, hz, (ixN_seq (by unfold ixN; rw [if_pos h0, if_pos (by omega)])).1, ey, fw_write rm e0 (l.erase _) ry q f⟩
/-- cell.insert(i, v) -/
def gInsert3 : D → D → D → Mu → KD → Prop := fun x y d μ R => match x, y with
  | .adr a, .int i => ∃ ds, μ a = some (.lst ds) ∧ ds.length < sizeLine ∧ 0 ≤ i ∧ i < 2 ^ 63 ∧ R .non (put μ a (.lst (ds.take i.toNat ++ [d] ++ ds.drop i.toNat)))
  | _, _ => False
theorem sim_insert {K : PySem.W.Frag} : SimM K (fun x vs H Q => ∃ (l : Addr) (xs : List V) (i : Int) (y : V), x = .ref l ∧ vs = [.int i, y] ∧ H l = some (.lst xs) ∧ xs.length < sizeLine ∧ 0 ≤ i ∧ i < 2 ^ 63 ∧
    Q .non (upd H l (.lst (xs.take i.toNat ++ [y] ++ xs.drop i.toNat)))) (gM2 gInsert3) := sim_m2 fun x v w dx d e H μ Q R rm rx rv rw q f => by
  cases dx <;> cases d <;> try exact False.elim q
  rename_i a i
  obtain ⟨ds, e0, hz, h0, h63, q⟩ := q
  obtain ⟨vs, h1, l⟩ := rm a _ e0
  rw [rep_int rv]
  exact ⟨a, vs, i, w, rep_adr rx, rfl, h1, by rw [l.length]; exact hz, h0, h63, fw_write rm e0 (((l.take _).append (RepL.cons rw RepL.nil)).append (l.drop _)) to_non q f⟩

/-! ### fields -/
theorem RepF.look {K : PySem.W.Frag} {H : Hp} {μ : Mu} {x : Str} {d : D} : ∀ {fs : List (Str × D)} {fv : List (Str × V)}, RepF K H μ fs fv → fs.lookup x = some d → ∃ v, fv.lookup x = some v ∧ Rep K H μ d v
  | [], _, _, e => by cases e
  | (y, c) :: fs, _, h, e => by
    unfold RepF at h
    obtain ⟨v, r, rfl, h1, h2⟩ := h
    rw [List.lookup_cons] at e ⊢
    cases hb : x == y with
    | true =>
      rw [hb] at e
      have e' : c = d := Option.some.inj e
      subst e'
      exact ⟨v, rfl, h1⟩
    | false =>
      rw [hb] at e
      exact RepF.look h2 e
theorem RepF.length {K : PySem.W.Frag} {H : Hp} {μ : Mu} : ∀ {fs : List (Str × D)} {fv : List (Str × V)}, RepF K H μ fs fv → fv.length = fs.length
  | [], _, h => by
    unfold RepF at h
    rw [h] <;> rfl
  | (y, c) :: fs, _, h => by
    unfold RepF at h
    obtain ⟨v, r, rfl, h1, h2⟩ := h
    show r.length + 1 = fs.length + 1
    rw [RepF.length h2]
def dPut (f : Str) (d : D) : List (Str × D) → List (Str × D)
  | [] => [(f, d)]
  | (g, x) :: r => if g = f then (g, d) :: r else (g, x) :: dPut f d r
theorem RepF.put {K : PySem.W.Frag} {H : Hp} {μ : Mu} {x : Str} {d : D} {v : V} (rv : Rep K H μ d v) : ∀ {fs : List (Str × D)} {fv : List (Str × V)}, RepF K H μ fs fv → RepF K H μ (dPut x d fs) (putF x v fv)
  | [], _, h => by
    unfold RepF at h
    subst h
    show RepF K H μ [(x, d)] [(x, v)]
    unfold RepF
    exact ⟨v, [], rfl, rv, by unfold RepF; rfl⟩
  | (y, c) :: fs, _, h => by
    unfold RepF at h
    obtain ⟨u, r, rfl, h1, h2⟩ := h
    show RepF K H μ (if y = x then (y, d) :: fs else (y, c) :: dPut x d fs) (if y = x then (y, v) :: r else (y, u) :: putF x v r)
    by_cases e : y = x
    · rw [if_pos e, if_pos e]
      unfold RepF
      exact ⟨v, r, rfl, rv, h2⟩
    · rw [if_neg e, if_neg e]
      unfold RepF
      exact ⟨u, _, rfl, h1, RepF.put rv h2⟩
/-- o.f of an instance that stays as it is -/
def gFld (C : Addr) (f : Str) (g : GE) : GE := fun δ μ R => g δ μ fun d μ1 => match d with
  | .ins C' fs => C' = C ∧ ∃ x, fs.lookup f = some x ∧ R x μ1
  | _ => False
section
variable {X : Cx} {e o value : Expr} {f : Str} {pos pos' : Pos} {g gv : GE} {C : Addr}
theorem de_fld (c : Cls X.K C) (n : NoAttr X.K C f) (he : DE X e g) (hb : attributeBase e f X.env (eval e X.env) = eval e X.env := by rfl) : DE X (.Attribute e f pos) (gFld C f g) := by
  obtain ⟨t, a1, a2⟩ := he.ex
  refine ⟨_, pe_fld a1 hb, fun σ H δ μ Q R rm rs q fw => ?_⟩
  refine a2 σ H δ μ _ _ rm rs q fun v d H1 μ1 k1 rm1 r1 q1 => ?_
  cases d <;> try exact False.elim q1
  obtain ⟨rfl, x, e1, q1⟩ := q1
  obtain ⟨a, dx, fv, rfl, h1, _, rf⟩ := rep_ins r1
  obtain ⟨y, e2, ry⟩ := rf.look e1
  exact ⟨a, _, dx, fv, y, rfl, h1, c, n, e2, fw_now rm1 ry q1 (fw.re k1)⟩
/-- o.f = e, o an instance in the store -/
def gSetF (C : Addr) (f : Str) (go gv : GE) : GS := fun F δ μ => gv δ μ fun d μ1 => go δ μ1 fun x μ2 => match x with
  | .adr a => ∃ fs, μ2 a = some (.ins C fs) ∧ fs.length < 1000 ∧ F.nx δ (put μ2 a (.ins C (dPut f d fs)))
  | _ => False
theorem ds_fld (c : Cls X.K C) (n : NoAttr X.K C f) (ho : DE X o g) (hv : DE X value gv) (hs : swapsWith value (some (.Attribute o f pos')) pos.line X.env = pure false := by rfl) : DSt X (.Assign [.Attribute o f pos'] value pos) (gSetF C f g gv) := by
  obtain ⟨t, a1, a2⟩ := ho.ex
  obtain ⟨u, b1, b2⟩ := hv.ex
  refine ⟨_, ps_fld a1 b1 hs, fun σ H δ μ E F rm rs e q => ?_⟩
  refine b2 σ H δ μ _ _ rm rs q fun v d H1 μ1 k1 rm1 r1 q1 => ?_
  refine a2 σ H1 δ μ1 _ _ rm1 (rs.mono k1) q1 fun v2 d2 H2 μ2 k2 rm2 r2 q2 => ?_
  cases d2 <;> try exact False.elim q2
  rename_i a
  obtain ⟨fs, e0, hl, q2⟩ := q2
  obtain ⟨dx, fv, h1, rf⟩ := rm2 a _ e0
  have kw : Kp H2 μ2 (upd H2 a (.ins C dx (putF f v fv))) (put μ2 a (.ins C (dPut f d fs))) := Kp.write e0
  refine ⟨a, C, dx, fv, rep_adr r2, h1, c, n, by rw [rf.length]; exact hl, e.nx _ _ _ _ (k1.trans (k2.trans kw)) ?_ (rs.mono (k1.trans (k2.trans kw))) q2⟩
  exact rm2.put (m := .ins C (dPut f d fs)) kw (fun b o nb _ => upd_ne nb) ⟨dx, _, upd_same, (rf.put (r1.mono k2)).mono kw _ _⟩
end
end DL

set_option Elab.async false
set_option linter.all false
set_option maxRecDepth 100000
namespace DL
open PySem PySem.Spec PyProof.Rows L2
/-! ### targets that store into what is mutable -/
abbrev GH := D → DS → Mu → (DS → Mu → Prop) → Prop
abbrev GHs := List D → DS → Mu → (DS → Mu → Prop) → Prop
def SimH (K : PySem.W.Frag) (t : TG) (g : GH) : Prop := ∀ v d σ H δ μ (Q : L2.St → Hp → Prop) (R : DS → Mu → Prop), RM K H μ → RepS K H μ δ σ → Rep K H μ d v → g d δ μ R →
  (∀ σ' H' δ' μ', Kp H μ H' μ' → RM K H' μ' → RepS K H' μ' δ' σ' → R δ' μ' → Q σ' H') → t v σ H Q
def SimHs (K : PySem.W.Frag) (t : TGs) (g : GHs) : Prop := ∀ vs ds σ H δ μ (Q : L2.St → Hp → Prop) (R : DS → Mu → Prop), RM K H μ → RepS K H μ δ σ → RepL K H μ ds vs → g ds δ μ R →
  (∀ σ' H' δ' μ', Kp H μ H' μ' → RM K H' μ' → RepS K H' μ' δ' σ' → R δ' μ' → Q σ' H') → t vs σ H Q
def hNm (i : Nat) : GH := fun d δ μ R => R (δ.set i (some d)) μ
theorem simH_nm {K : PySem.W.Frag} {i : Nat} : SimH K (gName i) (hNm i) := fun v d σ H δ μ Q R rm rs r q f => f _ H _ μ (Kp.refl _ _) rm (rs.set i r) q
def hNil : GHs := fun ds δ μ R => match ds with
  | [] => R δ μ
  | _ :: _ => False
def hCons (t : GH) (u : GHs) : GHs := fun ds δ μ R => match ds with
  | d :: r => t d δ μ fun δ' μ' => u r δ' μ' R
  | [] => False
theorem simH_nil {K : PySem.W.Frag} : SimHs K L2.gNil hNil := by
  intro vs ds σ H δ μ Q R rm rs r q f
  cases ds with
  | nil =>
    unfold RepL at r
    exact ⟨r, f σ H δ μ (Kp.refl _ _) rm rs q⟩
  | cons d ds => exact False.elim q
theorem simH_cons {K : PySem.W.Frag} {t : TG} {u : TGs} {g : GH} {gs : GHs} (h : SimH K t g) (h2 : SimHs K u gs) : SimHs K (L2.gCons t u) (hCons g gs) := by
  intro vs ds σ H δ μ Q R rm rs r q f
  cases ds with
  | nil => exact False.elim q
  | cons d ds =>
    unfold RepL at r
    obtain ⟨v, w, rfl, r1, r2⟩ := r
    refine ⟨v, w, rfl, h v d σ H δ μ _ _ rm rs r1 q fun σ1 H1 δ1 μ1 k1 rm1 rs1 q1 => ?_⟩
    exact h2 w ds σ1 H1 δ1 μ1 _ _ rm1 rs1 (r2.mono k1 _ _) q1 fun σ2 H2 δ2 μ2 k2 rm2 rs2 q2 => f σ2 H2 δ2 μ2 (k1.trans k2) rm2 rs2 q2
def hTup (n : Nat) (t : GHs) : GH := fun d δ μ R => match d with
  | .tup ds => ds.length = n ∧ t ds δ μ R
  | _ => False
theorem simH_tup {K : PySem.W.Frag} {n : Nat} {t : TGs} {g : GHs} (h : SimHs K t g) : SimH K (L2.gTup K n t) (hTup n g) := by
  intro v d σ H δ μ Q R rm rs r q f
  cases d <;> try exact False.elim q
  rename_i ds
  obtain ⟨a, vs, rfl, im, rl⟩ := rep_tup r
  exact ⟨a, vs, rfl, im.sq, by rw [rl.length]; exact q.1, h vs ds σ H δ μ Q R rm rs rl q.2 f⟩
/-- cell[k] = d -/
def setK (x y d : D) (μ : Mu) (R : Mu → Prop) : Prop := match x, y with
  | .adr a, .int k => ∃ ds j, μ a = some (.lst ds) ∧ ixN ds.length k = some j ∧ R (put μ a (.lst (ds.set j d)))
  | _, _ => False
def hSub (go gi : GE) : GH := fun d δ μ R => go δ μ fun x μ1 => gi δ μ1 fun y μ2 => setK x y d μ2 fun μ3 => R δ μ3
theorem simH_sub {K : PySem.W.Frag} {to ti : TE} {go gi : GE} (h1 : SimE K to go) (h2 : SimE K ti gi) : SimH K (gSub to ti rSetL) (hSub go gi) := by
  intro v d σ H δ μ Q R rm rs r q f
  refine h1 σ H δ μ _ _ rm rs q fun x dx H1 μ1 k1 rm1 r1 q1 => ?_
  refine h2 σ H1 δ μ1 _ _ rm1 (rs.mono k1) q1 fun y dy H2 μ2 k2 rm2 r2 q2 => ?_
  cases dx <;> cases dy <;> try exact False.elim q2
  rename_i a k
  obtain ⟨ds, j, e0, ej, q2⟩ := q2
  obtain ⟨vs, e1, l⟩ := rm2 a _ e0
  have kw : Kp H2 μ2 (upd H2 a (.lst (vs.set j v))) (put μ2 a (.lst (ds.set j d))) := Kp.write e0
  refine ⟨a, vs, k, j, rep_adr (r1.mono k2), rep_int r2, e1, by rw [l.length]; exact ej, f _ _ _ _ (k1.trans (k2.trans kw)) ?_ (rs.mono (k1.trans (k2.trans kw))) q2⟩
  exact rm2.put (m := .lst (ds.set j d)) kw (fun b o n _ => upd_ne n) ⟨_, upd_same, (l.set j (r.mono (k1.trans k2))).mono kw _ _⟩
def gAsgH (g : GE) (t : GH) : GS := fun F δ μ => g δ μ fun d μ1 => t d δ μ1 F.nx
section
variable {X : Cx} {e tg o i : Expr} {pos : Pos} {ge go gi : GE} {gh : GH} {g : TG}
theorem pg_subD (ho : DE X o go) (hi : DE X i gi)
    (ha : ∀ v, assign (.Subscript o i pos) X.env v = (do
      let ov ← holding [v] (eval o X.env)
      let iv ← holding [v, ov] (eval i X.env)
      standAt pos
      holding [v, ov, iv] (setItem ov iv v)
      release [v, ov, iv] []) := by intro _; rfl) : PG X (.Subscript o i pos) (gSub (tOf X.K go) (tOf X.K gi) rSetL) := pg_sub ho.pe hi.pe set_list ha
theorem simH_subD {K : PySem.W.Frag} : SimH K (gSub (tOf K go) (tOf K gi) rSetL) (hSub go gi) := simH_sub sim_of sim_of
theorem ds_asgH (he : DE X e ge) (hg : PG X tg g) (sg : SimH X.K g gh) (hs : swapsWithSole [tg] e pos.line X.env = pure false := by rfl) (hw : swappedStores [tg] e X.env = pure none := by rfl)
    (h1 : (assignEach [tg] X.env).map (·.2) = [assign tg X.env] := by rfl) : DSt X (.Assign [tg] e pos) (gAsgH ge gh) := by
  obtain ⟨t1, a1, a2⟩ := he.ex
  refine ⟨_, ps_asg a1 hg hs hw h1, fun σ H δ μ E F rm rs e q => ?_⟩
  refine a2 σ H δ μ _ _ rm rs q fun v d H1 μ1 k1 rm1 r1 q1 => ?_
  exact sg v d σ H1 δ μ1 _ _ rm1 (rs.mono k1) r1 q1 fun σ2 H2 δ2 μ2 k2 rm2 rs2 q2 => e.nx σ2 H2 δ2 μ2 (k1.trans k2) rm2 rs2 q2
end
theorem sim_ipadd {K : PySem.W.Frag} : SimO K (ipI fun i j => i + j) (gII0 fun i j => .int (i + j)) := by
  intro x y dx dy H μ Q R rm rx ry q f
  cases dx <;> cases dy <;> try exact False.elim q
  rw [rep_int rx, rep_int ry]
  exact ⟨_, _, rfl, rfl, fw_now rm to_int q f⟩
/-! ### slices -/
abbrev GP := DS → Mu → (Option Int → Mu → Prop) → Prop
def SimP (K : PySem.W.Frag) (t : TO) (g : GP) : Prop := ∀ σ H δ μ (Q : Option Int → Hp → Prop) (R : Option Int → Mu → Prop), RM K H μ → RepS K H μ δ σ → g δ μ R → (∀ o H' μ', Kp H μ H' μ' → RM K H' μ' → R o μ' → Q o H') → t σ H Q
structure DP (X : Cx) (e : Option Expr) (g : GP) : Prop where
  ex : ∃ t, PO X e t ∧ SimP X.K t g
def gNoP : GP := fun _ μ R => R none μ
def gP (g : GE) : GP := fun δ μ R => g δ μ fun d μ1 => match d with
  | .int i => R (some i) μ1
  | _ => False
def cutD (ds : List D) (lo hi : Option Int) : List D := (ds.drop (HT.sIx ds.length 0 lo)).take (HT.sIx ds.length ds.length hi - HT.sIx ds.length 0 lo)
theorem RepL.cut {K : PySem.W.Frag} {H : Hp} {μ : Mu} {ds : List D} {vs : List V} (h : RepL K H μ ds vs) (lo hi : Option Int) : RepL K H μ (cutD ds lo hi) (cutV vs lo hi) := by
  unfold cutD cutV
  rw [h.length]
  exact (h.drop _).take _
def gSl (ge : GE) (gl gh : GP) : GE := fun δ μ R => ge δ μ fun x μ1 => gl δ μ1 fun lo μ2 => gh δ μ2 fun hi μ3 => match x with
  | .lst ds => R (.lst (cutD ds lo hi)) μ3
  | .seq ds => R (.lst (cutD ds lo hi)) μ3
  | .tup ds => R (.tup (cutD ds lo hi)) μ3
  | .str z => z.length ≤ sizeLine ∧ R (.str (cutS z lo hi)) μ3
  | _ => False
section
variable {X : Cx} {e i : Expr} {lo hi : Option Expr} {pos p2 : Pos} {ge : GE} {gl gh : GP}
theorem dp_none : DP X none gNoP := ⟨_, po_none, fun σ H δ μ Q R rm rs q f => f none H μ (Kp.refl _ _) rm q⟩
theorem dp_some (h : DE X i ge) : DP X (some i) (gP ge) := by
  obtain ⟨t, a1, a2⟩ := h.ex
  refine ⟨_, po_some a1, fun σ H δ μ Q R rm rs q f => ?_⟩
  refine a2 σ H δ μ _ _ rm rs q fun v d H1 μ1 k1 rm1 r1 q1 => ?_
  cases d <;> try exact False.elim q1
  exact ⟨_, rep_int r1, f _ H1 μ1 k1 rm1 q1⟩
def rSlAny (K : PySem.W.Frag) : V → Option Int → Option Int → Hp → VK → Prop := fun x lo hi H Q => rSlL K x lo hi H Q ∨ rSlA K x lo hi H Q ∨ rSlS x lo hi H Q
theorem sl_any : SlR X (rSlAny X.K) := by
  intro pins s σ H x v vl vu lo hi sl Q I rx hs pl pu h
  rcases h with h | h | h
  · exact sl_list pins s σ H x v vl vu lo hi sl Q I rx hs pl pu h
  · exact sl_tupA pins s σ H x v vl vu lo hi sl Q I rx hs pl pu h
  · exact sl_str pins s σ H x v vl vu lo hi sl Q I rx hs pl pu h
theorem cut_all {α : Type} (xs : List α) {a b : Nat} (h : a = 0) (h2 : b = xs.length) : (xs.drop a).take (b - a) = xs := by
  subst h h2
  simp
theorem de_slice (he : DE X e ge) (hl : DP X lo gl) (hu : DP X hi gh) : DE X (.Subscript e (.Slice lo hi none p2) pos) (gSl ge gl gh) := by
  obtain ⟨t, a1, a2⟩ := he.ex
  obtain ⟨u, b1, b2⟩ := hl.ex
  obtain ⟨w, c1, c2⟩ := hu.ex
  refine ⟨_, pe_slice sl_any a1 b1 c1, fun σ H δ μ Q R rm rs q f => ?_⟩
  refine a2 σ H δ μ _ _ rm rs q fun v d H1 μ1 k1 rm1 r1 q1 => ?_
  refine b2 σ H1 δ μ1 _ _ rm1 (rs.mono k1) q1 fun l H2 μ2 k2 rm2 q2 => ?_
  refine c2 σ H2 δ μ2 _ _ rm2 (rs.mono (k1.trans k2)) q2 fun h H3 μ3 k3 rm3 q3 => ?_
  have r3 := r1.mono (k2.trans k3)
  have f3 := f.re (k1.trans (k2.trans k3))
  cases d <;> try exact False.elim q3
  · exact .inr (.inr ⟨_, rep_str r3, q3.1, fw_now rm3 to_str q3.2 f3⟩)
  · rename_i ds
    obtain ⟨p, vs, rfl, im, rl⟩ := rep_tup r3
    refine .inr (.inl ⟨p, vs, rfl, im.sq, fun ⟨z1, z2⟩ => ?_, fun _ t n => fw_tup rm3 n (rl.cut l h) q3 f3⟩)
    rw [rl.length] at z1 z2
    have e : cutD ds l h = ds := cut_all ds z1 z2
    have q4 : R (.tup (cutD ds l h)) μ3 := q3
    rw [e] at q4
    exact fw_now rm3 r3 q4 f3
  · obtain ⟨p, vs, rfl, i, _, rl⟩ := rep_lst r3
    exact .inl ⟨p, vs, rfl, SqL.of i, fun t n => fw_lst rm3 n (rl.cut l h) q3 f3⟩
  · obtain ⟨p, vs, rfl, i, rl⟩ := rep_seq r3
    exact .inl ⟨p, vs, rfl, i.sq, fun t n => fw_lst rm3 n (rl.cut l h) q3 f3⟩
end
/-! ### list(text) -/
def rListS : List V → Hp → VK → Prop := fun xs H Q => ∃ x : Str, xs = [.str x] ∧ x.length ≤ sizeLine ∧ ∀ l, H l = none → Q (.ref l) (upd H l (.lst (x.cps.toList.map fun c => V.str ⟨#[c]⟩)))
theorem signs_vals (x : Str) (acc : Array Value) (h : ItemsOf (SignAt x) acc x.cps.size) : Vals (x.cps.toList.map fun c => V.str ⟨#[c]⟩) acc.toList := by
  have key : ∀ (l : List Nat) (us : List Value), us.length = l.length → (∀ (j : Nat) (v : Value), us[j]? = some v → ∃ (c : Nat) (u : Tok), l[j]? = some c ∧ v = Value.str ⟨#[c]⟩ u) → Vals (l.map fun c => V.str ⟨#[c]⟩) us := by
    intro l
    induction l with
    | nil =>
      intro us hl _
      have e : us = [] := List.eq_nil_of_length_eq_zero hl
      subst e
      exact .nil
    | cons c l ih =>
      intro us hl hs
      cases us with
      | nil => simp at hl
      | cons u us =>
        obtain ⟨c', t, e1, e2⟩ := hs 0 u rfl
        have e1' : c = c' := by simpa using e1
        subst e1'
        subst e2
        exact .cons ⟨t, rfl⟩ (ih us (by simpa using hl) fun j v hv => hs (j + 1) v (by simpa using hv))
  refine key _ _ (by rw [Array.length_toList, Array.length_toList]; exact h.1) fun j v hv => ?_
  obtain ⟨c, u, e1, e2⟩ := h.2 j v (by rw [← Array.getElem?_toList]; exact hv)
  exact ⟨c, u, by rw [Array.getElem?_toList]; exact e1, e2⟩
theorem call_listS {X : Cx} (hc : X.calm = true) : CallR X (.type "list") rListS := by
  intro pins s σ H xs us Q I r h
  obtain ⟨x, rfl, hz, q⟩ := h
  obtain ⟨u, rfl, t, rfl⟩ := vals1 r
  refine call_list_str (I.ok.hd hc) x t (fun h' tk acc c' hk ho hi => ?_) hz
  have hn : H s.heap.objs.size = none := I.hok.fresh (Nat.le_refl _)
  have new : ObjOk X.prog X.w (upd H s.heap.objs.size (.lst (x.cps.toList.map fun c => V.str ⟨#[c]⟩))) h' s.heap.objs.size (.lst (x.cps.toList.map fun c => V.str ⟨#[c]⟩)) :=
    ⟨by rw [List.length_map, Array.length_toList]; exact hz, acc.toList, c', signs_vals x acc hi, ho⟩
  exact ⟨.ref s.heap.objs.size, _, I.laid hk (Nat.le_refl _) new, rfl, q _ hn⟩
theorem signs_rep {K : PySem.W.Frag} {H : Hp} {μ : Mu} (x : Str) : RepL K H μ (signs x) (x.cps.toList.map fun c => V.str ⟨#[c]⟩) := by
  unfold signs
  generalize x.cps.toList = l
  induction l with
  | nil => exact RepL.nil
  | cons c l ih => exact RepL.cons to_str ih
def gListS1 : G1 := fun x μ R => match x with
  | .str z => z.length ≤ sizeLine ∧ R (.lst (signs z)) μ
  | _ => False
def gListSC1 : G1 := fun x μ R => match x with
  | .str z => z.length ≤ sizeLine ∧ ∀ a, μ a = none → R (.adr a) (put μ a (.lst (signs z)))
  | _ => False
theorem sim_listS {K : PySem.W.Frag} : SimC K rListS (g1 gListS1) := sim_g1 fun v d H μ Q R rm rv q f => by
  cases d <;> try exact False.elim q
  exact ⟨_, by rw [rep_str rv], q.1, fun l n => fw_lst rm n (signs_rep _) q.2 f⟩
theorem sim_listSC {K : PySem.W.Frag} : SimC K rListS (g1 gListSC1) := sim_g1 fun v d H μ Q R rm rv q f => by
  cases d <;> try exact False.elim q
  exact ⟨_, by rw [rep_str rv], q.1, fun l n => fw_cell rm n (signs_rep _) q.2 f⟩
/-! ### isinstance -/
theorem tyX_rep {K : PySem.W.Frag} {H : Hp} {μ : Mu} {d : D} {v : V} {n : String} (h : Rep K H μ d v) (e : tyName d = some n) : TyX K H v (.type n) := by
  cases d <;> cases e
  · rw [rep_non h]; exact .base .non
  · rw [rep_bl h]; exact .base (.bl _)
  · rw [rep_int h]; exact .base (.int _)
  · rw [rep_str h]; exact .base (.str _)
  · obtain ⟨a, vs, rfl, im, _⟩ := rep_tup h
    rcases im with ⟨h1, _⟩ | h1
    · exact .base (.tup h1)
    · exact h1.2.elim
  · obtain ⟨a, vs, rfl, i, _⟩ := rep_lst h
    exact .base (.lst i)
def gIsi (T : String) : G1 := fun x μ R => ∃ n b, tyName x = some n ∧ kitB n T = some b ∧ R (.bl b) μ
section
variable {X : Cx} {p p2 pos : Pos} {e : Expr} {g : GE} {nm : Str} {T : String}
/-- isinstance(e, T), T a built-in class by its name -/
theorem de_isi (hg : Gl X "isinstance") (hm : X.mg "isinstance" = none) (hg2 : Gl X nm) (hm2 : X.mg nm = none) (hv : bootBuiltins nm = some (.type T)) (he : DE X e g) (hn : nm ≠ "__name__" := by decide) (hd : (nm == ("__debug__" : Str)) = false := by decide)
    (hs : starEach [e, .Name nm p2] X.env = (false, eval e X.env) :: starEach [.Name nm p2] X.env := by rfl) (hpl : (backTo pos (starEach [.Name nm p2] X.env)).any (·.1) = false := by rfl) (hs2 : starEach [.Name nm p2] X.env = (false, eval (.Name nm p2) X.env) :: starEach [] X.env := by rfl) :
    DE X (.Call (.Name "isinstance" p) [e, .Name nm p2] [] pos) (gUn (gIsi T) g) := by
  obtain ⟨t, a1, a2⟩ := he.ex
  refine ⟨_, pe_callB call_isi hg hm (by decide +kernel) (pa_cons a1 (pa_cons (pe_bltn (v := .ty T) hg2 hm2 hv rfl hn hd) pa_nil hs2) hs) (by decide) (by decide) hs hpl, fun σ H δ μ Q R rm rs q f => ?_⟩
  refine a2 σ H δ μ _ _ rm rs q fun v d H1 μ1 k1 rm1 r1 ⟨n, b, e1, e2, q1⟩ => ?_
  exact ⟨v, .ty T, .type n, .type T, b, rfl, .ty T, tyX_rep r1 e1, kit_ty e2, fw_now rm1 to_bl q1 (f.re k1)⟩
/-- what isinstance asks of an own class -/
structure IsC (K : PySem.W.Frag) (C : Addr) : Prop where
  cl : Cls K C
  ha : PySem.W.findIn K (.ref C) "__class__" = some (some (.builtin "object.__class__"))
  hn : PySem.W.specialIn K (.builtin "object.__class__") "__get__" = some (some (.builtin "getset_descriptor.__get__"))
  ht : PySem.W.takesIn K (.builtin "object.__class__") = some true
  hm : PySem.W.mroIn K C (.type "object") = some true
def gIsC (C : Addr) : G1 := fun x μ R => match x with
  | .ins C' _ => C' = C ∧ R (.bl true) μ
  | _ => False
theorem de_isc {C : Addr} (hc : IsC X.K C) (hg : Gl X "isinstance") (hm : X.mg "isinstance" = none) (hg2 : Gl X nm) (hm2 : X.mg nm = some (.ref C)) (he : DE X e g) (hd : (nm == ("__debug__" : Str)) = false := by decide)
    (hs : starEach [e, .Name nm p2] X.env = (false, eval e X.env) :: starEach [.Name nm p2] X.env := by rfl) (hpl : (backTo pos (starEach [.Name nm p2] X.env)).any (·.1) = false := by rfl) (hs2 : starEach [.Name nm p2] X.env = (false, eval (.Name nm p2) X.env) :: starEach [] X.env := by rfl) :
    DE X (.Call (.Name "isinstance" p) [e, .Name nm p2] [] pos) (gUn (gIsC C) g) := by
  obtain ⟨t, a1, a2⟩ := he.ex
  refine ⟨_, pe_callB call_isi hg hm (by decide +kernel) (pa_cons a1 (pa_cons (pe_glob (v := .ref C) hg2 hm2 rfl hd) pa_nil hs2) hs) (by decide) (by decide) hs hpl, fun σ H δ μ Q R rm rs q f => ?_⟩
  refine a2 σ H δ μ _ _ rm rs q fun v d H1 μ1 k1 rm1 r1 q1 => ?_
  cases d <;> try exact False.elim q1
  obtain ⟨rfl, q1⟩ := q1
  obtain ⟨a, dx, fv, rfl, h1, _, _⟩ := rep_ins r1
  refine ⟨.ref a, .ref _, .ref _, .ref _, true, rfl, .own _, .base (.ins h1 hc.cl hc.ha hc.hn hc.ht hc.hm), ?_, fw_now rm1 to_bl q1 (f.re k1)⟩
  unfold PySem.W.kitOne
  rw [if_pos (beq_self_eq_true _)]
end
end DL

set_option Elab.async false
set_option linter.all false
set_option maxRecDepth 100000
namespace DL
open PySem PySem.Spec PyProof.Rows L2
/-! ### max, min of two texts: which object comes back -/
section
variable {prog : Program} {w : World} {A : Around} {E : Value → Shared → Prop} {s : Shared}
theorem cmpS_gt {P : Nat → Value → Prop} (val : Nat → Str) (hv : ∀ i v, P i v → ∃ t, v = .str (val i) t) : CmpOf prog w A .Gt P (fun i j => decide ((val j).cps.toList < (val i).cps.toList)) := fun i j vi vj s Q E hi hj h => by
  obtain ⟨t, rfl⟩ := hv i vi hi
  obtain ⟨u, rfl⟩ := hv j vj hj
  exact richCompare_gives (op := .Gt) (typeIs_str s _ t) (typeIs_str s _ u) F.slot_str_gt F.entry_str_gt (F.args_str_gt_2 _ _) (gives_str_gt _ _ t u) (fun x => nomatch x) h
theorem cmpS_lt {P : Nat → Value → Prop} (val : Nat → Str) (hv : ∀ i v, P i v → ∃ t, v = .str (val i) t) : CmpOf prog w A .Lt P (fun i j => decide ((val i).cps.toList < (val j).cps.toList)) := fun i j vi vj s Q E hi hj h => by
  obtain ⟨t, rfl⟩ := hv i vi hi
  obtain ⟨u, rfl⟩ := hv j vj hj
  exact richCompare_gives (op := .Lt) (typeIs_str s _ t) (typeIs_str s _ u) F.slot_str_lt F.entry_str_lt (F.args_str_lt_2 _ _) (gives_str_lt _ _ t u) (fun x => nomatch x) h
theorem two_at {a b v : Value} {bt : Nat → Nat → Bool} (h : (#[a, b] : Array Value)[argBest bt ((#[a, b] : Array Value).size - 1)]? = some v) : v = if bt 1 0 = true then b else a := by
  have e : (#[a, b] : Array Value).size - 1 = 1 := rfl
  rw [e] at h
  cases hb : bt 1 0 with
  | true =>
    have e1 : argBest bt 1 = 1 := by simp [argBest, hb]
    rw [e1] at h
    simpa using h.symm
  | false =>
    have e1 : argBest bt 1 = 0 := by simp [argBest, hb]
    rw [e1] at h
    simpa using h.symm
theorem pair_val {x y : Str} {t u : Tok} : ∀ (i : Nat) (v : Value), (#[.str x t, .str y u] : Array Value)[i]? = some v → ∃ k, v = .str (if i = 0 then x else y) k
  | 0, v, h => ⟨t, by simpa using h.symm⟩
  | 1, v, h => ⟨u, by simpa using h.symm⟩
  | i + 2, v, h => by simp at h
theorem max_strs {x y : Str} {t u : Tok} {Q : Value → Shared → Prop} (hh : A.handled = none)
    (h : ∀ h' tk, (∀ c o, s.heap.get? c = some o → h'.get? c = some o) → Q (if x.cps.toList < y.cps.toList then .str y u else .str x t) { s with heap := h', toks := tk }) :
    wpAny (model prog w) A (call (.builtin "max") [.str x t, .str y u]) Q E s := by
  have hT : (s.heap.push { cls := .type "tuple", data := .seq #[.str x t, .str y u] }).IsTuple s.heap.objs.size #[.str x t, .str y u] := ⟨_, Heap.get?_push_size _ rfl, rfl, 0, rfl⟩
  have sz : (s.heap.push { cls := .type "tuple", data := .seq #[.str x t, .str y u] }).objs.size = s.heap.objs.size + 1 := Heap.size_push ..
  refine call_max_two (wpAny_pyIter_tuple hT ?_)
  refine ⟨_, [_, s.heap.objs.size], [_], _, _, _, _, rfl, Walks.tuple (A := A.in1) hh _ s.heap.objs.size (by rw [sz]; exact Nat.ne_of_lt (Nat.lt_succ_self _)) #[.str x t, .str y u],
    ⟨⟨_, Heap.get?_push_size _ rfl, rfl, rfl⟩, hT.push _⟩, fun c hc => ?_, (by decide : 0 < 2), cmpS_gt (fun i => if i = 0 then x else y) pair_val, fun v h' tk hP hk => ?_⟩
  · show c < ((s.heap.push _).push _).objs.size
    rw [Heap.size_push, sz]
    have hc' : c = (s.heap.push { cls := .type "tuple", data := .seq #[.str x t, .str y u] }).objs.size ∨ c = s.heap.objs.size := by simpa using hc
    rcases hc' with e | e
    · rw [e, sz]; exact Nat.lt_succ_self _
    · rw [e]; exact Nat.lt_succ_of_lt (Nat.lt_succ_self _)
  · have old : ∀ c o, s.heap.get? c = some o → h'.get? c = some o := fun c o e => hk c o (fun hm => by
      have e1 : c = (s.heap.push { cls := .type "tuple", data := .seq #[.str x t, .str y u] }).objs.size := by simpa using hm
      have lt := Heap.lt_size e
      rw [e1, sz] at lt
      exact Nat.lt_irrefl _ (Nat.lt_of_succ_lt lt)) (Heap.get?_push_of_some _ (Heap.get?_push_of_some _ e))
    have q := h h' tk old
    have e := two_at (bt := fun i j => decide ((if j = 0 then x else y).cps.toList < (if i = 0 then x else y).cps.toList)) hP
    have e2 : v = if x.cps.toList < y.cps.toList then .str y u else .str x t := by
      rw [e]
      simp
    rw [e2]
    exact q
theorem min_strs {x y : Str} {t u : Tok} {Q : Value → Shared → Prop} (hh : A.handled = none)
    (h : ∀ h' tk, (∀ c o, s.heap.get? c = some o → h'.get? c = some o) → Q (if y.cps.toList < x.cps.toList then .str y u else .str x t) { s with heap := h', toks := tk }) :
    wpAny (model prog w) A (call (.builtin "min") [.str x t, .str y u]) Q E s := by
  have hT : (s.heap.push { cls := .type "tuple", data := .seq #[.str x t, .str y u] }).IsTuple s.heap.objs.size #[.str x t, .str y u] := ⟨_, Heap.get?_push_size _ rfl, rfl, 0, rfl⟩
  have sz : (s.heap.push { cls := .type "tuple", data := .seq #[.str x t, .str y u] }).objs.size = s.heap.objs.size + 1 := Heap.size_push ..
  refine call_min_two (wpAny_pyIter_tuple hT ?_)
  refine ⟨_, [_, s.heap.objs.size], [_], _, _, _, _, rfl, Walks.tuple (A := A.in1) hh _ s.heap.objs.size (by rw [sz]; exact Nat.ne_of_lt (Nat.lt_succ_self _)) #[.str x t, .str y u],
    ⟨⟨_, Heap.get?_push_size _ rfl, rfl, rfl⟩, hT.push _⟩, fun c hc => ?_, (by decide : 0 < 2), cmpS_lt (fun i => if i = 0 then x else y) pair_val, fun v h' tk hP hk => ?_⟩
  · show c < ((s.heap.push _).push _).objs.size
    rw [Heap.size_push, sz]
    have hc' : c = (s.heap.push { cls := .type "tuple", data := .seq #[.str x t, .str y u] }).objs.size ∨ c = s.heap.objs.size := by simpa using hc
    rcases hc' with e | e
    · rw [e, sz]; exact Nat.lt_succ_self _
    · rw [e]; exact Nat.lt_succ_of_lt (Nat.lt_succ_self _)
  · have old : ∀ c o, s.heap.get? c = some o → h'.get? c = some o := fun c o e => hk c o (fun hm => by
      have e1 : c = (s.heap.push { cls := .type "tuple", data := .seq #[.str x t, .str y u] }).objs.size := by simpa using hm
      have lt := Heap.lt_size e
      rw [e1, sz] at lt
      exact Nat.lt_irrefl _ (Nat.lt_of_succ_lt lt)) (Heap.get?_push_of_some _ (Heap.get?_push_of_some _ e))
    have q := h h' tk old
    have e := two_at (bt := fun i j => decide ((if i = 0 then x else y).cps.toList < (if j = 0 then x else y).cps.toList)) hP
    have e2 : v = if y.cps.toList < x.cps.toList then .str y u else .str x t := by
      rw [e]
      simp
    rw [e2]
    exact q
/-! ### text.replace(x, x), one object twice -/
open Builtin Builtin.Str
theorem gives_replace_same (x y : Str) (t u : Tok) (hu : u ≠ 0) : Gives (Builtin.«str.replace» ⟨[.str x t, .str y u, .str y u], []⟩) (.val (.str x t)) := by
  show Gives (if ((occurrences x y 0 x.length (x.length + 1)).isEmpty || (y.length == 0 && y.length == 0)) = true then (do rule "str.replace.nothing"; ret (.str x t)) else
          (do let same ← isSame (.str y u) (.str y u)
              if same = true then (do rule "str.replace.old-is-new"; ret (.str x t)) else
              if tooLong (x.length + (occurrences x y 0 x.length (x.length + 1)).length * y.length) = true then unsupported "str.replace:memory" else
              retStr (glued y (partsBetween x (occurrences x y 0 x.length (x.length + 1)) y.length)))) _
  have e : isSame (.str y u) (.str y u) = pure true := by
    show (if (u == 0 || u == 0) = true then _ else if (u == u) = true then pure true else _ : Sem Bool) = _
    have h0 : (u == 0 || u == 0) = false := by simp [hu]
    rw [h0, if_neg Bool.false_ne_true, if_pos (beq_self_eq_true u)]
  cases hc : ((occurrences x y 0 x.length (x.length + 1)).isEmpty || (y.length == 0 && y.length == 0))
  · rw [e]
    exact .rule (.of_eq rfl)
  · exact .rule (.of_eq rfl)
theorem call_replace_same {x y : Str} {t u : Tok} {Q : Value → Shared → Prop} (hu : u ≠ 0) (hq : Q (.str x t) s) : wpAny (model prog w) A (call (.builtin "str.replace") [.str x t, .str y u, .str y u]) Q E s :=
  call_gives F.slot_str_replace (typeIs_str _ _ _) F.entry_str_replace (F.args_str_replace_3 _ _ _) (gives_replace_same x y t u hu) hq
end
end DL

set_option Elab.async false
set_option linter.all false
set_option maxRecDepth 100000
namespace DL
open PySem PySem.Spec PyProof.Rows L2
section
variable {X : Cx} {pins : List (Addr × Obj)} {σ : L2.St} {H : Hp} {s : Shared} {E : Value → Shared → Prop}
/-- a local name stored; the frame's map told -/
theorem store_at {M : Model} {A : Around} {i : Nat} {x : Str} {v : V} {u : Value} {m : Str → Option Value} {Q : Unit → Shared → Prop} (I : Inv X pins σ H s) (hN : X.N.Nodup) (hi : X.N[i]? = some x) (hk : X.env.scope.names.lookup x = some .local) (r : RelV v u)
    (hn : s.heap.Ns X.env.locals m) (h : ∀ s', Inv X pins (σ.set i (some v)) H s' → s'.heap.Ns X.env.locals (fun y => if y = x then some u else m y) → s.toks ≤ s'.toks → Q () s') : wpAny M A (storeName X.env x u) Q E s := by
  obtain ⟨m0, hn0, hl⟩ := id I.loc
  obtain ⟨oL, esL, epL, hoL, hdL, hfL⟩ := id hn
  have hiσ : i < σ.length := by rw [I.len]; exact (List.getElem?_eq_some_iff.mp hi).1
  have hm0 : m0 = m := by
    obtain ⟨o2, es2, ep2, ho2, hd2, _, hf2⟩ := hn0
    rw [hoL] at ho2
    cases ho2
    rw [hdL] at hd2
    cases hd2
    exact funext fun y => (hf2 y).symm.trans (hfL.2 y)
  subst hm0
  refine wpAny_storeName_local hk hn (fun h' hn' hs => ?_) (by rw [I.ok.kind]; rfl)
  have old : ∀ b o, X.s_0.heap.get? b = some o → b ≠ X.env.locals := fun b o e => Nat.ne_of_lt (Nat.lt_of_lt_of_le (Heap.lt_size e) I.ok.above)
  have other : ∀ b, b ≠ X.env.locals → h'.get? b = s.heap.get? b := fun b hb => hs.2 b hb
  refine h { s with heap := h', toks := s.toks + 1 } ?_ hn' (Nat.le_succ _)
  refine ⟨I.ok, I.os, I.bare, ⟨?_, ?_, I.base.free, ?_, I.base.tups, I.base.frzs, I.base.tbls⟩, ⟨_, hn', ?_⟩, ?_, I.free, I.freeC, ?_, ?_, by simpa using I.len⟩
  · intro b o e n hb hx
    exact (other b (old b o e)).trans (I.base.keep b o e n hb hx)
  · intro b o e n hb hx
    obtain ⟨sl, e1⟩ := I.base.slot b o e n hb hx
    exact ⟨sl, (other b (old b o e)).trans e1⟩
  · intro b o e hx
    obtain ⟨o', e1⟩ := I.base.there b o e hx
    exact ⟨o', (other b (old b o e)).trans e1⟩
  · intro j y v' e1 e2 e3
    by_cases hj : j = i
    · subst hj
      rw [hi] at e1
      cases e1
      rw [List.getElem?_set_self hiσ] at e2
      cases e2
      exact ⟨u, r, .inl ⟨hk, by simp⟩⟩
    · rw [List.getElem?_set_ne (Ne.symm hj)] at e2
      obtain ⟨u', r', q⟩ := hl j y v' e1 e2 e3
      refine ⟨u', r', ?_⟩
      rcases q with ⟨k, e⟩ | ⟨k, c, e, z⟩
      · have ne : y ≠ x := fun e' => hj (nodup_ix hN e1 (e' ▸ hi))
        exact .inl ⟨k, by simp [ne, e]⟩
      · exact .inr ⟨k, c, e, z.sameBut hs (I.cne y c e)⟩
  · intro y c e
    obtain ⟨w', z⟩ := I.cell y c e
    exact ⟨w', z.sameBut hs (I.cne y c e)⟩
  · intro p hp
    obtain ⟨e, n, ne, nf, d⟩ := I.pin p hp
    exact ⟨(other p.1 ne).trans e, n, ne, nf, d⟩
  · intro b ob e
    refine (I.hok b ob e).stay (fun c w' hc q => (other c ?_).trans q) (fun _ q => q) fun _ _ q => q
    rintro rfl
    rcases hc with rfl | hc
    · rw [I.free] at e; cases e
    · rw [I.free] at hc; cases hc
/-- o.f, tokens alone are used -/
theorem quiet_fld {i : Nat} {x f : Str} {p pos : Pos} {a C dx : Addr} {fs : List (Str × V)} {v : V} {Q : Value → Shared → Prop} (hN : X.N[i]? = some x) (hv : Vis X.env.scope x) (I : Inv X pins σ H s) (hσ : σ[i]? = some (some (.ref a)))
    (e : H a = some (.ins C dx fs)) (c : Cls X.K C) (n : NoAttr X.K C f) (l : fs.lookup f = some v) (hb : attributeBase (.Name x p) f X.env (eval (.Name x p) X.env) = eval (.Name x p) X.env)
    (hd : (x == ("__debug__" : Str)) = false) (hcd : (x == ("__classdict__" : Str)) = false)
    (fin : ∀ u k, s.toks ≤ k → RelV v u → Q u { s with toks := k }) : wpAny (model X.prog X.w) X.A (eval (.Attribute (.Name x p) f pos) X.env) Q E s := by
  refine attr_of hb (raw_name hN hv I hσ (fun u r => ?_) hd hcd)
  have e1 : u = Value.ref a := r
  subst e1
  obtain ⟨mA, O, r2, _⟩ := ins_get I.hok e
  obtain ⟨u, hu, ru⟩ := RelO.some_of (v := v) (o := mA f) (by rw [← l]; exact r2 f)
  exact get_map I.kIn O (c.get f) c.hd n hu (handed_of ru) (fin u _ (Nat.le_succ _) ru)
/-- x[k] of a text at a written place -/
theorem quiet_sub {i : Nat} {x : Str} {k : Int} {j : Nat} {cp p1 pos : Pos} {z : Str} {c : Nat} {Q : Value → Shared → Prop} (hN : X.N[i]? = some x) (hv : Vis X.env.scope x) (I : Inv X pins σ H s) (hσ : σ[i]? = some (some (.str z)))
    (h0 : 0 ≤ k) (h63 : k < 2 ^ 63) (hk : k.toNat < z.length) (hc : z.cps[k.toNat]? = some c) (hs : PlainIx (.Constant (.int k) j cp)) (hd : (x == ("__debug__" : Str)) = false) (hcd : (x == ("__classdict__" : Str)) = false)
    (fin : ∀ t m, s.toks ≤ m → Q (.str ⟨#[c]⟩ t) { s with toks := m + 1 }) : wpAny (model X.prog X.w) X.A (eval (.Subscript (.Name x p1) (.Constant (.int k) j cp) pos) X.env) Q E s := by
  refine Subscript_ (raw_name hN hv I hσ (fun v r => ?_) hd hcd)
  obtain ⟨t, rfl⟩ := r
  refine wpAny_Constant_int ?_
  refine tail_any (typeIs_str _ z t) slot_str_getitem.lookup (P.getItem_str (c := c) ?_ ?_ (fin _ _ (Nat.le_succ _))) (hs _ _)
  · have e1 : decide (k < -(2 ^ 63 : Int)) = false := decide_eq_false (by omega)
    have e2 : decide (k ≥ 2 ^ 63) = false := decide_eq_false (by omega)
    rw [e1, e2, Bool.or_false]
  · rw [seqIndex_of h0 (by omega)]
    exact hc
/-- row[o.f.index(x[k])] -/
theorem quiet_item {ir iw it : Nat} {xr xw xt f : Str} {p1 p2 p3 p4 p5 p6 p7 p8 cp : Pos} {k : Int} {j : Nat} {r z y : Str} {c d n0 : Nat} {rest : List Nat} {a C dx : Addr} {fs : List (Str × V)} {Q : Value → Shared → Prop}
    (hNr : X.N[ir]? = some xr) (hvr : Vis X.env.scope xr) (hNw : X.N[iw]? = some xw) (hvw : Vis X.env.scope xw) (hNt : X.N[it]? = some xt) (hvt : Vis X.env.scope xt) (I : Inv X pins σ H s)
    (hr : σ[ir]? = some (some (.str r))) (hw : σ[iw]? = some (some (.ref a))) (ht : σ[it]? = some (some (.str y)))
    (e : H a = some (.ins C dx fs)) (cl : Cls X.K C) (na : NoAttr X.K C f) (l : fs.lookup f = some (.str z)) (h0 : 0 ≤ k) (h63 : k < 2 ^ 63) (hk : k.toNat < y.length) (hc : y.cps[k.toNat]? = some c)
    (ho : Builtin.Str.occurrences z ⟨#[c]⟩ 0 z.length 1 = n0 :: rest) (hl : r.length < 2 ^ 62) (hn : r.cps[n0]? = some d)
    (hb : attributeBase (.Name xw p2) f X.env (eval (.Name xw p2) X.env) = eval (.Name xw p2) X.env := by rfl)
    (hb2 : attributeBase (.Attribute (.Name xw p2) f p3) "index" X.env (eval (.Attribute (.Name xw p2) f p3) X.env) = eval (.Attribute (.Name xw p2) f p3) X.env := by rfl)
    (hfew : ((backTo p7 (starEach [.Subscript (.Name xt p5) (.Constant (.int k) j cp) p6] X.env)).all (fun x => !x.1) && (backToKw p7 (keywordEach [] X.env)).all (fun x => x.1.isSome)
      && decide (([.Subscript (.Name xt p5) (.Constant (.int k) j cp) p6] : List Expr).length + ([] : List Keyword).length + (if ([] : List Keyword).isEmpty then 0 else 1) < 30)) = true := by rfl)
    (hline : (p4.endLine == p7.line) = true := by rfl) (htr : backTo p7 (starEach [.Subscript (.Name xt p5) (.Constant (.int k) j cp) p6] X.env) = [(false, eval (.Subscript (.Name xt p5) (.Constant (.int k) j cp) p6) X.env)] := by rfl)
    (hs : PlainIx (.Constant (.int k) j cp) := by exact fun _ _ => rfl) (hs2 : PlainIx (.Call (.Attribute (.Attribute (.Name xw p2) f p3) "index" p4) [.Subscript (.Name xt p5) (.Constant (.int k) j cp) p6] [] p7) := by exact fun _ _ => rfl)
    (hdr : (xr == ("__debug__" : Str)) = false := by decide) (hcr : (xr == ("__classdict__" : Str)) = false := by decide) (hdw : (xw == ("__debug__" : Str)) = false := by decide) (hcw : (xw == ("__classdict__" : Str)) = false := by decide)
    (hdt : (xt == ("__debug__" : Str)) = false := by decide) (hct : (xt == ("__classdict__" : Str)) = false := by decide)
    (fin : ∀ t, s.toks < t → Q (.str ⟨#[d]⟩ t) { s with toks := t + 1 }) :
    wpAny (model X.prog X.w) X.A (eval (.Subscript (.Name xr p1) (.Call (.Attribute (.Attribute (.Name xw p2) f p3) "index" p4) [.Subscript (.Name xt p5) (.Constant (.int k) j cp) p6] [] p7) p8) X.env) Q E s := by
  refine Subscript_ (raw_name hNr hvr I hr (fun v rv => ?_) hdr hcr)
  obtain ⟨t0, rfl⟩ := rv
  refine wpAny_Call_method_late hb2 hfew hline htr (quiet_fld hNw hvw I hw e cl na l hb hdw hcw fun u k1 hk1 ru => ?_)
  obtain ⟨tz, rfl⟩ := ru
  refine ⟨"str", _, F.plainAttrs_str, F.slot_str_index, F.type_str_index, typeIs_str _ _ _, (fun _ e => nomatch e), Calls.callWith_builtin rfl (Calls.evalArgs_plain (Calls.spliced_cons ?_))⟩
  refine quiet_sub hNt hvt (I.tok k1) ht h0 h63 hk hc hs hdt hct fun t2 m2 hm2 => ?_
  refine Calls.spliced_nil ?_
  refine PySem.SC.index ho ?_
  have hnl : n0 < r.cps.size := (Array.getElem?_eq_some_iff.mp hn).1
  have hrl : r.length = r.cps.size := rfl
  refine tail_any (typeIs_str _ r t0) slot_str_getitem.lookup (P.getItem_str (c := d) ?_ ?_ (fin _ (by
    have h1 : k1 ≤ m2 := hm2
    show s.toks < m2 + 1 + 1
    omega))) (hs2 _ _)
  · have e1 : decide (((n0 : Nat) : Int) < -(2 ^ 63 : Int)) = false := decide_eq_false (by omega)
    have e2 : decide (((n0 : Nat) : Int) ≥ 2 ^ 63) = false := decide_eq_false (by omega)
    rw [e1, e2, Bool.or_false]
  · rw [seqIndex_of (by omega) (by omega)]
    simpa using hn
end
end DL

set_option Elab.async false
set_option linter.all false
set_option maxRecDepth 100000
namespace DL
open PySem PySem.Spec PyProof.Rows L2
section
variable {X : Cx} {pins : List (Addr × Obj)} {σ : L2.St} {H : Hp} {s : Shared} {E : Value → Shared → Prop}
/-- a plain local name whose object the frame's map tells -/
theorem map_name {x : Str} {p : Pos} {m : Str → Option Value} {u : Value} {Q : Value → Shared → Prop} (I : Inv X pins σ H s) (hn : s.heap.Ns X.env.locals m) (hm : m x = some u) (hk : X.env.scope.names.lookup x = some .local) (fin : Q u s)
    (hd : (x == ("__debug__" : Str)) = false) : wpAny (model X.prog X.w) X.A (eval (.Name x p) X.env) Q E s := wpAny_Name (wpAny_loadName_local I.ok.kind hk hn hm fin) hd
theorem ns_kept {h h' : Heap} {a : Addr} {m : Str → Option Value} (n : h.Ns a m) (k : ∀ c o, h.get? c = some o → h'.get? c = some o) : h'.Ns a m := by
  obtain ⟨o, es, ep, e, d⟩ := n
  exact ⟨o, es, ep, k _ _ e, d⟩
/-- what one, other, row hold behind: d0 and d1 the two signs -/
def swapped (r : Str) (d0 d1 : Nat) : Str := if d0 = d1 then r else Txt.replace r ⟨#[max d0 d1]⟩ ⟨#[min d0 d1]⟩
/-- one = row[web.f.index(tie[0])]; other = row[web.f.index(tie[1])]; row = row.replace(max(one, other), min(one, other)) -/
def tSwap (K : PySem.W.Frag) (C : Addr) (f : Str) (ir iw it io iu : Nat) : TS := fun D σ H => ∃ (r z y : Str) (c0 c1 d0 d1 n0 n1 : Nat) (q0 q1 : List Nat) (a dx : Addr) (fs : List (Str × V)),
  σ[ir]? = some (some (.str r)) ∧ σ[iw]? = some (some (.ref a)) ∧ σ[it]? = some (some (.str y)) ∧ H a = some (.ins C dx fs) ∧ fs.lookup f = some (.str z) ∧ y.cps[0]? = some c0 ∧ y.cps[1]? = some c1 ∧
  Builtin.Str.occurrences z ⟨#[c0]⟩ 0 z.length 1 = n0 :: q0 ∧ Builtin.Str.occurrences z ⟨#[c1]⟩ 0 z.length 1 = n1 :: q1 ∧ r.length < 1000 ∧ r.cps[n0]? = some d0 ∧ r.cps[n1]? = some d1 ∧
  D.nx (((σ.set io (some (.str ⟨#[d0]⟩))).set iu (some (.str ⟨#[d1]⟩))).set ir (some (.str (swapped r d0 d1)))) H
theorem lt_one {a b : Nat} : (([a] : List Nat) < [b]) ↔ a < b := by
  constructor
  · intro h
    cases h with
    | rel h => exact h
    | cons h => cases h
  · intro h
    exact .rel h
theorem pss_swap {C : Addr} {f xr xw xt xo xu : Str} {ir iw it io iu : Nat} {pa pb pc : Pos} {a1 a2 a3 a4 a5 a6 a7 a8 a9 ca b1 b2 b3 b4 b5 b6 b7 b8 b9 cb c1 c2 c3 c4 c5 c6 c7 c8 c9 c10 c11 : Pos} {j0 j1 : Nat}
    (cl : Cls X.K C) (na : NoAttr X.K C f) (hc : X.calm = true) (hN : X.N.Nodup) (hNr : X.N[ir]? = some xr) (hNw : X.N[iw]? = some xw) (hNt : X.N[it]? = some xt) (hNo : X.N[io]? = some xo) (hNu : X.N[iu]? = some xu)
    (lr : X.env.scope.names.lookup xr = some .local) (lw : X.env.scope.names.lookup xw = some .local) (lt : X.env.scope.names.lookup xt = some .local) (lo : X.env.scope.names.lookup xo = some .local) (lu : X.env.scope.names.lookup xu = some .local)
    (no : xo ≠ xu) (ior : io ≠ ir) (iow : io ≠ iw) (iot : io ≠ it) (iur : iu ≠ ir)
    (gmx : Gl X "max") (gmn : Gl X "min") (mmx : X.mg "max" = none) (mmn : X.mg "min" = none)
    (hdr : (xr == ("__debug__" : Str)) = false := by decide) (hcr : (xr == ("__classdict__" : Str)) = false := by decide) (hdw : (xw == ("__debug__" : Str)) = false := by decide) (hcw : (xw == ("__classdict__" : Str)) = false := by decide)
    (hdt : (xt == ("__debug__" : Str)) = false := by decide) (hct : (xt == ("__classdict__" : Str)) = false := by decide) (hdo : (xo == ("__debug__" : Str)) = false := by decide) (hdu : (xu == ("__debug__" : Str)) = false := by decide)
    (hb : attributeBase (.Name xw a2) f X.env (eval (.Name xw a2) X.env) = eval (.Name xw a2) X.env := by rfl)
    (hb2 : attributeBase (.Attribute (.Name xw a2) f a3) "index" X.env (eval (.Attribute (.Name xw a2) f a3) X.env) = eval (.Attribute (.Name xw a2) f a3) X.env := by rfl)
    (hfew : ((backTo a7 (starEach [.Subscript (.Name xt a5) (.Constant (.int 0) j0 ca) a6] X.env)).all (fun x => !x.1) && (backToKw a7 (keywordEach [] X.env)).all (fun x => x.1.isSome)
      && decide (([.Subscript (.Name xt a5) (.Constant (.int 0) j0 ca) a6] : List Expr).length + ([] : List Keyword).length + (if ([] : List Keyword).isEmpty then 0 else 1) < 30)) = true := by rfl)
    (hline : (a4.endLine == a7.line) = true := by rfl) (htr : backTo a7 (starEach [.Subscript (.Name xt a5) (.Constant (.int 0) j0 ca) a6] X.env) = [(false, eval (.Subscript (.Name xt a5) (.Constant (.int 0) j0 ca) a6) X.env)] := by rfl)
    (kb : attributeBase (.Name xw b2) f X.env (eval (.Name xw b2) X.env) = eval (.Name xw b2) X.env := by rfl)
    (kb2 : attributeBase (.Attribute (.Name xw b2) f b3) "index" X.env (eval (.Attribute (.Name xw b2) f b3) X.env) = eval (.Attribute (.Name xw b2) f b3) X.env := by rfl)
    (kfew : ((backTo b7 (starEach [.Subscript (.Name xt b5) (.Constant (.int 1) j1 cb) b6] X.env)).all (fun x => !x.1) && (backToKw b7 (keywordEach [] X.env)).all (fun x => x.1.isSome)
      && decide (([.Subscript (.Name xt b5) (.Constant (.int 1) j1 cb) b6] : List Expr).length + ([] : List Keyword).length + (if ([] : List Keyword).isEmpty then 0 else 1) < 30)) = true := by rfl)
    (kline : (b4.endLine == b7.line) = true := by rfl) (ktr : backTo b7 (starEach [.Subscript (.Name xt b5) (.Constant (.int 1) j1 cb) b6] X.env) = [(false, eval (.Subscript (.Name xt b5) (.Constant (.int 1) j1 cb) b6) X.env)] := by rfl)
    (sw1 : swapsWith (.Subscript (.Name xr a1) (.Call (.Attribute (.Attribute (.Name xw a2) f a3) "index" a4) [.Subscript (.Name xt a5) (.Constant (.int 0) j0 ca) a6] [] a7) a8) (some (.Name xo a9)) pa.line X.env = pure false := by rfl)
    (sw2 : swapsWith (.Subscript (.Name xr b1) (.Call (.Attribute (.Attribute (.Name xw b2) f b3) "index" b4) [.Subscript (.Name xt b5) (.Constant (.int 1) j1 cb) b6] [] b7) b8) (some (.Name xu b9)) pb.line X.env = pure false := by rfl)
    (lb : attributeBase (.Name xr c1) "replace" X.env (eval (.Name xr c1) X.env) = eval (.Name xr c1) X.env := by rfl) (lline : (c2.endLine == c9.line) = true := by rfl)
    (ltr : backTo c9 (starEach [.Call (.Name "max" c3) [.Name xo c4, .Name xu c5] [] c6, .Call (.Name "min" c7) [.Name xo c8, .Name xu c10] [] c11] X.env) =
      [(false, eval (.Call (.Name "max" c3) [.Name xo c4, .Name xu c5] [] c6) X.env), (false, eval (.Call (.Name "min" c7) [.Name xo c8, .Name xu c10] [] c11) X.env)] := by rfl)
    (mx : starEach [.Name xo c4, .Name xu c5] X.env = (false, eval (.Name xo c4) X.env) :: starEach [.Name xu c5] X.env := by rfl) (mx2 : (backTo c6 (starEach [.Name xu c5] X.env)).any (·.1) = false := by rfl)
    (mx3 : backTo c6 (starEach [.Name xo c4, .Name xu c5] X.env) = [(false, eval (.Name xo c4) X.env), (false, eval (.Name xu c5) X.env)] := by rfl)
    (mi : starEach [.Name xo c8, .Name xu c10] X.env = (false, eval (.Name xo c8) X.env) :: starEach [.Name xu c10] X.env := by rfl) (mi2 : (backTo c11 (starEach [.Name xu c10] X.env)).any (·.1) = false := by rfl)
    (mi3 : backTo c11 (starEach [.Name xo c8, .Name xu c10] X.env) = [(false, eval (.Name xo c8) X.env), (false, eval (.Name xu c10) X.env)] := by rfl)
    {p9 : Pos}
    (sw3 : swapsWith (.Call (.Attribute (.Name xr c1) "replace" c2) [.Call (.Name "max" c3) [.Name xo c4, .Name xu c5] [] c6, .Call (.Name "min" c7) [.Name xo c8, .Name xu c10] [] c11] [] c9) (some (.Name xr p9)) pc.line X.env = pure false := by rfl) :
    PSs X [.Assign [.Name xo a9] (.Subscript (.Name xr a1) (.Call (.Attribute (.Attribute (.Name xw a2) f a3) "index" a4) [.Subscript (.Name xt a5) (.Constant (.int 0) j0 ca) a6] [] a7) a8) pa,
      .Assign [.Name xu b9] (.Subscript (.Name xr b1) (.Call (.Attribute (.Attribute (.Name xw b2) f b3) "index" b4) [.Subscript (.Name xt b5) (.Constant (.int 1) j1 cb) b6] [] b7) b8) pb,
      .Assign [.Name xr p9] (.Call (.Attribute (.Name xr c1) "replace" c2) [.Call (.Name "max" c3) [.Name xo c4, .Name xu c5] [] c6, .Call (.Name "min" c7) [.Name xo c8, .Name xu c10] [] c11] [] c9) pc] (tSwap X.K C f ir iw it io iu) := by
  refine ⟨fun pins s σ H D I ⟨r, z, y, k0, k1, d0, d1, n0, n1, q0, q1, a, dx, fs, er, ew, et, ea, ef, e0, e1, o0, o1, hl, g0, g1, fin⟩ => ?_⟩
  have hy0 : 0 < y.length := (Array.getElem?_eq_some_iff.mp e0).1
  have hy1 : 1 < y.length := (Array.getElem?_eq_some_iff.mp e1).1
  -- one = ..
  refine wpAny_execs_cons (wpAny_Assign_Name ?_ sw1)
  refine quiet_item (k := 0) (d := d0) hNr (.inl lr) hNw (.inl lw) hNt (.inl lt) I er ew et ea cl na ef (by decide) (by decide) hy0 e0 o0 (by omega) g0 hb hb2 hfew hline htr (hdr := hdr) (hcr := hcr) (hdw := hdw) (hcw := hcw) (hdt := hdt) (hct := hct) (fin := fun t ht => ?_)
  obtain ⟨m0, hn0, _⟩ := id I.loc
  refine store_at (I.tok (t + 1)) hN hNo lo (v := .str ⟨#[d0]⟩) ⟨t, rfl⟩ hn0 fun s1 I1 N1 ht1 => ?_
  -- other = ..
  have er1 : (σ.set io (some (V.str ⟨#[d0]⟩)))[ir]? = some (some (.str r)) := by rw [List.getElem?_set_ne ior]; exact er
  have ew1 : (σ.set io (some (V.str ⟨#[d0]⟩)))[iw]? = some (some (.ref a)) := by rw [List.getElem?_set_ne iow]; exact ew
  have et1 : (σ.set io (some (V.str ⟨#[d0]⟩)))[it]? = some (some (.str y)) := by rw [List.getElem?_set_ne iot]; exact et
  refine wpAny_execs_cons (wpAny_Assign_Name ?_ sw2)
  refine quiet_item (k := 1) (d := d1) hNr (.inl lr) hNw (.inl lw) hNt (.inl lt) I1 er1 ew1 et1 ea cl na ef (by decide) (by decide) hy1 e1 o1 (by omega) g1 kb kb2 kfew kline ktr (hdr := hdr) (hcr := hcr) (hdw := hdw) (hcw := hcw) (hdt := hdt) (hct := hct) (fin := fun t2 ht2 => ?_)
  have htt : t < t2 := by
    have h1 : t + 1 ≤ s1.toks := ht1
    omega
  refine store_at (I1.tok (t2 + 1)) hN hNu lu (v := .str ⟨#[d1]⟩) ⟨t2, rfl⟩ N1 fun s2 I2 N2 ht3 => ?_
  have mo : (fun w => if w = xu then some (Value.str ⟨#[d1]⟩ t2) else (fun w => if w = xo then some (Value.str ⟨#[d0]⟩ t) else m0 w) w) xo = some (Value.str ⟨#[d0]⟩ t) := by
    show (if xo = xu then _ else if xo = xo then _ else _) = _
    rw [if_neg no, if_pos rfl]
  have mu : (fun w => if w = xu then some (Value.str ⟨#[d1]⟩ t2) else (fun w => if w = xo then some (Value.str ⟨#[d0]⟩ t) else m0 w) w) xu = some (Value.str ⟨#[d1]⟩ t2) := by
    show (if xu = xu then _ else _) = _
    rw [if_pos rfl]
  generalize (fun w => if w = xu then some (Value.str ⟨#[d1]⟩ t2) else (fun w => if w = xo then some (Value.str ⟨#[d0]⟩ t) else m0 w) w) = m2 at N2 mo mu
  have er2 : ((σ.set io (some (V.str ⟨#[d0]⟩))).set iu (some (V.str ⟨#[d1]⟩)))[ir]? = some (some (.str r)) := by rw [List.getElem?_set_ne iur]; exact er1
  -- row = row.replace(max(one, other), min(one, other))
  refine wpAny_execs_cons (wpAny_Assign_Name ?_ sw3)
  refine wpAny_Call_method2_late lb lline ltr (raw_name hNr (.inl lr) I2 er2 (fun u ru => ?_) hdr hcr)
  obtain ⟨t0, rfl⟩ := ru
  refine ⟨"str", _, F.plainAttrs_str, F.slot_str_replace, F.type_str_replace, typeIs_str _ _ _, (fun _ e => nomatch e), Calls.callWith_builtin rfl (Calls.evalArgs_plain (Calls.spliced_cons ?_))⟩
  refine wpAny_Call_Name_kw (ld_blt (u := .builtin "max") I2 gmx mmx (by decide +kernel) (PyProof.Rows.callWith_builtin1 ?_ mx mx2) (by decide) (by decide))
  rw [mx3]
  refine Calls.spliced_cons (map_name I2 N2 mo lo (Calls.spliced_cons (map_name I2 N2 mu lu (Calls.spliced_nil ?_) hdu)) hdo)
  refine max_strs (I2.ok.hd hc) fun h3 tk3 kp3 => ?_
  have I3 : Inv X pins _ H { s2 with heap := h3, toks := tk3 } := I2.kept kp3
  have N3 := ns_kept N2 kp3
  refine Calls.spliced_cons ?_
  refine wpAny_Call_Name_kw (ld_blt (u := .builtin "min") I3 gmn mmn (by decide +kernel) (PyProof.Rows.callWith_builtin1 ?_ mi mi2) (by decide) (by decide))
  rw [mi3]
  refine Calls.spliced_cons (map_name I3 N3 mo lo (Calls.spliced_cons (map_name I3 N3 mu lu (Calls.spliced_nil ?_) hdu)) hdo)
  refine min_strs (I3.ok.hd hc) fun h4 tk4 kp4 => ?_
  have I4 : Inv X pins _ H { s2 with heap := h4, toks := tk4 } := I3.kept kp4
  refine Calls.spliced_nil ?_
  have tn : t ≠ 0 := Nat.ne_of_gt (Nat.lt_of_le_of_lt (Nat.zero_le _) ht)
  have tn2 : t2 ≠ 0 := Nat.ne_of_gt (Nat.lt_of_le_of_lt (Nat.zero_le _) ht2)
  have tne : t ≠ t2 := Nat.ne_of_lt htt
  -- the end, whatever text comes back
  have last : ∀ (t' : Tok) (k : Nat), wpAny (model X.prog X.w) X.A (storeName X.env xr (.str (swapped r d0 d1) t')) (fun _ s' => wpAny (model X.prog X.w) X.A (execs [] X.env) (SP X pins D) X.xe s') X.xe { s2 with heap := h4, toks := k } := fun t' k => by
    refine store_ok (v := .str (swapped r d0 d1)) (I4.tok k) hN hNr (.inl lr) ⟨t', rfl⟩ (fun s5 I5 => wpAny_execs_nil ⟨_, H, I5, fin⟩) (.inr lr)
  have c1 : (⟨#[d0]⟩ : Str).cps.toList < (⟨#[d1]⟩ : Str).cps.toList ↔ d0 < d1 := lt_one
  have c2 : (⟨#[d1]⟩ : Str).cps.toList < (⟨#[d0]⟩ : Str).cps.toList ↔ d1 < d0 := lt_one
  by_cases eq : d0 = d1
  · subst eq
    rw [if_neg (fun h => Nat.lt_irrefl _ (c1.mp h))]
    have es : swapped r d0 d0 = r := if_pos rfl
    have l2 := last t0 tk4
    rw [es] at l2
    exact call_replace_same tn l2
  · have hz : r.length + (r.length + 1) * (⟨#[min d0 d1]⟩ : Str).length ≤ 16777216 := by
      have e1 : (⟨#[min d0 d1]⟩ : Str).length = 1 := rfl
      rw [e1]
      omega
    have es : swapped r d0 d1 = Txt.replace r ⟨#[max d0 d1]⟩ ⟨#[min d0 d1]⟩ := if_neg eq
    rw [es] at last
    have hne : ∀ x y : Nat, x ≠ y → ((⟨#[x]⟩ : Str) == ⟨#[y]⟩) = false := fun x y h => by
      rw [beq_eq_false_iff_ne]
      intro e
      exact h (by simpa using e)
    rcases Nat.lt_or_gt_of_ne eq with h | h
    · have e1 : max d0 d1 = d1 := Nat.max_eq_right (Nat.le_of_lt h)
      have e2 : min d0 d1 = d0 := Nat.min_eq_left (Nat.le_of_lt h)
      rw [e1, e2] at last
      rw [e2] at hz
      rw [if_pos (c1.mpr h), if_neg (fun q => Nat.lt_asymm h (c2.mp q))]
      exact PySem.SC.replace tn2 tn (Ne.symm tne) (hne _ _ (by omega)) hz fun t' k => last t' k
    · have e1 : max d0 d1 = d0 := Nat.max_eq_left (Nat.le_of_lt h)
      have e2 : min d0 d1 = d1 := Nat.min_eq_right (Nat.le_of_lt h)
      rw [e1, e2] at last
      rw [e2] at hz
      rw [if_neg (fun q => Nat.lt_asymm h (c1.mp q)), if_pos (c2.mpr h)]
      exact PySem.SC.replace tn tn2 tne (hne _ _ (by omega)) hz fun t' k => last t' k
end
end DL

set_option Elab.async false
set_option linter.all false
set_option maxRecDepth 100000
namespace DL
open PySem PySem.Spec PyProof.Rows L2
section
variable {X : Cx}
/-- one = row[web.f.index(tie[0])]; other = row[web.f.index(tie[1])]; row = row.replace(max(one, other), min(one, other)) -/
def gSwap (C : Addr) (f : Str) (ir iw it io iu : Nat) : GS := fun F δ μ => ∃ (r z y : Str) (c0 c1 d0 d1 n0 n1 : Nat) (q0 q1 : List Nat) (fs : List (Str × D)),
  δ[ir]? = some (some (.str r)) ∧ δ[iw]? = some (some (.ins C fs)) ∧ δ[it]? = some (some (.str y)) ∧ fs.lookup f = some (.str z) ∧ y.cps[0]? = some c0 ∧ y.cps[1]? = some c1 ∧
  Builtin.Str.occurrences z ⟨#[c0]⟩ 0 z.length 1 = n0 :: q0 ∧ Builtin.Str.occurrences z ⟨#[c1]⟩ 0 z.length 1 = n1 :: q1 ∧ r.length < 1000 ∧ r.cps[n0]? = some d0 ∧ r.cps[n1]? = some d1 ∧
  F.nx (((δ.set io (some (.str ⟨#[d0]⟩))).set iu (some (.str ⟨#[d1]⟩))).set ir (some (.str (swapped r d0 d1)))) μ
theorem sim_swap {K : PySem.W.Frag} {C : Addr} {f : Str} {ir iw it io iu : Nat} : SimS K (tSwap K C f ir iw it io iu) (gSwap C f ir iw it io iu) := by
  intro σ H δ μ E F rm rs e ⟨r, z, y, c0, c1, d0, d1, n0, n1, q0, q1, fs, er, ew, et, ef, e0, e1, o0, o1, hl, g0, g1, fin⟩
  obtain ⟨v1, s1, r1⟩ := rs.get er
  unfold Rep at r1
  subst r1
  obtain ⟨v2, s2, r2⟩ := rs.get ew
  unfold Rep at r2
  obtain ⟨a, dx, fv, rfl, h2, n2, rf⟩ := r2
  obtain ⟨v3, s3, r3⟩ := rs.get et
  unfold Rep at r3
  subst r3
  obtain ⟨v4, s4, r4⟩ := rf.look ef
  unfold Rep at r4
  subst r4
  exact ⟨r, z, y, c0, c1, d0, d1, n0, n1, q0, q1, a, dx, fv, s1, s2, s3, h2, s4, e0, e1, o0, o1, hl, g0, g1,
    e.nx _ H _ μ (Kp.refl _ _) rm (((rs.set io (by unfold Rep; rfl)).set iu (by unfold Rep; rfl)).set ir (by unfold Rep; rfl)) fin⟩
end
end DL

set_option Elab.async false
set_option linter.all false
set_option maxRecDepth 100000
namespace DL
open PySem PySem.Spec PyProof.Rows L2
/-! ### zip of two texts -/
def ItZS (x y : Str) : It :=
  ⟨fun i H => i < x.cps.size ∧ i < y.cps.size,
    fun i H v H' => ∃ T c d, v = .ref T ∧ H T = none ∧ H' = upd H T (.tup [.str ⟨#[c]⟩, .str ⟨#[d]⟩]) ∧ x.cps[i]? = some c ∧ y.cps[i]? = some d,
    fun i H => i ≤ x.cps.size ∧ i ≤ y.cps.size ∧ (i = x.cps.size ∨ i = y.cps.size)⟩
theorem turn_zipS {P : Program} {w : World} {K : PySem.W.Frag} {elts : List Expr} {kk : Nat} {tpos : Pos} {x y : Str} {tx ty : Tok} {z TI TO i1 i2 : Addr} (D : ZipSep2 z TI TO i1 i2 [i1] [i2]) :
    Turn P w K (.Tuple elts kk tpos) (ItZS x y) [z, TI, TO, i1, i2] z (fun i h => IsZip h z TI TO .none ∧ IsTupOf2 h TI (.ref i1) (.ref i2) ∧ (∃ a b, IsTupOf2 h TO a b) ∧ h.IsStrIter i1 (strIterType x) x tx i ∧ h.IsStrIter i2 (strIterType y) y ty i) where
  mem := by simp
  obj := fun i h st c hc => by
    obtain ⟨hz, hTI, ⟨x, y, hTO⟩, ⟨o1, e1, _, d1⟩, ⟨o2, e2, _, d2⟩⟩ := st
    have e' : c = z ∨ c = TI ∨ c = TO ∨ c = i1 ∨ c = i2 := by simpa using hc
    rcases e' with q | q | q | q | q
    · rw [q]; exact ⟨_, hz, fun v q => nomatch q⟩
    · rw [q]; exact ⟨_, hTI, fun v q => nomatch q⟩
    · rw [q]; exact ⟨_, hTO, fun v q => nomatch q⟩
    · rw [q]; exact ⟨o1, e1, fun v q => by rw [d1] at q; cases q⟩
    · rw [q]; exact ⟨o2, e2, fun v q => by rw [d2] at q; cases q⟩
  keep := fun i h h' st k => by
    obtain ⟨hz, hTI, ⟨x, y, hTO⟩, ⟨o1, e1, r1⟩, ⟨o2, e2, r2⟩⟩ := st
    exact ⟨k z (by simp) _ hz, k TI (by simp) _ hTI, ⟨x, y, k TO (by simp) _ hTO⟩, ⟨o1, k i1 (by simp) o1 e1, r1⟩, ⟨o2, k i2 (by simp) o2 e2, r2⟩⟩
  item := by
    intro X hP hw hK hc i pins s σ H E I hf st hg
    subst hP hw hK
    obtain ⟨hz, hTI, ⟨x0, y0, hTO⟩, h1, h2⟩ := st
    have hzl : z < s.heap.objs.size := Heap.lt_size hz
    have hh : X.A.in1.handled = none := I.ok.hd hc
    refine wpAny_pyNext_zipD2_item D (Draws.text hh i1 x tx) (Draws.text hh i2 y ty) hz hTI hTO h1 h2 hg.1 hg.2 fun u1 u2 h' tk p1 p2 z' TO' h1' h2' hT hsz hk => ?_
    obtain ⟨c, t1, ec, rfl⟩ := p1
    obtain ⟨d, t2, ed, rfl⟩ := p2
    refine ⟨_, rfl, wpAny_letOwnedTupleGo_zip (s := { s with heap := h', toks := tk }) z' fun h'' z'' sb => ?_⟩
    have hT2 : h''.get? s.heap.objs.size = some { cls := .type "tuple", data := .seq #[.str ⟨#[c]⟩ t1, .str ⟨#[d]⟩ t2] } := (sb.2 _ (Nat.ne_of_gt hzl)).trans hT
    have new : ObjOk X.prog X.w (upd H s.heap.objs.size (.tup [.str ⟨#[c]⟩, .str ⟨#[d]⟩])) h'' s.heap.objs.size (.tup [.str ⟨#[c]⟩, .str ⟨#[d]⟩]) :=
      ⟨by show 2 ≤ sizeLine; decide, [.str ⟨#[c]⟩ t1, .str ⟨#[d]⟩ t2], .cons ⟨t1, rfl⟩ (.cons ⟨t2, rfl⟩ .nil), ⟨_, hT2, rfl, _, rfl⟩⟩
    have I1 : Inv X pins σ (upd H s.heap.objs.size (.tup [.str ⟨#[c]⟩, .str ⟨#[d]⟩])) { s with heap := h'', toks := tk } :=
      I.turnedNew (t' := tk) (ch := [z, TI, TO, i1, i2]) (fun c o hb q => (sb.2 c (fun q' => hb (by simp [q']))).trans (hk c o (fun q' => hb (by simp [q'])) (fun q' => hb (by simp [q'])) (fun q' => hb (by simp [q'])) (fun q' => hb (by simp [q'])) q)) hf (Nat.le_refl _) new
    refine ⟨.ref s.heap.objs.size, _, I1, rfl, ⟨_, c, d, rfl, I.hok.fresh (Nat.le_refl _), rfl, ec, ed⟩, ⟨z'', ?_, ⟨.str ⟨#[c]⟩ t1, .str ⟨#[d]⟩ t2, ?_⟩, ?_, ?_⟩, fun c hcm => ?_⟩
    · exact (sb.2 _ D.TIz).trans (hk _ _ D.TIz D.TITO D.TIi1 D.TIi2 hTI)
    · exact (sb.2 _ D.TOz).trans TO'
    · obtain ⟨o1, e1, r1⟩ := h1'
      exact ⟨o1, (sb.2 _ (Ne.symm D.zi1)).trans e1, r1⟩
    · obtain ⟨o2, e2, r2⟩ := h2'
      exact ⟨o2, (sb.2 _ (Ne.symm D.zi2)).trans e2, r2⟩
    · have hlt : c < s.heap.objs.size := by
        have e' : c = z ∨ c = TI ∨ c = TO ∨ c = i1 ∨ c = i2 := by simpa using hcm
        rcases e' with q | q | q | q | q
        · rw [q]; exact hzl
        · rw [q]; exact Heap.lt_size hTI
        · rw [q]; exact Heap.lt_size hTO
        · rw [q]; obtain ⟨_, e1, _⟩ := h1; exact Heap.lt_size e1
        · rw [q]; obtain ⟨_, e2, _⟩ := h2; exact Heap.lt_size e2
      rw [upd_ne (Nat.ne_of_lt hlt)]
      exact (hf c hcm).1
  done := by
    intro X hP hw hK hc i pins s σ H E I hf st hg
    subst hP hw hK
    obtain ⟨hz, hTI, ⟨x0, y0, hTO⟩, h1, h2⟩ := st
    have hh : X.A.in1.handled = none := I.ok.hd hc
    exact wpAny_pyNext_zipD2_end D (Draws.text hh i1 x tx) (Draws.text hh i2 y ty) hz hTI hTO h1 h2 hg.1 hg.2.1 hg.2.2 fun h' tk hk => ⟨rfl, I.turnedL (t' := tk) (ch := [z, TI, TO, i1, i2]) (fun c o hb q =>
      hk c o (fun q' => hb (by simp [q'])) (fun q' => hb (by simp [q'])) (fun q' => hb (by simp [q'])) (fun q' => hb (by simp [q'])) q) hf⟩
  self := fun A i s Q E st h => wpAny_pyIter_zip st.1 h

def iZipS (ta : TA) : TI := fun σ H R => ta σ H fun vs H1 => ∃ x y, vs = [.str x, .str y] ∧ R (ItZS x y) H1
theorem pi_zipS {X : Cx} {e e2 : Expr} {ta : TA} {p pos tpos : Pos} {elts : List Expr} {kk : Nat} (hg : Gl X "zip") (hm : X.mg "zip" = none) (ha : PA X [e, e2] ta)
    (hs : starEach [e, e2] X.env = (false, eval e X.env) :: starEach [e2] X.env := by rfl) (hpl : (backTo pos (starEach [e2] X.env)).any (·.1) = false := by rfl) :
    PI X (.Tuple elts kk tpos) (.Call (.Name "zip" p) [e, e2] [] pos) (iZipS ta) := by
  refine ⟨fun pins s σ H R I h => ?_⟩
  refine Call_ (ld_blt I hg hm PyProof.Rows.boot_zip (PyProof.Rows.callWith_type1 (thn (ha.run pos pins s σ H _ I h) fun us s1 ⟨vs, H1, I1, r1, q1⟩ => ?_) hs hpl))
  obtain ⟨x, y, ex, q1⟩ := q1
  subst ex
  cases r1 with
  | cons r rr =>
    cases rr with
    | cons r' rr =>
      cases rr
      obtain ⟨tx, rfl⟩ := r
      obtain ⟨ty, rfl⟩ := r'
      have fresh5 : ∀ c, c ∈ [s1.heap.objs.size + 4, s1.heap.objs.size + 2, s1.heap.objs.size + 3, s1.heap.objs.size, s1.heap.objs.size + 1] → FpOk X pins H1 c := fun c hcm => by
        have e' : c = s1.heap.objs.size + 4 ∨ c = s1.heap.objs.size + 2 ∨ c = s1.heap.objs.size + 3 ∨ c = s1.heap.objs.size ∨ c = s1.heap.objs.size + 1 := by simpa using hcm
        have hle : s1.heap.objs.size ≤ c := by
          rcases e' with z | z | z | z | z
          · rw [z]; exact Nat.le_add_right _ _
          · rw [z]; exact Nat.le_add_right _ _
          · rw [z]; exact Nat.le_add_right _ _
          · rw [z]; exact Nat.le_refl _
          · rw [z]; exact Nat.le_add_right _ _
        exact I1.fpOk hle (I1.hok.fresh hle)
      refine zip_begins2 (begins_text x tx) (begins_text y ty) trivial trivial fun h' hz hTI hTO g1 g2 hsz hk => wpAny_pyIter_zip hz ?_
      have I2 : Inv X pins σ H1 { s1 with heap := h' } := I1.kept (t' := s1.toks) hk
      exact ⟨s1.heap.objs.size + 4, [s1.heap.objs.size + 4, s1.heap.objs.size + 2, s1.heap.objs.size + 3, s1.heap.objs.size, s1.heap.objs.size + 1], _, _, H1, rfl, I2,
        turn_zipS (x := x) (y := y) (tx := tx) (ty := ty) (zip_sep2 (fun _ h => by cases h) (fun _ h => by cases h)), ⟨hz, hTI, ⟨_, _, hTO⟩, ⟨_, g1, rfl, rfl⟩, ⟨_, g2, rfl, rfl⟩⟩, fresh5, q1⟩
/-- the pairs of zip -/
def pairsS (x y : Str) : List D := List.zipWith (fun c d => D.tup [.str ⟨#[c]⟩, .str ⟨#[d]⟩]) x.cps.toList y.cps.toList
def gZipS (ga : GA) : GI := fun δ μ R => ga δ μ fun ds μ1 => match ds with
  | [.str x, .str y] => R (pairsS x y) μ1
  | _ => False
theorem walk_zipS {x y : Str} : Walk (ItZS x y) (pairsS x y).length (fun _ => True) (fun i H v H' => ∃ T c d, v = .ref T ∧ H T = none ∧ H' = upd H T (.tup [.str ⟨#[c]⟩, .str ⟨#[d]⟩]) ∧ x.cps[i]? = some c ∧ y.cps[i]? = some d) := by
  have hl : (pairsS x y).length = min x.cps.size y.cps.size := by simp [pairsS]
  refine ⟨fun i _ hi _ => ?_, fun _ _ => ?_, fun _ _ _ _ _ _ q => q⟩
  · rw [hl] at hi
    exact ⟨by omega, by omega⟩
  · rw [hl]
    exact ⟨by omega, by omega, by omega⟩
section
variable {X : Cx} {e e2 : Expr} {ga : GA}
theorem di_zipS {p pos tpos : Pos} {elts : List Expr} {kk : Nat} (hg : Gl X "zip") (hm : X.mg "zip" = none) (h : DA X [e, e2] ga)
    (hs : starEach [e, e2] X.env = (false, eval e X.env) :: starEach [e2] X.env := by rfl) (hpl : (backTo pos (starEach [e2] X.env)).any (·.1) = false := by rfl) :
    DI X (.Tuple elts kk tpos) (.Call (.Name "zip" p) [e, e2] [] pos) (gZipS ga) := by
  obtain ⟨t, a1, a2⟩ := h.ex
  refine ⟨_, pi_zipS hg hm a1 hs hpl, fun σ H δ μ Q R rm rs q f => ?_⟩
  refine a2 σ H δ μ _ _ rm rs q fun vs ds H1 μ1 k1 rm1 r1 q1 => ?_
  match ds, q1, r1 with
  | [.str x, .str y], q1, r1 =>
    obtain ⟨v, w, rfl, r2, r3⟩ := repL2 r1
    unfold Rep at r2 r3
    subst r2 r3
    refine ⟨x, y, rfl, f _ (pairsS x y) H1 μ1 k1 rm1 ?_ q1⟩
    refine walk_zipS.mono (fun _ _ => True.intro) fun i H' v H2 hi _ ⟨T, c, d, ev, nT, e2, ec, ed⟩ μ' k rm => ?_
    subst ev e2
    have nm : μ' T = none := rm.free nT
    have k2 : Kp H' μ' (upd H' T (.tup [.str ⟨#[c]⟩, .str ⟨#[d]⟩])) μ' := Kp.new nT
    refine ⟨.tup [.str ⟨#[c]⟩, .str ⟨#[d]⟩], ?_, ?_, k2, rm.laid nT⟩
    · unfold pairsS
      rw [List.getElem?_zipWith, Array.getElem?_toList, Array.getElem?_toList, ec, ed]
    · unfold Rep
      exact ⟨T, _, rfl, .inl ⟨upd_same, nm⟩, by unfold RepL; exact ⟨_, _, rfl, by unfold Rep; rfl, by unfold RepL; exact ⟨_, _, rfl, by unfold Rep; rfl, RepL.nil⟩⟩⟩
end
end DL

set_option Elab.async false
set_option linter.all false
set_option maxRecDepth 100000
namespace DL
open PySem PySem.Spec PyProof.Rows L2
/-! ### enumerate of a tuple -/
set_option maxHeartbeats 1000000 in
theorem enum_new1 {v : Value} {o : Obj} {H : Heap → Prop} (B : Begins v o H) :
    Meets (Builtin.«enumerate.__new__» ⟨[.type "enumerate", v], []⟩) (fun _ R s => H s.heap ∧
      R (.ok (.ret (.ref (s.heap.push o).objs.size))) { s with heap := (s.heap.push o).push { cls := .type "enumerate", data := .fields #[.none, .bool false, .ref s.heap.objs.size, rawInt 0, .none, .none] } }) :=
  .of_wp fun prog w A R s h => by
    obtain ⟨hp, g, d, tk, os⟩ := s; obtain ⟨h1, h⟩ := h
    have hsub := sub_enumerate
    have q1 : ∀ {A' : Around} {E : Value → Shared → Prop} {Q : Value → Shared → Prop}, Q (.ref hp.objs.size) ⟨hp.push o, g, d, tk, os⟩ → wpAny (model prog w) A' (pyIter v) Q E ⟨hp, g, d, tk, os⟩ :=
      fun q => B.iter prog w _ _ ⟨hp, g, d, tk, os⟩ _ h1 q
    wp_walk using q1
    refine wpAny_stack_any fun st => wpAny_pure ?_
    split
    · rename_i c _ _ _ _ _
      cases (c == Value.type "enumerate")
      · wp_walk using q1
        exact ⟨_, rfl, h⟩
      · wp_walk using q1
        exact ⟨_, rfl, h⟩
    · wp_walk using q1
      exact ⟨_, rfl, h⟩
theorem enum_begins1 {prog : Program} {w : World} {A : Around} {E : Value → Shared → Prop} {s : Shared} {v : Value} {o : Obj} {H : Heap → Prop} {Q : Value → Shared → Prop} (B : Begins v o H) (h1 : H s.heap)
    (h : ∀ h', IsEnum h' (s.heap.objs.size + 1) s.heap.objs.size 0 .none → h'.get? s.heap.objs.size = some o → h'.objs.size = s.heap.objs.size + 2 →
      (∀ b o, s.heap.get? b = some o → h'.get? b = some o) → Q (.ref (s.heap.objs.size + 1)) { s with heap := h' }) :
    wpAny (model prog w) A (call (.type "enumerate") [v]) Q E s := by
  refine callType_new F.called_enumerate (by decide) (F.typeCall_enumerate_1 _) (F.newCall_enumerate_1 _) (fun obj => F.args_object_init_2 obj _) F.entry_enumerate_new
    (enum_new1 B) ⟨h1, ?_⟩
  have hz : (s.heap.push o).objs.size = s.heap.objs.size + 1 := Heap.size_push ..
  show _ ∧ _
  rw [hz]
  have he : IsEnum ((s.heap.push o).push { cls := .type "enumerate", data := .fields #[.none, .bool false, .ref s.heap.objs.size, rawInt 0, .none, .none] }) (s.heap.objs.size + 1) s.heap.objs.size 0 .none := by
    have := Heap.get?_push_size (s.heap.push o) (o := { cls := .type "enumerate", data := .fields #[.none, .bool false, .ref s.heap.objs.size, rawInt 0, .none, .none] }) rfl
    rw [hz] at this; exact this
  exact ⟨⟨_, he, rfl⟩, h _ he (Heap.get?_push_of_some _ (Heap.get?_push_size _ B.free)) (by rw [Heap.size_push, hz]) fun b o x => Heap.get?_push_of_some _ (Heap.get?_push_of_some _ x)⟩

def IteT (K : PySem.W.Frag) (a : Addr) : It :=
  ⟨fun i H => ∃ (xs : List V) (x : V), SqT K H a xs ∧ xs[i]? = some x, fun i H v H' => ∃ T x, v = .ref T ∧ H T = none ∧ H' = upd H T (.tup [.int (i : Nat), x]) ∧ ∀ xs, SqT K H a xs → xs[i]? = some x, fun i H => ∃ xs : List V, SqT K H a xs ∧ xs.length = i⟩
theorem turn_enumT {P : Program} {w : World} {K : PySem.W.Frag} {elts : List Expr} {kk : Nat} {tpos : Pos} (a e it : Addr) :
    Turn P w K (.Tuple elts kk tpos) (IteT K a) [e, it] e (fun i h => (∃ old, IsEnum h e it ((i : Nat) : Int) old) ∧ h.IsTupleIter it a i ∧ e ≠ it ∧ a ≠ it ∧ e ≠ a) where
  mem := by simp
  obj := fun i h st b hb => by
    obtain ⟨⟨old, he⟩, ⟨o, ho, hc, hd⟩, _⟩ := st
    have e' : b = e ∨ b = it := by simpa using hb
    rcases e' with z | z
    · rw [z]; exact ⟨_, he, fun v q => nomatch q⟩
    · rw [z]; exact ⟨o, ho, fun v q => by rw [hd] at q; cases q⟩
  keep := fun i h h' st k => let ⟨⟨old, he⟩, hi, hne⟩ := st; ⟨⟨old, k e (by simp) _ he⟩, hi.at fun o q => k it (by simp) o q, hne⟩
  item := by
    intro X hP hw hK hc i pins s σ H E I hf st hg
    subst hP hw hK
    obtain ⟨⟨old, he⟩, hit, hne, hai, hea⟩ := st
    obtain ⟨xs, x, hq, hx⟩ := hg
    obtain ⟨its, rv, p, hz⟩ := I.tuple hq
    obtain ⟨u, hu, ru⟩ := rv.get hx
    have hel : e < s.heap.objs.size := Heap.lt_size he
    have hil : it < s.heap.objs.size := by obtain ⟨_, q, _⟩ := hit; exact Heap.lt_size q
    have hh : X.A.in1.handled = none := I.ok.hd hc
    have hl : i < its.toArray.size := by simpa using (List.getElem?_eq_some_iff.mp hu).1
    refine wpAny_pyNext_enum_itemD (Draws.tuple hh it a hai its.toArray) he ⟨hit, p⟩ hl hne (by simp [hne, hea]) fun u2 h' tk pu ho hit' hT hsz hk => ?_
    have eu : u2 = u := by
      have : its.toArray[i]? = some u2 := pu
      rw [List.getElem?_toArray, hu] at this
      exact (Option.some.inj this).symm
    subst eu
    refine ⟨_, rfl, wpAny_letOwnedTupleGo_enum (s := { s with heap := h', toks := tk + 1 }) ho fun h'' he' sb => ?_⟩
    have hT2 : h''.get? s.heap.objs.size = some { cls := .type "tuple", data := .seq #[.int i tk, u2] } := (sb.2 _ (Nat.ne_of_gt hel)).trans hT
    have new : ObjOk X.prog X.w (upd H s.heap.objs.size (.tup [.int (i : Nat), x])) h'' s.heap.objs.size (.tup [.int (i : Nat), x]) :=
      ⟨by show 2 ≤ sizeLine; decide, [.int i tk, u2], .cons ⟨_, rfl⟩ (.cons ru .nil), ⟨_, hT2, rfl, _, rfl⟩⟩
    have I1 : Inv X pins σ (upd H s.heap.objs.size (.tup [.int (i : Nat), x])) { s with heap := h'', toks := tk + 1 } :=
      I.turnedNew (ch := [e, it]) (fun b ob hb q => (sb.2 b (fun z => hb (by simp [z]))).trans (hk b ob (fun z => hb (by simp [z])) (fun z => hb (by simp [z])) q)) hf (Nat.le_refl _) new
    refine ⟨.ref s.heap.objs.size, _, I1, rfl, ⟨_, x, rfl, I.hok.fresh (Nat.le_refl _), rfl, fun ys hy => by rw [I.tuple_inj hy hq]; exact hx⟩, ⟨⟨u2, ?_⟩, hit'.1.at fun o q => (sb.2 it (Ne.symm hne)).trans q, hne, hai, hea⟩, fun b hb => ?_⟩
    · have e1 : ((i + 1 : Nat) : Int) = (i : Int) + 1 := by omega
      rw [e1]; exact he'
    · have hb' : b < s.heap.objs.size := by
        have e' : b = e ∨ b = it := by simpa using hb
        rcases e' with z | z
        · rw [z]; exact hel
        · rw [z]; exact hil
      rw [upd_ne (Nat.ne_of_lt hb')]
      exact (hf b hb).1
  done := by
    intro X hP hw hK hc i pins s σ H E I hf st hg
    subst hP hw hK
    obtain ⟨⟨old, he⟩, hit, hne, hai, hea⟩ := st
    obtain ⟨xs, hq, hx⟩ := hg
    obtain ⟨its, rv, p, hz⟩ := I.tuple hq
    obtain ⟨f0, f1, f2, f3, f4, f5⟩ := hf it (by simp)
    have hl : i = its.toArray.size := by
      have := rv.length
      simp; omega
    subst hl
    have hh : X.A.in1.handled = none := I.ok.hd hc
    exact wpAny_pyNext_enum_endD (Draws.tuple hh it a hai its.toArray) he ⟨hit, p⟩ fun h' eb => ⟨rfl, I.turned (t' := s.toks) (fun b o hb q => eb b o hb q) f0 f1 f3 f4 f5⟩
  self := fun A i s Q E st h => let ⟨⟨_, he⟩, _⟩ := st; wpAny_pyIter_enum he h
def iEnumT (K : PySem.W.Frag) (ta : TA) : TI := fun σ H R => ta σ H fun vs H1 => ∃ a xs, vs = [.ref a] ∧ SqT K H1 a xs ∧ R (IteT K a) H1
theorem pi_enumT {X : Cx} {e : Expr} {ta : TA} {p pos tpos : Pos} {elts : List Expr} {kk : Nat} (hg : Gl X "enumerate") (hm : X.mg "enumerate" = none) (ha : PA X [e] ta) (hs : starEach [e] X.env = [(false, eval e X.env)] := by rfl) :
    PI X (.Tuple elts kk tpos) (.Call (.Name "enumerate" p) [e] [] pos) (iEnumT X.K ta) := by
  refine ⟨fun pins s σ H R I h => ?_⟩
  refine Call_ (ld_blt I hg hm boot_enumerate (PyProof.Rows.callWith_type1 (thn (ha.run pos pins s σ H _ I h) fun us s1 ⟨vs, H1, I1, r1, q1⟩ => ?_) hs rfl))
  obtain ⟨a, xs, ex, hq, q⟩ := q1
  subst ex
  cases r1 with
  | cons r rr =>
    cases rr
    cases r
    obtain ⟨its, rv, p', hz⟩ := I1.tuple hq
    have hal : a < s1.heap.objs.size := by obtain ⟨_, z, _⟩ := id p'; exact Heap.lt_size z
    refine enum_begins1 (begins_tuple a its.toArray) p' fun h' he hit hsz hk => wpAny_pyIter_enum he ?_
    have I2 : Inv X pins σ H1 { s1 with heap := h' } := I1.kept (t' := s1.toks) hk
    refine ⟨s1.heap.objs.size + 1, [s1.heap.objs.size + 1, s1.heap.objs.size], _, _, H1, rfl, I2, turn_enumT a (s1.heap.objs.size + 1) s1.heap.objs.size, ⟨⟨.none, he⟩, ⟨_, hit, rfl, rfl⟩, Nat.succ_ne_self _, Nat.ne_of_lt hal, Nat.ne_of_gt (Nat.lt_succ_of_lt hal)⟩, fun b hb => ?_, q⟩
    have e' : b = s1.heap.objs.size + 1 ∨ b = s1.heap.objs.size := by simpa using hb
    have hle : s1.heap.objs.size ≤ b := by
      rcases e' with z | z
      · rw [z]; exact Nat.le_add_right _ _
      · rw [z]; exact Nat.le_refl _
    exact I1.fpOk hle (I1.hok.fresh hle)
/-- i, x of enumerate -/
def numbered (ds : List D) : List D := ds.mapIdx fun i d => D.tup [.int (i : Nat), d]
def gEnumT (ga : GA) : GI := fun δ μ R => ga δ μ fun ds μ1 => match ds with
  | [.tup xs] => R (numbered xs) μ1
  | _ => False
section
variable {X : Cx} {e : Expr} {ga : GA}
theorem di_enumT {p pos tpos : Pos} {elts : List Expr} {kk : Nat} (hg : Gl X "enumerate") (hm : X.mg "enumerate" = none) (h : DA X [e] ga) (hs : starEach [e] X.env = [(false, eval e X.env)] := by rfl) :
    DI X (.Tuple elts kk tpos) (.Call (.Name "enumerate" p) [e] [] pos) (gEnumT ga) := by
  obtain ⟨t, a1, a2⟩ := h.ex
  refine ⟨_, pi_enumT hg hm a1 hs, fun σ H δ μ Q R rm rs q f => ?_⟩
  refine a2 σ H δ μ _ _ rm rs q fun vs ds H1 μ1 k1 rm1 r1 q1 => ?_
  match ds, q1, r1 with
  | [.tup xs], q1, r1 =>
    obtain ⟨v, rfl, r2⟩ := repL1 r1
    unfold Rep at r2
    obtain ⟨a, ys, rfl, im, rl⟩ := r2
    have hl : (numbered xs).length = ys.length := by rw [rl.length]; simp [numbered]
    refine ⟨a, ys, rfl, im.sq, f _ (numbered xs) H1 μ1 k1 rm1 ?_ q1⟩
    refine ⟨fun i H' hi ⟨μ', k, _⟩ => ?_, fun H' ⟨μ', k, _⟩ => ⟨ys, (im.mono k).sq, hl.symm⟩, fun i H' v H2 hi _ y => ?_⟩
    · have h1 : i < ys.length := by rw [← hl]; exact hi
      exact ⟨ys, ys[i], (im.mono k).sq, by simp [h1]⟩
    · intro μ' k rm
      obtain ⟨T, x, rfl, nT, rfl, e4⟩ := y
      have ex := e4 ys (im.mono k).sq
      obtain ⟨d, e3, r3⟩ := (rl.mono k).atV ex
      have nm : μ' T = none := rm.free nT
      have k2 : Kp H' μ' (upd H' T (.tup [.int (i : Nat), x])) μ' := Kp.new nT
      refine ⟨.tup [.int (i : Nat), d], ?_, ?_, k2, rm.laid nT⟩
      · unfold numbered
        rw [List.getElem?_mapIdx, e3]
        rfl
      · unfold Rep
        exact ⟨T, _, rfl, .inl ⟨upd_same, nm⟩, by unfold RepL; exact ⟨_, _, rfl, by unfold Rep; rfl, by unfold RepL; exact ⟨_, _, rfl, r3.mono k2, RepL.nil⟩⟩⟩
end
end DL

set_option Elab.async false
set_option linter.all false
set_option maxRecDepth 100000
namespace DL
open PySem PySem.Spec PyProof.Rows L2
/-! ### sorted of a text -/
theorem strsAre_signs (x : Str) (acc : Array Value) (h : ItemsOf (SignAt x) acc x.cps.size) : StrsAre acc.toList (x.cps.toList.map fun c => (⟨#[c]⟩ : Str)) := by
  have v := signs_vals x acc h
  have key : ∀ (l : List Nat) (us : List Value), Vals (l.map fun c => V.str ⟨#[c]⟩) us → StrsAre us (l.map fun c => (⟨#[c]⟩ : Str)) := by
    intro l
    induction l with
    | nil => intro us v; cases v; exact .nil
    | cons c l ih =>
      intro us v
      cases v with
      | cons r rr =>
        obtain ⟨t, rfl⟩ := r
        exact .cons _ t (ih _ rr)
  exact key _ _ v
theorem sorted_text {prog : Program} {w : World} {A : Around} {E : Value → Shared → Prop} {s : Shared} {x : Str} {t : Tok} {Q : Value → Shared → Prop} (hh : A.handled = none) (hz : x.cps.size ≤ sizeLine)
    (h : ∀ (h1 h2 : Heap) (tk : Nat) (out : Array Value) (n : Nat) (ss' : List Str), (∀ b o, s.heap.get? b = some o → h1.get? b = some o) → (∀ b o, h1.get? b = some o → h2.get? b = some o) → h2.get? h1.objs.size = some (seqObj "list" out n) →
      StrsAre out.toList ss' → ss'.Perm (x.cps.toList.map fun c => (⟨#[c]⟩ : Str)) → sortedS ss' = true → Q (.ref h1.objs.size) { s with heap := h2, toks := tk }) :
    wpAny (model prog w) A (call (.builtin "sorted") [.str x t]) Q E s := by
  refine Calls.call_function_entry kind_sorted plain_sorted entry_sorted (args_sorted1 _) ?_
  unfold Builtin.«sorted»
  refine wpAny_bind (m := checkCount "sorted" 1 1 _) (wpAny_pure ?_)
  refine wpAny_bind (wpAny_collect_str (show A.in1.handled = none from hh) x t (fun s' acc k g d o hi => ?_) hz)
  have es : s' = { s with heap := s'.heap, toks := s'.toks } := by
    cases s'
    cases s
    cases g
    cases d
    cases o
    rfl
  generalize s'.heap = h1 at *
  generalize s'.toks = tk at *
  subst es
  have hS := strsAre_signs x acc hi
  have hl : acc.toList.length ≤ sizeLine := by rw [Array.length_toList, hi.1]; exact hz
  refine wpAny_bind (wpAny_newList ?_)
  have hoL : (h1.push (seqObj "list" acc.toList.toArray 0)).get? h1.objs.size = some (seqObj "list" acc.toList.toArray 0) := Heap.get?_push_size _ rfl
  refine wpAny_bind (wpAny_holding (wpAny_call_entry slot_list_sort ⟨_, hoL, rfl⟩ entry_list_sort (list_sort_treeKAny strKind_oneLt hoL hS.keysOf (fun v₁ v₂ rest e => keyKind_strs (by rw [← e]; exact hS)) hl fun st' hp hs => ⟨_, rfl, ?_⟩) (args_list_sort _)))
  obtain ⟨ss', q1, q2, q3⟩ := sorted_out_str hS hp hs
  obtain ⟨n, hn⟩ := sortedHeap_at (vs := acc.toList) (out := (arrOf st').map (·.2)) hoL
  refine wpAny_pure ⟨_, rfl, h h1 _ tk _ n ss' k (fun b ob e => ?_) hn q1 q2 q3⟩
  have hb := Heap.lt_size e
  rw [sortedHeap_old (Nat.ne_of_lt hb) (by rw [Heap.size_push]; exact Nat.lt_succ_of_lt hb)]
  exact Heap.get?_push_of_some _ e
def rSortedT : List V → Hp → VK → Prop := fun vs H Q => ∃ x : Str, vs = [V.str x] ∧ x.cps.size ≤ sizeLine ∧
  ∀ (ys : List Str) (p : Addr), ys.Perm (x.cps.toList.map fun c => (⟨#[c]⟩ : Str)) → sortedS ys = true → H p = none → Q (.ref p) (upd H p (.lst (ys.map V.str)))
theorem cr_sortedT {X : Cx} (hc : X.calm = true) : CallR X (.builtin "sorted") rSortedT := by
  intro pins s σ H vs us Q I r h
  obtain ⟨x, rfl, hz, q⟩ := h
  obtain ⟨u, rfl, t, rfl⟩ := vals1 r
  refine sorted_text (I.ok.hd hc) hz fun h1 h2 tk out n ss' k1 k2 ho hS hp hs => ?_
  have I1 : Inv X pins σ H { s with heap := h1, toks := tk } := I.kept (t' := tk) k1
  have hlen : (ss'.map V.str).length ≤ sizeLine := by rw [List.length_map, hp.length_eq, List.length_map, Array.length_toList]; exact hz
  exact ⟨.ref _, upd H h1.objs.size (.lst (ss'.map V.str)), I1.laid (t' := tk) k2 (Nat.le_refl _) ⟨hlen, out.toList, n, vals_of_strs hS, ho⟩, rfl, q ss' _ hp hs (I1.hok.fresh (Nat.le_refl _))⟩
def gSortedT1 : G1 := fun x μ R => match x with
  | .str z => z.cps.size ≤ sizeLine ∧ ∀ ys : List Str, ys.Perm (z.cps.toList.map fun c => (⟨#[c]⟩ : Str)) → sortedS ys = true → R (.lst (List.map D.str ys)) μ
  | _ => False
theorem sim_sortedT {K : PySem.W.Frag} : SimC K rSortedT (g1 gSortedT1) := sim_g1 fun v d H μ Q R rm rv q f => by
  cases d <;> try exact False.elim q
  exact ⟨_, by rw [rep_str rv], q.1, fun ys p hp hs n => fw_lst rm n (RepL.of_strs ys) (q.2 ys hp hs) f⟩
end DL

set_option Elab.async false
set_option linter.all false
set_option maxRecDepth 100000
namespace DL
open PySem PySem.Spec PyProof.Rows L2
/-! ### the order of lists of ints -/
def ltI : List Int → List Int → Bool
  | [], [] => false
  | [], _ :: _ => true
  | _ :: _, [] => false
  | x :: xs, y :: ys => if x = y then ltI xs ys else decide (x < y)
theorem ltI_asym : ∀ a b, ltI a b = true → ltI b a = false
  | [], [], h => by cases h
  | [], _ :: _, _ => rfl
  | _ :: _, [], h => by cases h
  | x :: xs, y :: ys, h => by
    unfold ltI at h ⊢
    by_cases e : x = y
    · rw [if_pos e] at h
      rw [if_pos e.symm]
      exact ltI_asym xs ys h
    · rw [if_neg e] at h
      rw [if_neg (Ne.symm e)]
      have := of_decide_eq_true h
      exact decide_eq_false (by omega)
theorem ltI_tr : ∀ x y z, ltI y x = false → ltI z y = false → ltI z x = false
  | [], [], z, _, h => h
  | [], _ :: _, [], _, h => by cases h
  | [], _ :: _, _ :: _, _, _ => rfl
  | _ :: _, [], _, h, _ => by cases h
  | _ :: _, _ :: _, [], _, h => by cases h
  | x :: xs, y :: ys, z :: zs, h1, h2 => by
    unfold ltI at h1 h2 ⊢
    by_cases e1 : y = x
    · rw [if_pos e1] at h1
      by_cases e2 : z = y
      · rw [if_pos e2] at h2
        rw [if_pos (e2.trans e1)]
        exact ltI_tr xs ys zs h1 h2
      · rw [if_neg e2] at h2
        have h3 := of_decide_eq_false h2
        rw [if_neg (by omega)]
        exact decide_eq_false (by omega)
    · rw [if_neg e1] at h1
      have h3 := of_decide_eq_false h1
      by_cases e2 : z = y
      · rw [if_neg (by omega)]
        exact decide_eq_false (by omega)
      · rw [if_neg e2] at h2
        have h4 := of_decide_eq_false h2
        rw [if_neg (by omega)]
        exact decide_eq_false (by omega)
theorem ltI_anti : ∀ a b, ltI a b = false → ltI b a = false → a = b
  | [], [], _, _ => rfl
  | [], _ :: _, h, _ => by cases h
  | _ :: _, [], _, h => by cases h
  | x :: xs, y :: ys, h1, h2 => by
    unfold ltI at h1 h2
    by_cases e : x = y
    · rw [if_pos e] at h1
      rw [if_pos e.symm] at h2
      rw [e, ltI_anti xs ys h1 h2]
    · rw [if_neg e] at h1
      rw [if_neg (Ne.symm e)] at h2
      have h3 := of_decide_eq_false h1
      have h4 := of_decide_eq_false h2
      omega
theorem swo_ltI (k : Value → List Int) : SrtO.Swo fun v u => ltI (k v) (k u) := ⟨fun x y => ltI_asym (k x) (k y), fun x y z => ltI_tr (k x) (k y) (k z)⟩

section
variable {prog : Program} {w : World} {A : Around} {E : Value → Shared → Prop} {s : Shared}
theorem kat_ints {Q : Bool → Shared → Prop} {fin : Bool} : ∀ {us vs : List Value} {ns ms : List Int} (i : Nat), IntsAre us ns → IntsAre vs ms → fin = decide (ns.length < ms.length) → Q (ltI ns ms) s → PySem.W.KatLex prog w A true fin Q (us.zip vs) i s := by
  intro us
  induction us with
  | nil =>
    intro vs ns ms i h1 h2 hf hq
    cases h1
    subst hf
    cases h2 with
    | nil => exact PySem.W.kat_nil hq
    | cons y t r => exact PySem.W.kat_nil hq
  | cons u us ih =>
    intro vs ns ms i h1 h2 hf hq
    cases h1 with
    | cons x t r1 =>
      cases h2 with
      | nil =>
        subst hf
        exact PySem.W.kat_nil hq
      | cons y t2 r2 =>
        rename_i ns' vs' ms'
        refine PySem.W.kat_cons (SeqAt.EqAt.int_int x t y t2 prog w _ _ ?_)
        refine PySem.W.kat_go (fun e1 => ?_) (fun e1 => ?_)
        · have e : x = y := by simpa using e1
          refine PySem.W.kat_yes (ih (i + 1) r1 r2 ?_ ?_)
          · subst hf
            simp
          · have e3 : ltI (x :: ns') (y :: ms') = ltI ns' ms' := if_pos e
            rw [← e3]
            exact hq
        · have e : ¬ x = y := by simpa using e1
          have e3 : ltI (x :: ns') (y :: ms') = decide (x < y) := if_neg e
          refine PySem.W.kat_no (TS.oneLt_ints _ ?_)
          rw [← e3]
          exact hq
theorem lexAt_shift {e r : Nat → Bool} {z : Bool} : ∀ (k i : Nat), Ob.lexAt (fun j => e (j + 1)) (fun j => r (j + 1)) z i k = Ob.lexAt e r z (i + 1) k
  | 0, i => rfl
  | k + 1, i => by
    unfold Ob.lexAt
    rw [lexAt_shift k (i + 1)]
theorem lexAt_ltI : ∀ ns ms : List Int, Ob.lexAt (fun j => decide (ns.getD j 0 = ms.getD j 0)) (fun j => decide (ns.getD j 0 < ms.getD j 0)) (decide (ns.length < ms.length)) 0 (min ns.length ms.length) = ltI ns ms
  | [], [] => rfl
  | [], _ :: _ => by
    show decide (0 < _ + 1) = true
    exact decide_eq_true (Nat.succ_pos _)
  | x :: xs, [] => by
    rw [show min (x :: xs).length ([] : List Int).length = 0 by simp]
    rfl
  | x :: xs, y :: ys => by
    have hm : min (x :: xs).length (y :: ys).length = min xs.length ys.length + 1 := by
      simp only [List.length_cons]
      omega
    have hl : decide ((x :: xs).length < (y :: ys).length) = decide (xs.length < ys.length) := by simp
    rw [hm, hl, Ob.lexAt_succ]
    rw [← lexAt_shift]
    have ih := lexAt_ltI xs ys
    show (if decide (x = y) = true then Ob.lexAt (fun j => decide (xs.getD j 0 = ys.getD j 0)) (fun j => decide (xs.getD j 0 < ys.getD j 0)) _ 0 _ else decide (x < y)) = _
    rw [ih]
    unfold ltI
    by_cases e : x = y
    · rw [if_pos (decide_eq_true e), if_pos e]
      conv => rhs; unfold ltI
    · rw [if_neg (by simp [e]), if_neg e]
/-- tuples of ints of one type: as their lists of ints -/
theorem one_ints {Q : Bool → Shared → Prop} {l b : Addr} {us vs : Array Value} {ns ms : List Int} (hl : s.heap.IsTuple l us) (hb : s.heap.IsTuple b vs) (i1 : IntsAre us.toList ns) (i2 : IntsAre vs.toList ms) (hu : A.units < cLine) (h : Q (ltI ns ms) s) :
    wpAny (model prog w) A (oneLt' true (.ref l) (.ref b)) Q E s := by
  rw [oneLt'_eq]
  simp only [if_true]
  refine wpAny_bind (wpAny_cRoomFor hu ?_)
  have e1 : us.size = ns.length := by rw [← i1.length, Array.length_toList]
  have e2 : vs.size = ms.length := by rw [← i2.length, Array.length_toList]
  have at1 : ∀ j (h1 : j < us.size), ∃ t, us[j] = .int (ns.getD j 0) t := fun j h1 => PyProof.Rows.IntsAre.int_at i1 _ _ (by simp [h1])
  have at2 : ∀ j (h1 : j < vs.size), ∃ t, vs[j] = .int (ms.getD j 0) t := fun j h1 => PyProof.Rows.IntsAre.int_at i2 _ _ (by simp [h1])
  have he : ∀ j (h1 : j < us.size) (h2 : j < vs.size), SeqAt.EqAt A.in1 s us[j] vs[j] ((fun j => decide (ns.getD j 0 = ms.getD j 0)) j) := fun j h1 h2 => by
    obtain ⟨t, et⟩ := at1 j h1
    obtain ⟨t', et'⟩ := at2 j h2
    rw [et, et']
    have z : (ns.getD j 0 == ms.getD j 0) = decide (ns.getD j 0 = ms.getD j 0) := by
      by_cases q : ns.getD j 0 = ms.getD j 0
      · rw [decide_eq_true q]; exact beq_iff_eq.mpr q
      · rw [decide_eq_false q]; exact beq_eq_false_iff_ne.mpr q
    show SeqAt.EqAt _ _ _ _ (decide (ns.getD j 0 = ms.getD j 0))
    rw [← z]
    exact SeqAt.EqAt.int_int _ _ _ _
  have hr : ∀ j (h1 : j < us.size) (h2 : j < vs.size), (fun j => decide (ns.getD j 0 = ms.getD j 0)) j = false → Ob.RcOp .Lt A.in1 s us[j] vs[j] ((fun j => decide (ns.getD j 0 < ms.getD j 0)) j) := fun j h1 h2 _ => by
    obtain ⟨t, et⟩ := at1 j h1
    obtain ⟨t', et'⟩ := at2 j h2
    rw [et, et']
    exact Ob.RcOp.lt_int _ _ _ _
  obtain ⟨⟨cls, dd, data, sl⟩, ho, hc, n, hd⟩ := id hl
  obtain ⟨⟨cls2, dd2, data2, sl2⟩, ho2, hc2, n2, hd2⟩ := id hb
  simp only at hc hd hc2 hd2
  subst hc hd hc2 hd2
  refine wpAny_bind (wpAny_callSpecialIfBound?_slot (name := Str.ofString "__lt__") ⟨_, ho, rfl⟩ F.slot_tuple_lt (call_meets F.slot_tuple_lt ⟨_, ho, rfl⟩ F.entry_tuple_lt (F.args_tuple_lt_2 _ _)
    (Ob.tuple_ltAt l b us vs n n2 dd dd2 sl sl2 _ _) ⟨ho, ho2, he, hr, ?_⟩))
  have lx := lexAt_ltI ns ms
  rw [← e1, ← e2] at lx
  rw [lx]
  exact wpAny_truthy_bool h
/-- the i-th is a tuple of the i-th ints -/
def TupsI (h : Heap) : List Value → List (List Int) → Prop
  | [], [] => True
  | v :: vs, ns :: r => TS.TupInts h v ns ∧ TupsI h vs r
  | _, _ => False
theorem firsts_any : ∀ (vs : List Value) (nss : List (List Int)) {Q : List (Option Value) → Shared → Prop}, TupsI s.heap vs nss → (∀ fs : List (Option Value), fs.map (·.isSome) = nss.map (fun ns => !ns.isEmpty) → Q fs s) → wpAny (model prog w) A (vs.mapM firstOfTuple') Q E s
  | [], [], _, _, h => by rw [List.mapM_nil]; exact wpAny_pure (h [] rfl)
  | [], _ :: _, _, t, _ => t.elim
  | _ :: _, [], _, t, _ => t.elim
  | v :: vs, ns :: nss, Q, t, h => by
    obtain ⟨⟨a, xs, rfl, hT, hi⟩, t⟩ := t
    obtain ⟨o, ho, hc, n, hd⟩ := hT
    rw [List.mapM_cons]
    refine wpAny_bind ?_
    rw [PySem.W.kas_first_eq]
    have hc' : o.cls = .type "tuple" := hc
    refine wpAny_bind (PySem.W.Looks.here (show PySem.W.Looks (model prog w) s.heap (typeOf (.ref a)) o.cls from (PySem.W.Looks.ld ho).andThen .now) ?_)
    rw [hc', if_neg (by first | decide | simp)]
    refine wpAny_bind (listItems_at ho hd (wpAny_pure ?_))
    refine wpAny_bind (firsts_any vs nss (Q := fun bs s' => wpAny (model prog w) A (pure (xs[0]? :: bs)) Q E s') t fun fs hf => wpAny_pure (h _ ?_))
    rw [List.map_cons, List.map_cons, hf]
    congr 1
    rw [← Array.getElem?_toList]
    generalize xs.toList = l at hi ⊢
    cases hi with
    | nil => rfl
    | cons x t r => rfl
theorem firsts_ints {h : Heap} : ∀ {vs : List Value} {nss : List (List Int)}, TupsI h vs nss → (∀ ns ∈ nss, ns ≠ []) → ∃ fs, PySem.W.KatTups h vs fs ∧ fs.length = vs.length ∧ ∀ f ∈ fs, ∃ x t, f = .int x t
  | [], [], _, _ => ⟨[], PySem.W.KatTups.nil, rfl, fun f hf => by cases hf⟩
  | v :: vs, ns :: nss, t, hn => by
    obtain ⟨⟨a, xs, rfl, hT, hi⟩, t⟩ := t
    obtain ⟨fs, h1, h2, h3⟩ := firsts_ints t fun m hm => hn m (List.mem_cons_of_mem _ hm)
    obtain ⟨o, ho, hc, n, hd⟩ := hT
    have hne := hn ns List.mem_cons_self
    have e : ∃ x t, xs.toList[0]? = some (.int x t) := by
      generalize xs.toList = l at hi ⊢
      cases hi with
      | nil => exact absurd rfl hne
      | cons x t r => exact ⟨x, t, rfl⟩
    obtain ⟨x, t, e⟩ := e
    refine ⟨.int x t :: fs, PySem.W.KatTups.cons ho hc hd (by rw [← Array.getElem?_toList]; exact e) h1, by rw [List.length_cons, List.length_cons, h2], fun f hf => ?_⟩
    rcases List.mem_cons.mp hf with e | hf
    · exact ⟨x, t, e⟩
    · exact h3 f hf
theorem TupsI.all {h : Heap} : ∀ {vs : List Value} {nss : List (List Int)}, TupsI h vs nss → ∀ v ∈ vs, ∃ ns ∈ nss, TS.TupInts h v ns
  | [], [], _, v, hv => by cases hv
  | v :: vs, ns :: nss, t, u, hu => by
    rcases List.mem_cons.mp hu with rfl | hu
    · exact ⟨ns, List.mem_cons_self, t.1⟩
    · obtain ⟨ms, h1, h2⟩ := TupsI.all t.2 u hu
      exact ⟨ms, List.mem_cons_of_mem _ h1, h2⟩
theorem TupsI.length {h : Heap} : ∀ {vs : List Value} {nss : List (List Int)}, TupsI h vs nss → vs.length = nss.length
  | [], [], _ => rfl
  | v :: vs, ns :: nss, t => by rw [List.length_cons, List.length_cons, TupsI.length t.2]
theorem kind_tups {vs : List Value} {nss : List (List Int)} {Q : SortKind → Shared → Prop} (t : TupsI s.heap vs nss) (h : (∀ ns ∈ nss, ns ≠ []) ∨ nss.head? = some []) (hne : 0 < vs.length)
    (h1 : (∀ ns ∈ nss, ns ≠ []) → Q (tuples' true) s) (h2 : nss.head? = some [] → Q oneType' s) : wpAny (model prog w) A (keyKind' vs.toArray) Q E s := by
  rcases h with h | h
  · obtain ⟨fs, q1, q2, q3⟩ := firsts_ints t h
    refine PySem.W.kat_kind (T := .type "int") q1 (by omega) (fun f hm => ?_) (by rfl) ?_
    · obtain ⟨x, t, rfl⟩ := q3 f hm
      exact PySem.W.Looks.now
    · have e : (Value.type "int" != Value.type "tuple") = true := by first | decide +kernel | rfl | decide
      rw [e]
      exact h1 h
  · rw [kat_kind_eq, List.mapM_toArray, map_eq_pure_bind]
    refine wpAny_bind (wpAny_bind (firsts_any vs nss t fun fs hf => wpAny_pure ?_))
    match nss, h, t with
    | [] :: nss, h, t =>
      match fs, hf with
      | f :: fs, hf =>
        rw [List.map_cons, List.map_cons] at hf
        injection hf with hf0 hf
        have hf0' : f = none := by
          cases f with
          | none => rfl
          | some u => cases hf0
        subst hf0'
        rw [if_neg (by simp), if_neg (by simp)]
        rw [oneTypeOnly'_eq, List.mapM_toArray, map_eq_pure_bind]
        refine wpAny_bind (wpAny_bind (wpAny_bind (PySem.W.kas_mapM (r := .type "tuple") _ (fun v hv Q' hq => ?_) (wpAny_pure ?_))))
        · obtain ⟨ns, _, a, xs, rfl, ⟨o, ho, hc, n, hd⟩, hi⟩ := TupsI.all t v hv
          have hc' : o.cls = .type "tuple" := hc
          refine PySem.W.Looks.here (show PySem.W.Looks (model prog w) s.heap (typeOf (.ref a)) o.cls from (PySem.W.Looks.ld ho).andThen .now) ?_
          rw [hc']
          exact hq
        · match vs, hne with
          | v :: vs, hne =>
            have hall : ((List.map (fun _ => Value.type "tuple") (v :: vs)).toArray.all fun x => x == Value.type "tuple") = true := by
              simp only [List.all_toArray, List.all_map, List.all_eq_true]
              intro _ _
              rfl
            have h0 : (List.map (fun _ => Value.type "tuple") (v :: vs)).toArray[0]? = some (Value.type "tuple") := by simp
            rw [h0]
            simp only [hall, if_true]
            exact wpAny_pure (wpAny_pure (h2 rfl))
theorem cmp_tups1 {vs : List Value} {k : Value → List Int} (hp : ∀ v ∈ vs, TS.TupInts s.heap v (k v)) : SrtO.Cmp prog w A s (tuples' true) (fun p => p.1 ∈ vs) (SrtO.lt2 fun v u => ltI (k v) (k u)) := by
  intro p q hm hm'
  have h1 := hp _ hm
  have h2 := hp _ hm'
  show wpAny (model prog w) A (keyLt' (tuples' true) p.1 q.1) (fun r s' => s' = s ∧ r = ltI (k p.1) (k q.1)) (fun _ _ => False) s
  generalize k p.1 = ns at h1 ⊢
  generalize k q.1 = ms at h2 ⊢
  obtain ⟨a, xs, e, ⟨o, ho, hc, n, hd⟩, hi⟩ := h1
  obtain ⟨a', xs', e', ⟨o', ho', hc', n', hd'⟩, hi'⟩ := h2
  rw [e, e']
  refine PySem.W.kat_lt ho hd ho' hd' ?_
  refine kat_ints 0 hi hi' ?_ ⟨rfl, rfl⟩
  rw [← hi.length, ← hi'.length, Array.length_toList, Array.length_toList]
theorem cmp_tups2 {vs : List Value} {k : Value → List Int} (hu : A.units < cLine) (hp : ∀ v ∈ vs, TS.TupInts s.heap v (k v)) : SrtO.Cmp prog w A s oneType' (fun p => p.1 ∈ vs) (SrtO.lt2 fun v u => ltI (k v) (k u)) := by
  intro p q hm hm'
  have h1 := hp _ hm
  have h2 := hp _ hm'
  show wpAny (model prog w) A (keyLt' oneType' p.1 q.1) (fun r s' => s' = s ∧ r = ltI (k p.1) (k q.1)) (fun _ _ => False) s
  generalize k p.1 = ns at h1 ⊢
  generalize k q.1 = ms at h2 ⊢
  obtain ⟨a, xs, e, hT, hi⟩ := h1
  obtain ⟨a', xs', e', hT', hi'⟩ := h2
  rw [e, e', keyLt'_oneType]
  exact one_ints hT hT' hi hi' hu ⟨rfl, rfl⟩
theorem tup_keeps {h h' : Heap} {v : Value} {ns : List Int} (k : ∀ b o, h.get? b = some o → o.cls = .type "tuple" → h'.get? b = some o) (t : TS.TupInts h v ns) : TS.TupInts h' v ns := by
  obtain ⟨a, xs, e, ⟨o, ho, hc, n, hd⟩, hi⟩ := t
  exact ⟨a, xs, e, ⟨o, k a o ho hc, hc, n, hd⟩, hi⟩
theorem tups_keeps {h h' : Heap} (k : ∀ b o, h.get? b = some o → o.cls = .type "tuple" → h'.get? b = some o) : ∀ {vs : List Value} {nss : List (List Int)}, TupsI h vs nss → TupsI h' vs nss
  | [], [], _ => True.intro
  | v :: vs, ns :: nss, t => ⟨tup_keeps k t.1, tups_keeps k t.2⟩
theorem sorted_tups {l : Addr} {vs : List Value} {nss : List (List Int)} {k : Value → List Int} {Q : Value → Shared → Prop} (hu : A.units + 64 < cLine) (hl : s.heap.IsList l vs.toArray) (hz : vs.length ≤ sizeLine) (t : TupsI s.heap vs nss) (hp : ∀ v ∈ vs, TS.TupInts s.heap v (k v))
    (hd : (∀ ns ∈ nss, ns ≠ []) ∨ nss.head? = some [])
    (h : ∀ out : List Value, SrtO.Srtd (fun v u => ltI (k v) (k u)) out → SrtO.Stb (fun v u => ltI (k v) (k u)) out vs → Q (.ref (s.heap.objs.size + 1)) { s with heap := sortedAll s.heap vs out.toArray }) :
    wpAny (model prog w) A (call (.builtin "sorted") [.ref l]) Q E s := by
  refine SrtO.sorted_ord (swo_ltI k) hl hz (fun h2 h₁ a ha kk => ?_) h
  intro h' keep
  have kp : ∀ b o, s.heap.get? b = some o → o.cls = .type "tuple" → h'.get? b = some o := fun b o e c => keep b o (kk b o e).1 (kk b o e).2
  have t' : TupsI h' vs nss := tups_keeps kp t
  have hp' : ∀ v ∈ vs, TS.TupInts h' v (k v) := fun v hv => tup_keeps kp (hp v hv)
  by_cases hc : nss.head? = some []
  · refine ⟨oneType', fun Q E hq => kind_tups (s := { s with heap := h' }) t' (.inr hc) (by omega) (fun hh => ?_) (fun _ => hq), cmp_tups2 (s := { s with heap := h' }) (show A.units + 1 + 1 < cLine by omega) hp'⟩
    match nss, hc, hh with
    | ns :: nss, hc, hh =>
      have e : ns = [] := by simpa using hc
      exact absurd e (hh ns List.mem_cons_self)
  · exact ⟨tuples' true, fun Q E hq => kind_tups (s := { s with heap := h' }) t' (.inl (hd.resolve_right hc)) (by omega) (fun _ => hq) (fun hh => absurd hh hc), cmp_tups1 (s := { s with heap := h' }) hp'⟩
end
end DL

set_option Elab.async false
set_option linter.all false
set_option maxRecDepth 100000
namespace DL
open PySem PySem.Spec PyProof.Rows L2
/-! ### sorted of tuples of ints -/
theorem ints_same : ∀ {us : List Value} {ns ms : List Int}, IntsAre us ns → IntsAre us ms → ns = ms
  | _, _, _, .nil, .nil => rfl
  | _, _, _, .cons x t r, h => by
    cases h with
    | cons y t r' => rw [ints_same r r']
theorem tup_same {h : Heap} {v : Value} {ns ms : List Int} (a : TS.TupInts h v ns) (b : TS.TupInts h v ms) : ns = ms := by
  obtain ⟨t, xs, rfl, ⟨o, ho, hc, n, hd⟩, hi⟩ := a
  obtain ⟨t', xs', e, ⟨o', ho', hc', n', hd'⟩, hi'⟩ := b
  cases e
  rw [ho] at ho'
  cases ho'
  rw [hd] at hd'
  cases hd'
  exact ints_same hi hi'
open Classical in
noncomputable def keyT (h : Heap) (v : Value) : List Int := if q : ∃ ns, TS.TupInts h v ns then q.choose else []
theorem keyT_is {h : Heap} {v : Value} {ns : List Int} (t : TS.TupInts h v ns) : keyT h v = ns := by
  have q : ∃ ns, TS.TupInts h v ns := ⟨ns, t⟩
  unfold keyT
  rw [dif_pos q]
  exact tup_same q.choose_spec t
def TupIs (K : PySem.W.Frag) (H : Hp) : List V → List (List Int) → Prop
  | [], [] => True
  | x :: xs, ns :: r => TupI K H x ns ∧ TupIs K H xs r
  | _, _ => False
theorem TupIs.has {K : PySem.W.Frag} {H : Hp} : ∀ {xs : List V} {nss : List (List Int)}, TupIs K H xs nss → ∀ x ∈ xs, ∃ ns, TupI K H x ns
  | [], [], _, x, hx => by cases hx
  | y :: xs, ns :: r, t, x, hx => by
    rcases List.mem_cons.mp hx with rfl | hx
    · exact ⟨ns, t.1⟩
    · exact TupIs.has t.2 x hx
section
variable {X : Cx} {pins : List (Addr × Obj)} {σ : L2.St} {H : Hp} {s : Shared}
theorem tupsI_of (I : Inv X pins σ H s) : ∀ {us : List Value} {nss : List (List Int)}, (∀ u ∈ us, ∃ a, u = Value.ref a) → TupIs X.K H (us.map bkV) nss → TupsI s.heap us nss
  | [], [], _, _ => True.intro
  | u :: us, ns :: r, h, t => by
    obtain ⟨a, rfl⟩ := h u List.mem_cons_self
    obtain ⟨⟨t', e, ht⟩, t2⟩ := t
    have e' : V.ref a = V.ref t' := e
    cases e'
    exact ⟨tupI_raw I ht, tupsI_of I (fun v hv => h v (List.mem_cons_of_mem _ hv)) t2⟩
  | [], _ :: _, _, t => t.elim
  | _ :: _, [], _, t => t.elim
def rSortI (K : PySem.W.Frag) : List V → Hp → VK → Prop := fun vs H Q => ∃ (a : Addr) (xs : List V) (nss : List (List Int)), vs = [V.ref a] ∧ SqL K H a xs ∧ TupIs K H xs nss ∧ ((∀ ns ∈ nss, ns ≠ []) ∨ nss.head? = some []) ∧
  ∀ (ys : List V) (p : Addr), ys.Perm xs → ys.Pairwise (fun x y => ∀ n m, TupI K H x n → TupI K H y m → ltI m n = false) → H p = none → Q (.ref p) (upd H p (.lst ys))
theorem cr_sortI (hu : X.A.units + 64 < cLine) : CallR X (.builtin "sorted") (rSortI X.K) := by
  intro pins s σ H vs us Q I r h
  obtain ⟨a, xs, nss, rfl, hs, ht, hd, q⟩ := h
  obtain ⟨its, rv, hl, hz⟩ := I.list hs
  rw [Vals.ref1 r]
  obtain ⟨e1, e2⟩ := bkV_refs rv fun x m => by
    obtain ⟨ns, t, e, _⟩ := ht.has x m
    exact ⟨t, e⟩
  have t := tupsI_of I e2 (e1 ▸ ht)
  have hp : ∀ v ∈ its, TS.TupInts s.heap v (keyT s.heap v) := fun v hv => by
    obtain ⟨ns, _, h⟩ := TupsI.all t v hv
    rw [keyT_is h]
    exact h
  refine sorted_tups hu hl.isList (by rw [← rv.length]; exact hz) t hp hd fun out h1 h2 => ?_
  obtain ⟨ep, he'⟩ := PyProof.Rows.sortedAll_at s.heap its out.toArray
  have hpm : out.Perm its := h2.perm
  have h3 : ∀ u ∈ out, ∃ a, u = Value.ref a := fun u hu => e2 u (hpm.mem_iff.mp hu)
  have hp2 : (out.map bkV).Perm xs := by
    rw [e1]
    exact hpm.map bkV
  have hlen : (out.map bkV).length ≤ sizeLine := by
    rw [hp2.length_eq]
    exact hz
  refine ⟨.ref _, upd H (s.heap.objs.size + 1) (.lst (out.map bkV)), I.laid (t' := s.toks) (fun _ _ => PyProof.Rows.sortedAll_old) (Nat.le_succ _) ⟨hlen, out, ep, bkV_vals h3, he'⟩, rfl, q _ _ hp2 ?_ (I.hok.fresh (Nat.le_succ _))⟩
  rw [List.pairwise_map]
  refine List.Pairwise.imp (fun {u v} huv n m hn hm => ?_) h1
  obtain ⟨t, et, ht⟩ := hn
  obtain ⟨t', et', ht'⟩ := hm
  have eu := bkV_ref et
  have ev := bkV_ref et'
  subst eu ev
  have huv : ltI (keyT s.heap (Value.ref t')) (keyT s.heap (Value.ref t)) = false := huv
  rw [keyT_is (tupI_raw I ht), keyT_is (tupI_raw I ht')] at huv
  exact huv
end
/-- a tuple of ints -/
def dI (ns : List Int) : D := .tup (ns.map D.int)
section
variable {K : PySem.W.Frag} {H : Hp} {μ : Mu}
theorem tupI_rep {ns : List Int} {v : V} (h : Rep K H μ (dI ns) v) : TupI K H v ns := by
  unfold dI at h
  unfold Rep at h
  obtain ⟨a, vs, rfl, im, rl⟩ := h
  have e := rl.ints
  exact ⟨a, rfl, e ▸ im.sq⟩
theorem tupIs_rep : ∀ {nss : List (List Int)} {vs : List V}, RepL K H μ (nss.map dI) vs → TupIs K H vs nss
  | [], vs, h => by
    unfold RepL at h
    subst h
    exact True.intro
  | ns :: r, vs, h => by
    rw [List.map_cons] at h
    unfold RepL at h
    obtain ⟨v, w, rfl, h1, h2⟩ := h
    exact ⟨tupI_rep h1, tupIs_rep h2⟩
/-- another order -/
theorem rep_perm {nss : List (List Int)} {vs ws : List V} (h : RepL K H μ (nss.map dI) vs) (p : ws.Perm vs) : ∃ mss : List (List Int), mss.Perm nss ∧ RepL K H μ (mss.map dI) ws := by
  induction p generalizing nss with
  | nil => exact ⟨nss, List.Perm.refl _, h⟩
  | @cons x l1 l2 p ih =>
    match nss, h with
    | [], h =>
      simp only [List.map_nil] at h
      unfold RepL at h
      cases h
    | ns :: r, h =>
      rw [List.map_cons] at h
      unfold RepL at h
      obtain ⟨v, w, e, h1, h2⟩ := h
      cases e
      obtain ⟨mss, m1, m2⟩ := ih h2
      exact ⟨ns :: mss, m1.cons ns, by rw [List.map_cons]; exact RepL.cons h1 m2⟩
  | swap x y l =>
    match nss, h with
    | [], h =>
      simp only [List.map_nil] at h
      unfold RepL at h
      cases h
    | [ns], h =>
      rw [List.map_cons] at h
      unfold RepL at h
      obtain ⟨v, w, e, h1, h2⟩ := h
      cases e
      simp only [List.map_nil] at h2
      unfold RepL at h2
      cases h2
    | ns :: ms :: r, h =>
      rw [List.map_cons, List.map_cons] at h
      unfold RepL at h
      obtain ⟨v, w, e, h1, h2⟩ := h
      cases e
      unfold RepL at h2
      obtain ⟨v, w, e, h3, h4⟩ := h2
      cases e
      exact ⟨ms :: ns :: r, List.Perm.swap _ _ _, by rw [List.map_cons, List.map_cons]; exact RepL.cons h3 (RepL.cons h1 h4)⟩
  | trans p1 p2 ih1 ih2 =>
    obtain ⟨m2, q2, r2⟩ := ih2 h
    obtain ⟨m1, q1, r1⟩ := ih1 r2
    exact ⟨m1, q1.trans q2, r1⟩
theorem pw_rep : ∀ {nss : List (List Int)} {vs : List V}, RepL K H μ (nss.map dI) vs → vs.Pairwise (fun x y => ∀ n m, TupI K H x n → TupI K H y m → ltI m n = false) → nss.Pairwise (fun a b => ltI b a = false)
  | [], _, _, _ => .nil
  | ns :: r, vs, h, p => by
    rw [List.map_cons] at h
    unfold RepL at h
    obtain ⟨v, w, rfl, h1, h2⟩ := h
    rw [List.pairwise_cons] at p
    refine List.pairwise_cons.mpr ⟨fun m hm => ?_, pw_rep h2 p.2⟩
    have : ∀ {l : List (List Int)} {ws : List V}, RepL K H μ (l.map dI) ws → m ∈ l → ∃ x ∈ ws, TupI K H x m := by
      intro l
      induction l with
      | nil => intro ws _ hm; cases hm
      | cons k l ih =>
        intro ws hr hm
        rw [List.map_cons] at hr
        unfold RepL at hr
        obtain ⟨x, ws', rfl, g1, g2⟩ := hr
        rcases List.mem_cons.mp hm with rfl | hm
        · exact ⟨x, List.mem_cons_self, tupI_rep g1⟩
        · obtain ⟨y, hy, ty⟩ := ih g2 hm
          exact ⟨y, List.mem_cons_of_mem _ hy, ty⟩
    obtain ⟨x, hx, tx⟩ := this h2 hm
    exact p.1 x hx ns m (tupI_rep h1) tx
end
def okI (nss : List (List Int)) : Prop := (∀ ns ∈ nss, ns ≠ []) ∨ nss.head? = some []
def sortI (ds : List D) (μ : Mu) (R : KD) : Prop := ∃ nss : List (List Int), ds = nss.map dI ∧ okI nss ∧ ∀ out : List (List Int), out.Perm nss → out.Pairwise (fun a b => ltI b a = false) → R (.lst (out.map dI)) μ
def gSortI1 : G1 := fun x μ R => match x with
  | .lst ds => sortI ds μ R
  | .adr a => match μ a with
    | some (.lst ds) => sortI ds μ R
    | _ => False
  | _ => False
theorem sort_end {K : PySem.W.Frag} {H : Hp} {μ : Mu} {a : Addr} {vs : List V} {nss : List (List Int)} {Q : VK} {R : KD} (rm : RM K H μ) (hs : SqL K H a vs) (l : RepL K H μ (nss.map dI) vs) (hk : okI nss)
    (q : ∀ out : List (List Int), out.Perm nss → out.Pairwise (fun a b => ltI b a = false) → R (.lst (out.map dI)) μ) (f : Fw K H μ R Q) : rSortI K [.ref a] H Q := by
  refine ⟨a, vs, nss, rfl, hs, tupIs_rep l, hk, fun ys p hp pw n => ?_⟩
  obtain ⟨mss, m1, m2⟩ := rep_perm l hp
  exact fw_lst rm n m2 (q mss m1 (pw_rep m2 pw)) f
theorem sim_sortI {K : PySem.W.Frag} : SimC K (rSortI K) (g1 gSortI1) := sim_g1 fun v d H μ Q R rm rv q f => by
  cases d <;> try exact False.elim q
  · obtain ⟨nss, rfl, hk, q⟩ := q
    obtain ⟨p, vs, rfl, i, _, l⟩ := rep_lst rv
    exact sort_end rm (SqL.of i) l hk q f
  · rename_i a
    have q : (match μ a with | some (.lst ds) => sortI ds μ R | _ => False) := q
    cases e0 : μ a with
    | none => rw [e0] at q; exact False.elim q
    | some o =>
      rw [e0] at q
      cases o <;> try exact False.elim q
      obtain ⟨nss, rfl, hk, q⟩ := q
      obtain ⟨vs, h1, l⟩ := rm a _ e0
      rw [rep_adr rv]
      exact sort_end rm (SqL.of h1) l hk q f
end DL

set_option Elab.async false
set_option linter.all false
set_option maxRecDepth 100000
namespace DL
open PySem PySem.Spec PyProof.Rows L2
/-! ### dicts of keys that are ints or texts -/
def valD {κ : Type} [DecidableEq κ] (kvs : List (κ × D)) (k : κ) : Option D := (kvs.find? fun kv => decide (kv.1 = k)).map (·.2)
def putD {κ : Type} [DecidableEq κ] (kvs : List (κ × D)) (k : κ) (v : D) : List (κ × D) :=
  if (kvs.any fun kv => decide (kv.1 = k)) = true then kvs.map (fun kv => if kv.1 = k then (kv.1, v) else kv) else kvs ++ [(k, v)]
def mergeD {κ : Type} [DecidableEq κ] (kvs more : List (κ × D)) : List (κ × D) := more.foldl (fun acc kv => putD acc kv.1 kv.2) kvs
def kD : Key → D
  | .inl i => .int i
  | .inr x => .str x
def keyOf : D → Option Key
  | .int i => some (.inl i)
  | .str x => some (.inr x)
  | _ => none
section
variable {K : PySem.W.Frag} {H : Hp} {μ : Mu}
theorem key_rep {d : D} {k : Key} {v : V} (e : keyOf d = some k) (h : Rep K H μ d v) : v = kV k := by
  cases d <;> try cases e
  · exact rep_int h
  · exact rep_str h
theorem kD_rep {k : Key} {v : V} (h : Rep K H μ (kD k) v) : v = kV k := by
  cases k
  · exact rep_int h
  · exact rep_str h
theorem RepK.look {κ : Type} [DecidableEq κ] {k : κ} {d : D} : ∀ {kvs : List (κ × D)} {kv : List (κ × V)}, RepK K H μ kvs kv → valD kvs k = some d → ∃ v, valV kv k = some v ∧ Rep K H μ d v
  | [], _, _, e => by cases e
  | (k0, d0) :: r, kv, h, e => by
    unfold RepK at h
    obtain ⟨v, s, rfl, h1, h2⟩ := h
    by_cases q : k0 = k
    · have e' : d0 = d := by simpa [valD, q] using e
      exact ⟨v, valV_pos q, e' ▸ h1⟩
    · have e' : valD r k = some d := by simpa [valD, q] using e
      obtain ⟨w, g1, g2⟩ := RepK.look h2 e'
      exact ⟨w, (valV_neg q).trans g1, g2⟩
theorem RepK.any {κ : Type} [DecidableEq κ] {k : κ} : ∀ {kvs : List (κ × D)} {kv : List (κ × V)}, RepK K H μ kvs kv → (kv.any fun p => decide (p.1 = k)) = (kvs.any fun p => decide (p.1 = k))
  | [], _, h => by
    unfold RepK at h
    subst h
    rfl
  | (k0, d0) :: r, kv, h => by
    unfold RepK at h
    obtain ⟨v, s, rfl, h1, h2⟩ := h
    rw [List.any_cons, List.any_cons, RepK.any h2]
theorem RepK.length {κ : Type} : ∀ {kvs : List (κ × D)} {kv : List (κ × V)}, RepK K H μ kvs kv → kv.length = kvs.length
  | [], _, h => by
    unfold RepK at h
    subst h
    rfl
  | (k0, d0) :: r, kv, h => by
    unfold RepK at h
    obtain ⟨v, s, rfl, h1, h2⟩ := h
    rw [List.length_cons, List.length_cons, RepK.length h2]
theorem RepK.change {κ : Type} [DecidableEq κ] {k : κ} {d : D} {v : V} (rv : Rep K H μ d v) : ∀ {kvs : List (κ × D)} {kv : List (κ × V)}, RepK K H μ kvs kv →
    RepK K H μ (kvs.map fun p => if p.1 = k then (p.1, d) else p) (kv.map fun p => if p.1 = k then (p.1, v) else p)
  | [], _, h => by
    unfold RepK at h
    subst h
    unfold RepK
    rfl
  | (k0, d0) :: r, kv, h => by
    unfold RepK at h
    obtain ⟨w, s, rfl, h1, h2⟩ := h
    rw [List.map_cons, List.map_cons]
    by_cases q : k0 = k
    · rw [if_pos q, if_pos q]
      unfold RepK
      exact ⟨v, _, rfl, rv, RepK.change rv h2⟩
    · rw [if_neg q, if_neg q]
      unfold RepK
      exact ⟨w, _, rfl, h1, RepK.change rv h2⟩
theorem RepK.snoc {κ : Type} [DecidableEq κ] {k : κ} {d : D} {v : V} (rv : Rep K H μ d v) : ∀ {kvs : List (κ × D)} {kv : List (κ × V)}, RepK K H μ kvs kv → RepK K H μ (kvs ++ [(k, d)]) (kv ++ [(k, v)])
  | [], _, h => by
    unfold RepK at h
    subst h
    show RepK K H μ [(k, d)] [(k, v)]
    unfold RepK
    exact ⟨v, [], rfl, rv, by unfold RepK; rfl⟩
  | (k0, d0) :: r, kv, h => by
    unfold RepK at h
    obtain ⟨w, s, rfl, h1, h2⟩ := h
    rw [List.cons_append, List.cons_append]
    unfold RepK
    exact ⟨w, _, rfl, h1, RepK.snoc rv h2⟩
theorem RepK.put {κ : Type} [DecidableEq κ] {k : κ} {d : D} {v : V} {kvs : List (κ × D)} {kv : List (κ × V)} (h : RepK K H μ kvs kv) (rv : Rep K H μ d v) : RepK K H μ (putD kvs k d) (putK kv k v) := by
  unfold putD putK
  rw [RepK.any h]
  split
  · exact RepK.change rv h
  · exact RepK.snoc rv h
theorem RepK.lookN {κ : Type} [DecidableEq κ] {k : κ} : ∀ {kvs : List (κ × D)} {kv : List (κ × V)}, RepK K H μ kvs kv → valD kvs k = none → valV kv k = none
  | [], _, h, _ => by
    unfold RepK at h
    subst h
    rfl
  | (k0, d0) :: r, kv, h, e => by
    unfold RepK at h
    obtain ⟨v, s, rfl, h1, h2⟩ := h
    by_cases q : k0 = k
    · simp [valD, q] at e
    · have e' : valD r k = none := by simpa [valD, q] using e
      exact (valV_neg q).trans (RepK.lookN h2 e')
theorem RepK.merge : ∀ {more : List (Key × D)} {mv : List (Key × V)} {kvs : List (Key × D)} {kv : List (Key × V)}, RepK K H μ more mv → RepK K H μ kvs kv → RepK K H μ (mergeD kvs more) (mergeK kv mv)
  | [], _, _, _, h, h2 => by
    unfold RepK at h
    subst h
    exact h2
  | (k0, d0) :: r, mv, kvs, kv, h, h2 => by
    unfold RepK at h
    obtain ⟨w, s, rfl, h1, h3⟩ := h
    show RepK K H μ (mergeD (putD kvs k0 d0) r) (mergeK (putK kv k0 w) s)
    exact RepK.merge h3 (h2.put h1)
def pairD (p : Key × D) : D := .tup [kD p.1, p.2]
theorem pairs_rep : ∀ {ps : List (Key × D)} {vs : List V}, RepL K H μ (ps.map pairD) vs → ∃ (as : List Addr) (kv : List (Key × V)), vs = as.map V.ref ∧ Paired (fun p kv => SqT K H p [kV kv.1, kv.2]) as kv ∧ RepK K H μ ps kv
  | [], vs, h => by
    simp only [List.map_nil] at h
    unfold RepL at h
    subst h
    exact ⟨[], [], rfl, .nil, by unfold RepK; rfl⟩
  | (k, d) :: r, vs, h => by
    rw [List.map_cons] at h
    unfold RepL at h
    obtain ⟨v, w, rfl, h1, h2⟩ := h
    obtain ⟨as, kv, rfl, g1, g2⟩ := pairs_rep h2
    obtain ⟨a, us, rfl, im, rl⟩ := rep_tup h1
    obtain ⟨x, y, rfl, r1, r2⟩ := repL2 rl
    have e := kD_rep r1
    subst e
    exact ⟨a :: as, (k, y) :: kv, rfl, .cons im.sq g1, by unfold RepK; exact ⟨y, kv, rfl, r2, g2⟩⟩
end
theorem RM.cellD {K : PySem.W.Frag} {H : Hp} {μ : Mu} {p : Addr} {kv : List (Key × V)} {kvs : List (Key × D)} (rm : RM K H μ) (n : H p = none) (r : RepK K H μ kvs kv) : RM K (upd H p (.dK kv)) (DL.put μ p (.dct kvs)) :=
  rm.put (Kp.cell n) (fun a o ea e => upd_ne ea) ⟨kv, upd_same, r.mono (Kp.cell n) _ _⟩
/-- dict(list of pairs) -/
def gDictP1 : G1 := fun x μ R => match x with
  | .lst ds => ∃ ps : List (Key × D), ds = ps.map pairD ∧ ∀ a, μ a = none → R (.adr a) (put μ a (.dct (mergeD [] ps)))
  | _ => False
abbrev rDictP (K : PySem.W.Frag) : List V → Hp → VK → Prop := fun xs H Q => ∃ (a : Addr) (ps : List Addr) (kvs : List (Key × V)), xs = [.ref a] ∧ SqL K H a (ps.map V.ref) ∧ Paired (fun p kv => SqT K H p [kV kv.1, kv.2]) ps kvs ∧
    ∀ p, H p = none → Q (.ref p) (upd H p (.dK (mergeK [] kvs)))
theorem sim_dictP {K : PySem.W.Frag} : SimC K (rDictP K) (g1 gDictP1) := sim_g1 fun v d H μ Q R rm rv q f => by
  cases d <;> try exact False.elim q
  obtain ⟨ps, rfl, q⟩ := q
  obtain ⟨p, vs, rfl, i, _, l⟩ := rep_lst rv
  obtain ⟨as, kv, rfl, g1, g2⟩ := pairs_rep l
  refine ⟨p, as, kv, rfl, SqL.of i, g1, fun c n => ?_⟩
  have z : RepK K H μ (mergeD [] ps) (mergeK [] kv) := g2.merge (by unfold RepK; rfl)
  exact f (.ref c) (.adr c) _ _ (Kp.cell n) (rm.cellD n z) to_adr (q c (rm.free n))
/-- d[k] -/
def gDGet (go gi : GE) : GE := fun δ μ R => go δ μ fun x μ1 => gi δ μ1 fun y μ2 => match x with
  | .adr a => ∃ kvs k d, μ2 a = some (.dct kvs) ∧ keyOf y = some k ∧ valD kvs k = some d ∧ R d μ2
  | _ => False
section
variable {X : Cx} {o i e : Expr} {pos : Pos} {go gi ge : GE}
theorem de_dget (hu : X.A.units + 1 < cLine) (ho : DE X o go) (hi : DE X i gi) (hs : NoSl i) : DE X (.Subscript o i pos) (gDGet go gi) := by
  obtain ⟨t, a1, a2⟩ := ho.ex
  obtain ⟨t2, b1, b2⟩ := hi.ex
  refine ⟨_, pe_dget hu a1 b1 hs, fun σ H δ μ Q R rm rs q f => ?_⟩
  refine a2 σ H δ μ _ _ rm rs q fun v d H1 μ1 k1 rm1 r1 q1 => ?_
  refine b2 σ H1 δ μ1 _ _ rm1 (rs.mono k1) q1 fun y dy H2 μ2 k2 rm2 r2 q2 => ?_
  cases d <;> try exact False.elim q2
  rename_i a
  obtain ⟨kvs, k, d, e0, ek, ed, q2⟩ := q2
  obtain ⟨kv, h1, l⟩ := rm2 a _ e0
  obtain ⟨w, g1, g2⟩ := l.look ed
  have ey := key_rep ek r2
  refine ⟨a, w, rep_adr (r1.mono k2), ?_, f w d H2 μ2 (k1.trans k2) rm2 g2 q2⟩
  rw [ey, ← g1]
  exact DGet.k h1
def setD (x y d : D) (μ : Mu) (R : Mu → Prop) : Prop := match x with
  | .adr a => ∃ kvs k, μ a = some (.dct kvs) ∧ keyOf y = some k ∧ kvs.length < sizeLine ∧ R (put μ a (.dct (putD kvs k d)))
  | _ => False
def hSubD (go gi : GE) : GH := fun d δ μ R => go δ μ fun x μ1 => gi δ μ1 fun y μ2 => setD x y d μ2 fun μ3 => R δ μ3
theorem simH_subDD {K : PySem.W.Frag} : SimH K (gSub (tOf K go) (tOf K gi) rSetD) (hSubD go gi) := by
  intro v d σ H δ μ Q R rm rs r q f
  refine sim_of σ H δ μ _ _ rm rs q fun x dx H1 μ1 k1 rm1 r1 q1 => ?_
  refine sim_of σ H1 δ μ1 _ _ rm1 (rs.mono k1) q1 fun y dy H2 μ2 k2 rm2 r2 q2 => ?_
  cases dx <;> try exact False.elim q2
  rename_i a
  obtain ⟨kvs, k, e0, ek, hl, q2⟩ := q2
  obtain ⟨kv, e1, l⟩ := rm2 a _ e0
  have kw : Kp H2 μ2 (upd H2 a (.dK (putK kv k v))) (put μ2 a (.dct (putD kvs k d))) := Kp.write e0
  have ey := key_rep ek r2
  refine ⟨a, _, rep_adr (r1.mono k2), by rw [ey]; exact DPut.k e1 (by rw [l.length]; exact hl), f _ _ _ _ (k1.trans (k2.trans kw)) ?_ (rs.mono (k1.trans (k2.trans kw))) q2⟩
  exact rm2.put (m := .dct (putD kvs k d)) kw (fun b o n _ => upd_ne n) ⟨_, upd_same, (l.put (r.mono (k1.trans k2))).mono kw _ _⟩
theorem pg_subDD (hu : X.A.units + 1 < cLine) (ho : DE X o go) (hi : DE X i gi)
    (ha : ∀ v, assign (.Subscript o i pos) X.env v = (do
      let ov ← holding [v] (eval o X.env)
      let iv ← holding [v, ov] (eval i X.env)
      standAt pos
      holding [v, ov, iv] (setItem ov iv v)
      release [v, ov, iv] []) := by intro _; rfl) : PG X (.Subscript o i pos) (gSub (tOf X.K go) (tOf X.K gi) rSetD) := pg_sub ho.pe hi.pe (set_dict hu) ha
end
end DL

set_option Elab.async false
set_option linter.all false
set_option maxRecDepth 100000
namespace DL
open PySem PySem.Spec PyProof.Rows L2
/-! ### set(list), of keys of any kind -/
section
variable {κ : Type} [DecidableEq κ]
/-- the first i, each but once, in the order in which they come first -/
def metK (val : Nat → κ) : Nat → List κ
  | 0 => []
  | i + 1 => if (metK val i).any (· == val i) = true then metK val i else metK val i ++ [val i]
theorem metK_le (val : Nat → κ) : ∀ i, (metK val i).length ≤ i
  | 0 => Nat.le_refl _
  | i + 1 => by
    have ih := metK_le val i
    unfold metK
    split
    · omega
    · rw [List.length_append, List.length_singleton]; omega
theorem metK_any (val : Nat → κ) (i : Nat) (k : κ) : ((metK val i).any (· == k) || decide (k = val i)) = (metK val (i + 1)).any (· == k) := by
  conv => rhs; unfold metK
  by_cases h : (metK val i).any (· == val i) = true
  · rw [if_pos h]
    by_cases e : k = val i
    · subst e; rw [h]; simp
    · simp [e]
  · rw [if_neg h, List.any_append]
    by_cases e : k = val i
    · subst e; simp
    · have hb : (val i == k) = false := by simpa [beq_iff_eq] using (fun h' : val i = k => e h'.symm)
      simp [hb, e]
theorem metK_len (val : Nat → κ) (i : Nat) : (if (metK val i).any (· == val i) = true then (metK val i).length else (metK val i).length + 1) = (metK val (i + 1)).length := by
  conv => rhs; unfold metK
  split <;> simp
variable {prog : Program} {w : World} {A : Around} {R : Result → Shared → Prop} {I : Addr} {fp wr : List Addr} {G : Array GenState → Array GenState → Prop} {n : Nat} {P : Nat → Value → Prop} {St : Nat → Shared → Prop}
theorem loop_any {knd : KeyKind prog w κ} (W : WalksS prog w A.in1 I fp wr G n P St) (S : Addr) (hSf : S ∉ fp) (val : Nat → κ) (hval : ∀ i v, P i v → knd.is (val i) v = true ∧ v.scannable = true) (hb : n + 1 < scanBound) (i : Nat) (s : Shared) (hi : i ≤ n) (hst : St i s)
    (hS : s.heap.SetOf knd S (fun k => (metK val i).any (· == k)) (metK val i).length)
    (hR : ∀ s', Moved (S :: wr) G s s' → s'.heap.SetOf knd S (fun k => (metK val n).any (· == k)) (metK val n).length → R (.ok (.ret .none)) s') :
    codeAny (model prog w) A (.builtin "set.update.loop" ⟨[.ref S, .ref I], []⟩) R s := by
  have hSw : S ∉ wr := fun h => hSf (W.sub _ h)
  have wide : ∀ b ∈ wr, b ∈ S :: wr := fun b hb => List.mem_cons_of_mem _ hb
  have stays : ∀ {s s' : Shared} {f : κ → Bool} {m : Nat}, Moved wr G s s' → s.heap.SetOf knd S f m → s'.heap.SetOf knd S f m := fun hm ⟨o, es, ep, t, ho, r⟩ => ⟨o, es, ep, t, hm.heap S _ hSw ho, r⟩
  generalize hd : n - i = d
  induction d generalizing i s with
  | zero =>
    have e : i = n := by omega
    subst e
    refine codeAny_builtin PyProof.Rows.F.entry_set_update_loop ?_
    rw [Around.under_plainId PyProof.Rows.F.plain_set_update_loop _]
    refine wpAny_bind (m := pyNext (.ref I)) (W.done s _ _ hst fun s' hm => ?_)
    exact wpAny_pure (hR s' (hm.mono wide) (stays hm hS))
  | succ d ih =>
    have lt : i < n := by omega
    refine codeAny_builtin PyProof.Rows.F.entry_set_update_loop ?_
    rw [Around.under_plainId PyProof.Rows.F.plain_set_update_loop _]
    refine wpAny_bind (m := pyNext (.ref I)) (W.item i s _ _ lt hst fun v s' hP hst' hm => ?_)
    obtain ⟨vi, vs⟩ := hval i v hP
    have hl := metK_le val i
    have hS1 := stays hm hS
    refine wpAny_bind (m := holding [v] (setAdd S v)) (wpAny_holding ?_)
    unfold setAdd
    refine wpAny_holding (wpAny_bind (knd.pyHash (k := val i) vi ?_))
    refine wpAny_setAddHashed_of (knd := knd) (s := { s' with toks := s'.toks + 1 }) vi vs hS1 (by omega) fun h' hsb hS2 => ?_
    have hS3 : h'.SetOf knd S (fun k => (metK val (i + 1)).any (· == k)) (metK val (i + 1)).length := SetOf_congr hS2 (metK_any val i) (metK_len val i)
    have off : ∀ b o, b ≠ S → s'.heap.get? b = some o → h'.get? b = some o := fun b o ne e => by rw [hsb.2 b ne]; exact e
    refine wpAny_pure ⟨plainId_quiet PyProof.Rows.F.plain_set_update_loop _, ih (i + 1) _ lt (W.frame _ s' _ _ hst' (Nat.le_succ _) fun b hb o e => off b o (fun h => hSf (h ▸ hb)) e) hS3 (fun s'' hm'' hS'' => ?_) (by omega)⟩
    exact hR s'' (Moved.trans W.gtrans ((hm.mono wide).then_heap (Nat.le_succ _) fun b o hb e => off b o (fun h => hb (h ▸ List.mem_cons_self)) e) hm'') hS''
end

section
variable {prog : Program} {w : World} {A : Around} {E : Value → Shared → Prop} {s : Shared}
set_option maxHeartbeats 3200000 in
/-- set(x): the new set, then its __init__ -/
theorem call_set_by {x : Value} {Q : Value → Shared → Prop}
    (h : ∀ led : Bool, codeAny (model prog w) A.in1 (.call (.builtin "set.__init__") ⟨[.ref s.heap.objs.size, x], []⟩) (wants (fun r s₂ => r = .none ∧ Q (.ref s.heap.objs.size) s₂) E)
      { s with heap := s.heap.push { cls := .type "set", dict := none, data := .set #[] 0 (.fresh 0 0 led) } }) :
    wpAny (model prog w) A (call (.type "set") [x]) Q E s := by
  obtain ⟨c, tl, hmro⟩ := PySem.F.called_set.mro
  have hmade := PySem.F.called_set.made
  have hsub := PySem.F.called_set.sub
  have h1 := PySem.F.called_set.notType
  have h2 := PySem.F.called_set.canCreate
  have hct := PySem.F.typeCall_set_1 x
  refine wpAny_call (codeAny_of_tree ?_)
  show wpAny _ _ (callAny (.type "set") _) _ _ _
  refine wpAny_pure ⟨Code.quiet_builtin _ (by decide +kernel), codeAny_builtin PySem.F.entry_type_call ?_⟩
  rw [Around.under_plain (weight_type_call_type "set" [x] []) rfl]
  repeat (any_goals (first | assumption | wp_step))
  refine codeAny_mono (code_set_new_1 x (E := E) (Q₁ := fun obj s₁ => ∃ led : Bool, obj = .ref s.heap.objs.size ∧ s₁ = { s with heap := s.heap.push { cls := .type "set", dict := none, data := .set #[] 0 (.fresh 0 0 led) } }) fun led => ⟨led, rfl, rfl⟩) fun r s₁ hr => ?_
  match r, hr with
  | .error e, hr => exact hr
  | .ok (.ret obj), ⟨led, e1, e2⟩ =>
    subst e1 e2
    have hT : Shared.TypeIs { s with heap := s.heap.push { cls := .type "set", dict := none, data := .set #[] 0 (.fresh 0 0 led) } } (.ref s.heap.objs.size) "set" := ⟨_, Heap.get?_push_size _ rfl, rfl⟩
    have hli := PySem.F.called_set.init.lookup
    have hbi := PySem.F.called_set.init.bind (.ref s.heap.objs.size)
    repeat (any_goals (first | assumption | wp_step))
    refine codeAny_mono (h led) fun r₂ s₂ hr₂ => ?_
    match r₂, hr₂ with
    | .error e, hr₂ => exact hr₂
    | .ok (.ret r), ⟨e3, q⟩ =>
      subst e3
      repeat (any_goals (first | assumption | wp_step))
set_option maxHeartbeats 3200000 in
theorem call_set_keys {κ : Type} [DecidableEq κ] {knd : KeyKind prog w κ} {l : Addr} {items : Array Value} (val : Nat → κ) {Q : Value → Shared → Prop}
    (hh : A.handled = none) (hl : s.heap.IsList l items) (hv : ∀ i v, items[i]? = some v → knd.is (val i) v = true ∧ v.scannable = true) (hb : items.size + 1 < scanBound)
    (h : ∀ (h' : Heap) (tk : Nat), h'.SetOf knd s.heap.objs.size (fun k => (metK val items.size).any (· == k)) (metK val items.size).length →
      (∀ b o, s.heap.get? b = some o → h'.get? b = some o) → Q (.ref s.heap.objs.size) { s with heap := h', toks := tk }) :
    wpAny (model prog w) A (call (.type "set") [.ref l]) Q E s := by
  refine call_set_by fun led => ?_
  have g0 : (s.heap.push { cls := .type "set", dict := none, data := .set #[] 0 (.fresh 0 0 led) }).get? s.heap.objs.size = some { cls := .type "set", dict := none, data := .set #[] 0 (.fresh 0 0 led) } := Heap.get?_push_size _ rfl
  have hls : l < s.heap.objs.size := by obtain ⟨_, e, _⟩ := id hl; exact Heap.lt_size e
  refine codeAny_call_builtin PySem.F.called_set.init.plain PySem.F.entry_set_init (check_set_init_1 ⟨_, g0, rfl⟩ ?_)
  have hl1 : (s.heap.push { cls := .type "set", dict := none, data := .set #[] 0 (.fresh 0 0 led) }).IsList l items := hl.push _
  have nI : l ≠ (s.heap.push { cls := .type "set", dict := none, data := .set #[] 0 (.fresh 0 0 led) }).objs.size := by
    rw [Heap.size_push]; exact Nat.ne_of_lt (Nat.lt_succ_of_lt hls)
  have nS : s.heap.objs.size ∉ [(s.heap.push { cls := .type "set", dict := none, data := .set #[] 0 (.fresh 0 0 led) }).objs.size, l] := by
    rw [Heap.size_push]; simp only [List.mem_cons, List.not_mem_nil, or_false, not_or]
    exact ⟨Nat.ne_of_lt (Nat.lt_succ_self _), Nat.ne_of_gt hls⟩
  obtain ⟨⟨ocls, odict, odata, oslots⟩, hol, hcl, nl, hdl⟩ := id hl1
  simp only at hcl hdl
  subst hcl; subst hdl
  have y1 := PySem.F.sub_list_set
  have y2 := PySem.F.sub_list_frozenset
  have y3 : (Value.type "list" == Value.type "dict") = false := by decide
  unfold Builtin.«set.__init__» noKeywords Builtin.Frozenset.updateFrom
  generalize hPI : pyIter = PI
  wp_walk
  subst hPI
  refine wpAny_pyIter_list hl1 (wpAny_bind (wpAny_runValue ?_))
  have hh3 : A.in1.in1.in1.handled = none := hh
  refine loop_any ((Walks.list hh3 _ l nI items).toS) s.heap.objs.size nS val hv hb 0 _ (Nat.zero_le _) ⟨⟨_, Heap.get?_push_size _ rfl, rfl, rfl⟩, hl1.push _⟩ ?_ fun s' hm hS' => ?_
  · exact SetOf_congr ((setObjOf_fresh (knd := knd) led).setOf (Heap.get?_push_of_some _ g0) (by unfold scanBound; omega)) (fun _ => rfl) rfl
  · obtain ⟨h', g', d', tk', os'⟩ := s'
    have eg : g' = s.gens := hm.gens
    have ed : d' = s.drawn := hm.drawn
    have eo : os' = s.os := hm.os
    subst eg; subst ed; subst eo
    refine wpAny_pure ?_
    show wpAny _ _ (ret Value.none) _ _ _
    refine wpAny_pure ⟨rfl, h h' tk' hS' fun b o e => ?_⟩
    have hlt := Heap.lt_size e
    refine hm.heap b o ?_ (Heap.get?_push_of_some _ (Heap.get?_push_of_some _ e))
    simp only [List.mem_cons, List.not_mem_nil, or_false, not_or]
    exact ⟨Nat.ne_of_lt hlt, by rw [Heap.size_push]; exact Nat.ne_of_lt (Nat.lt_succ_of_lt hlt)⟩
end
end DL

set_option Elab.async false
set_option linter.all false
set_option maxRecDepth 100000
namespace DL
open PySem PySem.Spec PyProof.Rows L2
/-! ### len(set(list of texts)) -/
/-- how many unlike ones -/
def distS (xs : List Str) : Nat := (metK (fun i => xs.getD i Str.empty) xs.length).length
theorem strs_get : ∀ {vs : List Value} {xs : List Str}, StrsAre vs xs → ∀ (i : Nat) (v : Value), vs[i]? = some v → ∃ t, v = .str (xs.getD i Str.empty) t
  | _, _, .nil, i, v, h => by simp at h
  | _, _, .cons n t hr, 0, v, h => by
    simp at h
    exact ⟨t, by rw [← h] <;> rfl⟩
  | _, _, .cons n t hr, i + 1, v, h => by
    simp only [List.getElem?_cons_succ] at h
    obtain ⟨t', e⟩ := strs_get hr i v h
    exact ⟨t', by rw [e] <;> rfl⟩
def tLenSetS (K : PySem.W.Frag) (ta : TE) : TE := fun σ H Q => ta σ H fun x H1 => ∃ (l : Addr) (xs : List Str), x = .ref l ∧ SqL K H1 l (xs.map V.str) ∧ xs.length ≤ 4000 ∧ Q (.int (distS xs : Nat)) H1
theorem pe_lenSetS {X : Cx} {a : Expr} {ta : TE} {p p2 q pos : Pos} (hg : Gl X "len") (hm : X.mg "len" = none) (hg2 : Gl X "set") (hm2 : X.mg "set" = none) (ha : PE X a ta) (hc : X.calm = true)
    (na : starEach [a] X.env = (false, eval a X.env) :: starEach [] X.env := by rfl) : PE X (.Call (.Name "len" p) [.Call (.Name "set" p2) [a] [] q] [] pos) (tLenSetS X.K ta) := by
  refine ⟨fun pins s σ H Q I h => ?_⟩
  refine Call_ (ld_blt I hg hm boot_len ?_)
  refine PyProof.Rows.callWith_builtin1 (PyProof.Rows.args_cons ?_ rfl) rfl rfl
  refine Call_ (ld_blt I hg2 hm2 boot_set ?_)
  refine PyProof.Rows.callWith_type1 (PyProof.Rows.args_cons (thn (ha.run pins s σ H _ I h) fun v s1 ⟨x, H1, I1, r1, q1⟩ => PyProof.Rows.args_nil ?_) na) na rfl
  obtain ⟨l, xs, rfl, hq, hl, q1⟩ := q1
  cases r1
  obtain ⟨its, r, pl, hz⟩ := I1.list hq
  have hlen : its.toArray.size = xs.length := by rw [List.size_toArray, ← r.length, List.length_map]
  have hS : StrsAre its xs := r.strs
  refine call_set_keys (knd := PySem.strKind X.prog X.w) (fun i => xs.getD i Str.empty) (I1.ok.hd hc) pl.isList (fun i v hv => ?_) (by rw [hlen]; unfold scanBound; omega) fun h' tk hS hk => ?_
  · obtain ⟨t, rfl⟩ := strs_get hS i v (by simpa using hv)
    exact ⟨strKind_is _ _ _ _, rfl⟩
  refine PyProof.Rows.args_nil ?_
  rw [hlen] at hS
  obtain ⟨o, es, ep, t, ho, hex, hd, _, _, _, hf, hn⟩ := hS
  have I2 : Inv X pins σ H1 { s1 with heap := h', toks := tk } := I1.kept fun b o e => hk b o e
  have hm2 := metK_le (fun i => xs.getD i Str.empty) xs.length
  exact call_len_set ho hex hd hf (by rw [hn]; omega) ⟨.int (distS xs : Nat), H1, I2.tok _, ⟨_, by rw [hn]; rfl⟩, q1⟩
def gLenSetS (g : GE) : GE := fun δ μ R => g δ μ fun d μ1 => match d with
  | .lst ds => ∃ xs : List Str, ds = xs.map D.str ∧ xs.length ≤ 4000 ∧ R (.int (distS xs : Nat)) μ1
  | _ => False
theorem de_lenSetS {X : Cx} {a : Expr} {ga : GE} {p p2 q pos : Pos} (hg : Gl X "len") (hm : X.mg "len" = none) (hg2 : Gl X "set") (hm2 : X.mg "set" = none) (ha : DE X a ga) (hc : X.calm = true)
    (na : starEach [a] X.env = (false, eval a X.env) :: starEach [] X.env := by rfl) : DE X (.Call (.Name "len" p) [.Call (.Name "set" p2) [a] [] q] [] pos) (gLenSetS ga) := by
  obtain ⟨t, a1, a2⟩ := ha.ex
  refine ⟨_, pe_lenSetS hg hm hg2 hm2 a1 hc na, fun σ H δ μ Q R rm rs q f => ?_⟩
  refine a2 σ H δ μ _ _ rm rs q fun v d H1 μ1 k1 rm1 r1 q1 => ?_
  cases d <;> try exact False.elim q1
  obtain ⟨xs, rfl, hl, q1⟩ := q1
  obtain ⟨l, vs, rfl, h1, n1, rl⟩ := rep_lst r1
  exact ⟨l, xs, rfl, SqL.of (by rw [h1, rl.strs]), hl, f _ _ H1 μ1 k1 rm1 to_int q1⟩
end DL

set_option Elab.async false
set_option linter.all false
set_option maxRecDepth 100000
namespace DL
open PySem PySem.Spec PyProof.Rows L2
/-! ### f(k = v, ..) -/
structure DK (X : Cx) (kws : List Keyword) (g : GA) : Prop where
  ex : ∃ t, PK X kws t ∧ SimA X.K t g
theorem dk_nil {X : Cx} : DK X [] (fun _ μ R => R [] μ) := ⟨_, pk_nil, fun σ H δ μ Q R rm rs q f => f [] [] H μ (Kp.refl _ _) rm RepL.nil q⟩
theorem dk_cons {X : Cx} {nm : Option Str} {e : Expr} {kpos : Pos} {kws : List Keyword} {ge : GE} {ga : GA} (he : DE X e ge) (hr : DK X kws ga) : DK X (⟨nm, e, kpos⟩ :: kws) (fun δ μ R => ge δ μ fun d μ1 => ga δ μ1 fun ds μ2 => R (d :: ds) μ2) := by
  obtain ⟨t, a1, a2⟩ := he.ex
  obtain ⟨u, b1, b2⟩ := hr.ex
  refine ⟨_, pk_cons a1 b1, fun σ H δ μ Q R rm rs q f => ?_⟩
  refine a2 σ H δ μ _ _ rm rs q fun v d H1 μ1 k1 rm1 r1 q1 => ?_
  exact b2 σ H1 δ μ1 _ _ rm1 (rs.mono k1) q1 fun vs ds H2 μ2 k2 rm2 r2 q2 => f (v :: vs) (d :: ds) H2 μ2 (k1.trans k2) rm2 (RepL.cons (r1.mono k2) r2) q2
/-- the parameters' order -/
def gCallK (g : GC) (gD : List D → List D) (n : Nat) (ga : GA) : GE := fun δ μ R => ga δ μ fun ds μ1 => ds.length = n ∧ g (gD ds) μ1 R
section
variable {X : Cx} {k : Nat} {f : Addr} {fd : FuncData} {ps ks : List Str} {g : GC} {x : Str} {p pos : Pos} {kws : List Keyword} {ga : GA} {gp : List Value → List Value → List Value} {gV : List V → List V → List V} {gD : List D → List D}
theorem de_callK0 (F : FnOk X.prog X.w X.K X.mg X.base CX0 k f fd ps (toSp X.K g)) (hr : Room k X.A) (hg : Gl X x) (hm : X.mg x = some (.ref f)) (hk : PySem.W.keepIn X.K (.ref f) = true) (hb : KBn X.K fd ps 0 ks gp gV)
    (hD : ∀ (H : Hp) (μ : Mu) (ds : List D) (vs : List V), RepL X.K H μ ds vs → ds.length = ks.length → RepL X.K H μ (gD ds) (gV [] vs))
    (hkw : DK X kws ga) (hall : (backToKw pos (keywordEach kws X.env)).all (·.1.isSome) = true := by rfl) (hks : (backToKw pos (keywordEach kws X.env)).filterMap (·.1) = ks := by rfl)
    (hdb : (x == ("__debug__" : Str)) = false := by decide)
    (hpl : ((backTo pos (starEach [] X.env)).any (·.1) || (backToKw pos (keywordEach kws X.env)).any (·.1.isNone)) = false := by rfl) :
    DE X (.Call (.Name x p) [] kws pos) (gCallK g gD ks.length ga) := by
  obtain ⟨t, a1, a2⟩ := hkw.ex
  refine ⟨fun σ H Q => t σ H fun vs H1 => vs.length = ks.length ∧ toSp X.K g (gV [] vs) H1 Q E0, ⟨fun pins s σ H Q I h => ?_⟩, fun σ H δ μ Q R rm rs q f => ?_⟩
  · refine wpAny_Call_Name_kw (ld_glob I hg hm ?_ hdb)
    refine PySem.W.callWith_KW0 (h₀ := X.base) I.ok.mod.kin hk hall (thn (a1.run pos pins s σ H _ I h) fun us s1 ⟨vs, H1, I1, r, l, q⟩ => ⟨I1.kIn, ?_⟩) hpl
    rw [hks]
    exact run_fnN F hr hb (pass0 (X := X)) I1 .nil r rfl l q
  · refine a2 σ H δ μ _ _ rm rs q fun vs ds H1 μ1 k1 rm1 r1 q1 => ⟨by rw [r1.length]; exact q1.1, gD ds, μ1, R, rm1, hD H1 μ1 ds vs r1 q1.1, q1.2, f.re k1⟩
end
/-! ### tuple(range(n)), list(range(n)) -/
def upTo (n : Nat) : List D := (List.range n).map fun i => D.int (i : Nat)
theorem upTo_rep {K : PySem.W.Frag} {H : Hp} {μ : Mu} {n : Nat} : RepL K H μ (upTo n) (rgV 0 (n : Int)) := by
  unfold upTo rgV
  have e : ((n : Int) - 0).toNat = n := by omega
  rw [e]
  generalize List.range n = l
  induction l with
  | nil => exact RepL.nil
  | cons i l ih =>
    rw [List.map_cons, List.map_cons]
    refine RepL.cons ?_ ih
    have e : (0 : Int) + (i : Nat) = (i : Nat) := by omega
    rw [e]
    exact to_int
def gTupRg (g : GE) : GE := fun δ μ R => g δ μ fun d μ1 => match d with
  | .int i => ∃ n : Nat, i = n ∧ n ≤ 16777216 ∧ R (.tup (upTo n)) μ1
  | _ => False
def gLstRg (g : GE) : GE := fun δ μ R => g δ μ fun d μ1 => match d with
  | .int i => ∃ n : Nat, i = n ∧ n ≤ 16777216 ∧ R (.lst (upTo n)) μ1
  | _ => False
section
variable {X : Cx} {a : Expr} {ga : GE} {p p2 pos q : Pos}
theorem de_tupRg (hc : X.calm = true) (hg : Gl X "tuple") (hm : X.mg "tuple" = none) (hg2 : Gl X "range") (hm2 : X.mg "range" = none) (ha : DE X a ga) (n1 : starEach [a] X.env = (false, eval a X.env) :: starEach [] X.env := by rfl)
    (n2 : starEach [.Call (.Name "range" p2) [a] [] q] X.env = (false, eval (.Call (.Name "range" p2) [a] [] q) X.env) :: starEach [] X.env := by rfl) : DE X (.Call (.Name "tuple" p) [.Call (.Name "range" p2) [a] [] q] [] pos) (gTupRg ga) := by
  obtain ⟨t, a1, a2⟩ := ha.ex
  refine ⟨_, pe_tupRg hc hg hm (prg_1 hg2 hm2 a1 n1) n2, fun σ H δ μ Q R rm rs q f => ?_⟩
  refine a2 σ H δ μ _ _ rm rs q fun v d H1 μ1 k1 rm1 r1 q1 => ?_
  cases d <;> try exact False.elim q1
  obtain ⟨n, rfl, hn, q1⟩ := q1
  refine ⟨(n : Int), rep_int r1, RgOk.of_le (by omega) (by omega) (by omega) (by omega), fun c nc => ?_⟩
  exact fw_tup rm1 nc upTo_rep q1 (f.re k1)
theorem de_listRg (hc : X.calm = true) (hg : Gl X "list") (hm : X.mg "list" = none) (hg2 : Gl X "range") (hm2 : X.mg "range" = none) (ha : DE X a ga) (n1 : starEach [a] X.env = (false, eval a X.env) :: starEach [] X.env := by rfl)
    (n2 : starEach [.Call (.Name "range" p2) [a] [] q] X.env = (false, eval (.Call (.Name "range" p2) [a] [] q) X.env) :: starEach [] X.env := by rfl) : DE X (.Call (.Name "list" p) [.Call (.Name "range" p2) [a] [] q] [] pos) (gLstRg ga) := by
  obtain ⟨t, a1, a2⟩ := ha.ex
  refine ⟨_, pe_listRg hc hg hm (prg_1 hg2 hm2 a1 n1) n2, fun σ H δ μ Q R rm rs q f => ?_⟩
  refine a2 σ H δ μ _ _ rm rs q fun v d H1 μ1 k1 rm1 r1 q1 => ?_
  cases d <;> try exact False.elim q1
  obtain ⟨n, rfl, hn, q1⟩ := q1
  refine ⟨(n : Int), rep_int r1, RgOk.of_le (by omega) (by omega) (by omega) (by omega), fun c nc => ?_⟩
  exact fw_lst rm1 nc upTo_rep q1 (f.re k1)
end
end DL

set_option Elab.async false
set_option linter.all false
set_option maxRecDepth 100000
namespace DL
open PySem PySem.Spec PyProof.Rows L2
/-! ### defs that are called where nothing is under way of repr: what they promise there -/
structure FnG (P : Program) (w : World) (K : PySem.W.Frag) (mg : Str → Option Value) (base : Heap) (k : Nat) (f : Addr) (fd : FuncData) (ps : List Str) (sp : Sp) : Prop where
  len : ∀ vs H Q E, sp vs H Q E → vs.length = ps.length
  run : ∀ (A : Around) (outer : List Env) (s : Shared) (H : Hp) (args : Args) (us : List Value) (vs : List V) (Q : VK), A.guards = some [] → Room k A → Env0 P w K mg base A outer s H → BindsTo s fd args (ps.zip us) → Vals vs us → sp vs H Q E0 →
    codeAny (model P w) A (.call (.ref f) args) (CR CX0 outer P w H s Q E0) s
section
variable {P : Program} {w : World} {K : PySem.W.Frag} {mg : Str → Option Value} {base : Heap}
theorem deeper_guards {A : Around} {env : Env} (h : A.guards = some []) : (A.deeper env).guards = some [] := h
theorem Fun.okG {x qual : Str} {st : Stmt} {f : Addr} {fd : FuncData} {N ps : List Str} {k : Nat} {sp : Sp} (F : Fun K x qual st f fd) (S : FnScope N ps (defScope st)) (len : ∀ vs H Q E, sp vs H Q E → vs.length = ps.length)
    (hbody : ∀ (cdv : Value) (A : Around) (outer : List Env) (s : Shared) (H : Hp) (vs : List V) (Q : VK), Room k (A.deeper (envOfC qual (defScope st) s.heap.objs.size f cdv)) → A.guards = some [] → sp vs H Q E0 →
      ∃ t, PSs (cxOf CX0 P w K mg base N qual (defScope st) f cdv A outer s H E0).nox (defBody st) t ∧ t { nx := fun _ H' => Q .non H', rt := Q } (start N vs) H) : FnG P w K mg base (k + 1) f fd ps sp := by
  obtain ⟨oc, od, kV, doc, pm, an, cdv, ct, osl, rfl, lk, hcd⟩ := F.ex
  refine ⟨len, fun A outer s H args us vs Q hG hr e0 hb r hsp => ?_⟩
  have hl := len _ _ _ _ hsp
  have stays : ∀ b o, base.get? b = some o → s.heap.get? b = some o := fun b o e => (e0.bs b o e).1
  have KX : K.In s.heap := e0.mod.kin.keeps stays
  have lim : s.heap.NoLimit := e0.mod.nolimit.keeps stays
  have hkind : ∀ y ∈ ps.zip us, (defScope st).names.lookup y.1 = some .local ∨ ((defScope st).names.lookup y.1 = some .cell ∧ ((cellsFrom (s.heap.objs.size + 1) (defScope st).names []).lookup y.1).isSome = true) := fun ⟨n, v⟩ hy =>
    (S.par n (List.of_mem_zip hy).1).imp id fun q => ⟨q, PySem.W.cellsFrom_some _ _ _ (.inl q)⟩
  refine codeAny_call_function hr.depth (KX _ _ lk) rfl S.co S.gen rfl (PySem.W.codeRec_of KX hcd) (hb _ _ _ _ ?_)
  refine wpAny_newFunctionEnv_cells S.kind hkind fun env he s1 x => ?_
  subst he
  refine ⟨lim.keeps x.toInCall.keep, codeAny_func ?_⟩
  obtain ⟨t, ht, hq⟩ := hbody cdv A outer s H vs Q (hr.deeper _) hG hsp
  have I : Inv (cxOf CX0 P w K mg base N qual (defScope st) f cdv A outer s H E0) [] (start N vs) H s1 := inv_start S hr.hd e0 hl r x
  refine wpAny_mono (ht.nox.run [] s1 (start N vs) H _ I hq) (fun fl s' hs => ?_) fun e s' hs => hs
  cases fl with
  | ret u =>
    obtain ⟨v, σ', H', J, rv, q⟩ := hs
    exact ⟨v, H', J.os, J.bare, J.base, J.hok, rv, q⟩
  | next =>
    obtain ⟨σ', H', J, q⟩ := hs
    exact ⟨V.non, H', J.os, J.bare, J.base, J.hok, rfl, q⟩
  | brk =>
    obtain ⟨_, _, _, q⟩ := hs
    exact False.elim q
  | cont =>
    obtain ⟨_, _, _, q⟩ := hs
    exact False.elim q
theorem okDG {x qual : Str} {st : Stmt} {f : Addr} {fd : FuncData} {N ps : List Str} {k : Nat} {g : GC} (F : Fun K x qual st f fd) (S : FnScope N ps (defScope st)) (len : ∀ ds μ R, g ds μ R → ds.length = ps.length)
    (h : ∃ gb : GS, (∀ (cdv : Value) (A : Around) (outer : List Env) (s : Shared) (H : Hp), Room k (A.deeper (envOfC qual (defScope st) s.heap.objs.size f cdv)) → A.guards = some [] →
        DSs (cxOf CX0 P w K mg base N qual (defScope st) f cdv A outer s H E0).nox (defBody st) gb) ∧
      ∀ ds μ R, g ds μ R → gb { nx := fun _ μ' => R .non μ', rt := R } (begin_ N ds) μ) : FnG P w K mg base (k + 1) f fd ps (toSp K g) := by
  obtain ⟨gb, hb, hg⟩ := h
  refine Fun.okG F S (fun vs H Q E ⟨ds, μ, R, rm, rl, q, fw⟩ => by rw [rl.length]; exact len ds μ R q) fun cdv A outer s H vs Q hr hG ⟨ds, μ, R, rm, rl, q, fw⟩ => ?_
  obtain ⟨t, a, b⟩ := (hb cdv A outer s H hr hG).ex
  refine ⟨t, a, b _ H (begin_ N ds) μ _ { nx := fun _ μ' => R .non μ', rt := R } rm ?_ ⟨fun σ H' δ μ' k rm' _ q' => fw .non .non H' μ' k rm' (by unfold Rep; rfl) q', fw, fun _ _ _ _ _ _ _ z => z, fun _ _ _ _ _ _ _ z => z⟩ (hg ds μ R q)⟩
  show RepS K H μ (ds.map some ++ List.replicate (N.length - ds.length) none) (vs.map some ++ List.replicate (N.length - vs.length) none)
  rw [rl.length]
  exact repS_some _ rl
end
/-! ### calls of them -/
section
variable {X : Cx} {k : Nat} {f : Addr} {fd : FuncData} {ps : List Str} {sp : Sp} {x : Str} {p pos : Pos} {e : Expr} {es : List Expr} {t : TA}
theorem run_fnG {pins : List (Addr × Obj)} {σ : L2.St} {H : Hp} {s : Shared} {Q : VK} {us : List Value} {vs : List V} (F : FnG X.prog X.w X.K X.mg X.base k f fd ps sp) (hG : X.A.guards = some []) (hr : Room k X.A) (hb : Binds X.K fd ps [])
    (I : Inv X pins σ H s) (r : Vals vs us) (h : sp vs H Q E0) : wpAny (model X.prog X.w) X.A (call (.ref f) us) (EP X pins σ Q) X.xe s := by
  have hl : us.length = ps.length := by rw [← r.length]; exact F.len _ _ _ _ h
  have hb' := hb s us I.kIn (by rw [List.append_nil]; exact hl)
  rw [List.append_nil] at hb'
  refine wpAny_call (codeAny_mono (F.run X.A X.stack s H ⟨us, []⟩ us vs Q hG hr I.env0 hb' r h) fun r s' hq => ?_)
  cases r with
  | error e => exact hq.elim
  | ok fl =>
    cases fl with
    | ret u => exact I.after hq
    | next => exact False.elim hq
    | brk => exact False.elim hq
    | cont => exact False.elim hq
variable {g : GC} {ga : GA}
theorem de_callG (F : FnG X.prog X.w X.K X.mg X.base k f fd ps (toSp X.K g)) (hG : X.A.guards = some []) (hr : Room k X.A) (hg : Gl X x) (hm : X.mg x = some (.ref f)) (hk : PySem.W.keepIn X.K (.ref f) = true) (hb : Binds X.K fd ps [])
    (ha : DA X (e :: es) ga) (hdb : (x == ("__debug__" : Str)) = false := by decide) (he : starEach (e :: es) X.env = (false, eval e X.env) :: starEach es X.env := by rfl) (hpl : (backTo pos (starEach es X.env)).any (·.1) = false := by rfl) :
    DE X (.Call (.Name x p) (e :: es) [] pos) (gCall g ga) := by
  obtain ⟨t, a1, a2⟩ := ha.ex
  refine ⟨fun σ H Q => t σ H fun vs H1 => toSp X.K g vs H1 Q E0, ⟨fun pins s σ H Q I h => ?_⟩, fun σ H δ μ Q R rm rs q f => ?_⟩
  · refine wpAny_Call_Name_kw (ld_glob I hg hm ?_ hdb)
    refine PySem.W.callWith_K (h₀ := X.base) I.ok.mod.kin hk (thn (a1.run pos pins s σ H _ I h) fun us s1 ⟨vs, H1, I1, r, q⟩ => ⟨I1.kIn, ?_⟩) he hpl
    exact run_fnG F hG hr hb I1 r q
  · exact a2 σ H δ μ _ _ rm rs q fun vs ds H1 μ1 k1 rm1 r1 q1 => ⟨ds, μ1, R, rm1, r1, q1, f.re k1⟩
end
/-! ### the law's call -/
theorem caller_guards : callerA.guards = some [] := rfl
section
variable {P : Program} {w : World} {K : PySem.W.Frag} {mg mb : Str → Option Value} {k : Nat} {fa a : Addr} {fd : FuncData} {x : Str} {g : GC} {s₁ : Shared} {vs : List Value} {ns : List Int}
theorem law_callD (KX : K.In s₁.heap) (hns : s₁.heap.Ns mainGlobals mg) (hb : s₁.heap.Ns builtinsNs mb) (hbb : ∀ x : Str, x ≠ "__name__" → mb x = bootBuiltins x) (hlim : s₁.heap.NoLimit) (hg : s₁.gens = #[])
    (ha : s₁.heap.get? a = some { cls := .type "list", data := .seq vs.toArray }) (hi : IntsAre vs ns) (hl : ns.length ≤ sizeLine) (hr : Room k callerA)
    (F : ∀ base : Heap, K.In base → base.Ns mainGlobals mg → FnG P w K mg base k fa fd [x] (toSp K g)) (hbind : ∀ (s : Shared) (u : Value), BindsTo s fd ⟨[u], []⟩ [(x, u)])
    (hsp : g [.seq (ns.map D.int)] (fun _ => none) fun d _ => d = .bl true) :
    codeAny (model P w) callerA (.call (.ref fa) ⟨[.ref a], []⟩) (fun r s' => r = .ok (.ret (.bool true)) ∧ OldK s₁.heap s'.heap ∧ s'.os = s₁.os ∧ AllBare s'.gens) s₁ := by
  have key : ∀ H : Hp, Only H → SqL K H a (ns.map V.int) → toSp K g [.ref a] H (fun v _ => v = .bl true) fun _ _ _ => False := fun H hO hS => by
    have rm : RM K H (fun _ => none) := fun b o e => nomatch e
    refine ⟨[.seq (ns.map D.int)], fun _ => none, fun d _ => d = .bl true, rm, ?_, hsp, fun v d H' μ' _ _ r e => ?_⟩
    · refine RepL.cons ?_ RepL.nil
      unfold Rep
      refine ⟨a, ns.map V.int, rfl, ?_, RepL.of_ints ns⟩
      rcases hS with h | h
      · exact .inl ⟨h, rfl⟩
      · exact .inr fun H' => .inr h
    · subst e
      exact rep_bl r
  have rv := vals_ints hi
  have lenV := hi.length
  have core : ∀ H : Hp, Only H → SqL K H a (ns.map V.int) → HOk P w H s₁.heap → (∀ b, H b ≠ none → b = a) → (H a ≠ none → K.lookup a = none) →
      codeAny (model P w) callerA (.call (.ref fa) ⟨[.ref a], []⟩) (fun r s' => r = .ok (.ret (.bool true)) ∧ OldK s₁.heap s'.heap ∧ s'.os = s₁.os ∧ AllBare s'.gens) s₁ := by
    intro H hO hS hok hA hK
    have free : ∀ {b : Addr}, b ≠ a → H b = none := fun {b} n => Classical.byContradiction fun q => n (hA b q)
    have nsK : ∀ {b : Addr} {m : Str → Option Value}, s₁.heap.Ns b m → (hidT s₁.heap H).Ns b m := fun {b m} ⟨o, es, ep, e, d, r⟩ =>
      ⟨o, es, ep, hidT_get e (free fun z => by
        subst z
        rw [ha] at e
        cases e
        cases d), d, r⟩
    have hKb : K.In (hidT s₁.heap H) := fun b o e => hidT_get (KX b o e) (Classical.byContradiction fun q => by
      have z := hA b q
      subst z
      rw [hK q] at e
      cases e)
    obtain ⟨mc, l1, l2⟩ := hlim
    have hM : Mod K mg (hidT s₁.heap H) := ⟨hKb, nsK hns, ⟨mb, nsK hb, hbb⟩, ⟨mc, nsK l1, l2⟩⟩
    have e0 : Env0 P w K mg (hidT s₁.heap H) callerA [] s₁ H := ⟨rfl, hM, fun b o e => of_hidT e, Nat.le_of_eq (hidT_size _ _), trivial, fun b hb => absurd (show b ∈ ([] : List Addr) from hb) (by simp), hok, .of_eq hg⟩
    refine codeAny_mono ((F _ hKb (nsK hns)).run callerA [] s₁ H ⟨[.ref a], []⟩ [.ref a] [.ref a] _ caller_guards hr e0 (hbind s₁ (.ref a)) (.cons rfl .nil) (key H hO hS)) fun r s' h => ?_
    cases r with
    | error e => exact h.elim
    | ok fl =>
      cases fl with
      | next => exact False.elim h
      | brk => exact False.elim h
      | cont => exact False.elim h
      | ret u =>
        obtain ⟨v, H', os, bare, un, hok', r', q⟩ := h
        have q' : v = .bl true := q
        subst q'
        obtain rfl : u = Value.bool true := r'
        refine ⟨rfl, OldK.of_keep fun b o e => ?_, os, bare⟩
        rcases hO b with z | ⟨ob, xs, z⟩
        · exact un.keep b o e z (fun z => absurd (show b ∈ ([] : List Addr) from z) (by simp)) (by simp)
        · obtain ⟨e1, _⟩ := hok b _ z
          obtain ⟨e2, _⟩ := hok' b _ (un.frzs b ob _ z)
          rw [e] at e1
          cases e1
          exact e2
  cases hk : K.lookup a with
  | some o =>
    have e := KX a o hk
    rw [ha] at e
    cases e
    exact core (fun _ => none) (fun _ => .inl rfl) (.inr ⟨_, vs.toArray, _, hk, rfl, rfl, rfl, by rw [List.size_toArray, lenV]; exact hl, by simpa using rv⟩) (fun b u z => nomatch z) (fun b z => absurd rfl z) fun z => absurd rfl z
  | none =>
    have at_ : ∀ b, (if b = a then some (HO.frz { cls := .type "list", data := .seq vs.toArray } (.lst (ns.map V.int))) else none) ≠ none → b = a := fun b z => Classical.byContradiction fun n => z (if_neg n)
    refine core (fun b => if b = a then some (.frz { cls := .type "list", data := .seq vs.toArray } (.lst (ns.map V.int))) else none) (fun b => ?_) (.inl (.inr ⟨{ cls := .type "list", data := .seq vs.toArray }, if_pos rfl⟩)) (fun b u z => ?_) at_ fun _ => hk
    · by_cases hb : b = a
      · exact .inr ⟨_, _, if_pos hb⟩
      · exact .inl (if_neg hb)
    · have hb : b = a := at_ b (fun q => by
        have z' := q.symm.trans z
        cases z')
      subst hb
      have z' := (if_pos rfl).symm.trans z
      cases z'
      exact ⟨ha, by rw [List.length_map]; exact hl, vs, _, rv, ha⟩
end
/-- the goal that the head leaves, from the law's reading -/
theorem walk_ofD {l : PySem.W.OpenLaw} {n k : Nat} {q : Program} {loose : List Str} {XP : (Str → Option Value) → Heap → Prop} {YP : World → Heap → Prop} {d : DefRec} {K : Params → PySem.W.Frag} {g : GC} {x : Str}
    (hn : l.most = some n) (hn2 : n ≤ sizeLine) (hdf : d.params.defaults = []) (hr : Room k callerA)
    (hY : ∀ (w : World) (h : Heap), YP w h → (K w.params).In h)
    (F : ∀ (w : World) (mg : Str → Option Value) (fa : Addr) (h : Heap), (K w.params).In h → h.Ns mainGlobals mg → mg d.name = some (.ref fa) →
      ∃ fd : FuncData, (∀ (s : Shared) (u : Value), BindsTo s fd ⟨[u], []⟩ [(x, u)]) ∧
        ∀ base : Heap, (K w.params).In base → base.Ns mainGlobals mg → FnG l.prog w (K w.params) mg base k fa fd [x] (toSp (K w.params) g))
    (hsp : ∀ (ns : List Int), ns.length ≤ n → (∀ z ∈ ns, Builtin.Int.intBits z ≤ 1048576) → g [.seq (ns.map D.int)] (fun _ => none) fun d _ => d = .bl true) :
    PySem.W.WalkO q loose XP YP l.row.toRowW d [] (fun f vs => PySem.call f vs) := by
  refine Att.attach_callB hn hdf fun w s₀ s₁ mg mb fa o pm cd doc a vs ns G Y ho hd hcd hmg hobj hints hlen hbits hg => ?_
  have KX := hY w _ Y
  obtain ⟨fd, hb, hF⟩ := F w mg fa _ KX G.T.g hmg
  exact law_callD KX G.T.g G.T.b G.T.builtins G.T.nolimit hg hobj hints (Nat.le_trans hlen hn2) hr hF hb (hsp ns hlen hbits)
end DL

set_option Elab.async false
set_option linter.all false
set_option maxRecDepth 100000
namespace DL
open PySem PySem.Spec PyProof.Rows L2
/-! ### repr of nested tuples and lists -/
def isBox : D → Bool
  | .tup _ => true
  | .lst _ => true
  | .seq _ => true
  | _ => false
structure ShowOk (p : PyData) : Prop where
  lay : p.layable0 = true
  shrt : p.intsShort 13 = true
  show_ : p.showable = true
  nod : p.hasDict = false
  dp : p.depth ≤ 20
def gRepr1 : G1 := fun x μ R => (∃ i : Int, x = .int i ∧ i.natAbs.log2 < 1920 ∧ R (.str (toString i)) μ) ∨ ∃ p, isBox x = true ∧ py x = some p ∧ ShowOk p ∧ R (.str p.shown) μ
def rRepr (K : PySem.W.Frag) : List V → Hp → VK → Prop := fun xs H Q => (∃ i : Int, xs = [.int i] ∧ i.natAbs.log2 < 1920 ∧ Q (.str (toString i)) H) ∨ ∃ a p, xs = [.ref a] ∧ Dp K H (.ref a) p ∧ ShowOk p ∧ Q (.str p.shown) H
theorem cr_repr {X : Cx} (hG : X.A.guards = some []) (hu : X.A.units + 64 < cLine) : CallR X (.builtin "repr") (rRepr X.K) := by
  intro pins s σ H vs us Q I r h
  rcases h with h | ⟨a, p, rfl, hd, hs, q⟩
  · exact SkE.call_repr_int pins s σ H vs us Q I r h
  · obtain ⟨u, rfl, ru⟩ := vals1 r
    obtain ⟨as, rd⟩ := hd.reads I p _ _ ru
    cases ru
    refine repr_of_reads' (h₀ := s.heap) rd hs.show_ (PyData.noDict_hsm hs.nod) hG (by have := hs.dp; omega) (fun _ _ e => e) (fun h' t tk hk => ?_) ?_
    · exact ⟨.str p.shown, H, I.kept (t' := tk) hk, ⟨t, rfl⟩, q⟩
    · have := shown_le13 hs.lay hs.shrt
      rw [sizeLine_eq]
      omega
theorem sim_repr {K : PySem.W.Frag} : SimC K (rRepr K) (g1 gRepr1) := sim_g1 fun v d H μ Q R rm rv q f => by
  rcases q with ⟨i, rfl, hl, q⟩ | ⟨p, hb, hp, hs, q⟩
  · exact .inl ⟨i, by rw [rep_int rv], hl, fw_now rm to_str q f⟩
  · have hd := rv.dp _ _ _ hp
    have : ∃ a, v = .ref a := by
      cases d <;> try cases hb
      · obtain ⟨a, vs, rfl, _⟩ := rep_tup rv
        exact ⟨a, rfl⟩
      · obtain ⟨a, vs, rfl, _⟩ := rep_lst rv
        exact ⟨a, rfl⟩
      · obtain ⟨a, vs, rfl, _⟩ := rep_seq rv
        exact ⟨a, rfl⟩
    obtain ⟨a, rfl⟩ := this
    exact .inr ⟨a, p, rfl, hd, hs, fw_now rm to_str q f⟩
end DL

set_option Elab.async false
set_option linter.all false
set_option maxRecDepth 100000
namespace DL
open PySem PySem.Spec PyProof.Rows L2
/-! ### max, min of two texts -/
def rMaxS : List V → Hp → VK → Prop := fun xs H Q => ∃ x y : Str, xs = [.str x, .str y] ∧ Q (.str (if x.cps.toList < y.cps.toList then y else x)) H
def rMinS : List V → Hp → VK → Prop := fun xs H Q => ∃ x y : Str, xs = [.str x, .str y] ∧ Q (.str (if y.cps.toList < x.cps.toList then y else x)) H
theorem vals2 {x y : V} {us : List Value} (r : Vals [x, y] us) : ∃ u v, us = [u, v] ∧ RelV x u ∧ RelV y v := by
  cases r with
  | cons r rr =>
    cases rr with
    | cons r' rr =>
      cases rr
      exact ⟨_, _, rfl, r, r'⟩
theorem cr_maxS {X : Cx} (hc : X.calm = true) : CallR X (.builtin "max") rMaxS := by
  intro pins s σ H vs us Q I r h
  obtain ⟨x, y, rfl, q⟩ := h
  obtain ⟨u, v, rfl, ⟨t, rfl⟩, ⟨t', rfl⟩⟩ := vals2 r
  refine max_strs (I.ok.hd hc) fun h' tk hk => ⟨.str (if x.cps.toList < y.cps.toList then y else x), H, I.kept (t' := tk) hk, ?_, q⟩
  split
  · exact ⟨t', rfl⟩
  · exact ⟨t, rfl⟩
theorem cr_minS {X : Cx} (hc : X.calm = true) : CallR X (.builtin "min") rMinS := by
  intro pins s σ H vs us Q I r h
  obtain ⟨x, y, rfl, q⟩ := h
  obtain ⟨u, v, rfl, ⟨t, rfl⟩, ⟨t', rfl⟩⟩ := vals2 r
  refine min_strs (I.ok.hd hc) fun h' tk hk => ⟨.str (if y.cps.toList < x.cps.toList then y else x), H, I.kept (t' := tk) hk, ?_, q⟩
  split
  · exact ⟨t', rfl⟩
  · exact ⟨t, rfl⟩
def gMaxS2 : G2 := fun x y μ R => match x, y with
  | .str x, .str y => R (.str (if x.cps.toList < y.cps.toList then y else x)) μ
  | _, _ => False
def gMinS2 : G2 := fun x y μ R => match x, y with
  | .str x, .str y => R (.str (if y.cps.toList < x.cps.toList then y else x)) μ
  | _, _ => False
theorem sim_maxS {K : PySem.W.Frag} : SimC K rMaxS (g2 gMaxS2) := sim_g2 fun v w d e H μ Q R rm rv rw q f => by
  cases d <;> cases e <;> try exact False.elim q
  exact ⟨_, _, by rw [rep_str rv, rep_str rw], fw_now rm to_str q f⟩
theorem sim_minS {K : PySem.W.Frag} : SimC K rMinS (g2 gMinS2) := sim_g2 fun v w d e H μ Q R rm rv rw q f => by
  cases d <;> cases e <;> try exact False.elim q
  exact ⟨_, _, by rw [rep_str rv, rep_str rw], fw_now rm to_str q f⟩

/-! ### a walk over a list or a tuple -/
def iBoth (K : PySem.W.Frag) (tl : TE) : TI := fun σ H R => tl σ H fun x H1 => ∃ a, x = .ref a ∧ (((∃ xs, SqL K H1 a xs) ∧ R (Itl K a) H1) ∨ ((∃ xs, SqT K H1 a xs) ∧ R (Itt K a) H1))
theorem pi_both {X : Cx} {tg l : Expr} {tl : TE} (hl : PE X l tl) : PI X tg l (iBoth X.K tl) := by
  refine ⟨fun pins s σ H R I h => ?_⟩
  refine thn (hl.run pins s σ H _ I h) fun v s1 ⟨x, H1, I1, r1, a, e, q1⟩ => ?_
  subst e
  cases r1
  have fp : ∀ b, b ∈ [s1.heap.objs.size] → FpOk X pins H1 b := fun b hb => by
    have e : b = s1.heap.objs.size := by simpa using hb
    subst e
    exact I1.fpOk (Nat.le_refl _) (I1.hok.fresh (Nat.le_refl _))
  rcases q1 with ⟨⟨xs, hq⟩, q⟩ | ⟨⟨xs, hq⟩, q⟩
  · obtain ⟨its, rv, p, hz⟩ := I1.list hq
    exact wpAny_pyIter_list p.isList ⟨s1.heap.objs.size, [s1.heap.objs.size], _, _, H1, rfl, I1.kept (t' := s1.toks) fun b o e => Heap.get?_push_of_some _ e, turn_list a _, ⟨_, Heap.get?_push_size _ rfl, rfl, rfl⟩, fp, q⟩
  · obtain ⟨its, rv, p, hz⟩ := I1.tuple hq
    exact wpAny_pyIter_tuple (show s1.heap.IsTuple a its.toArray from p) ⟨s1.heap.objs.size, [s1.heap.objs.size], _, _, H1, rfl, I1.kept (t' := s1.toks) fun b o e => Heap.get?_push_of_some _ e, turn_tuple a _, ⟨_, Heap.get?_push_size _ rfl, rfl, rfl⟩, fp, q⟩
def gItemsB (g : GE) : GI := fun δ μ R => g δ μ fun d μ1 => match d with
  | .lst ds => R ds μ1
  | .seq ds => R ds μ1
  | .tup ds => R ds μ1
  | _ => False
theorem walk_tupD {K : PySem.W.Frag} {a : Addr} {vs : List V} {ds : List D} {H : Hp} {μ : Mu} (im : ImT K H μ a vs) (rl : RepL K H μ ds vs) : WalkD K (Itt K a) ds H μ := by
  have e := rl.length
  rw [WalkD, ← e]
  refine (walk_tup (K := K) (a := a) (xs := vs)).mono (fun H' ⟨μ', k, _⟩ => (im.mono k).sq) fun i H' x H2 hi _ ⟨e1, e2⟩ μ' k rm => ?_
  subst e1
  obtain ⟨d, e3, r1⟩ := (rl.mono k).atV e2
  exact ⟨d, e3, r1, Kp.refl _ _, rm⟩
theorem di_both {X : Cx} {tg e : Expr} {g : GE} (h : DE X e g) : DI X tg e (gItemsB g) := by
  obtain ⟨t, a1, a2⟩ := h.ex
  refine ⟨_, pi_both a1, fun σ H δ μ Q R rm rs q f => ?_⟩
  refine a2 σ H δ μ _ _ rm rs q fun v d H1 μ1 k1 rm1 r1 q1 => ?_
  cases d <;> try exact False.elim q1
  · obtain ⟨a, vs, rfl, im, rl⟩ := rep_tup r1
    exact ⟨a, rfl, .inr ⟨⟨vs, im.sq⟩, f _ _ H1 μ1 k1 rm1 (walk_tupD im rl) q1⟩⟩
  · obtain ⟨a, vs, rfl, e1, e2, rl⟩ := rep_lst r1
    exact ⟨a, rfl, .inl ⟨⟨vs, SqL.of e1⟩, f _ _ H1 μ1 k1 rm1 (walk_seq (fun H' μ' k => SqL.of (k.k1 _ _ e1 e2)) rl) q1⟩⟩
  · obtain ⟨a, vs, rfl, im, rl⟩ := rep_seq r1
    exact ⟨a, rfl, .inl ⟨⟨vs, im.sq⟩, f _ _ H1 μ1 k1 rm1 (walk_seq (fun H' μ' k => (im.mono k).sq) rl) q1⟩⟩
end DL

set_option Elab.async false
set_option linter.all false
set_option maxRecDepth 100000
namespace DL
open PySem PySem.Spec PyProof.Rows L2
/-! ### comprehensions -/
theorem take_succ_get {α : Type} {l : List α} {i : Nat} {x : α} (h : l[i]? = some x) : l.take (i + 1) = l.take i ++ [x] := by
  rw [List.take_add_one, h]
  rfl
section
variable {gt : GG} {gc : GT} {ge : GE} {own : List Nat} {δ : DS} {μ1 : Mu} {R : KD} {items : List D}
/-- nothing changes but the new list -/
theorem lcb_pure (p : D → Bool) (f : D → D) (hl : items.length < sizeLine)
    (hx : ∀ x ∈ items, ∀ (μ' : Mu) (N : Mu → Prop) (Y : KD), (∀ b o, μ1 b = some o → μ' b = some o) → (p x = false → N μ') → (p x = true → Y (f x) μ') →
      gt x (wiped δ own) fun δ2 => gc δ2 μ' fun b μ2 => if b = true then ge δ2 μ2 Y else N μ2) (hr : R (.lst ((items.filter p).map f)) μ1) : LcB gt gc ge own δ R items μ1 := by
  refine ⟨fun a na => ?_⟩
  refine ⟨fun i μ' => μ' = put μ1 a (.lst (((items.take i).filter p).map f)), rfl, fun i x μ' hi e => ?_, fun μ' e => ?_⟩
  · subst e
    have ht := take_succ_get hi
    have hm : x ∈ items := List.mem_of_getElem? hi
    refine hx x hm _ _ _ (fun b o e => ?_) (fun hp => ?_) fun hp => ?_
    · rw [put_ne (fun z => by rw [z, na] at e; cases e)]
      exact e
    · show put μ1 a _ = put μ1 a _
      rw [ht, List.filter_append, List.filter_cons_of_neg (by rw [hp]; simp), List.filter_nil, List.append_nil]
    · refine ⟨_, put_same, ?_, ?_⟩
      · have : (((items.take i).filter p).map f).length ≤ items.length := by
          rw [List.length_map]
          exact Nat.le_trans (List.length_filter_le _ _) (by rw [List.length_take]; omega)
        omega
      · show put (put μ1 a _) a _ = put μ1 a _
        rw [put_put, ht, List.filter_append, List.filter_cons_of_pos hp, List.filter_nil, List.map_append]
        rfl
  · subst e
    refine ⟨_, put_same, ?_⟩
    rw [del_put na, List.take_length]
    exact hr
/-- no condition -/
theorem lcb_map (f : D → D) (hl : items.length < sizeLine)
    (hx : ∀ x ∈ items, ∀ (μ' : Mu) (Y : KD), (∀ b o, μ1 b = some o → μ' b = some o) → Y (f x) μ' → gt x (wiped δ own) fun δ2 => ge δ2 μ' Y) (hr : R (.lst (items.map f)) μ1) : LcB gt gYes ge own δ R items μ1 := by
  refine lcb_pure (fun _ => true) f hl (fun x hm μ' N Y k _ hy => hx x hm μ' Y k (hy rfl)) ?_
  rw [show items.filter (fun _ => true) = items from List.filter_eq_self.mpr fun _ _ => rfl]
  exact hr
/-- the other cells change with the turns: J i ys ν, ys the list so far, ν the store without it -/
theorem lcb_eff (J : Nat → List D → Mu → Prop) (hl : items.length < sizeLine) (h0 : J 0 [] μ1) (hlen : ∀ i ys ν, J i ys ν → ys.length ≤ i)
    (hx : ∀ i x, items[i]? = some x → ∀ (a : Addr) (ys : List D) (ν : Mu) (N : Mu → Prop) (Y : KD), ν a = none → J i ys ν → (∀ ν', ν' a = none → J (i + 1) ys ν' → N (put ν' a (.lst ys))) →
      (∀ y ν', ν' a = none → J (i + 1) (ys ++ [y]) ν' → Y y (put ν' a (.lst ys))) →
      gt x (wiped δ own) fun δ2 => gc δ2 (put ν a (.lst ys)) fun b μ2 => if b = true then ge δ2 μ2 Y else N μ2)
    (hr : ∀ ys ν, J items.length ys ν → R (.lst ys) ν) : LcB gt gc ge own δ R items μ1 := by
  refine ⟨fun a na => ?_⟩
  refine ⟨fun i μ' => ∃ ys ν, ν a = none ∧ J i ys ν ∧ μ' = put ν a (.lst ys), ⟨[], μ1, na, h0, rfl⟩, ?_, ?_⟩
  · rintro i x μ' hi ⟨ys, ν, nν, hj, rfl⟩
    have hi' : i < items.length := (List.getElem?_eq_some_iff.mp hi).1
    refine hx i x hi a ys ν _ _ nν hj (fun ν' n j => ⟨ys, ν', n, j, rfl⟩) fun y ν' n j => ⟨ys, put_same, ?_, ys ++ [y], ν', n, j, put_put⟩
    have := hlen i ys ν hj
    omega
  · rintro μ' ⟨ys, ν, nν, hj, rfl⟩
    refine ⟨ys, put_same, ?_⟩
    rw [del_put nν]
    exact hr ys ν hj
end
theorem sim_chain {K : PySem.W.Frag} {r r' : R2} {ta tb tc : TE} {g g' : G2} {ga gb gc : GE} (h : SimO K r g) (h' : SimO K r' g') (a2 : SimE K ta ga) (b2 : SimE K tb gb) (c2 : SimE K tc gc) : SimE K (tChain r r' ta tb tc) (gChain g g' ga gb gc) := by
  intro σ H δ μ Q R rm rs q f
  refine a2 σ H δ μ _ _ rm rs q fun v d H1 μ1 k1 rm1 r1 q1 => ?_
  refine b2 σ H1 δ μ1 _ _ rm1 (rs.mono k1) q1 fun v2 d2 H2 μ2 k2 rm2 r2 q2 => ?_
  refine h v v2 d d2 H2 μ2 _ _ rm2 (r1.mono k2) r2 q2 fun v3 d3 H3 μ3 k3 rm3 r3 q3 => ?_
  cases d3 <;> try exact False.elim q3
  rename_i k
  unfold Rep at r3
  refine ⟨k, r3, ?_⟩
  cases k with
  | false => exact f (.bl false) (.bl false) H3 μ3 (k1.trans (k2.trans k3)) rm3 (by unfold Rep; rfl) q3
  | true => exact c2 σ H3 δ μ3 _ _ rm3 (rs.mono (k1.trans (k2.trans k3))) q3 fun v4 d4 H4 μ4 k4 rm4 r4 q4 => h' v2 v4 d2 d4 H4 μ4 Q R rm4 (r2.mono (k3.trans k4)) r4 q4 (f.re (k1.trans (k2.trans (k3.trans k4))))
theorem dt_chain {X : Cx} {a b c : Expr} {ga gb gc : GE} {pos : Pos} {op op' : CmpOp} {r r' : R2} {g g' : G2} (ho : OpR X (compareOp op) r) (h : SimO X.K r g) (ho' : OpR X (compareOp op') r') (h' : SimO X.K r' g') (ha : DE X a ga) (hb : DE X b gb) (hc : DE X c gc)
    (hm : lastMarks [op, op'] [b, c] = false := by with_unfolding_all rfl) : DT X (.Compare a [op, op'] [b, c] pos) (gB (gChain g g' ga gb gc)) := by
  obtain ⟨t, a1, a2⟩ := ha.ex
  obtain ⟨u, b1, b2⟩ := hb.ex
  obtain ⟨w, c1, c2⟩ := hc.ex
  exact ⟨_, pt_chain ho ho' a1 b1 c1 hm, sim_b (sim_chain h h' a2 b2 c2)⟩
end DL

set_option Elab.async false
set_option linter.all false
set_option maxRecDepth 100000
namespace DL
open PySem PySem.Spec PyProof.Rows L2
/-! ### a comprehension whose list goes on as a cell -/
structure LcC (gt : GG) (gc : GT) (ge : GE) (own : List Nat) (δ : DS) (R : KD) (items : List D) (μ1 : Mu) : Prop where
  ex : ∀ a, μ1 a = none → ∃ Iv : Nat → Mu → Prop, Iv 0 (put μ1 a (.lst [])) ∧
  (∀ i x μ', items[i]? = some x → Iv i μ' → gt x (wiped δ own) fun δ2 => gc δ2 μ' fun b μ2 => if b = true then ge δ2 μ2 fun y μ3 => ∃ acc, μ3 a = some (.lst acc) ∧ acc.length < sizeLine ∧ Iv (i + 1) (put μ3 a (.lst (acc ++ [y]))) else Iv (i + 1) μ2) ∧
  ∀ μ', Iv items.length μ' → ∃ acc, μ' a = some (.lst acc) ∧ R (.adr a) μ'
def gLcC (gi : GI) (gt : GG) (gc : GT) (ge : GE) (own : List Nat) : GE := fun δ μ R => gi δ μ (LcC gt gc ge own δ R)
theorem sim_lcC {K : PySem.W.Frag} {ti : TI} {gi : GI} {g : TG} {gg : GG} {ow : List Nat} {tc : TT} {gc : GT} {te : TE} {ge : GE} {own : List Nat} (hi : SimI K ti gi) (sg : SimG K g gg ow) (ho : ∀ i ∈ ow, i ∈ own) (hc : SimT K tc gc) (he : SimE K te ge) :
    SimE K (tLc ti g tc te own) (gLcC gi gg gc ge own) := by
  intro σ H δ μ Q R rm rs q f
  refine hi σ H δ μ _ _ rm rs q fun J items H1 μ1 k1 rm1 wk q1 => ?_
  intro D nD
  obtain ⟨Iv, h0, hstep, hend⟩ := q1.ex D (rm1.free nD)
  have kc : Kp H1 μ1 (upd H1 D (.lst [])) (put μ1 D (.lst [])) := Kp.cell nD
  refine lc_it wk (fun i H => ∃ μ, Kp H1 μ1 H μ ∧ RM K H μ ∧ Iv i μ) ⟨_, kc, rm1.cell nD RepL.nil, h0⟩ (fun i H _ ⟨μ, k, rm, _⟩ => ⟨μ, k, rm⟩) ?_ ?_
  · rintro i x H2 H3 hi2 ⟨μ2, k2, rm2, iv⟩ y
    obtain ⟨d, e1, r1, k3, rm3⟩ := y μ2 k2 rm2
    have rsw : RepS K H3 μ2 (wiped δ own) (L2.wipe σ own) := (rs.mono (k1.trans (k2.trans k3))).wipe own
    refine sg x d _ H3 _ μ2 _ _ rm3 rsw r1 (hstep i d μ2 e1 iv) fun σ4 δ4 rs4 q4 w4 => ⟨(w4 own ho).trans wipe_wipe, ?_⟩
    refine hc σ4 H3 δ4 μ2 _ _ rm3 rs4 q4 fun b H5 μ5 k5 rm5 q5 => ?_
    cases b with
    | false => exact ⟨μ5, k2.trans (k3.trans k5), rm5, q5⟩
    | true =>
      rw [if_pos rfl] at q5 ⊢
      refine he σ4 H5 δ4 μ5 _ _ rm5 (rs4.mono k5) q5 fun v d6 H6 μ6 k6 rm6 r6 q6 => ?_
      obtain ⟨acc, ea, hl, iv6⟩ := q6
      obtain ⟨vs, h1, h2⟩ := rm6 D _ ea
      have kw : Kp H6 μ6 (upd H6 D (.lst (vs ++ [v]))) (put μ6 D (.lst (acc ++ [d6]))) := Kp.write ea
      refine ⟨vs, h1, by rw [h2.length]; exact hl, _, k2.trans (k3.trans (k5.trans (k6.trans kw))), ?_, iv6⟩
      exact rm6.put kw (fun a o n _ => upd_ne n) ⟨_, upd_same, (h2.append (RepL.cons r6 RepL.nil)).mono kw _ _⟩
  · rintro H2 ⟨μ2, k2, rm2, iv⟩
    obtain ⟨acc, ea, q2⟩ := hend μ2 iv
    obtain ⟨vs, h1, h2⟩ := rm2 D _ ea
    exact f (.ref D) (.adr D) H2 μ2 (k1.trans k2) rm2 to_adr q2
section
variable {X : Cx}
theorem ds_setLcC {i : Nat} {y : Str} {py : Pos} {elt tg iter : Expr} {ifs : List Expr} {scope : Scope} {own : List (Str × Nat)} {pos spos : Pos} {gi : GI} {g : TG} {gg : GG} {ow : List Nat} {gc : GT} {ge : GE} (hc : X.calm = true) (hN : X.N.Nodup) (hy : X.N[i]? = some y) (hyl : X.env.scope.names.lookup y = some .local)
    (hsw : swapsWith (.ListComp elt [⟨tg, iter, ifs, 0⟩] scope pos) (some (.Name y py)) spos.line X.env = pure true) (hi : DI X tg iter gi) (ok : BlkOk X.N X.env.scope scope own)
    (hg : ∀ (s : Shared) (H : Hp) (C : Addr) (cl : List (Str × Addr)) (fp : List Addr), PG (X.blk s H scope (compEnvC scope cl C X.env) fp) tg g) (sg : SimG X.K g gg ow) (ht : ∀ (s : Shared) (H : Hp) (C : Addr) (cl : List (Str × Addr)) (fp : List Addr), DTs (X.blk s H scope (compEnvC scope cl C X.env) fp) ifs gc)
    (he : ∀ (s : Shared) (H : Hp) (C : Addr) (cl : List (Str × Addr)) (fp : List Addr), DE (X.blk s H scope (compEnvC scope cl C X.env) fp) elt ge) (ho : ∀ i ∈ ow, i ∈ own.map (·.2) := by decide) (hs : ∀ x, foldedSetIterable iter X.env x = pure x := by intro _; rfl) :
    DSt X (.Assign [.Name y py] (.ListComp elt [⟨tg, iter, ifs, 0⟩] scope pos) spos) (gAsg (gLcC gi gg gc ge (own.map (·.2))) (gNm i)) := by
  obtain ⟨ti, i1, i2⟩ := hi.ex
  exact ⟨_, ps_setLc hc hN hy hyl hsw i1 ok hg (fun s H C cl fp => (ht s H C cl fp).pt) (fun s H C cl fp => (he s H C cl fp).pe) hs, sim_asg (sim_lcC i2 sg ho simT_of sim_of) sim_nm⟩
def at3 (ds : List D) (k : D → D → D → Prop) : Prop := match ds with
  | [d, e, f] => k d e f
  | _ => False
theorem at3_of {ds : List D} {k : D → D → D → Prop} (h : at3 ds k) : ∃ d e f, ds = [d, e, f] ∧ k d e f := by
  unfold at3 at h
  split at h
  · exact ⟨_, _, _, rfl, h⟩
  · exact h.elim
/-- a, b, c = x, y, z -/
def gPar3 (i j l : Nat) (ga : GA) : GS := fun F δ μ => ga δ μ fun ds μ1 => at3 ds fun d e f => F.nx (((δ.set i (some d)).set j (some e)).set l (some f)) μ1
theorem ds_par3 {i j l : Nat} {x y z : Str} {a b c : Expr} {ga : GA} {px py pz pt pos : Pos} {kt k2 pt2} (hc : X.calm = true) (hN : X.N.Nodup) (hi : X.N[i]? = some x) (hj : X.N[j]? = some y) (hl : X.N[l]? = some z) (hij : i ≠ j) (hil : i ≠ l) (hjl : j ≠ l)
    (hx : X.env.scope.names.lookup x = some .local) (hy : X.env.scope.names.lookup y = some .local) (hz : X.env.scope.names.lookup z = some .local) (ha : DA X [a, b, c] ga)
    (hw : swappedStores [.Tuple [.Name x px, .Name y py, .Name z pz] kt pt] (.Tuple [a, b, c] k2 pt2) X.env = pure (some [x, y, z]))
    (hs : swapsWithSole [.Tuple [.Name x px, .Name y py, .Name z pz] kt pt] (.Tuple [a, b, c] k2 pt2) pos.line X.env = pure false := by rfl) :
    DSt X (.Assign [.Tuple [.Name x px, .Name y py, .Name z pz] kt pt] (.Tuple [a, b, c] k2 pt2) pos) (gPar3 i j l ga) := by
  obtain ⟨t1, a1, a2⟩ := ha.ex
  refine ⟨_, ps_par3 hc hN hi hj hl hij hil hjl hx hy hz a1 hw hs, fun σ H δ μ E F rm rs e q => ?_⟩
  refine a2 σ H δ μ _ _ rm rs q fun vs ds H1 μ1 k1 rm1 r1 q1 => ?_
  obtain ⟨d, d2, d3, rfl, q1⟩ := at3_of q1
  unfold RepL at r1
  obtain ⟨v, r, rfl, r2, r3⟩ := r1
  obtain ⟨v2, v3, rfl, r4, r5⟩ := repL2 r3
  exact ⟨v, v2, v3, rfl, e.nx _ H1 _ μ1 k1 rm1 ((((rs.mono k1).set i r2).set j r4).set l r5) q1⟩
end
/-- b, c, a -/
def rot {α : Type} : List α → List α
  | [a, b, c] => [b, c, a]
  | l => l
theorem rot_rep {K : PySem.W.Frag} {H : Hp} {μ : Mu} {ds : List D} {vs : List V} (h : RepL K H μ ds vs) (l : ds.length = 3) : RepL K H μ (rot ds) (rot vs) := by
  obtain ⟨a, b, c, rfl⟩ : ∃ a b c, ds = [a, b, c] := by
    cases ds with
    | nil => cases l
    | cons a ds =>
      cases ds with
      | nil => cases l
      | cons b ds =>
        cases ds with
        | nil => cases l
        | cons c ds =>
          cases ds with
          | nil => exact ⟨a, b, c, rfl⟩
          | cons _ _ => simp at l
  unfold RepL at h
  obtain ⟨v, r, rfl, r1, h⟩ := h
  obtain ⟨v2, v3, rfl, r2, r3⟩ := repL2 h
  exact RepL.cons r2 (RepL.cons r3 (RepL.cons r1 RepL.nil))
end DL

set_option Elab.async false
set_option linter.all false
set_option maxRecDepth 100000
namespace K10
open PySem PySem.Spec PyProof.Rows L2 DL
open Builtin.Str (occurrences subAt)
/-! ### where a sign stands first -/
theorem occ_stay (s sub : Str) (hi : Nat) : ∀ (l : List Nat) (st : Array Nat × Nat), 1 ≤ st.fst.size → (forIn l st (StrLaws.occBody s sub hi 1)).run.fst = st.fst
  | [], st, h => rfl
  | a :: l, st, h => by
    rw [List.forIn_cons]
    unfold StrLaws.occBody
    rw [if_neg (by omega)]
    exact occ_stay s sub hi l _ h
theorem occ_hit (s sub : Str) (hi : Nat) : ∀ (l : List Nat) (free i : Nat), (∀ j ∈ l, free ≤ j) → l.find? (fun j => decide (j + sub.length ≤ hi) && subAt s sub j) = some i →
    (forIn l ((#[] : Array Nat), free) (StrLaws.occBody s sub hi 1)).run.fst = #[i]
  | [], free, i, _, h => by cases h
  | a :: l, free, i, hf, h => by
    rw [List.forIn_cons]
    unfold StrLaws.occBody
    have ha : free ≤ a := hf a (List.mem_cons_self ..)
    by_cases hc : (decide (a + sub.length ≤ hi) && subAt s sub a) = true
    · have h' := (List.find?_cons_of_pos (p := fun j => decide (j + sub.length ≤ hi) && subAt s sub j) (l := l) (a := a) hc).symm.trans h
      cases h'
      have h1 := Bool.and_eq_true_iff.mp hc
      rw [if_pos ⟨⟨⟨by simp, ha⟩, of_decide_eq_true h1.1⟩, h1.2⟩]
      exact occ_stay s sub hi l _ (by simp)
    · have h := (List.find?_cons_of_neg (p := fun j => decide (j + sub.length ≤ hi) && subAt s sub j) (l := l) (a := a) hc).symm.trans h
      rw [if_neg (fun q => hc (by rw [decide_eq_true q.1.2, q.2]; rfl))]
      exact occ_hit s sub hi l free i (fun j hj => hf j (List.mem_cons_of_mem _ hj)) h
theorem find_range (p : Nat → Bool) : ∀ (n s i : Nat), s ≤ i → i < s + n → p i = true → (∀ j, s ≤ j → j < i → p j = false) → (List.range' s n).find? p = some i
  | 0, s, i, h1, h2, _, _ => by omega
  | n + 1, s, i, h1, h2, h3, h4 => by
    rw [List.range'_succ]
    by_cases e : s = i
    · subst e
      rw [List.find?_cons_of_pos h3]
    · rw [List.find?_cons_of_neg (by rw [h4 s (Nat.le_refl _) (by omega)]; simp)]
      exact find_range p n (s + 1) i (by omega) (by omega) h3 fun j hj => h4 j (by omega)
/-- the first place of a sign that is there -/
theorem occ_first {z : Str} {c : Nat} (h : c ∈ z.cps.toList) : occurrences z ⟨#[c]⟩ 0 z.length 1 = [z.cps.toList.idxOf c] := by
  rw [StrLaws.occ_eq]
  have hl : z.cps.toList.idxOf c < z.cps.toList.length := List.idxOf_lt_length_of_mem h
  have hl2 : z.cps.toList.length = z.length := by rw [Array.length_toList]; rfl
  have h1 : (⟨#[c]⟩ : Str).length = 1 := rfl
  have at_ : z.cps.toList[z.cps.toList.idxOf c]? = some c := by
    rw [List.getElem?_eq_getElem hl, List.getElem_idxOf hl]
  have f := find_range (fun j => decide (j + (⟨#[c]⟩ : Str).length ≤ z.length) && subAt z ⟨#[c]⟩ j) (z.length + 1 - 0) 0 (z.cps.toList.idxOf c) (Nat.zero_le _) (by omega) (by
      have := (StrLaws.subAt_one z c (z.cps.toList.idxOf c)).mpr at_
      show (decide _ && _) = true
      rw [this.2, decide_eq_true this.1]
      rfl) (fun j _ hj => by
      cases q : (decide (j + (⟨#[c]⟩ : Str).length ≤ z.length) && subAt z ⟨#[c]⟩ j) with
      | false => rfl
      | true =>
        have q' := Bool.and_eq_true_iff.mp q
        have := (StrLaws.subAt_one z c j).mp ⟨of_decide_eq_true q'.1, q'.2⟩
        have hjl : j < z.cps.toList.length := by omega
        rw [List.getElem?_eq_getElem hjl] at this
        have e : z.cps.toList[j] = c := Option.some.inj this
        have := List.not_of_lt_findIdx (p := fun x => x == c) (xs := z.cps.toList) (i := j) (by exact hj)
        rw [e] at this
        simp at this)
  rw [occ_hit z ⟨#[c]⟩ z.length _ 0 _ (fun j _ => Nat.zero_le j) f]
/-! ### marks -/
/-- one tie's step over the row of marks -/
def stepM (p r : List Nat) (y : Nat × Nat) : List Nat :=
  let a := r.getD (p.idxOf y.1) 0
  let b := r.getD (p.idxOf y.2) 0
  r.map fun x => if x = max a b then min a b else x
def marksL (p : List Nat) (ys : List (Nat × Nat)) : List Nat := ys.foldl (stepM p) p
theorem stepM_len (p r : List Nat) (y : Nat × Nat) : (stepM p r y).length = r.length := by
  unfold stepM
  rw [List.length_map]
theorem foldl_len (p : List Nat) : ∀ (ys : List (Nat × Nat)) (r : List Nat), (ys.foldl (stepM p) r).length = r.length
  | [], r => rfl
  | y :: ys, r => by
    rw [List.foldl_cons, foldl_len p ys, stepM_len]
theorem replL_one (m n : Nat) : ∀ l : List Nat, StrLaws.replL [m] [n] l = l.map fun x => if x = m then n else x
  | [] => by rw [StrLaws.replL_nil]; rfl
  | x :: l => by
    by_cases e : x = m
    · rw [StrLaws.replL_hit (by simp) (by rw [e]; rfl), List.map_cons, if_pos e]
      show [n] ++ StrLaws.replL [m] [n] l = _
      rw [replL_one m n l]
      rfl
    · rw [StrLaws.replL_miss (by
        intro h
        have h' : [x] = [m] := h
        exact e (by simpa using h')), List.map_cons, if_neg e, replL_one m n l]
theorem swapped_list (r : Str) (a b : Nat) : (swapped r a b).cps.toList = r.cps.toList.map fun x => if x = max a b then min a b else x := by
  unfold swapped
  by_cases e : a = b
  · rw [if_pos e]
    subst e
    have : (fun x => if x = max a a then min a a else x) = id := by
      funext x
      by_cases h : x = max a a
      · rw [if_pos h]
        show min a a = x
        omega
      · rw [if_neg h]
        rfl
    rw [this, List.map_id]
  · rw [if_neg e, StrLaws.replace_list (by show 1 ≤ 1; omega)]
    exact replL_one _ _ _
/-- a text of two signs as the pair of both -/
def ends (y : Str) : Nat × Nat := (y.cps.toList.getD 0 0, y.cps.toList.getD 1 0)
def toS (l : List Nat) : Str := ⟨l.toArray⟩
theorem toS_list (l : List Nat) : (toS l).cps.toList = l := by simp [toS]
theorem ofS (x : Str) : toS x.cps.toList = x := by
  cases x
  simp [toS]
theorem swapped_step {p r : List Nat} {y : Nat × Nat} {d0 d1 : Nat} (h0 : r.getD (p.idxOf y.1) 0 = d0) (h1 : r.getD (p.idxOf y.2) 0 = d1) : swapped (toS r) d0 d1 = toS (stepM p r y) := by
  rw [← ofS (swapped (toS r) d0 d1), swapped_list, toS_list]
  unfold stepM
  rw [h0, h1]
end K10

set_option Elab.async false
set_option linter.all false
set_option maxRecDepth 100000
namespace DL
open PySem PySem.Spec PyProof.Rows L2
/-! ### what is forgotten, or goes on as a list that nobody changes, at a return -/
structure Into (d : D) (μ : Mu) (d' : D) (μ' : Mu) : Prop where
  ok : ∀ (K : PySem.W.Frag) (H : Hp) (v : V), RM K H μ → Rep K H μ d v → Kp H μ H μ' ∧ RM K H μ' ∧ Rep K H μ' d' v
section
variable {d d1 d2 : D} {μ μ1 μ2 : Mu} {K : PySem.W.Frag} {H : Hp} {R : KD} {Q : VK}
theorem Into.refl : Into d μ d μ := ⟨fun K H v rm r => ⟨Kp.refl _ _, rm, r⟩⟩
theorem Into.trans (a : Into d μ d1 μ1) (b : Into d1 μ1 d2 μ2) : Into d μ d2 μ2 := ⟨fun K H v rm r => by
  obtain ⟨k1, rm1, r1⟩ := a.ok K H v rm r
  obtain ⟨k2, rm2, r2⟩ := b.ok K H v rm1 r1
  exact ⟨k1.trans k2, rm2, r2⟩⟩
theorem Into.drop (a : Addr) : Into d μ d (del μ a) := ⟨fun K H v rm r => ⟨Kp.drop, rm.drop, r.mono Kp.drop⟩⟩
theorem Into.frz {a : Addr} {ds : List D} (e : μ a = some (.lst ds)) : Into (.adr a) μ (.lst ds) (del μ a) := ⟨fun K H v rm r => by
  obtain ⟨vs, h1, h2⟩ := rm a _ e
  refine ⟨Kp.drop, rm.drop, ?_⟩
  unfold Rep at r ⊢
  exact ⟨a, vs, r, h1, del_same, h2.mono Kp.drop _ _⟩⟩
theorem Into.less (h : ∀ c o, μ1 c = some o → μ c = some o) : Into d μ d μ1 := ⟨fun K H v rm r => by
  have k : Kp H μ H μ1 := ⟨fun b o e _ => e, fun b e => by
    left
    intro z
    cases q : μ1 b with
    | none => exact e q
    | some o =>
      rw [h b o q] at z
      cases z⟩
  refine ⟨k, fun a o e => ?_, r.mono k⟩
  have q := rm a o (h a o e)
  cases o with
  | lst ds => obtain ⟨vs, h1, h2⟩ := q; exact ⟨vs, h1, h2.mono k _ _⟩
  | dct kvs => obtain ⟨vs, h1, h2⟩ := q; exact ⟨vs, h1, h2.mono k _ _⟩
  | dtt kvs => obtain ⟨vs, h1, h2⟩ := q; exact ⟨vs, h1, h2.mono k _ _⟩
  | lck kvs => obtain ⟨o, vs, h1, h2⟩ := q; exact ⟨o, vs, h1, h2.mono k _ _⟩
  | ftp ds => obtain ⟨o, vs, h1, d, h2⟩ := q; exact ⟨o, vs, h1, d, h2.mono k _ _⟩
  | ins C fs => obtain ⟨dx, vs, h1, h2⟩ := q; exact ⟨dx, vs, h1, h2.mono k _ _⟩⟩
def freed (R : KD) : KD := fun d μ => ∃ d' μ', Into d μ d' μ' ∧ R d' μ'
theorem freed_now (h : R d μ) : freed R d μ := ⟨d, μ, .refl, h⟩
theorem fw_freed (f : Fw K H μ R Q) : Fw K H μ (freed R) Q := fun v d H' μ' k rm r ⟨d', μ2, i, q⟩ => by
  obtain ⟨k2, rm2, r2⟩ := i.ok K H' v rm r
  exact f v d' H' μ2 (k.trans k2) rm2 r2 q
end
section
variable {P : Program} {w : World} {K : PySem.W.Frag} {mg : Str → Option Value} {base : Heap}
theorem okDF {x qual : Str} {st : Stmt} {f : Addr} {fd : FuncData} {N ps : List Str} {k : Nat} {g : GC} (F : Fun K x qual st f fd) (S : FnScope N ps (defScope st)) (len : ∀ ds μ R, g ds μ R → ds.length = ps.length)
    (h : ∃ gb : GS, (∀ (cdv : Value) (A : Around) (outer : List Env) (s : Shared) (H : Hp) (E : XK), Room k (A.deeper (envOfC qual (defScope st) s.heap.objs.size f cdv)) →
        DSs (cxOf CX0 P w K mg base N qual (defScope st) f cdv A outer s H E).nox (defBody st) gb) ∧
      ∀ ds μ R, g ds μ R → gb { nx := fun _ μ' => freed R .non μ', rt := freed R } (begin_ N ds) μ) : FnOk P w K mg base CX0 (k + 1) f fd ps (toSp K g) := by
  obtain ⟨gb, hb, hg⟩ := h
  refine F.ok S (fun vs H Q E ⟨ds, μ, R, rm, rl, q, fw⟩ => by rw [rl.length]; exact len ds μ R q) fun cdv A outer s H vs Q E hr ⟨ds, μ, R, rm, rl, q, fw⟩ => ?_
  obtain ⟨t, a, b⟩ := (hb cdv A outer s H E hr).ex
  have fw' := fw_freed fw
  refine ⟨t, a, b _ H (begin_ N ds) μ _ { nx := fun _ μ' => freed R .non μ', rt := freed R } rm ?_ ⟨fun σ H' δ μ' k rm' _ q' => fw' .non .non H' μ' k rm' (by unfold Rep; rfl) q', fw', fun _ _ _ _ _ _ _ z => z, fun _ _ _ _ _ _ _ z => z⟩ (hg ds μ R q)⟩
  show RepS K H μ (ds.map some ++ List.replicate (N.length - ds.length) none) (vs.map some ++ List.replicate (N.length - vs.length) none)
  rw [rl.length]
  exact repS_some _ rl
end
end DL

set_option Elab.async false
set_option linter.all false
set_option maxRecDepth 100000
namespace DL
open PySem PySem.Spec PyProof.Rows L2
/-! ### tuple * int, also once and no time -/
theorem tuple_mul1 (l : Addr) (items : Array Value) (n : Nat) (dd : Option Addr) (sl : Array (Option Value)) (u : Tok) :
    Meets (Builtin.«tuple.__mul__» ⟨[.ref l, .int 1 u], []⟩) (fun _ R s => s.heap.get? l = some { cls := .type "tuple", dict := dd, data := .seq items n, slots := sl } ∧ R (.ok (.ret (Value.ref l))) s) :=
  .of_wp fun prog w A R s h => by
    obtain ⟨hp, g, d, tk, os⟩ := s
    obtain ⟨hl, h⟩ := h
    have f1 := AutoSeq1.idx_int
    wp_walk using wpAny_loadPart' hl
    exact ⟨_, rfl, h⟩
theorem tuple_mul0 (l : Addr) (items : Array Value) (n : Nat) (dd : Option Addr) (sl : Array (Option Value)) (u : Tok) (h0 : items.isEmpty = false) :
    Meets (Builtin.«tuple.__mul__» ⟨[.ref l, .int 0 u], []⟩) (fun _ R s => s.heap.get? l = some { cls := .type "tuple", dict := dd, data := .seq items n, slots := sl } ∧
      R (.ok (.ret (Value.ref s.heap.objs.size))) { s with heap := s.heap.push { cls := Value.type "tuple", data := Data.seq #[] }, toks := s.toks }) :=
  .of_wp fun prog w A R s h => by
    obtain ⟨hp, g, d, tk, os⟩ := s
    obtain ⟨hl, h⟩ := h
    have f1 := AutoSeq1.idx_int
    wp_walk using wpAny_loadPart' hl
    repeat (first
      | (refine wpAny_ite_false (decide_eq_false (by rw [h0]; decide)) ?_; wp_walk using wpAny_loadPart' hl))
    exact ⟨_, rfl, h⟩
end DL

set_option Elab.async false
set_option linter.all false
set_option maxRecDepth 100000
namespace DL
open PySem PySem.Spec PyProof.Rows L2
/-! ### min, max of a list, of a tuple of ints; divmod by more -/
section
variable {prog : Program} {w : World} {A : Around} {E : Value → Shared → Prop} {s : Shared} {l : Addr} {xs : Array (Int × Tok)}
theorem iter_intTuple {Q : Value → Shared → Prop} (hl : s.heap.IsTuple l (intItems xs))
    (h : ∀ s₂ : Shared, s₂ = { s with heap := s.heap.push { cls := .type "tuple_iterator", data := .fields #[.ref l, .int 0 0] } } →
      (s₂.heap.get? s.heap.objs.size = some { cls := .type "tuple_iterator", data := .fields #[.ref l, .int 0 0] } ∧ s₂.heap.IsTuple l (intItems xs)) → (∀ b ∈ [s.heap.objs.size, l], b < s₂.heap.objs.size) → l ≠ s.heap.objs.size → Q (.ref s.heap.objs.size) s₂) :
    wpAny (model prog w) A (pyIter (.ref l)) Q E s := by
  have hlt : l < s.heap.objs.size := by obtain ⟨_, e, _⟩ := hl; exact Heap.lt_size e
  refine wpAny_pyIter_tuple hl (h _ rfl ⟨Heap.get?_push_size _ rfl, hl.push _⟩ (fun b hb => ?_) (Nat.ne_of_lt hlt))
  show b < (s.heap.push _).objs.size
  rw [Heap.size_push]
  rcases List.mem_cons.mp hb with rfl | hb
  · exact Nat.lt_succ_self _
  · rcases List.mem_cons.mp hb with rfl | hb
    · exact Nat.lt_succ_of_lt hlt
    · cases hb
theorem old_keptT {h' : Heap} (hk : ∀ b o, b ∉ [s.heap.objs.size] → (s.heap.push { cls := .type "tuple_iterator", data := .fields #[.ref l, .int 0 0] }).get? b = some o → h'.get? b = some o) :
    ∀ b o, s.heap.get? b = some o → h'.get? b = some o := fun b o e => by
  refine hk b o (fun hm => ?_) (Heap.get?_push_of_some _ e)
  rcases List.mem_cons.mp hm with e1 | hm
  · exact absurd (e1 ▸ Heap.lt_size e) (Nat.lt_irrefl _)
  · cases hm
theorem max_intTuple {Q : Value → Shared → Prop} (hh : A.handled = none) (hl : s.heap.IsTuple l (intItems xs)) (hne : 0 < xs.size)
    (h : ∀ v h' tk, (intItems xs)[argBest (fun i j => decide (numAt xs i > numAt xs j)) (xs.size - 1)]? = some v → (∀ b o, s.heap.get? b = some o → h'.get? b = some o) → Q v { s with heap := h', toks := tk }) :
    wpAny (model prog w) A (call (.builtin "max") [.ref l]) Q E s := by
  refine call_max_walk (iter_intTuple hl fun s₂ e st hfp hlI => ?_)
  subst e
  refine ⟨_, [_, l], [_], _, _, _, _, rfl, Walks.tuple (A := A.in1) hh _ l hlI (intItems xs), ⟨⟨_, st.1, rfl, rfl⟩, st.2⟩, hfp, by simpa [intItems] using hne, CmpOf.ints_gt (numAt xs) (fun _ _ => intItems_at), fun v h' tk hP hk => ?_⟩
  exact h v h' tk (by simpa [intItems] using hP) (old_keptT hk)
theorem min_intTuple {Q : Value → Shared → Prop} (hh : A.handled = none) (hl : s.heap.IsTuple l (intItems xs)) (hne : 0 < xs.size)
    (h : ∀ v h' tk, (intItems xs)[argBest (fun i j => decide (numAt xs i < numAt xs j)) (xs.size - 1)]? = some v → (∀ b o, s.heap.get? b = some o → h'.get? b = some o) → Q v { s with heap := h', toks := tk }) :
    wpAny (model prog w) A (call (.builtin "min") [.ref l]) Q E s := by
  refine call_min_walk (iter_intTuple hl fun s₂ e st hfp hlI => ?_)
  subst e
  refine ⟨_, [_, l], [_], _, _, _, _, rfl, Walks.tuple (A := A.in1) hh _ l hlI (intItems xs), ⟨⟨_, st.1, rfl, rfl⟩, st.2⟩, hfp, by simpa [intItems] using hne, CmpOf.ints_lt (numAt xs) (fun _ _ => intItems_at), fun v h' tk hP hk => ?_⟩
  exact h v h' tk (by simpa [intItems] using hP) (old_keptT hk)
end
section
variable {prog : Program} {w : World} {A : Around} {E : Value → Shared → Prop} {s : Shared} {l : Addr} {its : List Value} {ns : List Int} {Q : Value → Shared → Prop}
theorem max_rawT (hh : A.handled = none) (hl : s.heap.IsTuple l its.toArray) (hi : IntsAre its ns) (hne : 0 < ns.length)
    (h : ∀ h' tk M t', (∀ b o, s.heap.get? b = some o → h'.get? b = some o) → M ∈ ns → (∀ a, a ∈ ns → a ≤ M) → Q (.int M t') { s with heap := h', toks := tk }) : wpAny (model prog w) A (call (.builtin "max") [.ref l]) Q E s := by
  obtain ⟨xs, e⟩ := hi.allInts.items
  have hn : numsOf (intItems xs).toList = ns := by rw [← e]; exact hi.numsOf
  rw [nums_intItems] at hn
  subst hn
  rw [e] at hl
  have hsz : 0 < xs.size := by simpa using hne
  refine max_intTuple hh hl hsz fun v h' tk hv hk => ?_
  obtain ⟨t, rfl⟩ := intItems_at hv
  obtain ⟨h1, h2⟩ := argBest_gt (numAt xs) (xs.size - 1)
  refine h h' tk _ t hk ?_ fun a ha => ?_
  · rw [numAt_eq]; exact PySem.getD_mem (by rw [List.length_map, Array.length_toList]; omega)
  · obtain ⟨j, hj, rfl⟩ := mem_getD ha
    rw [List.length_map, Array.length_toList] at hj
    rw [← numAt_eq]; exact h2 j (by omega)
theorem min_rawT (hh : A.handled = none) (hl : s.heap.IsTuple l its.toArray) (hi : IntsAre its ns) (hne : 0 < ns.length)
    (h : ∀ h' tk M t', (∀ b o, s.heap.get? b = some o → h'.get? b = some o) → M ∈ ns → (∀ a, a ∈ ns → M ≤ a) → Q (.int M t') { s with heap := h', toks := tk }) : wpAny (model prog w) A (call (.builtin "min") [.ref l]) Q E s := by
  obtain ⟨xs, e⟩ := hi.allInts.items
  have hn : numsOf (intItems xs).toList = ns := by rw [← e]; exact hi.numsOf
  rw [nums_intItems] at hn
  subst hn
  rw [e] at hl
  have hsz : 0 < xs.size := by simpa using hne
  refine min_intTuple hh hl hsz fun v h' tk hv hk => ?_
  obtain ⟨t, rfl⟩ := intItems_at hv
  obtain ⟨h1, h2⟩ := argBest_lt (numAt xs) (xs.size - 1)
  refine h h' tk _ t hk ?_ fun a ha => ?_
  · rw [numAt_eq]; exact PySem.getD_mem (by rw [List.length_map, Array.length_toList]; omega)
  · obtain ⟨j, hj, rfl⟩ := mem_getD ha
    rw [List.length_map, Array.length_toList] at hj
    rw [← numAt_eq]; exact h2 j (by omega)
end
def rMaxA (K : PySem.W.Frag) : List V → Hp → VK → Prop := fun vs H Q => ∃ (a : Addr) (ns : List Int), vs = [V.ref a] ∧ (SqL K H a (ns.map V.int) ∨ SqT K H a (ns.map V.int)) ∧ 0 < ns.length ∧ ∀ m, m ∈ ns → (∀ y, y ∈ ns → y ≤ m) → Q (.int m) H
def rMinA (K : PySem.W.Frag) : List V → Hp → VK → Prop := fun vs H Q => ∃ (a : Addr) (ns : List Int), vs = [V.ref a] ∧ (SqL K H a (ns.map V.int) ∨ SqT K H a (ns.map V.int)) ∧ 0 < ns.length ∧ ∀ m, m ∈ ns → (∀ y, y ∈ ns → m ≤ y) → Q (.int m) H
theorem cr_maxA {X : Cx} (hc : X.calm = true) : CallR X (.builtin "max") (rMaxA X.K) := by
  intro pins s σ H vs us Q I r h
  obtain ⟨a, ns, rfl, hs | hs, hne, q⟩ := h
  · exact cr_max hc pins s σ H [V.ref a] us Q I r ⟨a, ns, rfl, hs, hne, q⟩
  · obtain ⟨its, rv, hl, _⟩ := I.tuple hs
    rw [Vals.ref1 r]
    exact max_rawT (I.ok.hd hc) hl rv.ints hne fun h' tk m t' hk h1 h2 => ⟨.int _, H, I.kept hk, ⟨_, rfl⟩, q m h1 h2⟩
theorem cr_minA {X : Cx} (hc : X.calm = true) : CallR X (.builtin "min") (rMinA X.K) := by
  intro pins s σ H vs us Q I r h
  obtain ⟨a, ns, rfl, hs | hs, hne, q⟩ := h
  · exact cr_min hc pins s σ H [V.ref a] us Q I r ⟨a, ns, rfl, hs, hne, q⟩
  · obtain ⟨its, rv, hl, _⟩ := I.tuple hs
    rw [Vals.ref1 r]
    exact min_rawT (I.ok.hd hc) hl rv.ints hne fun h' tk m t' hk h1 h2 => ⟨.int _, H, I.kept hk, ⟨_, rfl⟩, q m h1 h2⟩
/-- the ints of a list, a tuple, a cell -/
def intsAt (x : D) (μ : Mu) (R : List Int → Prop) : Prop := match x with
  | .lst ds => ∃ ns, ds = List.map D.int ns ∧ R ns
  | .seq ds => ∃ ns, ds = List.map D.int ns ∧ R ns
  | .tup ds => ∃ ns, ds = List.map D.int ns ∧ R ns
  | .adr a => ∃ ns, μ a = some (.lst (List.map D.int ns)) ∧ R ns
  | _ => False
theorem intsAt_seq {K : PySem.W.Frag} {H : Hp} {μ : Mu} {d : D} {v : V} {R : List Int → Prop} (rm : RM K H μ) (rv : Rep K H μ d v) (q : intsAt d μ R) : ∃ a ns, v = .ref a ∧ (SqL K H a (ns.map V.int) ∨ SqT K H a (ns.map V.int)) ∧ R ns := by
  cases d <;> try exact False.elim q
  · obtain ⟨ns, rfl, q⟩ := q
    obtain ⟨p, vs, rfl, i, l⟩ := rep_tup rv
    exact ⟨p, ns, rfl, .inr (by rw [← l.ints]; exact i.sq), q⟩
  · obtain ⟨ns, rfl, q⟩ := q
    obtain ⟨p, vs, rfl, i, _, l⟩ := rep_lst rv
    exact ⟨p, ns, rfl, .inl (by rw [← l.ints]; exact SqL.of i), q⟩
  · obtain ⟨ns, rfl, q⟩ := q
    obtain ⟨p, vs, rfl, i, l⟩ := rep_seq rv
    exact ⟨p, ns, rfl, .inl (by rw [← l.ints]; exact i.sq), q⟩
  · obtain ⟨ns, e0, q⟩ := q
    obtain ⟨vs, h1, l⟩ := rm _ _ e0
    exact ⟨_, ns, rep_adr rv, .inl (by rw [← l.ints]; exact SqL.of h1), q⟩
def gMax1 : G1 := fun x μ R => intsAt x μ fun ns => ns ≠ [] ∧ ∀ m ∈ ns, (∀ y ∈ ns, y ≤ m) → R (.int m) μ
def gMin1 : G1 := fun x μ R => intsAt x μ fun ns => ns ≠ [] ∧ ∀ m ∈ ns, (∀ y ∈ ns, m ≤ y) → R (.int m) μ
theorem sim_max1 {K : PySem.W.Frag} : SimC K (rMaxA K) (g1 gMax1) := sim_g1 fun v d H μ Q R rm rv q f => by
  obtain ⟨a, ns, rfl, hs, hne, q⟩ := intsAt_seq rm rv q
  exact ⟨a, ns, rfl, hs, List.length_pos_iff.mpr hne, fun m h1 h2 => fw_now rm to_int (q m h1 h2) f⟩
theorem sim_min1 {K : PySem.W.Frag} : SimC K (rMinA K) (g1 gMin1) := sim_g1 fun v d H μ Q R rm rv q f => by
  obtain ⟨a, ns, rfl, hs, hne, q⟩ := intsAt_seq rm rv q
  exact ⟨a, ns, rfl, hs, List.length_pos_iff.mpr hne, fun m h1 h2 => fw_now rm to_int (q m h1 h2) f⟩
/-- divmod by what is below 2 ** 64 -/
def gDivmodW2 : G2 := fun x y μ R => match x, y with
  | .int i, .int j => (0 < j ∧ j < 2 ^ 64) ∧ R (.tup [.int (i / j), .int (i % j)]) μ
  | _, _ => False
theorem noPy64 {i j : Int} (h0 : 0 < j) (h : j < 2 ^ 64) : Builtin.divisionGoesByPylong i j = false := by
  refine PyProof.noPylong_of_log2 ?_
  by_cases e : j.natAbs = 0
  · omega
  · exact Nat.lt_trans ((Nat.log2_lt e).mpr (show j.natAbs < 2 ^ 64 by omega)) (by decide)
theorem sim_divmodW2 {K : PySem.W.Frag} : SimC K (fun xs H Q => ∃ i j, xs = [.int i, .int j] ∧ CDivP i j ∧ ∀ p, H p = none → Q (.ref p) (upd H p (.tup [.int (i / j), .int (i % j)]))) (g2 gDivmodW2) := sim_g2 fun v w d e H μ Q R rm rv rw q f => by
  cases d <;> cases e <;> try exact False.elim q
  rename_i i j
  rw [rep_int rv, rep_int rw]
  obtain ⟨⟨h0, h1⟩, q⟩ := q
  exact ⟨i, j, rfl, ⟨h0, noPy64 h0 h1⟩, fun t n => fw_tup rm n (RepL.cons to_int (RepL.cons to_int RepL.nil)) q f⟩
/-! ### count, index of a list of ints -/
def okLst : D → Mu → Prop := fun d _ => match d with
  | .lst _ => True
  | .seq _ => True
  | _ => False
theorem ok_lst {K : PySem.W.Frag} : OkTy K "list" okLst := fun v d H μ rm r h => by
  cases d <;> try exact False.elim h
  · obtain ⟨p, vs, rfl, i, _, l⟩ := rep_lst r
    exact .inl ⟨rfl, _, SqL.of i⟩
  · obtain ⟨p, vs, rfl, i, l⟩ := rep_seq r
    exact .inl ⟨rfl, _, i.sq⟩
def gLCount2 : G2 := fun x y μ R => match y with
  | .int k => intsAt x μ fun ns => R (.int (ns.count k : Nat)) μ
  | _ => False
def noTup : D → Prop
  | .tup _ => False
  | _ => True
theorem intsAt_lst {K : PySem.W.Frag} {H : Hp} {μ : Mu} {d : D} {v : V} {R : List Int → Prop} (rm : RM K H μ) (rv : Rep K H μ d v) (n : noTup d) (q : intsAt d μ R) : ∃ a ns, v = .ref a ∧ SqL K H a (ns.map V.int) ∧ R ns := by
  cases d <;> try exact False.elim q
  · exact False.elim n
  · obtain ⟨ns, rfl, q⟩ := q
    obtain ⟨p, vs, rfl, i, _, l⟩ := rep_lst rv
    exact ⟨p, ns, rfl, by rw [← l.ints]; exact SqL.of i, q⟩
  · obtain ⟨ns, rfl, q⟩ := q
    obtain ⟨p, vs, rfl, i, l⟩ := rep_seq rv
    exact ⟨p, ns, rfl, by rw [← l.ints]; exact i.sq, q⟩
  · obtain ⟨ns, e0, q⟩ := q
    obtain ⟨vs, h1, l⟩ := rm _ _ e0
    exact ⟨_, ns, rep_adr rv, by rw [← l.ints]; exact SqL.of h1, q⟩
def gLCount : G2 := fun x y μ R => noTup x ∧ gLCount2 x y μ R
theorem sim_lcount {K : PySem.W.Frag} : SimM K (rCntI K) (gM1 gLCount) := sim_m1 fun x v dx d H μ Q R rm rx rv q f => by
  obtain ⟨n, q⟩ := q
  cases d <;> try exact False.elim q
  rename_i k
  obtain ⟨a, ns, rfl, hs, q⟩ := intsAt_lst rm rx n q
  exact ⟨a, ns, k, rfl, by rw [rep_int rv], hs, fw_now rm to_int q f⟩
def gLIndex2 : G2 := fun x y μ R => match y with
  | .int k => intsAt x μ fun ns => k ∈ ns ∧ R (.int (ns.idxOf k : Nat)) μ
  | _ => False
def gLIndex : G2 := fun x y μ R => noTup x ∧ gLIndex2 x y μ R
theorem idx_not {ns : List Int} {k : Int} : ∀ {m : Nat} {z : Int}, m < ns.idxOf k → ns[m]? = some z → z ≠ k := by
  induction ns with
  | nil => intro m z h1 h2; cases h2
  | cons n ns ih =>
    intro m z h1 h2
    rw [List.idxOf_cons] at h1
    by_cases e : n = k
    · rw [show (n == k) = true from beq_iff_eq.mpr e] at h1
      exact absurd h1 (Nat.not_lt_zero _)
    · rw [show (n == k) = false from beq_eq_false_iff_ne.mpr e] at h1
      cases m with
      | zero =>
        rw [List.getElem?_cons_zero] at h2
        cases h2
        exact e
      | succ m =>
        rw [List.getElem?_cons_succ] at h2
        have h1 : m + 1 < ns.idxOf k + 1 := h1
        exact ih (by omega) h2
theorem sim_lindex {K : PySem.W.Frag} : SimM K (rIndex K) (gM1 gLIndex) := sim_m1 fun x v dx d H μ Q R rm rx rv q f => by
  obtain ⟨n, q⟩ := q
  cases d <;> try exact False.elim q
  rename_i k
  obtain ⟨a, ns, rfl, hs, hk, q⟩ := intsAt_lst rm rx n q
  have hl : ns.idxOf k < ns.length := List.idxOf_lt_length_of_mem hk
  refine ⟨a, ns.map V.int, .int k, ns.idxOf k, .int k, rfl, by rw [rep_int rv], hs, rfl, flat_ints ns, ?_, ?_, fun m z hm hz => ?_, fw_now rm to_int q f⟩
  · rw [List.getElem?_map, List.getElem?_eq_getElem hl, List.getElem_idxOf hl]
    rfl
  · show (k == k) = true
    exact beq_self_eq_true k
  · rw [List.getElem?_map] at hz
    cases e : ns[m]? with
    | none => rw [e] at hz; cases hz
    | some y =>
      rw [e] at hz
      cases hz
      show (y == k) = false
      exact beq_eq_false_iff_ne.mpr (idx_not hm e)
/-! ### defs as values -/
section
variable {X : Cx}
theorem de_globF {x : Str} {f : Addr} {pos : Pos} (hg : Gl X x) (hm : X.mg x = some (.ref f)) (hd : (x == ("__debug__" : Str)) = false := by decide) : DE X (.Name x pos) (gC (.adr f)) :=
  de_c (pe_glob (v := .ref f) hg hm rfl hd) fun _ _ => by unfold Rep; rfl
variable {k i : Nat} {f : Addr} {fd : FuncData} {ps : List Str} {g : GC} {x : Str} {p pos : Pos} {e : Expr} {es : List Expr} {ga : GA}
def gCallL (i : Nat) (f : Addr) (g : GC) (ga : GA) : GE := fun δ μ R => δ.getD i none = some (.adr f) ∧ ga δ μ fun ds μ1 => g ds μ1 R
theorem de_callL (F : FnOk X.prog X.w X.K X.mg X.base CX0 k f fd ps (toSp X.K g)) (hr : Room k X.A) (hN : X.N[i]? = some x) (hv : Vis X.env.scope x) (hk : PySem.W.keepIn X.K (.ref f) = true) (hb : Binds X.K fd ps [])
    (ha : DA X (e :: es) ga) (hdb : (x == ("__debug__" : Str)) = false := by decide) (hcd : (x == ("__classdict__" : Str)) = false := by decide)
    (he : starEach (e :: es) X.env = (false, eval e X.env) :: starEach es X.env := by rfl) (hpl : (backTo pos (starEach es X.env)).any (·.1) = false := by rfl) :
    DE X (.Call (.Name x p) (e :: es) [] pos) (gCallL i f g ga) := by
  obtain ⟨t, a1, a2⟩ := ha.ex
  refine ⟨_, pe_callL (i := i) (f := f) F hr hN hv hk hb .nil (pass0 (X := X)) a1 hdb hcd he hpl, fun σ H δ μ Q R rm rs q f => ?_⟩
  obtain ⟨q0, q⟩ := q
  refine ⟨?_, ?_⟩
  · rw [List.getD_eq_getElem?_getD] at q0
    cases e0 : δ[i]? with
    | none => rw [e0] at q0; cases q0
    | some o =>
      rw [e0] at q0
      have q0 : o = some (.adr _) := q0
      rw [q0] at e0
      obtain ⟨v, e2, rv⟩ := rs.get e0
      rw [rep_adr rv] at e2
      exact e2
  · refine a2 σ H δ μ _ _ rm rs q fun vs ds H1 μ1 k1 rm1 r1 q1 => ?_
    show toSp X.K g (vs ++ []) H1 Q E0
    rw [List.append_nil]
    exact ⟨ds, μ1, R, rm1, r1, q1, f.re k1⟩
end
/-! ### minus -/
def gNeg : G1 := fun x μ R => match x with
  | .int i => R (.int (-i)) μ
  | _ => False
theorem sim_neg {K : PySem.W.Frag} : SimU K (rU fun i => .int (-i)) gNeg := by
  intro x dx H μ Q R rm rx q f
  cases dx <;> try exact False.elim q
  rw [rep_int rx]
  exact ⟨_, rfl, fw_now rm to_int q f⟩
/-! ### two in the other order -/
def swp2 {α : Type} : List α → List α
  | [a, b] => [b, a]
  | l => l
theorem swp2_rep {K : PySem.W.Frag} {H : Hp} {μ : Mu} {ds : List D} {vs : List V} (h : RepL K H μ ds vs) (l : ds.length = 2) : RepL K H μ (swp2 ds) (swp2 vs) := by
  obtain ⟨a, b, rfl⟩ : ∃ a b, ds = [a, b] := by
    cases ds with
    | nil => cases l
    | cons a ds =>
      cases ds with
      | nil => cases l
      | cons b ds =>
        cases ds with
        | nil => exact ⟨a, b, rfl⟩
        | cons c ds => cases l
  obtain ⟨v, w, rfl, r1, r2⟩ := repL2 h
  exact RepL.cons r2 (RepL.cons r1 RepL.nil)
theorem swp2_vals {zs : List V} {ws : List Value} (h : Vals zs ws) : Vals (swp2 zs) (swp2 ws) := by
  cases h with
  | nil => exact .nil
  | cons a h =>
    cases h with
    | nil => exact .cons a .nil
    | cons b h =>
      cases h with
      | nil => exact .cons b (.cons a .nil)
      | cons c h => exact .cons a (.cons b (.cons c h))
/-! ### int * int, tuple * int -/
def rRepT01 (K : PySem.W.Frag) : R2 := fun x y H Q => ∃ l k xs, x = .ref l ∧ y = .int k ∧ SqT K H l xs ∧ xs ≠ [] ∧ ((k = 1 ∧ Q (.ref l) H) ∨ (k = 0 ∧ ∀ p, H p = none → Q (.ref p) (upd H p (.tup []))))
theorem op_repT01 {X : Cx} : OpR X (binaryOp .Mult) (rRepT01 X.K) := by
  intro pins s σ H x y v u Q I rx ry h
  obtain ⟨l, k, xs, rfl, rfl, hT, hne, h⟩ := h
  cases rx
  obtain ⟨t, rfl⟩ := ry
  obtain ⟨its, r, ⟨⟨cls, dd, data, sl⟩, ho, hc, n, hd⟩, hs⟩ := I.tuple hT
  simp only at hc hd
  subst hc hd
  have hle : its.length = xs.length := r.length.symm
  have hn : its ≠ [] := fun e => hne (by
    rw [e] at hle
    exact List.eq_nil_of_length_eq_zero hle.symm)
  have hi : its.toArray.isEmpty = false := by
    cases its with
    | nil => exact absurd rfl hn
    | cons a b => rfl
  rcases h with ⟨rfl, q⟩ | ⟨rfl, q⟩
  · exact wpAny_binaryOp_repeat_ref (T := "tuple") (U := "int") (by decide) ⟨_, ho, rfl⟩ (fun s' => typeIs_int s' 1 t) noFill_tuple_mul F.fills_int_mul F.slot_int_rmul repeat_tuple F.slot_int_index.lookup
      (call_meets F.slot_int_rmul (typeIs_int s 1 t) F.entry_int_rmul (F.args_int_rmul_2 _ _) (int_rmul_tuple 1 t l its.toArray n dd sl)
        ⟨ho, rfl, ⟨_, ho, rfl⟩, call_meets F.slot_tuple_mul ⟨_, ho, rfl⟩ F.entry_tuple_mul (F.args_tuple_mul_2 _ _) (tuple_mul1 l its.toArray n dd sl t) ⟨ho, ⟨.ref l, H, I, rfl, q⟩⟩⟩)
  · refine wpAny_binaryOp_repeat_ref (T := "tuple") (U := "int") (by decide) ⟨_, ho, rfl⟩ (fun s' => typeIs_int s' 0 t) noFill_tuple_mul F.fills_int_mul F.slot_int_rmul repeat_tuple F.slot_int_index.lookup
      (call_meets F.slot_int_rmul (typeIs_int s 0 t) F.entry_int_rmul (F.args_int_rmul_2 _ _) (int_rmul_tuple 0 t l its.toArray n dd sl)
        ⟨ho, rfl, ⟨_, ho, rfl⟩, call_meets F.slot_tuple_mul ⟨_, ho, rfl⟩ F.entry_tuple_mul (F.args_tuple_mul_2 _ _) (tuple_mul0 l its.toArray n dd sl t hi) ⟨ho, ?_⟩⟩)
    refine ⟨.ref s.heap.objs.size, _, I.laid (t' := s.toks) (o := .tup []) (fun b ob q => Heap.get?_push_of_some _ q) (Nat.le_refl _) ?_, rfl, q _ (I.hok.fresh (Nat.le_refl _))⟩
    exact ⟨by decide, _, .nil, IsTup.new _ _⟩
def gMulA : G2 := fun x y μ R => match x, y with
  | .int i, .int j => CMul i j ∧ R (.int (i * j)) μ
  | .tup ds, .int k => (ds ≠ [] ∧ 0 ≤ k ∧ k ≤ 1000 ∧ ds.length ≤ 1000) ∧ R (.tup (List.replicate k.toNat ds).flatten) μ
  | _, _ => False
def rMulA (K : PySem.W.Frag) : R2 := fun x y H Q => (rI CMul fun i j => .int (i * j)) x y H Q ∨ rRepT K x y H Q ∨ rRepT01 K x y H Q
theorem op_mulA {X : Cx} : OpR X (binaryOp .Mult) (rMulA X.K) := OpR.or op_mul (OpR.or op_repT op_repT01)
theorem RepL.rep {K : PySem.W.Frag} {H : Hp} {μ : Mu} {ds : List D} {vs : List V} (l : RepL K H μ ds vs) : ∀ m, RepL K H μ (List.replicate m ds).flatten (List.replicate m vs).flatten
  | 0 => RepL.nil
  | m + 1 => by
    rw [List.replicate_succ, List.replicate_succ, List.flatten_cons, List.flatten_cons]
    exact l.append (RepL.rep l m)
theorem sim_mulA {K : PySem.W.Frag} : SimO K (rMulA K) gMulA := by
  intro x y dx dy H μ Q R rm rx ry q f
  cases dx <;> cases dy <;> try exact False.elim q
  · rw [rep_int rx, rep_int ry]
    exact .inl ⟨_, _, rfl, rfl, q.1, fw_now rm to_int q.2 f⟩
  · rename_i ds k
    obtain ⟨⟨h1, h2, h3, h4⟩, q⟩ := q
    obtain ⟨p, vs, rfl, i, l⟩ := rep_tup rx
    rw [rep_int ry]
    have hv : vs ≠ [] := fun e => h1 (by
      have := l.length
      rw [e] at this
      exact List.eq_nil_of_length_eq_zero this.symm)
    by_cases k0 : k = 0
    · subst k0
      exact .inr (.inr ⟨p, 0, vs, rfl, rfl, i.sq, hv, .inr ⟨rfl, fun a n => fw_tup rm n RepL.nil q f⟩⟩)
    · by_cases k1 : k = 1
      · subst k1
        have e : (List.replicate (1 : Int).toNat ds).flatten = ds := by simp
        rw [e] at q
        exact .inr (.inr ⟨p, 1, vs, rfl, rfl, i.sq, hv, .inl ⟨rfl, fw_now rm rx q f⟩⟩)
      · exact .inr (.inl ⟨p, k, vs, rfl, rfl, i.sq, hv, by omega, h3, by rw [l.length]; exact h4, fun a n => fw_tup rm n (RepL.rep l k.toNat) q f⟩)
end DL

set_option Elab.async false
set_option linter.all false
set_option maxRecDepth 100000
namespace DL
open PySem PySem.Spec PyProof.Rows L2
/-! ### x in l of nested data; sorted of ints; three the other way round -/
def gInD (k : Bool → Bool) : G2 := fun x y μ R => ∃ d ds, py x = some d ∧ py y = some (.list ds) ∧ SeqAt.shaped d = true ∧ SeqAt.shaped (.list ds) = true ∧ R (.bl (k (ds.any fun z => PyData.eqv z d))) μ
theorem sim_inD {K : PySem.W.Frag} : SimO K (rInD K) (gInD id) := by
  intro x y dx dy H μ Q R rm rx ry ⟨d, ds, h1, h2, h3, h4, q⟩ f
  exact ⟨d, ds, Rep.dp dx x d rx h1, Rep.dp dy y _ ry h2, h3, h4, fw_now rm to_bl q f⟩
theorem sim_notInD {K : PySem.W.Frag} : SimO K (rNotInD K) (gInD not) := by
  intro x y dx dy H μ Q R rm rx ry ⟨d, ds, h1, h2, h3, h4, q⟩ f
  exact ⟨d, ds, Rep.dp dx x d rx h1, Rep.dp dy y _ ry h2, h3, h4, fw_now rm to_bl q f⟩
theorem units65 {k : Nat} {A : Around} (r : Room (k + 1) A) : A.units + 65 < cLine := by have := r.un; omega
def gSortedI1 : G1 := fun x μ R => match x with
  | .lst ds => ∃ ns : List Int, ds = List.map D.int ns ∧ ns.length < 64 ∧ ∀ ns' : List Int, ns'.Perm ns → ns'.Pairwise (· ≤ ·) → R (.lst (List.map D.int ns')) μ
  | _ => False
theorem sim_sortedI {K : PySem.W.Frag} : SimC K (rSorted K) (g1 gSortedI1) := sim_g1 fun v d H μ Q R rm rv q f => by
  cases d <;> try exact False.elim q
  obtain ⟨ns, rfl, h64, q⟩ := q
  obtain ⟨p, vs, rfl, i, _, l⟩ := rep_lst rv
  exact ⟨p, ns, rfl, SqL.of (by rw [i, l.ints]), h64, fun ys t hp hs n => fw_lst rm n (RepL.of_ints ys) (q ys hp hs) f⟩
def rev3 {α : Type} : List α → List α
  | [a, b, c] => [c, b, a]
  | l => l
theorem rev3_rep {K : PySem.W.Frag} {H : Hp} {μ : Mu} {ds : List D} {vs : List V} (h : RepL K H μ ds vs) (l : ds.length = 3) : RepL K H μ (rev3 ds) (rev3 vs) := by
  obtain ⟨a, b, c, rfl⟩ : ∃ a b c, ds = [a, b, c] := by
    cases ds with
    | nil => cases l
    | cons a ds =>
      cases ds with
      | nil => cases l
      | cons b ds =>
        cases ds with
        | nil => cases l
        | cons c ds =>
          cases ds with
          | nil => exact ⟨a, b, c, rfl⟩
          | cons _ _ => simp at l
  unfold RepL at h
  obtain ⟨v, r, rfl, r1, h⟩ := h
  obtain ⟨v2, v3, rfl, r2, r3⟩ := repL2 h
  exact RepL.cons r3 (RepL.cons r2 (RepL.cons r1 RepL.nil))
theorem rev3_vals {zs : List V} {ws : List Value} (h : Vals zs ws) : Vals (rev3 zs) (rev3 ws) := by
  cases h with
  | nil => exact .nil
  | cons a h =>
    cases h with
    | nil => exact .cons a .nil
    | cons b h =>
      cases h with
      | nil => exact .cons a (.cons b .nil)
      | cons c h =>
        cases h with
        | nil => exact .cons c (.cons b (.cons a .nil))
        | cons d h => exact .cons a (.cons b (.cons c (.cons d h)))
end DL

set_option Elab.async false
set_option linter.all false
set_option maxRecDepth 100000
namespace DL
open PySem PySem.Spec PyProof.Rows L2
/-! ### repr, also of None -/
def rRepr2 (K : PySem.W.Frag) : List V → Hp → VK → Prop := fun xs H Q => rRepr K xs H Q ∨ (xs = [.non] ∧ Q (.str "None") H)
theorem call_reprNon {X : Cx} : CallR X (.builtin "repr") (fun xs H Q => xs = [.non] ∧ Q (.str "None") H) := by
  intro pins s σ H vs us Q I r h
  obtain ⟨rfl, q⟩ := h
  obtain ⟨u, rfl, ru⟩ := vals1 r
  cases ru
  refine PySem.P.repr_of_none ?_
  exact ⟨.str "None", H, I.tok _, ⟨s.toks, rfl⟩, q⟩
theorem cr_repr2 {X : Cx} (hG : X.A.guards = some []) (hu : X.A.units + 64 < cLine) : CallR X (.builtin "repr") (rRepr2 X.K) := CallR.or (cr_repr hG hu) call_reprNon
def gRepr2 : G1 := fun x μ R => gRepr1 x μ R ∨ (x = .non ∧ R (.str "None") μ)
theorem sim_repr2 {K : PySem.W.Frag} : SimC K (rRepr2 K) (g1 gRepr2) := sim_g1 fun v d H μ Q R rm rv q f => by
  rcases q with q | ⟨rfl, q⟩
  · exact .inl (sim_repr [v] [d] H μ Q R rm (RepL.cons rv RepL.nil) q f)
  · exact .inr ⟨by rw [rep_non rv], fw_now rm to_str q f⟩
end DL

set_option Elab.async false
set_option linter.all false
set_option maxRecDepth 100000
namespace DL
open PySem PySem.Spec PyProof.Rows L2
/-! ### list * int as a new cell; cell[i] op= e -/
def gRepC : G2 := fun x y μ R => match x, y with
  | .lst ds, .int k => (0 ≤ k ∧ k ≤ 1000 ∧ ds.length ≤ 1000) ∧ ∀ a, μ a = none → R (.adr a) (put μ a (.lst (List.replicate k.toNat ds).flatten))
  | _, _ => False
theorem sim_repC {K : PySem.W.Frag} : SimO K rRep gRepC := by
  intro x y dx dy H μ Q R rm rx ry q f
  cases dx <;> cases dy <;> try exact False.elim q
  rename_i ds k
  obtain ⟨⟨h1, h2, h3⟩, q⟩ := q
  obtain ⟨p, vs, rfl, i, _, l⟩ := rep_lst rx
  rw [rep_int ry]
  refine ⟨p, k, vs, rfl, rfl, i, by omega, by omega, ?_, fun a n => fw_cell rm n (RepL.rep l k.toNat) q f⟩
  rw [l.length, sizeLine_eq]
  have : ds.length * k.toNat ≤ 1000 * 1000 := Nat.mul_le_mul h3 (by omega)
  omega
def rGetL (K : PySem.W.Frag) : V → V → Hp → VK → Prop := fun x y H Q => ∃ p xs i v, x = .ref p ∧ y = .int i ∧ SqL K H p xs ∧ 0 ≤ i ∧ L2.atI xs i = some v ∧ Q v H
theorem pget_list {X : Cx} : PGet X (rGetL X.K) := by
  intro pins s σ H x y v u Q I rx ry h
  obtain ⟨p, xs, i, z, rfl, rfl, hq, h0, he, q⟩ := h
  cases rx
  obtain ⟨t, rfl⟩ := ry
  obtain ⟨its, r, pl, hz⟩ := I.list hq
  obtain ⟨j, h1, h2, h3, h4, h5⟩ := atI_get he
  obtain ⟨w, ew, rw'⟩ := r.get h2
  have hl := r.length
  have hn := line63
  have fin : EP X pins σ Q w s := ⟨z, H, I, rw', q⟩
  have hj : i.toNat = j := by
    rw [seqIndex_of h0 h5] at h1
    exact Option.some.inj h1
  exact wpAny_getItem_list (Q := EP X pins σ Q) pl.isList h0 (by omega) (by rw [hj]; simpa using ew) fin
section
variable {X : Cx}
def gAugS (go gi ge : GE) (g2 : G2) : GS := fun F δ μ => go δ μ fun x μ1 => gi δ μ1 fun i μ2 => ∃ (a : Addr) (k : Nat) (ds : List D) (d : D), x = .adr a ∧ i = .int (k : Nat) ∧ μ2 a = some (.lst ds) ∧ ds[k]? = some d ∧
  ge δ μ2 fun y μ4 => g2 d y μ4 fun z μ5 => setK (.adr a) (.int (k : Nat)) z μ5 fun μ6 => F.nx δ μ6
theorem ds_augS {o i e : Expr} {op : Operator} {tip : TIp} {go gi ge : GE} {g2 : G2} {tpos pos : Pos} (ho : DE X o go) (hi : DE X i gi) (he : DE X e ge) (hp : PIp X op tip) (h : SimO X.K tip g2)
    (ha : ∀ ov iv new, augStore i ov iv new = (do holding [new, ov, iv] (setItem ov iv new); release [new, ov, iv] []; pure .next) := by intros; rfl) : DSt X (.AugAssign (.Subscript o i tpos) op e pos) (gAugS go gi ge g2) := by
  obtain ⟨t1, a1, a2⟩ := ho.ex
  obtain ⟨t2, b1, b2⟩ := hi.ex
  obtain ⟨t3, c1, c2⟩ := he.ex
  refine ⟨_, ps_augS a1 b1 pget_list c1 hp set_list ha, fun σ H δ μ E F rm rs ee q => ?_⟩
  refine a2 σ H δ μ _ _ rm rs q fun x dx H1 μ1 k1 rm1 r1 q1 => ?_
  refine b2 σ H1 δ μ1 _ _ rm1 (rs.mono k1) q1 fun y dy H2 μ2 k2 rm2 r2 q2 => ?_
  obtain ⟨a, k, ds, d, rfl, rfl, e0, hd, q2⟩ := q2
  obtain ⟨vs, e1, l⟩ := rm2 a _ e0
  obtain ⟨w, ew, rw'⟩ := l.at_ hd
  have hk : k < ds.length := (List.getElem?_eq_some_iff.mp hd).1
  have ei : L2.atI vs ((k : Nat) : Int) = some w := atI_nat ew
  refine ⟨a, vs, (k : Nat), w, rep_adr (r1.mono k2), rep_int r2, SqL.of e1, by omega, ei, ?_⟩
  have k12 := k1.trans k2
  refine c2 σ H2 δ μ2 _ _ rm2 (rs.mono k12) q2 fun y dy H3 μ3 k3 rm3 r3 q3 => ?_
  refine h w y d dy H3 μ3 _ _ rm3 (rw'.mono k3) r3 q3 fun z dz H4 μ4 k4 rm4 r4 q4 => ?_
  obtain ⟨es, j, e4, ej, q4⟩ := q4
  obtain ⟨us, e5, l5⟩ := rm4 a _ e4
  have kw : Kp H4 μ4 (upd H4 a (.lst (us.set j z))) (put μ4 a (.lst (es.set j dz))) := Kp.write e4
  have kall := k12.trans (k3.trans (k4.trans kw))
  refine ⟨a, us, (k : Nat), j, rep_adr (r1.mono k2), rep_int r2, e5, by rw [l5.length]; exact ej, ?_⟩
  refine ee.nx σ _ δ _ kall ?_ (rs.mono kall) q4
  exact rm4.put (m := .lst (es.set j dz)) kw (fun b o n _ => upd_ne n) ⟨_, upd_same, (l5.set j r4).mono kw _ _⟩
end
end DL

set_option Elab.async false
set_option linter.all false
set_option maxRecDepth 100000
namespace DL
open PySem PySem.Spec PyProof.Rows L2
/-! ### gcd, comb by the module's names -/
def rComb : List V → Hp → VK → Prop := fun vs H Q => ∃ a b : Int, vs = [.int a, .int b] ∧ 0 ≤ a ∧ a ≤ 18000 ∧ 0 ≤ b ∧ Q (.int (PySem.W.mcComb a b)) H
theorem cr_comb {X : Cx} : CallR X (.builtin "math.comb") rComb := by
  intro pins s σ H vs us Q I r h
  obtain ⟨a, b, rfl, h1, h2, h3, q⟩ := h
  obtain ⟨t, u, rfl⟩ := Vals.int2 r
  exact PySem.W.mc_comb h1 h3 (by omega) (.inr h2) fun _ => ⟨.int _, H, I.tok _, ⟨_, rfl⟩, q⟩
def gGcd2 : G2 := fun x y μ R => match x, y with
  | .int a, .int b => R (.int (Nat.gcd a.natAbs b.natAbs : Nat)) μ
  | _, _ => False
theorem sim_gcd {K : PySem.W.Frag} : SimC K rGcd (g2 gGcd2) := sim_g2 fun v w d e H μ Q R rm rv rw q f => by
  cases d <;> cases e <;> try exact False.elim q
  rename_i i j
  rw [rep_int rv, rep_int rw]
  exact ⟨i, j, rfl, fw_now rm to_int q f⟩
def gComb2 : G2 := fun x y μ R => match x, y with
  | .int a, .int b => (0 ≤ a ∧ a ≤ 18000 ∧ 0 ≤ b) ∧ R (.int (PySem.W.mcComb a b)) μ
  | _, _ => False
theorem sim_comb {K : PySem.W.Frag} : SimC K rComb (g2 gComb2) := sim_g2 fun v w d e H μ Q R rm rv rw q f => by
  cases d <;> cases e <;> try exact False.elim q
  rename_i i j
  rw [rep_int rv, rep_int rw]
  exact ⟨i, j, rfl, q.1.1, q.1.2.1, q.1.2.2, fw_now rm to_int q.2 f⟩
section
variable {X : Cx} {x : Str} {p pos : Pos} {e : Expr} {es : List Expr} {ga : GA} {id : String} {r : List V → Hp → VK → Prop} {g : GC}
theorem de_callBf (hc : CallR X (.builtin id) r) (h : SimC X.K r g) (hg : Gl X x) (hm : X.mg x = some (.builtin id)) (ha : DA X (e :: es) ga) (hdb : (x == ("__debug__" : Str)) = false := by decide)
    (he : starEach (e :: es) X.env = (false, eval e X.env) :: starEach es X.env := by rfl) (hpl : (backTo pos (starEach es X.env)).any (·.1) = false := by rfl) : DE X (.Call (.Name x p) (e :: es) [] pos) (gCall g ga) := by
  obtain ⟨t, a1, a2⟩ := ha.ex
  exact ⟨_, pe_callBfun hc hg hm a1 hdb he hpl, sim_cb h a2⟩
/-! ### enumerate of a list -/
def gEnumL (ga : GA) : GI := fun δ μ R => ga δ μ fun ds μ1 => match ds with
  | [.lst xs] => R (numbered xs) μ1
  | _ => False
theorem di_enumL {p pos tpos : Pos} {elts : List Expr} {kk : Nat} {ga : GA} {e : Expr} (hg : Gl X "enumerate") (hm : X.mg "enumerate" = none) (h : DA X [e] ga) (hs : starEach [e] X.env = [(false, eval e X.env)] := by rfl) :
    DI X (.Tuple elts kk tpos) (.Call (.Name "enumerate" p) [e] [] pos) (gEnumL ga) := by
  obtain ⟨t, a1, a2⟩ := h.ex
  refine ⟨_, pi_enum hg hm a1 hs, fun σ H δ μ Q R rm rs q f => ?_⟩
  refine a2 σ H δ μ _ _ rm rs q fun vs ds H1 μ1 k1 rm1 r1 q1 => ?_
  match ds, q1, r1 with
  | [.lst xs], q1, r1 =>
    obtain ⟨v, rfl, r2⟩ := repL1 r1
    obtain ⟨a, ys, rfl, hH, hn, rl⟩ := rep_lst r2
    have sq : ∀ {H' μ'}, Kp H1 μ1 H' μ' → SqL X.K H' a ys := fun k => SqL.of (k.k1 a _ hH hn)
    have hl : (numbered xs).length = ys.length := by rw [rl.length]; simp [numbered]
    refine ⟨a, ys, rfl, SqL.of hH, f _ (numbered xs) H1 μ1 k1 rm1 ?_ q1⟩
    refine ⟨fun i H' hi ⟨μ', k, _⟩ => ?_, fun H' ⟨μ', k, _⟩ => ⟨ys, sq k, by omega⟩, fun i H' v H2 hi _ y => ?_⟩
    · have h1 : i < ys.length := by rw [← hl]; exact hi
      exact ⟨ys, ys[i], sq k, by simp [h1]⟩
    · intro μ' k rm
      obtain ⟨T, x, rfl, nT, rfl, e4⟩ := y
      have ex := e4 ys (sq k)
      obtain ⟨d, e3, r3⟩ := (rl.mono k).atV ex
      have nm : μ' T = none := rm.free nT
      have k2 : Kp H' μ' (upd H' T (.tup [.int (i : Nat), x])) μ' := Kp.new nT
      refine ⟨.tup [.int (i : Nat), d], ?_, ?_, k2, rm.laid nT⟩
      · unfold numbered
        rw [List.getElem?_mapIdx, e3]
        rfl
      · unfold Rep
        exact ⟨T, _, rfl, .inl ⟨upd_same, nm⟩, by unfold RepL; exact ⟨_, _, rfl, by unfold Rep; rfl, by unfold RepL; exact ⟨_, _, rfl, r3.mono k2, RepL.nil⟩⟩⟩
end
end DL

set_option Elab.async false
set_option linter.all false
set_option maxRecDepth 100000
namespace PySem
open Sem (wp)
theorem typeCall_zip_n (args : List Value) : checkTypeCall "zip" ⟨args, []⟩ = pure () := by kernel_rfl
theorem newCall_zip_n : ∀ (args : List Value), args.length ≤ 13 → checkBuiltinCall "zip.__new__" ⟨.type "zip" :: args, []⟩ = pure ()
  | [], _ => by kernel_rfl
  | [_], _ => by kernel_rfl
  | [_, _], _ => by kernel_rfl
  | [_, _, _], _ => by kernel_rfl
  | [_, _, _, _], _ => by kernel_rfl
  | [_, _, _, _, _], _ => by kernel_rfl
  | [_, _, _, _, _, _], _ => by kernel_rfl
  | [_, _, _, _, _, _, _], _ => by kernel_rfl
  | [_, _, _, _, _, _, _, _], _ => by kernel_rfl
  | [_, _, _, _, _, _, _, _, _], _ => by kernel_rfl
  | [_, _, _, _, _, _, _, _, _, _], _ => by kernel_rfl
  | [_, _, _, _, _, _, _, _, _, _, _], _ => by kernel_rfl
  | [_, _, _, _, _, _, _, _, _, _, _, _], _ => by kernel_rfl
  | [_, _, _, _, _, _, _, _, _, _, _, _, _], _ => by kernel_rfl
  | _ :: _ :: _ :: _ :: _ :: _ :: _ :: _ :: _ :: _ :: _ :: _ :: _ :: _ :: _, h => absurd h (by simp)
theorem args_object_init_n (a : Value) (args : List Value) : argsOk "object.__init__" ⟨a :: args, []⟩ := by
  unfold argsOk; rw [signature?_of (id := "object.__init__") (n := ['_', '_', 't', 'i', 'n', 'i', '_', '_']) (o := ['t', 'c', 'e', 'j', 'b', 'o']) (by kernel_rfl) F.owner_object]; kernel_rfl
abbrev ZipAt (h : Heap) (z TI TO : Addr) (f0 b : Value) : Prop :=
  h.get? z = some { cls := .type "zip", dict := none, data := .fields #[f0, b, .bool false, .ref TI, .ref TO], slots := #[] }
abbrev IsTupN (h : Heap) (T : Addr) (us : List Value) : Prop := h.get? T = some { cls := .type "tuple", data := .seq us.toArray }
/-- the iterators' addresses, made one behind the other from n on -/
def itsAt (n : Nat) : List Addr → List (Addr × Addr)
  | [] => []
  | l :: ls => (n, l) :: itsAt (n + 1) ls
theorem itsAt_len : ∀ (n : Nat) (ls : List Addr), (itsAt n ls).length = ls.length
  | _, [] => rfl
  | n, _ :: ls => by rw [itsAt, List.length_cons, List.length_cons, itsAt_len (n + 1) ls]
section
variable {prog : Program} {w : World} {A : Around} {E : Value → Shared → Prop} {s : Shared}
theorem iterAllN {Q : List Value → Shared → Prop} (ls : List Addr) (hl : ∀ l ∈ ls, ∃ xs, s.heap.IsList l xs)
    (hQ : ∀ h', (∀ p ∈ itsAt s.heap.objs.size ls, h'.IsListIter p.1 p.2 0) → h'.objs.size = s.heap.objs.size + ls.length → (∀ c o, s.heap.get? c = some o → h'.get? c = some o) →
      Q ((itsAt s.heap.objs.size ls).map fun p => .ref p.1) { s with heap := h' }) :
    wpAny (model prog w) A (Builtin.SmallTypes.iterAll (ls.map .ref)) Q E s := by
  unfold Builtin.SmallTypes.iterAll
  refine wpAny_bind (wpAny_forIn_list _ (fun rest b s' => ∃ (todo : List Addr) (h' : Heap) (done : List (Addr × Addr)), rest = todo.map Value.ref ∧ s' = { s with heap := h' } ∧ (∀ l ∈ todo, l ∈ ls) ∧ itsAt s.heap.objs.size ls = done ++ itsAt h'.objs.size todo ∧
      b = (done.map fun p => Value.ref p.1).toArray ∧ (∀ p ∈ done, h'.IsListIter p.1 p.2 0) ∧ h'.objs.size + todo.length = s.heap.objs.size + ls.length ∧ (∀ c o, s.heap.get? c = some o → h'.get? c = some o)) _ ?_ ?_ _ _ ⟨ls, s.heap, [], rfl, rfl, fun l h => h, rfl, rfl, fun p h => (List.not_mem_nil h).elim, rfl, fun c o h => h⟩)
  · rintro x rest b s' ⟨todo, h', done, e1, rfl, e3, e4, rfl, e6, e7, e8⟩
    cases todo with
    | nil => simp at e1
    | cons l todo =>
      rw [List.map_cons, List.cons.injEq] at e1
      obtain ⟨rfl, rfl⟩ := e1
      obtain ⟨xs, hx⟩ := hl l (e3 l (List.mem_cons_self ..))
      have hx' : h'.IsList l xs := Heap.IsList.at hx fun o e => e8 l o e
      refine wpAny_bind (wpAny_holding (wpAny_pyIter_list (s := { s with heap := h' }) hx' (wpAny_pure ?_)))
      have z1 : (h'.push { cls := .type "list_iterator", data := .fields #[.ref l, .int 0 0] }).objs.size = h'.objs.size + 1 := Heap.size_push ..
      refine ⟨todo, _, done ++ [(h'.objs.size, l)], rfl, rfl, fun q hq => e3 q (List.mem_cons_of_mem _ hq), ?_, ?_, fun p hp => ?_, ?_, fun c o q => Heap.get?_push_of_some _ (e8 c o q)⟩
      · show itsAt s.heap.objs.size ls = _
        rw [e4, z1, List.append_assoc]; rfl
      · rw [List.map_append]; simp
      · rcases List.mem_append.mp hp with q | q
        · exact (e6 p q).at fun o e => Heap.get?_push_of_some _ e
        · rw [List.mem_singleton] at q
          subst q
          exact ⟨_, Heap.get?_push_size _ rfl, rfl, rfl⟩
      · rw [z1, ← e7, List.length_cons]; omega
  · rintro b s' ⟨todo, h', done, e1, rfl, e3, e4, rfl, e6, e7, e8⟩
    cases todo with
    | cons l todo => simp at e1
    | nil =>
      refine wpAny_pure ?_
      have e9 : itsAt s.heap.objs.size ls = done := by rw [e4]; simp [itsAt]
      have := hQ h' (fun p hp => e6 p (by rw [← e9]; exact hp)) (by simpa using e7) e8
      rw [e9] at this
      simpa using this
/-- what zip(..) of lists makes -/
def ZipMade (h h' : Heap) (ls : List Addr) : Prop :=
  ZipAt h' (h.objs.size + ls.length + 2) (h.objs.size + ls.length) (h.objs.size + ls.length + 1) .none (.bool false) ∧ IsTupN h' (h.objs.size + ls.length) ((itsAt h.objs.size ls).map fun p => .ref p.1) ∧
    IsTupN h' (h.objs.size + ls.length + 1) (((itsAt h.objs.size ls).map fun p => Value.ref p.1).map fun _ => .none) ∧ (∀ p ∈ itsAt h.objs.size ls, h'.IsListIter p.1 p.2 0) ∧ h'.objs.size = h.objs.size + ls.length + 3 ∧ ∀ c o, h.get? c = some o → h'.get? c = some o
abbrev zN1 (h : Heap) (us : List Value) : Heap := h.push { cls := .type "tuple", data := .seq us.toArray }
abbrev zN2 (h : Heap) (us : List Value) : Heap := (zN1 h us).push { cls := .type "tuple", data := .seq (us.map fun _ => Value.none).toArray }
abbrev zN3 (h : Heap) (us : List Value) : Heap := (zN2 h us).push { cls := .type "zip", data := .fields #[.none, .bool false, .bool false, .ref h.objs.size, .ref (zN1 h us).objs.size] }
theorem meets_zip_newN (ls : List Addr) (hn : ls.length ≤ 13) :
    Meets (Builtin.«zip.__new__» ⟨.type "zip" :: ls.map .ref, []⟩) (fun _ R s => (∀ l ∈ ls, ∃ xs, s.heap.IsList l xs) ∧
      (∀ h', ZipMade s.heap h' ls → R (.ok (.ret (.ref (s.heap.objs.size + ls.length + 2)))) { s with heap := h' })) :=
  .of_wp fun prog w A R s h => by
    obtain ⟨hl, h⟩ := h
    have hsub := sub_zip
    obtain ⟨hp, g, d, tk, os⟩ := s
    wp_walk using iterAllN (s := ⟨hp, g, d, tk, os⟩) ls hl
    intro h' k1 k2 k3
    replace k1 : ∀ p ∈ itsAt hp.objs.size ls, h'.IsListIter p.1 p.2 0 := k1
    replace k2 : h'.objs.size = hp.objs.size + ls.length := k2
    replace k3 : ∀ c o, hp.get? c = some o → h'.get? c = some o := k3
    have hlen : (itsAt hp.objs.size ls).length ≤ sizeLine := by rw [itsAt_len]; exact Nat.le_trans hn (by decide)
    refine wpAny_bind (wpAny_newTuple ?_ (by rw [List.length_map]; exact hlen))
    refine wpAny_bind (wpAny_newTuple ?_ (by rw [List.length_map, List.length_map]; exact hlen))
    wp_walk
    have z1 : (zN1 h' ((itsAt hp.objs.size ls).map fun p => Value.ref p.1)).objs.size = hp.objs.size + ls.length + 1 := by rw [Heap.size_push, k2]
    have z2 : (zN2 h' ((itsAt hp.objs.size ls).map fun p => Value.ref p.1)).objs.size = hp.objs.size + ls.length + 2 := by rw [Heap.size_push, z1]
    refine ⟨.ref (zN2 h' ((itsAt hp.objs.size ls).map fun p => Value.ref p.1)).objs.size, rfl, ?_⟩
    have fin := h (zN3 h' ((itsAt hp.objs.size ls).map fun p => Value.ref p.1)) ⟨?_, ?_, ?_, fun p hp => ((((k1 p hp).at fun o e => Heap.get?_push_of_some _ e).at fun o e => Heap.get?_push_of_some _ e).at fun o e => Heap.get?_push_of_some _ e), ?_, fun c o q => Heap.get?_push_of_some _ (Heap.get?_push_of_some _ (Heap.get?_push_of_some _ (k3 c o q)))⟩
    · show R (.ok (.ret (.ref (zN2 h' _).objs.size))) _
      rw [z2]
      exact fin
    · have e : (zN3 h' ((itsAt hp.objs.size ls).map fun p => Value.ref p.1)).get? (zN2 h' ((itsAt hp.objs.size ls).map fun p => Value.ref p.1)).objs.size = some _ := Heap.get?_push_size _ rfl
      rw [z2, k2, z1] at e
      exact e
    · have e : (zN3 h' ((itsAt hp.objs.size ls).map fun p => Value.ref p.1)).get? h'.objs.size = some _ := Heap.get?_push_of_some _ (Heap.get?_push_of_some _ (Heap.get?_push_size _ rfl))
      rw [k2] at e
      exact e
    · have e : (zN3 h' ((itsAt hp.objs.size ls).map fun p => Value.ref p.1)).get? (zN1 h' ((itsAt hp.objs.size ls).map fun p => Value.ref p.1)).objs.size = some _ := Heap.get?_push_of_some _ (Heap.get?_push_size _ rfl)
      rw [z1] at e
      exact e
    · show (zN3 h' _).objs.size = _
      rw [Heap.size_push, z2]
theorem call_zipN {ls : List Addr} (hn : ls.length ≤ 13) {Q : Value → Shared → Prop} (hl : ∀ l ∈ ls, ∃ xs, s.heap.IsList l xs)
    (h : ∀ h', ZipMade s.heap h' ls → Q (.ref (s.heap.objs.size + ls.length + 2)) { s with heap := h' }) : wpAny (model prog w) A (call (.type "zip") (ls.map .ref)) Q E s := by
  refine callType_new F.called_zip (by decide) (typeCall_zip_n _) (newCall_zip_n _ (by rw [List.length_map]; exact hn)) (fun obj => args_object_init_n obj _) F.entry_zip_new (meets_zip_newN ls hn) ⟨hl, fun h' hm => ?_⟩
  exact ⟨⟨_, hm.1, rfl⟩, h h' hm⟩
end
end PySem

set_option Elab.async false
set_option linter.all false
set_option maxRecDepth 100000
namespace PySem
open Sem (wp)
/-- the cells of a zip of lists lie apart -/
structure SepN (z TI TO : Addr) (ps : List (Addr × Addr)) : Prop where
  TIz : TI ≠ z
  TOz : TO ≠ z
  TITO : TI ≠ TO
  iz : ∀ p ∈ ps, p.1 ≠ z ∧ p.1 ≠ TI ∧ p.1 ≠ TO
  nd : (ps.map (·.1)).Nodup
  lz : ∀ p ∈ ps, p.2 ≠ z ∧ p.2 ≠ TO ∧ ∀ q ∈ ps, p.2 ≠ q.1
def ItemsN (h : Heap) (ps : List (Addr × Addr)) (i : Nat) (us : List Value) : Prop :=
  us.length = ps.length ∧ ∀ (k : Nat) p u, ps[k]? = some p → us[k]? = some u → ∃ its, h.IsList p.2 its ∧ its[i]? = some u
theorem ItemsN.at {h : Heap} {ps done todo : List (Addr × Addr)} {p : Addr × Addr} {i : Nat} {us : List Value} (hu : ItemsN h ps i us) (e : ps = done ++ p :: todo) : ∃ u its, us[done.length]? = some u ∧ h.IsList p.2 its ∧ its[i]? = some u := by
  have hp : ps[done.length]? = some p := by rw [e]; simp
  have hl : done.length < us.length := by rw [hu.1, e]; simp
  obtain ⟨its, a, b⟩ := hu.2 done.length p us[done.length] hp (List.getElem?_eq_getElem hl)
  exact ⟨_, its, List.getElem?_eq_getElem hl, a, b⟩
abbrev nextN (z : Addr) : Sem Fin := Builtin.«zip.__next__» ⟨[.ref z], []⟩
theorem updateSeqN {prog : Program} {w : World} {A : Around} {E : Value → Shared → Prop} {s : Shared} {T : Addr} {us : List Value} {x : Value} {k : Nat} {Q : Unit → Shared → Prop} (tat : IsTupN s.heap T us) (hn : us.length ≤ 13)
    (h : ∀ h', IsTupN h' T (us.set k x) → Heap.SameBut T s.heap h' → Q () { s with heap := h' }) :
    wpAny (model prog w) A (updateSeq T (·.setIfInBounds k x)) Q E s := by
  have z : us.toArray.size ≤ sizeLine := by rw [List.size_toArray]; exact Nat.le_trans hn (by decide)
  refine wpAny_updateSeq tat rfl (h _ ?_ (Heap.SameBut.update ..)) z (by rw [Array.size_setIfInBounds]; exact Nat.le_succ_of_le z)
  show Heap.get? _ T = _
  rw [Heap.get?_update_self _ tat rfl]
  simp [Obj.mapSeq]
section
variable {prog : Program} {w : World} {A : Around} {E : Value → Shared → Prop} {s : Shared} {z TI TO : Addr} {ps : List (Addr × Addr)} {i : Nat} {f0 b0 : Value} {us arr : List Value}
theorem zipN_own {Q : Value → Shared → Prop} (S : SepN z TI TO ps) (zat : ZipAt s.heap z TI TO f0 b0) (free : ∀ Q : Bool → Shared → Prop, Q true s → wpAny (model prog w) A (Builtin.SmallTypes.ownedTupleIsFree (.ref z)) Q E s)
    (tia : IsTupN s.heap TI (ps.map fun p => .ref p.1)) (toa : IsTupN s.heap TO arr) (ha : arr.length = ps.length) (hne : ps ≠ []) (hn : ps.length ≤ 13) (hi : ∀ p ∈ ps, s.heap.IsListIter p.1 p.2 i) (hu : ItemsN s.heap ps i us)
    (hQ : ∀ h', ZipAt h' z TI TO (rawInt s.heap.objs.size) (.bool false) → IsTupN h' TO us → (∀ p ∈ ps, h'.IsListIter p.1 p.2 (i + 1)) → IsTupN h' s.heap.objs.size us → h'.objs.size = s.heap.objs.size + 1 →
      (∀ c o, c ≠ z → c ≠ TO → c ∉ ps.map (·.1) → s.heap.get? c = some o → h'.get? c = some o) → Q (.ref s.heap.objs.size) { s with heap := h' }) :
    wpAny (model prog w) A (nextN z) (fun fin s' => ∃ v, fin = .done (.ret v) ∧ Q v s') E s := by
  show wpAny _ _ (field (.ref z) 2 >>= _) _ _ _ ; refine wpAny_bind (wpAny_field zat rfl (x := .bool false) rfl ?_)
  show wpAny _ _ (field (.ref z) 3 >>= _) _ _ _ ; refine wpAny_bind (wpAny_field zat rfl (x := .ref TI) rfl (wpAny_bind (wpAny_seqItems tia rfl ?_)))
  have hemp : ((ps.map fun p => Value.ref p.1).toArray.isEmpty) = false := by
    cases ps with
    | nil => exact absurd rfl hne
    | cons p ps => rfl
  simp only [hemp, Bool.false_eq_true, if_false]
  show wpAny _ _ (Builtin.SmallTypes.ownedTupleIsFree _ >>= _) _ _ _
  refine wpAny_bind (free _ ?_)
  simp only [if_true]
  refine wpAny_bind (wpAny_rule ?_)
  refine wpAny_bind (wpAny_field zat rfl (x := .ref TO) rfl ?_)
  refine wpAny_bind (wpAny_setField_rec zat (by simp) fun g1 za1 sm1 => ?_)
  replace za1 : ZipAt g1 z TI TO .ellipsis b0 := za1
  refine wpAny_bind ?_
  refine wpAny_forIn_list _ (fun rest b s' => ∃ (done todo : List (Addr × Addr)) (h' : Heap) (ar : List Value), ps = done ++ todo ∧ rest = (todo.map fun p => Value.ref p.1).zipIdx done.length ∧ s' = { s with heap := h' } ∧ b = (none, ()) ∧ ZipAt h' z TI TO .ellipsis b0 ∧ IsTupN h' TO ar ∧ ar.length = ps.length ∧ ar.take done.length = us.take done.length ∧
    (∀ p ∈ done, h'.IsListIter p.1 p.2 (i + 1)) ∧ (∀ p ∈ todo, h'.IsListIter p.1 p.2 i) ∧ h'.objs.size = s.heap.objs.size ∧ ∀ c o, c ≠ z → c ≠ TO → c ∉ ps.map (·.1) → s.heap.get? c = some o → h'.get? c = some o) _ ?_ ?_ _ _ ?_
  · rintro x rest b s' ⟨done, todo, h', ar, e1, e2, rfl, rfl, e5, e6, e7, e8, e9, e10, e11, e12⟩
    cases todo with
    | nil => simp at e2
    | cons p todo =>
      rw [List.map_cons, List.zipIdx_cons, List.cons.injEq] at e2
      obtain ⟨rfl, rfl⟩ := e2
      obtain ⟨u, its, u1, u2, u3⟩ := hu.at e1
      have pm : p ∈ ps := by rw [e1]; simp
      have l1 := S.lz p pm
      have u2' : h'.IsList p.2 its := Heap.IsList.at u2 fun o e => e12 _ o l1.1 l1.2.1 (fun q => by obtain ⟨r, hr, hq⟩ := List.mem_map.mp q; exact l1.2.2 r hr hq.symm) e
      have nd := S.nd
      rw [e1, List.map_append, List.map_cons] at nd
      have nd2 := List.nodup_append.mp nd
      have dn : ∀ q ∈ done, q.1 ≠ p.1 := fun q hq e => nd2.2.2 q.1 (List.mem_map.mpr ⟨q, hq, rfl⟩) p.1 (List.mem_cons_self ..) e
      have tn : ∀ q ∈ todo, q.1 ≠ p.1 := fun q hq e => (List.nodup_cons.mp nd2.2.1).1 (by rw [← e]; exact List.mem_map.mpr ⟨q, hq, rfl⟩)
      have inz := S.iz p pm
      refine wpAny_bind (wpAny_onRaise ?_)
      show wpAny _ _ (Builtin.SmallTypes.nextOf (.ref p.1) >>= _) _ _ _
      refine wpAny_bind (wpAny_nextOf_list_item (s := { s with heap := h' }) (e10 p (List.mem_cons_self ..)) u2' u3 fun h2 it2 sb2 => wpAny_pure ?_)
      have T2 : IsTupN h2 TO ar := sb2.extBut _ _ inz.2.2.symm e6
      have z2 : ZipAt h2 z TI TO .ellipsis b0 := sb2.extBut _ _ inz.1.symm e5
      refine wpAny_bind (wpAny_seqItems (s := { s with heap := h2 }) T2 rfl ?_)
      refine wpAny_bind (updateSeqN (s := { s with heap := h2 }) T2 (by rw [e7]; exact hn) fun h3 T3 sb3 => ?_)
      replace sb3 : Heap.SameBut TO h2 h3 := sb3
      refine wpAny_bind (wpAny_letGo (wpAny_pure ?_))
      refine ⟨done ++ [p], todo, h3, ar.set done.length u, by rw [e1, List.append_assoc]; rfl, by rw [List.length_append]; rfl, rfl, rfl, sb3.extBut _ _ S.TOz.symm z2, T3, by rw [List.length_set, e7], ?_, fun q hq => ?_, fun q hq => ?_, ?_, fun c o c1 c2 c3 e => ?_⟩
      · have lt : done.length < ar.length := by rw [e7, e1]; simp
        have lt2 : done.length < us.length := by rw [hu.1, e1]; simp
        rw [List.length_append, List.length_singleton, List.take_add_one, List.take_add_one, List.take_set_of_le (Nat.le_refl _), e8, List.getElem?_set_self lt, u1]
      · rcases List.mem_append.mp hq with q' | q'
        · have qm : q ∈ ps := by rw [e1]; exact List.mem_append_left _ q'
          exact ((e9 q q').extBut sb2.extBut (dn q q')).extBut sb3.extBut (S.iz q qm).2.2
        · rw [List.mem_singleton] at q'
          subst q'
          exact it2.extBut sb3.extBut inz.2.2
      · have qm : q ∈ ps := by rw [e1]; exact List.mem_append_right _ (List.mem_cons_of_mem _ hq)
        exact ((e10 q (List.mem_cons_of_mem _ hq)).extBut sb2.extBut (tn q hq)).extBut sb3.extBut (S.iz q qm).2.2
      · rw [sb3.1, sb2.1]; exact e11
      · exact sb3.extBut _ _ c2 (sb2.extBut _ _ (fun q => c3 (by rw [q]; exact List.mem_map.mpr ⟨p, pm, rfl⟩)) (e12 c o c1 c2 c3 e))
  · rintro b s' ⟨done, todo, h', ar, e1, e2, rfl, rfl, e5, e6, e7, e8, e9, e10, e11, e12⟩
    cases todo with
    | cons p todo => simp at e2
    | nil =>
      have ed : ps = done := by rw [e1, List.append_nil]
      have ea : ar = us := by
        have q : done.length = ps.length := by rw [ed]
        rw [q, List.take_of_length_le (by omega), List.take_of_length_le (by rw [hu.1]; exact Nat.le_refl _)] at e8
        exact e8
      subst ea
      show wpAny _ _ (seqItems? (Value.ref TO) >>= _) _ _ _
      refine wpAny_bind (wpAny_seqItems (s := { s with heap := h' }) e6 rfl ?_)
      refine wpAny_bind (wpAny_newTuple ?_ (by show ar.length ≤ sizeLine; rw [e7]; exact Nat.le_trans hn (by decide)))
      show wpAny _ _ (Builtin.SmallTypes.ownedTupleHandOut (.ref z) (.ref h'.objs.size) >>= _) _ _ ({ s with heap := h'.push { cls := .type "tuple", data := .seq ar.toArray } })
      refine wpAny_bind ?_
      unfold Builtin.SmallTypes.ownedTupleHandOut
      have hz6 : ZipAt (h'.push { cls := .type "tuple", data := .seq ar.toArray }) z TI TO .ellipsis b0 := Heap.get?_push_of_some _ e5
      refine wpAny_bind (wpAny_setField_rec hz6 (by simp) fun h7 hz7 hs7 => ?_)
      replace hz7 : ZipAt h7 z TI TO (rawInt h'.objs.size) b0 := hz7
      refine wpAny_setField_rec hz7 (by simp) fun h8 hz8 hs8 => ?_
      replace hz8 : ZipAt h8 z TI TO (rawInt h'.objs.size) (.bool false) := hz8
      replace hs7 : Heap.SameBut z (h'.push { cls := .type "tuple", data := .seq ar.toArray }) h7 := hs7
      replace hs8 : Heap.SameBut z h7 h8 := hs8
      have hzlt : z < h'.objs.size := Heap.lt_size e5
      have up : ∀ c o, c ≠ z → h'.get? c = some o → h8.get? c = some o := fun c o c1 e => hs8.extBut _ _ c1 (hs7.extBut _ _ c1 (Heap.get?_push_of_some _ e))
      have hT8 : IsTupN h8 h'.objs.size ar := hs8.extBut _ _ (Nat.ne_of_gt hzlt) (hs7.extBut _ _ (Nat.ne_of_gt hzlt) (Heap.get?_push_size _ rfl))
      have hsz8 : h8.objs.size = h'.objs.size + 1 := by rw [hs8.1, hs7.1, Heap.size_push]
      rw [e11] at hz8 hT8 hsz8
      refine wpAny_pure ⟨_, rfl, ?_⟩
      show Q (.ref h'.objs.size) { s with heap := h8 }
      rw [e11]
      exact hQ h8 hz8 (up _ _ S.TOz e6) (fun p hp => (e9 p (by rw [← ed]; exact hp)).at fun o e => up _ _ (S.iz p hp).1 e) hT8 hsz8 fun c o c1 c2 c3 e => up c o c1 (e12 c o c1 c2 c3 e)
  · exact ⟨[], ps, g1, arr, rfl, rfl, rfl, rfl, za1, sm1.extBut _ _ S.TOz toa, ha, rfl, fun p hp => (List.not_mem_nil hp).elim, fun p hp => (hi p hp).extBut sm1.extBut (S.iz p hp).1, sm1.1, fun c o c1 c2 c3 e => sm1.extBut _ _ c1 e⟩
theorem zipN_held {Q : Value → Shared → Prop} (S : SepN z TI TO ps) (zat : ZipAt s.heap z TI TO f0 b0)
    (held : ∀ Q : Bool → Shared → Prop, (∀ h', ZipAt h' z TI TO f0 (.bool true) → Heap.SameBut z s.heap h' → Q false { s with heap := h' }) → wpAny (model prog w) A (Builtin.SmallTypes.ownedTupleIsFree (.ref z)) Q E s)
    (tia : IsTupN s.heap TI (ps.map fun p => .ref p.1)) (hne : ps ≠ []) (hn : ps.length ≤ 13) (hi : ∀ p ∈ ps, s.heap.IsListIter p.1 p.2 i) (hu : ItemsN s.heap ps i us)
    (hQ : ∀ h', ZipAt h' z TI TO f0 (.bool true) → (∀ p ∈ ps, h'.IsListIter p.1 p.2 (i + 1)) → IsTupN h' s.heap.objs.size us → h'.objs.size = s.heap.objs.size + 1 →
      (∀ c o, c ≠ z → c ∉ ps.map (·.1) → s.heap.get? c = some o → h'.get? c = some o) → Q (.ref s.heap.objs.size) { s with heap := h' }) :
    wpAny (model prog w) A (nextN z) (fun fin s' => ∃ v, fin = .done (.ret v) ∧ Q v s') E s := by
  show wpAny _ _ (field (.ref z) 2 >>= _) _ _ _ ; refine wpAny_bind (wpAny_field zat rfl (x := .bool false) rfl ?_)
  show wpAny _ _ (field (.ref z) 3 >>= _) _ _ _ ; refine wpAny_bind (wpAny_field zat rfl (x := .ref TI) rfl (wpAny_bind (wpAny_seqItems tia rfl ?_)))
  have hemp : ((ps.map fun p => Value.ref p.1).toArray.isEmpty) = false := by
    cases ps with
    | nil => exact absurd rfl hne
    | cons p ps => rfl
  simp only [hemp, Bool.false_eq_true, if_false]
  show wpAny _ _ (Builtin.SmallTypes.ownedTupleIsFree _ >>= _) _ _ _
  refine wpAny_bind (held _ fun g1 za1 sm1 => ?_)
  simp only [Bool.false_eq_true, if_false]
  refine wpAny_bind ?_
  rw [← Array.forIn_toList]
  refine wpAny_forIn_list _ (fun rest b s' => ∃ (done todo : List (Addr × Addr)) (h' : Heap), ps = done ++ todo ∧ rest = (todo.map fun p => Value.ref p.1) ∧ s' = { s with heap := h' } ∧ b = (none, (us.take done.length).toArray) ∧ ZipAt h' z TI TO f0 (.bool true) ∧
    (∀ p ∈ done, h'.IsListIter p.1 p.2 (i + 1)) ∧ (∀ p ∈ todo, h'.IsListIter p.1 p.2 i) ∧ h'.objs.size = s.heap.objs.size ∧ ∀ c o, c ≠ z → c ∉ ps.map (·.1) → s.heap.get? c = some o → h'.get? c = some o) _ ?_ ?_ _ _ ?_
  · rintro x rest b s' ⟨done, todo, h', e1, e2, rfl, rfl, e5, e9, e10, e11, e12⟩
    cases todo with
    | nil => simp at e2
    | cons p todo =>
      rw [List.map_cons, List.cons.injEq] at e2
      obtain ⟨rfl, rfl⟩ := e2
      obtain ⟨u, its, u1, u2, u3⟩ := hu.at e1
      have pm : p ∈ ps := by rw [e1]; simp
      have l1 := S.lz p pm
      have u2' : h'.IsList p.2 its := Heap.IsList.at u2 fun o e => e12 _ o l1.1 (fun q => by obtain ⟨r, hr, hq⟩ := List.mem_map.mp q; exact l1.2.2 r hr hq.symm) e
      have nd := S.nd
      rw [e1, List.map_append, List.map_cons] at nd
      have nd2 := List.nodup_append.mp nd
      have dn : ∀ q ∈ done, q.1 ≠ p.1 := fun q hq e => nd2.2.2 q.1 (List.mem_map.mpr ⟨q, hq, rfl⟩) p.1 (List.mem_cons_self ..) e
      have tn : ∀ q ∈ todo, q.1 ≠ p.1 := fun q hq e => (List.nodup_cons.mp nd2.2.1).1 (by rw [← e]; exact List.mem_map.mpr ⟨q, hq, rfl⟩)
      have inz := S.iz p pm
      refine wpAny_bind (wpAny_holding ?_)
      show wpAny _ _ (Builtin.SmallTypes.nextOf (.ref p.1) >>= _) _ _ _
      refine wpAny_bind (wpAny_nextOf_list_item (s := { s with heap := h' }) (e10 p (List.mem_cons_self ..)) u2' u3 fun h2 it2 sb2 => wpAny_pure (wpAny_pure ?_))
      have z2 : ZipAt h2 z TI TO f0 (.bool true) := sb2.extBut _ _ inz.1.symm e5
      refine ⟨done ++ [p], todo, h2, by rw [e1, List.append_assoc]; rfl, rfl, rfl, ?_, z2, fun q hq => ?_, fun q hq => (e10 q (List.mem_cons_of_mem _ hq)).extBut sb2.extBut (tn q hq), ?_, fun c o c1 c3 e => ?_⟩
      · rw [List.length_append, List.length_singleton, List.take_add_one, u1]; simp
      · rcases List.mem_append.mp hq with q' | q'
        · exact (e9 q q').extBut sb2.extBut (dn q q')
        · rw [List.mem_singleton] at q'
          subst q'
          exact it2
      · rw [sb2.1]; exact e11
      · exact sb2.extBut _ _ (fun q => c3 (by rw [q]; exact List.mem_map.mpr ⟨p, pm, rfl⟩)) (e12 c o c1 c3 e)
  · rintro b s' ⟨done, todo, h', e1, e2, rfl, rfl, e5, e9, e10, e11, e12⟩
    cases todo with
    | cons p todo => simp at e2
    | nil =>
      have ed : ps = done := by rw [e1, List.append_nil]
      have ea : us.take done.length = us := List.take_of_length_le (by rw [hu.1, ed]; exact Nat.le_refl _)
      rw [ea]
      show wpAny _ _ (newTuple us >>= _) _ _ _
      refine wpAny_bind (wpAny_newTuple ?_ (by show us.length ≤ sizeLine; rw [hu.1]; exact Nat.le_trans hn (by decide)))
      refine wpAny_pure ⟨_, rfl, ?_⟩
      show Q (.ref h'.objs.size) { s with heap := h'.push { cls := .type "tuple", data := .seq us.toArray } }
      have hp : IsTupN (h'.push { cls := .type "tuple", data := .seq us.toArray }) h'.objs.size us := Heap.get?_push_size _ rfl
      have hz4 : (h'.push { cls := .type "tuple", data := .seq us.toArray }).objs.size = h'.objs.size + 1 := Heap.size_push ..
      rw [e11] at hp hz4 ⊢
      exact hQ _ (Heap.get?_push_of_some _ e5) (fun p hp => (e9 p (by rw [← ed]; exact hp)).at fun o e => Heap.get?_push_of_some _ e) hp hz4 fun c o c1 c3 e => Heap.get?_push_of_some _ (e12 c o c1 c3 e)
  · exact ⟨[], ps, g1, rfl, rfl, rfl, rfl, za1, fun p hp => (List.not_mem_nil hp).elim, fun p hp => (hi p hp).extBut sm1.extBut (S.iz p hp).1, sm1.1, fun c o c1 c3 e => sm1.extBut _ _ c1 e⟩
theorem zipN_end {Q : Fin → Shared → Prop} {p : Addr × Addr} {its : Array Value} (nho : A.handled = none) (S : SepN z TI TO (p :: ps)) (zat : ZipAt s.heap z TI TO f0 b0)
    (fr : (∀ Q : Bool → Shared → Prop, Q true s → wpAny (model prog w) A (Builtin.SmallTypes.ownedTupleIsFree (.ref z)) Q E s) ∨
      (∀ Q : Bool → Shared → Prop, (∀ h', ZipAt h' z TI TO f0 (.bool true) → Heap.SameBut z s.heap h' → Q false { s with heap := h' }) → wpAny (model prog w) A (Builtin.SmallTypes.ownedTupleIsFree (.ref z)) Q E s))
    (tia : IsTupN s.heap TI ((p :: ps).map fun p => .ref p.1)) (hi : s.heap.IsListIter p.1 p.2 i) (hl : s.heap.IsList p.2 its) (hx : its[i]? = none)
    (hE : ∀ h' e, (∀ c o, c ≠ z → c ∉ (p :: ps).map (·.1) → s.heap.get? c = some o → h'.get? c = some o) → (∃ o, h'.get? e = some o ∧ o.cls = .type "StopIteration") → E (.ref e) { s with heap := h' }) :
    wpAny (model prog w) A (nextN z) Q E s := by
  have inz := S.iz p (List.mem_cons_self ..)
  have l1 := S.lz p (List.mem_cons_self ..)
  have pm : p.1 ∈ (p :: ps).map (·.1) := List.mem_map.mpr ⟨p, List.mem_cons_self .., rfl⟩
  show wpAny _ _ (field (.ref z) 2 >>= _) _ _ _ ; refine wpAny_bind (wpAny_field zat rfl (x := .bool false) rfl ?_)
  show wpAny _ _ (field (.ref z) 3 >>= _) _ _ _ ; refine wpAny_bind (wpAny_field zat rfl (x := .ref TI) rfl (wpAny_bind (wpAny_seqItems tia rfl ?_)))
  show wpAny _ _ (Builtin.SmallTypes.ownedTupleIsFree _ >>= _) _ _ _
  rcases fr with free | held
  · refine wpAny_bind (free _ ?_)
    simp only [if_true]
    refine wpAny_bind (wpAny_rule ?_)
    refine wpAny_bind (wpAny_field zat rfl (x := .ref TO) rfl ?_)
    refine wpAny_bind (wpAny_setField_rec zat (by simp) fun g1 za1 sm1 => ?_)
    replace za1 : ZipAt g1 z TI TO .ellipsis b0 := za1
    refine wpAny_bind ?_
    simp only [List.map_cons, List.toList_toArray, List.zipIdx_cons, List.forIn_cons]
    refine wpAny_bind (wpAny_bind (wpAny_onRaise ?_))
    show wpAny _ _ (Builtin.SmallTypes.nextOf (.ref p.1) >>= _) _ _ _
    refine wpAny_bind (wpAny_nextOf_list_end (s := { s with heap := g1 }) nho (hi.extBut sm1.extBut inz.1) (Heap.IsList.at hl fun o e => sm1.extBut _ _ l1.1 e) hx fun q e hq he => ?_)
    obtain ⟨oe, oeq, ceq⟩ := he
    have hzq : ZipAt q z TI TO .ellipsis b0 := hq _ _ inz.1.symm za1
    have nez : e ≠ z := fun x => by subst x; rw [hzq] at oeq; cases oeq; simp at ceq
    refine wpAny_setField_rec (s := { s with heap := q }) hzq (by simp) fun q' _ hqq => ?_
    replace hqq : Heap.SameBut z q q' := hqq
    exact hE q' e (fun c o c1 c2 x => hqq.extBut _ _ c1 (hq _ _ (fun y => c2 (by rw [y]; exact pm)) (sm1.extBut _ _ c1 x))) ⟨oe, hqq.extBut _ _ nez oeq, ceq⟩
  · refine wpAny_bind (held _ fun g1 za1 sm1 => ?_)
    simp only [Bool.false_eq_true, if_false]
    refine wpAny_bind ?_
    rw [← Array.forIn_toList]
    simp only [List.map_cons, List.toList_toArray, List.forIn_cons]
    refine wpAny_bind (wpAny_bind (wpAny_holding ?_))
    show wpAny _ _ (Builtin.SmallTypes.nextOf (.ref p.1) >>= _) _ _ _
    refine wpAny_bind (wpAny_nextOf_list_end (s := { s with heap := g1 }) nho (hi.extBut sm1.extBut inz.1) (Heap.IsList.at hl fun o e => sm1.extBut _ _ l1.1 e) hx fun q e hq he => ?_)
    exact hE q e (fun c o c1 c2 x => hq _ _ (fun y => c2 (by rw [y]; exact pm)) (sm1.extBut _ _ c1 x)) he
theorem zAlive {a : Addr} {Q : Option Obj → Shared → Prop} (ho : s.heap.get? a = none) (h : Q none s) : wpAny (model prog w) A (loadIfAlive a) Q E s := by
  have h' : Q (s.heap.get? a) s := by rw [ho]; exact h
  exact fun _ _ _ => h'
/-- whether the zip may take its tuple again -/
theorem freeOr {T : Addr} {f : Bool} (zat : ZipAt s.heap z TI TO f0 (.bool f)) (h0 : f0 = .none ∨ f0 = rawInt T) :
    (∀ Q : Bool → Shared → Prop, Q true s → wpAny (model prog w) A (Builtin.SmallTypes.ownedTupleIsFree (.ref z)) Q E s) ∨
      (∀ Q : Bool → Shared → Prop, (∀ h', ZipAt h' z TI TO f0 (.bool true) → Heap.SameBut z s.heap h' → Q false { s with heap := h' }) → wpAny (model prog w) A (Builtin.SmallTypes.ownedTupleIsFree (.ref z)) Q E s) := by
  rcases h0 with rfl | rfl
  · refine .inl fun Q q => ?_
    unfold Builtin.SmallTypes.ownedTupleIsFree
    exact wpAny_bind (wpAny_field zat rfl (x := .none) rfl (wpAny_pure q))
  · cases tat : s.heap.get? T with
    | none =>
      refine .inl fun Q q => ?_
      unfold Builtin.SmallTypes.ownedTupleIsFree
      refine wpAny_bind (wpAny_field zat rfl (x := rawInt T) rfl ?_)
      show wpAny _ _ (loadIfAlive ((T : Int).toNat) >>= _) _ _ _
      rw [Int.toNat_natCast]
      refine wpAny_bind (zAlive tat ?_)
      exact wpAny_pure q
    | some oT => exact .inr fun Q h => wpAny_tupleHeld_zip zat tat h
/-- a zip's state ahead of turn i -/
def StN (z TI TO : Addr) (ps : List (Addr × Addr)) (i : Nat) (h : Heap) : Prop :=
  (∃ f0 f, ZipAt h z TI TO f0 (.bool f) ∧ (f0 = .none ∨ ∃ T : Addr, f0 = rawInt T)) ∧ IsTupN h TI (ps.map fun p => .ref p.1) ∧ (∃ arr : List Value, IsTupN h TO arr ∧ arr.length = ps.length) ∧ ∀ p ∈ ps, h.IsListIter p.1 p.2 i
theorem pyNext_zipN_item {Q : Option Value → Shared → Prop} (S : SepN z TI TO ps) (st : StN z TI TO ps i s.heap) (hne : ps ≠ []) (hn : ps.length ≤ 13) (hu : ItemsN s.heap ps i us)
    (hQ : ∀ h', StN z TI TO ps (i + 1) h' → IsTupN h' s.heap.objs.size us → h'.objs.size = s.heap.objs.size + 1 →
      (∀ c o, c ≠ z → c ≠ TO → c ∉ ps.map (·.1) → s.heap.get? c = some o → h'.get? c = some o) → Q (some (.ref s.heap.objs.size)) { s with heap := h' }) :
    wpAny (model prog w) A (pyNext (.ref z)) Q E s := by
  obtain ⟨⟨f0, f, zat, h0⟩, tia, ⟨arr, toa, ha⟩, hi⟩ := st
  have tyz : s.TypeIs (.ref z) "zip" := ⟨_, zat, rfl⟩
  have h0' : ∃ T : Addr, f0 = .none ∨ f0 = rawInt T := by
    rcases h0 with q | ⟨T, q⟩
    · exact ⟨0, .inl q⟩
    · exact ⟨T, .inr q⟩
  obtain ⟨T, h0''⟩ := h0'
  have itI : TI ∉ ps.map (·.1) := fun q => by obtain ⟨r, hr, e⟩ := List.mem_map.mp q; exact (S.iz r hr).2.1 e
  have itO : TO ∉ ps.map (·.1) := fun q => by obtain ⟨r, hr, e⟩ := List.mem_map.mp q; exact (S.iz r hr).2.2 e
  unfold pyNext
  refine wpAny_bind (wpAny_attempt (wpAny_callSpecial?_slot (name := Str.ofString "__next__") tyz F.slot_zip_next
    (wpAny_call_entry F.slot_zip_next tyz F.entry_zip_next ?_ (F.args_zip_next_1 _))))
  rcases freeOr (prog := prog) (w := w) (E := fun e s' => _) zat h0'' with fr | he
  · exact zipN_own S zat fr tia toa ha hne hn hi hu fun h' a1 a2 a3 a4 a5 a6 => wpAny_pure (hQ h' ⟨⟨_, false, a1, .inr ⟨_, rfl⟩⟩, a6 _ _ S.TIz S.TITO itI tia, ⟨us, a2, hu.1⟩, a3⟩ a4 a5 a6)
  · exact zipN_held S zat he tia hne hn hi hu fun h' a1 a3 a4 a5 a6 => wpAny_pure (hQ h' ⟨⟨_, true, a1, h0⟩, a6 _ _ S.TIz itI tia, ⟨arr, a6 _ _ S.TOz itO toa, ha⟩, a3⟩ a4 a5 fun c o c1 _ c3 e => a6 c o c1 c3 e)
theorem pyNext_zipN_end {Q : Option Value → Shared → Prop} {p : Addr × Addr} {its : Array Value} (nho : A.handled = none) (S : SepN z TI TO (p :: ps)) (st : StN z TI TO (p :: ps) i s.heap) (hl : s.heap.IsList p.2 its) (hx : its[i]? = none)
    (hQ : ∀ h', (∀ c o, c ≠ z → c ∉ (p :: ps).map (·.1) → s.heap.get? c = some o → h'.get? c = some o) → Q none { s with heap := h' }) :
    wpAny (model prog w) A (pyNext (.ref z)) Q E s := by
  obtain ⟨⟨f0, f, zat, h0⟩, tia, ⟨arr, toa, ha⟩, hi⟩ := st
  have tyz : s.TypeIs (.ref z) "zip" := ⟨_, zat, rfl⟩
  have h0' : ∃ T : Addr, f0 = .none ∨ f0 = rawInt T := by
    rcases h0 with q | ⟨T, q⟩
    · exact ⟨0, .inl q⟩
    · exact ⟨T, .inr q⟩
  obtain ⟨T, h0''⟩ := h0'
  unfold pyNext
  refine wpAny_bind (wpAny_attempt (wpAny_callSpecial?_slot (name := Str.ofString "__next__") tyz F.slot_zip_next
    (wpAny_call_entry F.slot_zip_next tyz F.entry_zip_next (zipN_end nho S zat (freeOr zat h0'') tia (hi p (List.mem_cons_self ..)) hl hx fun h' e hk he => ?_) (F.args_zip_next_1 _))))
  obtain ⟨o, ho, hc⟩ := he
  refine wpAny_bind (wpAny_isInstance (T := "StopIteration") (b := true) ⟨o, ho, hc⟩ isSubtype_stop ?_)
  exact wpAny_pure (hQ h' hk)
theorem pyIter_zipN {Q : Value → Shared → Prop} (zat : ZipAt s.heap z TI TO f0 b0) (h : Q (.ref z) s) : wpAny (model prog w) A (pyIter (.ref z)) Q E s := by
  have tat : s.TypeIs (.ref z) "zip" := ⟨_, zat, rfl⟩
  refine wpAny_pyIter_slot tat F.slot_zip_iter (wpAny_call_entry F.slot_zip_iter tat F.entry_zip_iter ?_ (F.args_zip_iter_1 _))
  show wpAny _ _ (ret (.ref z)) _ _ s
  exact wpAny_pure ⟨_, rfl, "zip", _, tat, F.slot_zip_next.lookup, h⟩
end
end PySem

set_option Elab.async false
set_option linter.all false
set_option maxRecDepth 100000
namespace DL
open PySem PySem.Spec PyProof.Rows L2 RZ
theorem callWith_typeStar {M : Model} {A : Around} {E : Value → Shared → Prop} {s : Shared} {env : Env} {pos p : Pos} {T : String} {e : Expr} {Q : Value → Shared → Prop}
    (h : wpAny M A (eval e env) (fun v s₁ => PySem.W.StarOf M A E v (fun vs s₂ => wpAny M A (call (.type T) vs) Q E s₂) s₁) E s)
    (he : starEach [.Starred e p] env = [(true, eval e env)] := by rfl) : wpAny M A (callWith pos (.type T) [] (backTo pos (starEach [.Starred e p] env)) []) Q E s := by
  rw [he]
  unfold callWith
  refine wpAny_bind (wpAny_holding (wpAny_mono (PySem.W.ks_lone (Q := fun a s₁ => wpAny M A (call (.type T) ([] ++ a.pos) a.kw) Q E s₁) h) (fun a s₁ h₁ => wpAny_bind (wpAny_standAt ?_)) fun _ _ x => x))
  refine wpAny_bind (wpAny_pure ?_)
  have ht : (List.any (backTo pos [(true, eval e env)]) (·.1) || List.any ([] : List (Option Str × Sem Value)) (·.1.isNone)) = true := rfl
  rw [ht]
  exact wpAny_bind (wpAny_mono (wpAny_operating h₁) (fun r s₂ hr => wpAny_bind (wpAny_holding (wpAny_point (wpAny_pure hr)))) fun _ _ x => x)
/-- two lists, each of one with each of the other at its place -/
def A2 {α β : Type} (P : α → β → Prop) : List α → List β → Prop
  | [], [] => True
  | a :: as, b :: bs => P a b ∧ A2 P as bs
  | _, _ => False
theorem A2.len {α β : Type} {P : α → β → Prop} : ∀ {as : List α} {bs : List β}, A2 P as bs → as.length = bs.length
  | [], [], _ => rfl
  | _ :: _, _ :: _, h => congrArg (· + 1) h.2.len
  | [], _ :: _, h => h.elim
  | _ :: _, [], h => h.elim
theorem A2.imp {α β : Type} {P Q : α → β → Prop} (f : ∀ a b, P a b → Q a b) : ∀ {as : List α} {bs : List β}, A2 P as bs → A2 Q as bs
  | [], [], _ => trivial
  | _ :: _, _ :: _, h => ⟨f _ _ h.1, h.2.imp f⟩
  | [], _ :: _, h => h.elim
  | _ :: _, [], h => h.elim
/-- lists at the addresses, one item of each at each turn, as a new tuple -/
def ItN (K : PySem.W.Frag) (as : List Addr) : It :=
  ⟨fun i H => ∃ rows : List (List V), A2 (fun a xs => SqL K H a xs ∧ i < xs.length) as rows,
    fun i H v H' => ∃ T col, v = .ref T ∧ H T = none ∧ H' = upd H T (.tup col) ∧ A2 (fun a x => ∀ xs, SqL K H a xs → xs[i]? = some x) as col,
    fun i H => ∃ a as' xs, as = a :: as' ∧ SqL K H a xs ∧ xs.length ≤ i⟩
theorem column {X : Cx} {pins : List (Addr × Obj)} {σ : L2.St} {H : Hp} {s : Shared} {i : Nat} (I : Inv X pins σ H s) : ∀ (as : List Addr) (rows : List (List V)), A2 (fun a xs => SqL X.K H a xs ∧ i < xs.length) as rows →
    ∃ us col, us.length = as.length ∧ Vals col us ∧ A2 (fun a x => ∀ xs, SqL X.K H a xs → xs[i]? = some x) as col ∧ ∀ (k : Nat) a u, as[k]? = some a → us[k]? = some u → ∃ its, s.heap.IsList a its ∧ its[i]? = some u
  | [], [], _ => ⟨[], [], rfl, .nil, trivial, fun k a u h => by simp at h⟩
  | a :: as, xs :: rows, h => by
    obtain ⟨us, col, l, rv, c, g⟩ := column I as rows h.2
    obtain ⟨its, rx, p, _⟩ := I.list h.1.1
    have hlt : i < xs.length := h.1.2
    have hx : xs[i]? = some xs[i] := List.getElem?_eq_getElem hlt
    obtain ⟨u, hu, ru⟩ := rx.get hx
    refine ⟨u :: us, xs[i] :: col, by rw [List.length_cons, List.length_cons, l], .cons ru rv, ⟨fun ys hy => ?_, c⟩, fun k b v hb hv => ?_⟩
    · rw [I.list_inj hy h.1.1]; exact hx
    · cases k with
      | zero =>
        have e1 : a = b := by simpa using hb
        have e2 : u = v := by simpa using hv
        subst e1 e2
        exact ⟨its.toArray, p.isList, by simpa using hu⟩
      | succ k => exact g k b v (by simpa using hb) (by simpa using hv)
  | [], _ :: _, h => h.elim
  | _ :: _, [], h => h.elim
theorem turn_zipN {P : Program} {w : World} {K : PySem.W.Frag} {x : Str} {tpos : Pos} {z TI TO : Addr} {ps : List (Addr × Addr)} (S : SepN z TI TO ps) (hne : ps ≠ []) (hn : ps.length ≤ 13) :
    Turn P w K (.Name x tpos) (ItN K (ps.map (·.2))) (z :: TI :: TO :: ps.map (·.1)) z (StN z TI TO ps) where
  mem := List.mem_cons_self ..
  obj := fun i h st c hc => by
    obtain ⟨⟨f0, f, hz, h0⟩, hTI, ⟨arr, hTO, ha⟩, hi⟩ := st
    rcases List.mem_cons.mp hc with q | hc
    · rw [q]; exact ⟨_, hz, fun v q => nomatch q⟩
    rcases List.mem_cons.mp hc with q | hc
    · rw [q]; exact ⟨_, hTI, fun v q => nomatch q⟩
    rcases List.mem_cons.mp hc with q | hc
    · rw [q]; exact ⟨_, hTO, fun v q => nomatch q⟩
    obtain ⟨p, pm, rfl⟩ := List.mem_map.mp hc
    obtain ⟨o, e, _, d⟩ := hi p pm
    exact ⟨o, e, fun v q => by rw [d] at q; cases q⟩
  keep := fun i h h' st k => by
    obtain ⟨⟨f0, f, hz, h0⟩, hTI, ⟨arr, hTO, ha⟩, hi⟩ := st
    exact ⟨⟨f0, f, k z (by simp) _ hz, h0⟩, k TI (by simp) _ hTI, ⟨arr, k TO (by simp) _ hTO, ha⟩, fun p pm => (hi p pm).at fun o q => k p.1 (List.mem_cons_of_mem _ (List.mem_cons_of_mem _ (List.mem_cons_of_mem _ (List.mem_map.mpr ⟨p, pm, rfl⟩)))) o q⟩
  item := by
    intro X hP hw hK hc i pins s σ H E I hf st hg
    subst hP hw hK
    obtain ⟨rows, hr⟩ := hg
    obtain ⟨us, col, l, rv, c, g⟩ := column I _ rows hr
    have hu : ItemsN s.heap ps i us := ⟨by rw [l, List.length_map], fun k p u hp hv => g k p.2 u (by rw [List.getElem?_map, hp]; rfl) hv⟩
    refine pyNext_zipN_item S st hne hn hu fun h' st' hT hsz hk => ?_
    refine ⟨_, rfl, ?_⟩
    refine (wpAny_pure ?_ : wpAny _ _ (pure ()) _ _ _)
    have new : ObjOk X.prog X.w (upd H s.heap.objs.size (.tup col)) h' s.heap.objs.size (.tup col) :=
      ⟨by show col.length ≤ sizeLine; rw [rv.length, l, List.length_map]; exact Nat.le_trans hn (by decide), us, rv, ⟨_, hT, rfl, _, rfl⟩⟩
    have I1 : Inv X pins σ (upd H s.heap.objs.size (.tup col)) { s with heap := h' } :=
      I.turnedNew (t' := s.toks) (ch := z :: TI :: TO :: ps.map (·.1)) (fun c o hb q => hk c o (fun q' => hb (by simp [q'])) (fun q' => hb (by simp [q'])) (fun q' => hb (List.mem_cons_of_mem _ (List.mem_cons_of_mem _ (List.mem_cons_of_mem _ q')))) q) hf (Nat.le_refl _) new
    refine ⟨.ref s.heap.objs.size, _, I1, rfl, ⟨_, col, rfl, I.hok.fresh (Nat.le_refl _), rfl, c⟩, st', fun b hb => ?_⟩
    have hlt : b < s.heap.objs.size := by
      obtain ⟨⟨f0, f, hz, h0⟩, hTI, ⟨arr, hTO, ha⟩, hi⟩ := st
      rcases List.mem_cons.mp hb with q | hb
      · rw [q]; exact Heap.lt_size hz
      rcases List.mem_cons.mp hb with q | hb
      · rw [q]; exact Heap.lt_size hTI
      rcases List.mem_cons.mp hb with q | hb
      · rw [q]; exact Heap.lt_size hTO
      obtain ⟨p, pm, rfl⟩ := List.mem_map.mp hb
      obtain ⟨o, e, _, d⟩ := hi p pm
      exact Heap.lt_size e
    rw [upd_ne (Nat.ne_of_lt hlt)]
    exact (hf b hb).1
  done := by
    intro X hP hw hK hc i pins s σ H E I hf st hg
    subst hP hw hK
    obtain ⟨a, as', xs, e, hq, hle⟩ := hg
    cases ps with
    | nil => exact absurd rfl hne
    | cons p ps =>
      rw [List.map_cons, List.cons.injEq] at e
      obtain ⟨rfl, _⟩ := e
      obtain ⟨its, rx, pl, _⟩ := I.list hq
      have he : its.toArray[i]? = none := by
        have := rx.length
        simp; omega
      refine pyNext_zipN_end (I.ok.hd hc) S st pl.isList he fun h' hk => ⟨rfl, I.turnedL (t' := s.toks) (ch := z :: TI :: TO :: (p :: ps).map (·.1)) (fun c o hb q => hk c o (fun q' => hb (by simp [q'])) (fun q' => hb (List.mem_cons_of_mem _ (List.mem_cons_of_mem _ (List.mem_cons_of_mem _ q')))) q) hf⟩
  self := fun A i s Q E st h => by
    obtain ⟨⟨f0, f, hz, h0⟩, _⟩ := st
    exact pyIter_zipN hz h
end DL

set_option Elab.async false
set_option linter.all false
set_option maxRecDepth 100000
namespace DL
open PySem PySem.Spec PyProof.Rows L2 RZ
theorem zlt {a n k : Nat} (h : a < n + 1 + k) : a < n + (k + 1) := by omega
theorem zne0 {a m : Nat} (h : a < m) : a ≠ m := by omega
theorem zne1 {a m : Nat} (h : a < m) : a ≠ m + 1 := by omega
theorem zne2 {a m : Nat} (h : a < m) : a ≠ m + 2 := by omega
theorem zup {l n k j : Nat} (h : l < n) : l ≠ n + k + j := by omega
theorem zap {l n q : Nat} (h : l < n) (h2 : n ≤ q) : l ≠ q := by omega
theorem itsAt_mem : ∀ {ls : List Addr} {n : Nat} {p : Addr × Addr}, p ∈ itsAt n ls → n ≤ p.1 ∧ p.1 < n + ls.length ∧ p.2 ∈ ls
  | l :: ls, n, p, h => by
    rw [itsAt] at h
    rcases List.mem_cons.mp h with q | q
    · subst q
      exact ⟨Nat.le_refl _, by rw [List.length_cons]; exact Nat.lt_add_of_pos_right (Nat.succ_pos _), List.mem_cons_self ..⟩
    · obtain ⟨a, b, c⟩ := itsAt_mem q
      rw [List.length_cons]
      exact ⟨Nat.le_of_succ_le a, zlt b, List.mem_cons_of_mem _ c⟩
  | [], _, _, h => (List.not_mem_nil h).elim
theorem itsAt_snd : ∀ (ls : List Addr) (n : Nat), (itsAt n ls).map (·.2) = ls
  | [], _ => rfl
  | l :: ls, n => by rw [itsAt, List.map_cons, itsAt_snd ls (n + 1)]
theorem itsAt_nd : ∀ (ls : List Addr) (n : Nat), ((itsAt n ls).map (·.1)).Nodup
  | [], _ => List.nodup_nil
  | l :: ls, n => by
    rw [itsAt, List.map_cons, List.nodup_cons]
    refine ⟨fun h => ?_, itsAt_nd ls (n + 1)⟩
    obtain ⟨q, hq, e⟩ := List.mem_map.mp h
    have := (itsAt_mem hq).1
    have e' : q.1 = n := e
    rw [e'] at this
    exact Nat.not_succ_le_self _ this
theorem sepN_new {n : Nat} {ls : List Addr} (h : ∀ l ∈ ls, l < n) : SepN (n + ls.length + 2) (n + ls.length) (n + ls.length + 1) (itsAt n ls) where
  TIz := Nat.ne_of_lt (Nat.lt_add_of_pos_right (by decide))
  TOz := Nat.ne_of_lt (Nat.lt_succ_self _)
  TITO := Nat.ne_of_lt (Nat.lt_succ_self _)
  iz := fun p hp => ⟨zne2 (itsAt_mem hp).2.1, zne0 (itsAt_mem hp).2.1, zne1 (itsAt_mem hp).2.1⟩
  nd := itsAt_nd ls n
  lz := fun p hp => ⟨zup (h _ (itsAt_mem hp).2.2), zup (h _ (itsAt_mem hp).2.2), fun q hq => zap (h _ (itsAt_mem hp).2.2) (itsAt_mem hq).1⟩
theorem refs_vals : ∀ {as : List Addr} {us : List Value}, Vals (as.map V.ref) us → us = as.map Value.ref
  | [], _, .nil => rfl
  | a :: as, _, .cons r rr => by
    rw [List.map_cons, ← refs_vals rr]
    exact congrArg (· :: _) r
theorem A2.left {α β : Type} {P : α → β → Prop} : ∀ {as : List α} {bs : List β}, A2 P as bs → ∀ a ∈ as, ∃ b, P a b
  | a :: as, b :: bs, h, x, hx => by
    rcases List.mem_cons.mp hx with q | q
    · subst q; exact ⟨b, h.1⟩
    · exact h.2.left x q
  | [], _, _, x, hx => (List.not_mem_nil hx).elim
  | _ :: _, [], h, _, _ => h.elim
def iZipN (K : PySem.W.Frag) (te : TE) : TI := fun σ H R => te σ H fun v H1 => ∃ a as rows, v = .ref a ∧ (SqT K H1 a (as.map .ref) ∨ SqL K H1 a (as.map .ref)) ∧ as ≠ [] ∧ as.length ≤ 13 ∧ A2 (fun a xs => SqL K H1 a xs) as rows ∧ R (ItN K as) H1
theorem pi_zipStar {X : Cx} {e : Expr} {te : TE} {y : Str} {p p2 pos tpos : Pos} (hg : Gl X "zip") (hm : X.mg "zip" = none) (he : PE X e te) (hs : starEach [.Starred e p2] X.env = [(true, eval e X.env)] := by rfl) :
    PI X (.Name y tpos) (.Call (.Name "zip" p) [.Starred e p2] [] pos) (iZipN X.K te) := by
  refine ⟨fun pins s σ H R I h => ?_⟩
  refine Call_ (ld_blt I hg hm PyProof.Rows.boot_zip (callWith_typeStar (thn (he.run pins s σ H _ I h) fun v s1 ⟨y, H1, I1, r1, q1⟩ => ?_) hs))
  obtain ⟨a, as, rows, rfl, hx, ne, hn, h2, q⟩ := q1
  obtain rfl : v = Value.ref a := r1
  refine StX.star_any I1 hx fun us s2 I2 rv => ?_
  rw [refs_vals rv]
  have hl : ∀ l ∈ as, ∃ xs, s2.heap.IsList l xs := fun l hm => by
    obtain ⟨xs, hq⟩ := h2.left l hm
    obtain ⟨its, _, pl, _⟩ := I2.list hq
    exact ⟨_, pl.isList⟩
  have lt : ∀ l ∈ as, l < s2.heap.objs.size := fun l hm => by
    obtain ⟨xs, hq⟩ := h2.left l hm
    obtain ⟨its, _, pl, _⟩ := I2.list hq
    exact pl.lt
  refine call_zipN hn hl fun h' hm => pyIter_zipN hm.1 ?_
  have I3 : Inv X pins σ H1 { s2 with heap := h' } := I2.kept (t' := s2.toks) hm.2.2.2.2.2
  have tn := turn_zipN (P := X.prog) (w := X.w) (K := X.K) (x := y) (tpos := tpos) (sepN_new lt) (fun e => ne (by rw [← itsAt_snd as s2.heap.objs.size, e]; rfl)) (by rw [itsAt_len]; exact hn)
  rw [itsAt_snd] at tn
  refine ⟨s2.heap.objs.size + as.length + 2, _, _, _, H1, rfl, I3, tn, ⟨⟨_, false, hm.1, .inl rfl⟩, hm.2.1, ⟨_, hm.2.2.1, by rw [List.length_map, List.length_map]⟩, hm.2.2.2.1⟩, fun c hc => ?_, q⟩
  have hle : s2.heap.objs.size ≤ c := by
    rcases List.mem_cons.mp hc with q | hc
    · rw [q]; exact Nat.le_trans (Nat.le_add_right _ _) (Nat.le_add_right _ _)
    rcases List.mem_cons.mp hc with q | hc
    · rw [q]; exact Nat.le_add_right _ _
    rcases List.mem_cons.mp hc with q | hc
    · rw [q]; exact Nat.le_trans (Nat.le_add_right _ _) (Nat.le_add_right _ _)
    obtain ⟨r, hr, rfl⟩ := List.mem_map.mp hc
    exact (itsAt_mem hr).1
  have := I2.fpOk hle (I2.hok.fresh hle)
  exact this
/-! ### zip(*rows), rows a list of lists of one length -/
def gZipN (g : GE) : GI := fun δ μ R => g δ μ fun d μ1 => ∃ (rs : List (List D)) (m : Nat), d = .lst (rs.map D.lst) ∧ rs ≠ [] ∧ rs.length ≤ 13 ∧ (∀ r ∈ rs, r.length = m) ∧ R ((List.range m).map fun i => D.tup (rs.map fun r => r.getD i D.non)) μ1
theorem rows_of {K : PySem.W.Frag} {H : Hp} {μ : Mu} {m : Nat} : ∀ (rs : List (List D)) (vs : List V), (∀ r ∈ rs, r.length = m) → RepL K H μ (rs.map D.lst) vs →
    ∃ as rows, vs = as.map V.ref ∧ as.length = rs.length ∧ A2 (fun a xs => H a = some (.lst xs) ∧ μ a = none ∧ xs.length = m) as rows ∧ A2 (fun r xs => RepL K H μ r xs) rs rows
  | [], vs, _, h => by
    unfold RepL at h
    exact ⟨[], [], h, rfl, trivial, trivial⟩
  | r :: rs, vs, hl, h => by
    rw [List.map_cons] at h
    unfold RepL at h
    obtain ⟨v, w, rfl, hr, hrest⟩ := h
    obtain ⟨as, rows, rfl, l, h1, h2⟩ := rows_of rs w (fun q hq => hl q (List.mem_cons_of_mem _ hq)) hrest
    obtain ⟨a, xs, rfl, e1, e2, rl⟩ := rep_lst hr
    exact ⟨a :: as, xs :: rows, rfl, by rw [List.length_cons, List.length_cons, l], ⟨⟨e1, e2, rl.length.trans (hl r (List.mem_cons_self ..))⟩, h1⟩, ⟨rl, h2⟩⟩
theorem col_rep {K : PySem.W.Frag} {H H1 : Hp} {μ μ1 : Mu} {m i : Nat} (k : Kp H1 μ1 H μ) : ∀ (as : List Addr) (rows : List (List V)) (rs : List (List D)) (col : List V), A2 (fun a xs => H1 a = some (.lst xs) ∧ μ1 a = none ∧ xs.length = m) as rows → A2 (fun r xs => RepL K H1 μ1 r xs) rs rows →
    A2 (fun a x => ∀ xs, SqL K H a xs → xs[i]? = some x) as col → RepL K H μ (rs.map fun r => r.getD i D.non) col
  | [], [], [], [], _, _, _ => RepL.nil
  | a :: as, xs :: rows, r :: rs, x :: col, h1, h2, h3 => by
    have hx := h3.1 xs (SqL.of (k.k1 _ _ h1.1.1 h1.1.2.1))
    obtain ⟨d, e3, r3⟩ := ((h2.1 : RepL K H1 μ1 r xs).mono k).atV hx
    rw [List.map_cons]
    unfold RepL
    refine ⟨x, col, rfl, ?_, col_rep k as rows rs col h1.2 h2.2 h3.2⟩
    rw [List.getD_eq_getElem?_getD, e3]
    exact r3
  | [], [], [], _ :: _, _, _, h => h.elim
  | [], [], _ :: _, _, _, h, _ => h.elim
  | [], _ :: _, _, _, h, _, _ => h.elim
  | _ :: _, [], _, _, h, _, _ => h.elim
  | _ :: _, _ :: _, [], _, _, h, _ => h.elim
  | _ :: _, _ :: _, _ :: _, [], _, _, h => h.elim
theorem di_zipN {X : Cx} {e : Expr} {g : GE} {y : Str} {p p2 pos tpos : Pos} (hg : Gl X "zip") (hm : X.mg "zip" = none) (h : DE X e g) (hs : starEach [.Starred e p2] X.env = [(true, eval e X.env)] := by rfl) :
    DI X (.Name y tpos) (.Call (.Name "zip" p) [.Starred e p2] [] pos) (gZipN g) := by
  obtain ⟨t, a1, a2⟩ := h.ex
  refine ⟨_, pi_zipStar hg hm a1 hs, fun σ H δ μ Q R rm rs q f => ?_⟩
  refine a2 σ H δ μ _ _ rm rs q fun v d H1 μ1 k1 rm1 r1 q1 => ?_
  obtain ⟨rs, m, rfl, ne, hn, hl, q1⟩ := q1
  obtain ⟨a, vs, rfl, hH, hn1, rl⟩ := rep_lst r1
  obtain ⟨as, rows, rfl, l, h1, h2⟩ := rows_of rs vs hl rl
  have ne' : as ≠ [] := fun e => ne (List.eq_nil_of_length_eq_zero (by rw [← l, e]; rfl))
  have sq : ∀ {H' μ'}, Kp H1 μ1 H' μ' → A2 (fun a xs => SqL X.K H' a xs ∧ xs.length = m) as rows := fun k => h1.imp fun a xs h => ⟨SqL.of (k.k1 _ _ h.1 h.2.1), h.2.2⟩
  have sq0 : A2 (fun a xs => SqL X.K H1 a xs) as rows := h1.imp fun a xs h => SqL.of h.1
  refine ⟨a, as, rows, rfl, .inr (SqL.of hH), ne', by rw [l]; exact hn, sq0, f _ ((List.range m).map fun i => D.tup (rs.map fun r => r.getD i D.non)) H1 μ1 k1 rm1 ?_ q1⟩
  have len : ((List.range m).map fun i => D.tup (rs.map fun r => r.getD i D.non)).length = m := by rw [List.length_map, List.length_range]
  refine ⟨fun i H' hi ⟨μ', k, _⟩ => ?_, fun H' ⟨μ', k, _⟩ => ?_, fun i H' v H2 hi _ y => ?_⟩
  · rw [len] at hi
    exact ⟨rows, (sq k).imp fun a xs h => ⟨h.1, by rw [h.2]; exact hi⟩⟩
  · rw [len]
    cases as with
    | nil => exact absurd rfl ne'
    | cons b as =>
      cases rows with
      | nil => exact h1.elim
      | cons xs rows => exact ⟨b, as, xs, rfl, (sq k).1.1, Nat.le_of_eq (sq k).1.2⟩
  · intro μ' k rm
    obtain ⟨T, col, rfl, nT, rfl, hc⟩ := y
    rw [len] at hi
    have nm : μ' T = none := rm.free nT
    have k2 : Kp H' μ' (upd H' T (.tup col)) μ' := Kp.new nT
    refine ⟨D.tup (rs.map fun r => r.getD i D.non), ?_, ?_, k2, rm.laid nT⟩
    · rw [List.getElem?_map, List.getElem?_range hi]
      rfl
    · unfold Rep
      exact ⟨T, _, rfl, .inl ⟨upd_same, nm⟩, (col_rep k as rows rs col h1 h2 hc).mono k2⟩
end DL

set_option Elab.async false
set_option linter.all false
set_option maxRecDepth 100000
namespace DL
open PySem PySem.Spec PyProof.Rows L2 RZ
/-! ### break -/
def gBrk : GS := fun F δ μ => F.bk δ μ
theorem ds_brk {X : Cx} {pos : Pos} : DSt X (.Break pos) gBrk := ⟨_, ps_break, fun σ H δ μ E F rm rs e q => e.bk σ H δ μ (Kp.refl _ _) rm rs q⟩
/-! ### zip of two lists -/
def pairsL (xs ys : List D) : List D := List.zipWith (fun c d => D.tup [c, d]) xs ys
def gZipL (ga : GA) : GI := fun δ μ R => ga δ μ fun ds μ1 => match ds with
  | [.lst xs, .lst ys] => R (pairsL xs ys) μ1
  | _ => False
theorem di_zipL {X : Cx} {e e2 : Expr} {ga : GA} {p pos tpos : Pos} {elts : List Expr} {kk : Nat} (hg : Gl X "zip") (hm : X.mg "zip" = none) (h : DA X [e, e2] ga)
    (hs : starEach [e, e2] X.env = (false, eval e X.env) :: starEach [e2] X.env := by rfl) (hpl : (backTo pos (starEach [e2] X.env)).any (·.1) = false := by rfl) :
    DI X (.Tuple elts kk tpos) (.Call (.Name "zip" p) [e, e2] [] pos) (gZipL ga) := by
  obtain ⟨t, a1, a2⟩ := h.ex
  refine ⟨_, pi_zipA hg hm a1 hs hpl, fun σ H δ μ Q R rm rs q f => ?_⟩
  refine a2 σ H δ μ _ _ rm rs q fun vs ds H1 μ1 k1 rm1 r1 q1 => ?_
  match ds, q1, r1 with
  | [.lst xs, .lst ys], q1, r1 =>
    obtain ⟨v, w, rfl, r2, r3⟩ := repL2 r1
    obtain ⟨a, vx, rfl, hH, hn, rl⟩ := rep_lst r2
    obtain ⟨b, vy, rfl, hH2, hn2, rl2⟩ := rep_lst r3
    have sx : ∀ {H' μ'}, Kp H1 μ1 H' μ' → SqL X.K H' a vx := fun k => SqL.of (k.k1 _ _ hH hn)
    have sy : ∀ {H' μ'}, Kp H1 μ1 H' μ' → SqL X.K H' b vy := fun k => SqL.of (k.k1 _ _ hH2 hn2)
    have l1 := rl.length
    have l2 := rl2.length
    have hl : (pairsL xs ys).length = min vx.length vy.length := by rw [l1, l2]; simp [pairsL]
    refine ⟨a, b, vx, vy, rfl, .inl ⟨SqL.of hH, SqL.of hH2, f _ (pairsL xs ys) H1 μ1 k1 rm1 ?_ q1⟩⟩
    refine ⟨fun i H' hi ⟨μ', k, _⟩ => ?_, fun H' ⟨μ', k, _⟩ => ⟨vx, vy, sx k, sy k, by omega⟩, fun i H' v H2 hi _ y => ?_⟩
    · have h1 : i < vx.length := by omega
      have h2 : i < vy.length := by omega
      exact ⟨vx, vy, vx[i], vy[i], sx k, sy k, List.getElem?_eq_getElem h1, List.getElem?_eq_getElem h2⟩
    · intro μ' k rm
      obtain ⟨T, x, z, rfl, nT, rfl, e3, e4⟩ := y
      obtain ⟨d, f3, r3⟩ := (rl.mono k).atV (e3 vx (sx k))
      obtain ⟨d2, f4, r4⟩ := (rl2.mono k).atV (e4 vy (sy k))
      have nm : μ' T = none := rm.free nT
      have k2 : Kp H' μ' (upd H' T (.tup [x, z])) μ' := Kp.new nT
      refine ⟨.tup [d, d2], ?_, ?_, k2, rm.laid nT⟩
      · unfold pairsL
        rw [List.getElem?_zipWith, f3, f4]
      · unfold Rep
        exact ⟨T, _, rfl, .inl ⟨upd_same, nm⟩, by unfold RepL; exact ⟨_, _, rfl, r3.mono k2, by unfold RepL; exact ⟨_, _, rfl, r4.mono k2, RepL.nil⟩⟩⟩
/-! ### cells in a list, all forgotten at once -/
theorem repL_split {K : PySem.W.Frag} {H : Hp} {μ : Mu} {d : D} {post : List D} : ∀ (pre : List D) (vs : List V), RepL K H μ (pre ++ d :: post) vs → ∃ v1 x v2, vs = v1 ++ x :: v2 ∧ RepL K H μ pre v1 ∧ Rep K H μ d x ∧ RepL K H μ post v2
  | [], vs, h => by
    rw [List.nil_append] at h
    unfold RepL at h
    obtain ⟨x, r, rfl, h1, h2⟩ := h
    exact ⟨[], x, r, rfl, RepL.nil, h1, h2⟩
  | p :: pre, vs, h => by
    rw [List.cons_append] at h
    unfold RepL at h
    obtain ⟨y, r, rfl, h1, h2⟩ := h
    obtain ⟨v1, x, v2, rfl, a, b, c⟩ := repL_split pre r h2
    exact ⟨y :: v1, x, v2, rfl, by unfold RepL; exact ⟨y, v1, rfl, h1, a⟩, b, c⟩
theorem repL_join {K : PySem.W.Frag} {H : Hp} {μ : Mu} {d : D} {post : List D} {x : V} {v2 : List V} (b : Rep K H μ d x) (c : RepL K H μ post v2) : ∀ (pre : List D) (v1 : List V), RepL K H μ pre v1 → RepL K H μ (pre ++ d :: post) (v1 ++ x :: v2)
  | [], v1, h => by
    unfold RepL at h
    subst h
    show RepL K H μ (d :: post) (x :: v2)
    unfold RepL
    exact ⟨x, v2, rfl, b, c⟩
  | p :: pre, v1, h => by
    unfold RepL at h
    obtain ⟨y, r, rfl, h1, h2⟩ := h
    show RepL K H μ (p :: (pre ++ d :: post)) (y :: (r ++ x :: v2))
    unfold RepL
    exact ⟨y, _, rfl, h1, repL_join b c pre r h2⟩
theorem Into.item {d d' : D} {μ μ' : Mu} {pre post : List D} (h : Into d μ d' μ') : Into (.lst (pre ++ d :: post)) μ (.lst (pre ++ d' :: post)) μ' := ⟨fun K H v rm r => by
  obtain ⟨a, vs, rfl, hH, hn, rl⟩ := rep_lst r
  obtain ⟨v1, x, v2, rfl, r1, r2, r3⟩ := repL_split pre vs rl
  obtain ⟨k, rm', r2'⟩ := h.ok K H x rm r2
  refine ⟨k, rm', ?_⟩
  unfold Rep
  exact ⟨a, _, rfl, hH, k.free hH hn, repL_join r2' (r3.mono k) pre v1 (r1.mono k)⟩⟩
def dels (μ : Mu) : List Addr → Mu
  | [] => μ
  | a :: as => dels (del μ a) as
theorem dels_in : ∀ (as : List Addr) (μ : Mu) (b : Addr), b ∈ as → dels μ as b = none ∨ False
  | a :: as, μ, b, h => by
    rw [dels]
    by_cases hb : b ∈ as
    · exact dels_in as _ b hb
    · have e : b = a := by
        rcases List.mem_cons.mp h with q | q
        · exact q
        · exact absurd q hb
      subst e
      refine .inl ?_
      have : ∀ (as : List Addr) (μ : Mu), μ b = none → dels μ as b = none := fun as => by
        induction as with
        | nil => exact fun μ h => h
        | cons c as ih =>
          intro μ h
          rw [dels]
          refine ih _ ?_
          by_cases hc : b = c
          · subst hc; exact del_same
          · rw [del_ne hc]; exact h
      exact this as _ del_same
  | [], _, _, h => (List.not_mem_nil h).elim
theorem dels_out : ∀ (as : List Addr) (μ : Mu) (b : Addr), b ∉ as → dels μ as b = μ b
  | [], _, _, _ => rfl
  | a :: as, μ, b, h => by
    rw [dels, dels_out as _ b fun q => h (List.mem_cons_of_mem _ q)]
    exact del_ne fun q => h (by rw [q]; exact List.mem_cons_self ..)
theorem Into.frzAll : ∀ (as : List Addr) (rs : List (List D)) (pre : List D) (μ : Mu), A2 (fun a r => μ a = some (.lst r)) as rs → as.Nodup → Into (.lst (pre ++ as.map D.adr)) μ (.lst (pre ++ rs.map D.lst)) (dels μ as)
  | [], [], pre, μ, _, _ => .refl
  | a :: as, r :: rs, pre, μ, h, nd => by
    have nd' := List.nodup_cons.mp nd
    have one : Into (.lst (pre ++ D.adr a :: as.map D.adr)) μ (.lst (pre ++ D.lst r :: as.map D.adr)) (del μ a) := (Into.frz h.1).item
    have rest : A2 (fun b r => del μ a b = some (.lst r)) as rs := by
      have h2 := h.2
      have nn := nd'.1
      clear one nd nd' h
      induction as generalizing rs with
      | nil => cases rs with
        | nil => trivial
        | cons _ _ => exact h2.elim
      | cons b as ih => cases rs with
        | nil => exact h2.elim
        | cons q rs =>
          refine ⟨?_, ih rs h2.2 fun z => nn (List.mem_cons_of_mem _ z)⟩
          show del μ a b = _
          rw [del_ne fun e => nn (by rw [← e]; exact List.mem_cons_self ..)]
          exact h2.1
    have two := Into.frzAll as rs (pre ++ [D.lst r]) (del μ a) rest nd'.2
    rw [List.append_assoc, List.append_assoc] at two
    exact one.trans two
  | [], _ :: _, _, _, h, _ => h.elim
  | _ :: _, [], _, _, h, _ => h.elim
end DL

set_option Elab.async false
set_option linter.all false
set_option maxRecDepth 100000
namespace DL
open PySem PySem.Spec PyProof.Rows L2
/-! ### defs whose last parameters have numbers as defaults -/
section
variable {P : Program} {w : World} {K : PySem.W.Frag} {mg : Str → Option Value} {base : Heap}
theorem okDV {x qual : Str} {st : Stmt} {dvs : List V} {f : Addr} {fd : FuncData} {N ps : List Str} {k : Nat} {g : GC} (F : FunD K x qual (defArgs st) (defBody st) (defScope st) dvs [] f fd) (S : FnScope N ps (defScope st)) (len : ∀ ds μ R, g ds μ R → ds.length = ps.length)
    (h : ∃ gb : GS, (∀ (cdv : Value) (A : Around) (outer : List Env) (s : Shared) (H : Hp) (E : XK), Room k (A.deeper (envOfC qual (defScope st) s.heap.objs.size f cdv)) →
        DSs (cxOf CX0 P w K mg base N qual (defScope st) f cdv A outer s H E).nox (defBody st) gb) ∧
      ∀ ds μ R, g ds μ R → gb { nx := fun _ μ' => R .non μ', rt := R } (begin_ N ds) μ) : FnOk P w K mg base CX0 (k + 1) f fd ps (toSp K g) := by
  obtain ⟨gb, hb, hg⟩ := h
  refine F.ok S (fun vs H Q E ⟨ds, μ, R, rm, rl, q, fw⟩ => by rw [rl.length]; exact len ds μ R q) fun cdv A outer s H vs Q E hr ⟨ds, μ, R, rm, rl, q, fw⟩ => ?_
  obtain ⟨t, a, b⟩ := (hb cdv A outer s H E hr).ex
  refine ⟨t, a.nox, b _ H (begin_ N ds) μ _ { nx := fun _ μ' => R .non μ', rt := R } rm ?_ ⟨fun σ H' δ μ' k rm' _ q' => fw .non .non H' μ' k rm' (by unfold Rep; rfl) q', fw, fun _ _ _ _ _ _ _ z => z, fun _ _ _ _ _ _ _ z => z⟩ (hg ds μ R q)⟩
  show RepS K H μ (ds.map some ++ List.replicate (N.length - ds.length) none) (vs.map some ++ List.replicate (N.length - vs.length) none)
  rw [rl.length]
  exact repS_some _ rl
end
section
variable {X : Cx} {k : Nat} {f : Addr} {fd : FuncData} {ps : List Str} {g : GC} {x : Str} {p pos : Pos} {e : Expr} {es : List Expr} {ga : GA}
def gCallV (dd : List Int) (g : GC) (ga : GA) : GE := fun δ μ R => ga δ μ fun ds μ1 => g (ds ++ dd.map D.int) μ1 R
theorem repL_ints {K : PySem.W.Frag} {H : Hp} {μ : Mu} : ∀ dd : List Int, RepL K H μ (dd.map D.int) (dd.map V.int)
  | [] => RepL.nil
  | _ :: dd => RepL.cons to_int (repL_ints dd)
theorem repL_two {K : PySem.W.Frag} {H : Hp} {μ : Mu} : ∀ {as bs : List D} {vs us : List V}, RepL K H μ as vs → RepL K H μ bs us → RepL K H μ (as ++ bs) (vs ++ us) := by
  intro as
  induction as with
  | nil =>
    intro bs vs us h k
    unfold RepL at h
    rw [h]
    exact k
  | cons a as ih =>
    intro bs vs us h k
    unfold RepL at h
    obtain ⟨v, r, rfl, h1, h2⟩ := h
    exact RepL.cons h1 (ih h2 k)
theorem de_callV {dd : List Int} (F : FnOk X.prog X.w X.K X.mg X.base CX0 k f fd ps (toSp X.K g)) (hr : Room k X.A) (hg : Gl X x) (hm : X.mg x = some (.ref f)) (hk : PySem.W.keepIn X.K (.ref f) = true) (hb : ∃ ds, Vals (dd.map V.int) ds ∧ Binds X.K fd ps ds)
    (ha : DA X (e :: es) ga) (hdb : (x == ("__debug__" : Str)) = false := by decide) (he : starEach (e :: es) X.env = (false, eval e X.env) :: starEach es X.env := by rfl) (hpl : (backTo pos (starEach es X.env)).any (·.1) = false := by rfl) :
    DE X (.Call (.Name x p) (e :: es) [] pos) (gCallV dd g ga) := by
  obtain ⟨t, a1, a2⟩ := ha.ex
  obtain ⟨dv, hv, hb⟩ := hb
  refine ⟨_, pe_call F hr hg hm hk hb hv (pass0 (X := X)) a1 hdb he hpl, fun σ H δ μ Q R rm rs q f => ?_⟩
  refine a2 σ H δ μ _ _ rm rs q fun vs ds H1 μ1 k1 rm1 r1 q1 => ?_
  exact ⟨ds ++ dd.map D.int, μ1, R, rm1, repL_two r1 (repL_ints dd), q1, f.re k1⟩
end
end DL

set_option Elab.async false
set_option linter.all false
set_option maxRecDepth 100000
namespace DL
open PySem PySem.Spec PyProof.Rows L2
/-! ### in, of a list of bools -/
def gInB : G2 := fun x y μ R => match y with
  | .lst ds => ∃ (i : Bool) (ns : List Bool), x = .bl i ∧ ds = ns.map D.bl ∧ R (.bl (decide (i ∈ ns))) μ
  | _ => False
theorem inV_bl (i : Bool) : ∀ ns : List Bool, inV (.bl i) (ns.map V.bl) = decide (i ∈ ns)
  | [] => rfl
  | n :: ns => by
    have ih := inV_bl i ns
    unfold inV at ih ⊢
    rw [List.map_cons, List.any_cons, ih]
    have e : eqV (.bl n) (.bl i) = decide (n = i) := by cases n <;> cases i <;> rfl
    rw [e]
    by_cases h : n = i
    · subst h; simp
    · have h' : ¬ i = n := fun e => h e.symm
      simp [h, h']
theorem flat_bls (ns : List Bool) : (ns.map V.bl).all flatV = true := by
  rw [List.all_eq_true]
  intro v hv
  obtain ⟨n, _, rfl⟩ := List.mem_map.mp hv
  rfl
theorem repL_bls {K : PySem.W.Frag} {H : Hp} {μ : Mu} : ∀ {ns : List Bool} {vs : List V}, RepL K H μ (ns.map D.bl) vs → vs = ns.map V.bl
  | [], vs, h => by
    rw [List.map_nil] at h
    unfold RepL at h
    exact h
  | n :: ns, vs, h => by
    rw [List.map_cons] at h
    unfold RepL at h
    obtain ⟨v, r, rfl, h1, h2⟩ := h
    rw [rep_bl h1, repL_bls h2]
    rfl
theorem sim_inB {K : PySem.W.Frag} : SimO K (rInA K) gInB := by
  intro x y dx dy H μ Q R rm rx ry q f
  cases dy <;> try exact False.elim q
  obtain ⟨i, ns, rfl, rfl, q⟩ := q
  obtain ⟨p, vs, rfl, i1, n1, l1⟩ := rep_lst ry
  have ev := repL_bls l1
  subst ev
  rw [rep_bl rx]
  refine .inr ⟨p, ns.map V.bl, rfl, .inl (SqL.of i1), rfl, flat_bls ns, ?_⟩
  rw [inV_bl]
  exact fw_now rm to_bl q f
/-! ### repr of a few long numbers -/
structure ShowOkW (p : PyData) : Prop where
  lay : PyData.canLay0 p = true
  shrt : p.intsShort 600 = true
  show_ : p.showable = true
  dp : p.depth ≤ 20
  wt : p.weight ≤ 20000
theorem ShowOkW.len {p : PyData} (h : ShowOkW p) : p.shown.length ≤ sizeLine := by
  have h1 := PyData.shown_le 600 (by decide) p (PyData.leavesShort_of_canLay0 600 p h.lay h.shrt)
  have := h.wt
  rw [sizeLine_eq]
  omega
def gReprW : G1 := fun x μ R => gRepr1 x μ R ∨ ∃ p, isBox x = true ∧ py x = some p ∧ ShowOkW p ∧ R (.str p.shown) μ
def rReprW (K : PySem.W.Frag) : List V → Hp → VK → Prop := fun xs H Q => rRepr K xs H Q ∨ ∃ a p, xs = [.ref a] ∧ Dp K H (.ref a) p ∧ ShowOkW p ∧ Q (.str p.shown) H
theorem cr_reprW {X : Cx} (hG : X.A.guards = some []) (hu : X.A.units + 64 < cLine) : CallR X (.builtin "repr") (rReprW X.K) := by
  intro pins s σ H vs us Q I r h
  rcases h with h | ⟨a, p, rfl, hd, hs, q⟩
  · exact cr_repr hG hu pins s σ H vs us Q I r h
  · obtain ⟨u, rfl, ru⟩ := vals1 r
    obtain ⟨as, rd⟩ := hd.reads I p _ _ ru
    cases ru
    refine repr_of_reads' (h₀ := s.heap) rd hs.show_ (PyData.noDict_hsm (PyData.hasDict_of_canLay p hs.lay)) hG (by have := hs.dp; omega) (fun _ _ e => e) (fun h' t tk hk => ?_) hs.len
    exact ⟨.str p.shown, H, I.kept (t' := tk) hk, ⟨t, rfl⟩, q⟩
theorem sim_reprW {K : PySem.W.Frag} : SimC K (rReprW K) (g1 gReprW) := sim_g1 fun v d H μ Q R rm rv q f => by
  rcases q with q | ⟨p, hb, hp, hs, q⟩
  · exact .inl (sim_repr [v] [d] H μ Q R rm (RepL.cons rv RepL.nil) q f)
  · have hd := rv.dp _ _ _ hp
    have : ∃ a, v = .ref a := by
      cases d <;> try cases hb
      · obtain ⟨a, vs, rfl, _⟩ := rep_tup rv
        exact ⟨a, rfl⟩
      · obtain ⟨a, vs, rfl, _⟩ := rep_lst rv
        exact ⟨a, rfl⟩
      · obtain ⟨a, vs, rfl, _⟩ := rep_seq rv
        exact ⟨a, rfl⟩
    obtain ⟨a, rfl⟩ := this
    exact .inr ⟨a, p, rfl, hd, hs, fw_now rm to_str q f⟩
/-- two long numbers -/
theorem showW_two {i j : Int} (hi : i.natAbs < 10 ^ 500) (hj : j.natAbs < 10 ^ 500) : ShowOkW (.tuple [.int i, .int j]) := by
  have ll : ∀ k : Int, k.natAbs < 10 ^ 500 → k.natAbs.log2 < 1900 := fun k h => by
    by_cases e : k.natAbs = 0
    · rw [e]; decide
    · exact (Nat.log2_lt e).mpr (Nat.lt_trans h (by decide +kernel))
  have sl : ∀ k : Int, k.natAbs < 10 ^ 500 → (PyData.shown (.int k)).length ≤ 600 := fun k h => by
    have e := int_text_length_le10 (k := 500) (by decide) h
    show (Str.ofString (toString k)).length ≤ 600
    rw [PySem.ofString_length]
    omega
  have li := ll i hi
  have lj := ll j hj
  refine ⟨?_, ?_, ?_, ?_, ?_⟩
  · unfold PyData.canLay0 PyData.canLayAll0 PyData.canLay0 PyData.canLayAll0 PyData.canLay0 PyData.canLayAll0
    rfl
  · unfold PyData.intsShort PyData.intsShortAll PyData.intsShort PyData.intsShortAll PyData.intsShort PyData.intsShortAll
    rw [decide_eq_true (sl i hi), decide_eq_true (sl j hj)]
    rfl
  · unfold PyData.showable PyData.showableAll PyData.showable PyData.showableAll PyData.showable PyData.showableAll
    rw [decide_eq_true (show i.natAbs.log2 < 1920 by omega), decide_eq_true (show j.natAbs.log2 < 1920 by omega)]
    rfl
  · unfold PyData.depth PyData.depthAll PyData.depth PyData.depthAll PyData.depth PyData.depthAll
    omega
  · have w : ∀ k : Int, k.natAbs.log2 < 1900 → PyData.weight (.int k) ≤ 1900 := fun k h => by
      unfold PyData.weight
      split <;> omega
    have wi := w i li
    have wj := w j lj
    unfold PyData.weight PyData.weightAll PyData.weightAll PyData.weightAll
    omega
theorem py_pair (i j : Int) : py (.tup [.int i, .int j]) = some (.tuple [.int i, .int j]) := by
  unfold py pyL
  unfold py pyL
  unfold py pyL
  rfl
end DL

set_option Elab.async false
set_option linter.all false
set_option maxRecDepth 100000
namespace DL
open PySem PySem.Spec PyProof.Rows L2 PySem.W
/-! ### sorted and min of nested data -/
section
variable {h : Heap}
theorem each_zip : ∀ {xs : List V} {us : List Value} {ps : List PyData} {as : List Addr}, Vals xs us → ReadsAll h us ps as →
    EachIs (fun v (b : V × PyData) => RelV b.1 v) us (xs.zip ps) ∧ EachIs (fun v (b : V × PyData) => ∃ as, Reads h v b.2 as) us (xs.zip ps)
  | [], _, _, _, .nil, r => by
    cases r
    exact ⟨.nil, .nil⟩
  | _ :: _, _, _, _, .cons a t, r => by
    cases r with
    | cons r1 r2 =>
      obtain ⟨e1, e2⟩ := each_zip t r2
      exact ⟨.cons a e1, .cons ⟨_, r1⟩ e2⟩
theorem vals_each : ∀ {us : List Value} {bs : List (V × PyData)}, EachIs (fun v (b : V × PyData) => RelV b.1 v) us bs → Vals (bs.map (·.1)) us
  | _, _, .nil => .nil
  | _, _, .cons a t => .cons a (vals_each t)
theorem readsAll_size : ∀ {us : List Value} {ps : List PyData} {as : List Addr}, ReadsAll h us ps as → us.length = ps.length
  | _, _, _, .nil => rfl
  | _, _, _, .cons _ r => by rw [List.length_cons, List.length_cons, readsAll_size r]
theorem readsAll_ix : ∀ {us : List Value} {ps : List PyData} {as : List Addr} {i : Nat} {u : Value}, ReadsAll h us ps as → us[i]? = some u → ∃ p as, ps[i]? = some p ∧ Reads h u p as
  | _, _, _, 0, u, .cons r _, e => by
    obtain rfl := Option.some.inj e
    exact ⟨_, _, rfl, r⟩
  | _, _, _, i + 1, u, .cons _ t, e => readsAll_ix (i := i) t (by simpa using e)
  | _, _, _, _, _, .nil, e => by simp at e
end
abbrev byD : V × PyData → V × PyData → Bool := dataLe false (·.2)
def rSortD (K : PySem.W.Frag) : List V → Hp → VK → Prop := fun vs H Q => ∃ (a : Addr) (xs : List V) (ps : List PyData), vs = [V.ref a] ∧ SqL K H a xs ∧ DpAll K H xs ps ∧ AllAlike ps ∧ Sortable ps ∧ (∀ p ∈ ps, p.depth ≤ 20) ∧
  ∀ p : Addr, H p = none → Q (.ref p) (upd H p (.lst (((xs.zip ps).mergeSort byD).map (·.1))))
section
variable {X : Cx}
theorem cr_sortD (hu : X.A.units + 64 < cLine) : CallR X (.builtin "sorted") (rSortD X.K) := by
  intro pins s σ H xs0 us Q I r h
  obtain ⟨a, xs, ps, rfl, hs, hd, hal, hk, hdep, q⟩ := h
  obtain ⟨vals, rv, hl, hz⟩ := I.list hs
  rw [Vals.ref1 r]
  obtain ⟨as, ra⟩ := Dp.readsAll I ps xs vals hd rv
  obtain ⟨e1, e2⟩ := each_zip rv ra
  have lx : xs.length = ps.length := by rw [rv.length, readsAll_size ra]
  have em : (xs.zip ps).map (·.2) = ps := List.map_snd_zip (by omega)
  refine sorted_data (enc := (·.2)) hl.isList e1 e2 (by rw [em]; exact hal) (by rw [em]; exact hk) (by rw [List.length_zip]; omega) (fun b hb => ?_) fun out hlen ho => ?_
  · have : b.2 ∈ ps := by rw [← em]; exact List.mem_map_of_mem hb
    have := hdep _ this
    omega
  · obtain ⟨ep, he'⟩ := PyProof.Rows.sortedAll_at s.heap vals out.toArray
    have rv2 := vals_each ho
    refine ⟨.ref _, upd H (s.heap.objs.size + 1) (.lst (((xs.zip ps).mergeSort byD).map (·.1))), I.laid (t' := s.toks) (fun _ _ => PyProof.Rows.sortedAll_old) (Nat.le_succ _) ⟨?_, out, ep, rv2, he'⟩, rfl, q _ (I.hok.fresh (Nat.le_succ _))⟩
    rw [rv2.length, hlen, List.length_zip]
    omega
/-- min of alike data: the item itself -/
def minAt (xs : List V) (ps : List PyData) (F : V → Prop) : Prop := ∀ (p0 : PyData) (pr : List PyData), ps = p0 :: pr → ∀ (i : Nat) (x : V), xs[i]? = some x → ps[i]? = some (minD p0 pr) → F x
def rMinD (K : PySem.W.Frag) : List V → Hp → VK → Prop := fun vs H Q => ∃ (a : Addr) (xs : List V) (ps : List PyData), vs = [V.ref a] ∧ SqL K H a xs ∧ DpAll K H xs ps ∧ AlikeAll ps ∧ PyData.depthAll ps ≤ 20 ∧ ps ≠ [] ∧ minAt xs ps fun x => Q x H
def rMinN (K : PySem.W.Frag) : List V → List V → Hp → VK → Prop := fun vs zs H Q => ∃ (a : Addr) (xs : List V) (ps : List PyData), vs = [V.ref a] ∧ zs = [.non] ∧ SqL K H a xs ∧ DpAll K H xs ps ∧ AlikeAll ps ∧ PyData.depthAll ps ≤ 20 ∧ (ps = [] → Q .non H) ∧ minAt xs ps fun x => Q x H
theorem min_end {pins : List (Addr × Obj)} {s : Shared} {σ : L2.St} {H : Hp} {Q : VK} {xs : List V} {ps : List PyData} {vals : List Value} {as : List Addr} (I : Inv X pins σ H s) (rv : Vals xs vals) (ra : ReadsAll s.heap vals ps as) (q : minAt xs ps fun x => Q x H)
    {p0 : PyData} {pr : List PyData} (e : ps = p0 :: pr) {i : Nat} {v : Value} {h' : Heap} {tk : Nat} {bs : List Addr} (hv : vals[i]? = some v) (rd : Reads h' v (minD p0 pr) bs) (hk : ∀ b o, s.heap.get? b = some o → h'.get? b = some o) : EP X pins σ Q v { s with heap := h', toks := tk } := by
  obtain ⟨p, as', hp, r1⟩ := readsAll_ix ra hv
  have r2 : Reads h' v p as' := PyProof.Rows.Reads.keeps hk r1
  have e1 : p = minD p0 pr := (PySem.Reads.unique r2 _ _ rd).1
  obtain ⟨x, hx, rx⟩ : ∃ x, xs[i]? = some x ∧ RelV x v := by
    have hi : i < vals.length := (List.getElem?_eq_some_iff.mp hv).1
    have hi' : i < xs.length := by rw [rv.length]; exact hi
    have hx : xs[i]? = some (xs[i]'hi') := List.getElem?_eq_getElem hi'
    obtain ⟨u, hu, ru⟩ := rv.get hx
    rw [hv] at hu
    obtain rfl := Option.some.inj hu
    exact ⟨_, hx, ru⟩
  exact ⟨x, H, I.kept (t' := tk) hk, rx, q p0 pr e i x hx (by rw [hp, e1])⟩
theorem cr_minD (hc : X.calm = true) (hu : X.A.units + 64 < cLine) : CallR X (.builtin "min") (rMinD X.K) := by
  intro pins s σ H xs0 us Q I r h
  obtain ⟨a, xs, ps, rfl, hs, hd, hal, hdep, hne, q⟩ := h
  obtain ⟨vals, rv, hl, hz⟩ := I.list hs
  rw [Vals.ref1 r]
  obtain ⟨as, ra⟩ := Dp.readsAll I ps xs vals hd rv
  cases ps with
  | nil => exact absurd rfl hne
  | cons p0 pr =>
    exact min_list_data (I.ok.hd hc) hl.isList (by simpa using ra) hal (by omega) fun i v h' tk bs hv rd hk => min_end I rv ra q rfl (by simpa using hv) rd hk
theorem cr_minN (hc : X.calm = true) (hu : X.A.units + 64 < cLine) : CallRK X (.builtin "min") ["default"] (rMinN X.K) := by
  intro pins s σ H vs zs us ws Q I r rz h
  obtain ⟨a, xs, ps, rfl, rfl, hs, hd, hal, hdep, h0, q⟩ := h
  obtain ⟨vals, rv, hl, hz⟩ := I.list hs
  rw [Vals.ref1 r]
  obtain ⟨w, rfl, rw1⟩ := vals1 rz
  obtain rfl : w = Value.none := rw1
  obtain ⟨as, ra⟩ := Dp.readsAll I ps xs vals hd rv
  refine min_list_default (d := Value.none) (I.ok.hd hc) hl.isList (by simpa using ra) hal (by omega) (fun e h' tk hk => ?_) fun p0 pr i v h' tk bs e hv rd hk => min_end I rv ra q e (by simpa using hv) rd hk
  exact ⟨.non, H, I.kept (t' := tk) hk, rfl, h0 e⟩
end
/-! readings -/
def minDs (ds : List D) (R : D → Prop) : Prop := ∃ ps, pyL ds = some ps ∧ AlikeAll ps ∧ PyData.depthAll ps ≤ 20 ∧ ps ≠ [] ∧ ∀ (p0 : PyData) (pr : List PyData), ps = p0 :: pr → ∀ (i : Nat) (d : D), ds[i]? = some d → py d = some (minD p0 pr) → R d
def gMinD1 : G1 := fun x μ R => match x with
  | .lst ds => minDs ds fun d => R d μ
  | _ => False
theorem pyL_at : ∀ {ds : List D} {ps : List PyData} {i : Nat} {d : D} {p : PyData}, pyL ds = some ps → ds[i]? = some d → ps[i]? = some p → py d = some p
  | [], _, _, _, _, _, h, _ => by simp at h
  | d :: ds, ps, i, e, p, h, h1, h2 => by
    unfold pyL at h
    cases a : py d with
    | none => rw [a] at h; cases h
    | some q =>
      cases b : pyL ds with
      | none => rw [a, b] at h; cases h
      | some qs =>
        rw [a, b] at h
        obtain rfl := Option.some.inj h
        cases i with
        | zero =>
          obtain rfl := Option.some.inj h1
          obtain rfl := Option.some.inj h2
          exact a
        | succ i => exact pyL_at b (by simpa using h1) (by simpa using h2)
theorem pyL_len : ∀ {ds : List D} {ps : List PyData}, pyL ds = some ps → ps.length = ds.length
  | [], ps, h => by
    unfold pyL at h
    obtain rfl := Option.some.inj h
    rfl
  | d :: ds, ps, h => by
    unfold pyL at h
    cases a : py d with
    | none => rw [a] at h; cases h
    | some q =>
      cases b : pyL ds with
      | none => rw [a, b] at h; cases h
      | some qs =>
        rw [a, b] at h
        obtain rfl := Option.some.inj h
        rw [List.length_cons, List.length_cons, pyL_len b]
section
variable {K : PySem.W.Frag}
theorem minAt_of {H : Hp} {μ : Mu} {ds : List D} {vs : List V} {ps : List PyData} {R : KD} {Q : VK} (rm : RM K H μ) (l : RepL K H μ ds vs) (hp : pyL ds = some ps) (f : Fw K H μ R Q)
    (q : ∀ (p0 : PyData) (pr : List PyData), ps = p0 :: pr → ∀ (i : Nat) (d : D), ds[i]? = some d → py d = some (minD p0 pr) → R d μ) : minAt vs ps fun x => Q x H := by
  intro p0 pr e i x hx hm
  have hi : i < ds.length := by
    have := (List.getElem?_eq_some_iff.mp hx).1
    rw [l.length] at this
    exact this
  have hd : ds[i]? = some (ds[i]'hi) := List.getElem?_eq_getElem hi
  obtain ⟨v, hv, r⟩ := l.at_ hd
  rw [hx] at hv
  obtain rfl := Option.some.inj hv
  exact f _ _ H μ (Kp.refl _ _) rm r (q p0 pr e i _ hd (pyL_at hp hd hm))
theorem sim_minD : SimC K (rMinD K) (g1 gMinD1) := sim_g1 fun v d H μ Q R rm rv q f => by
  cases d <;> try exact False.elim q
  obtain ⟨ps, hp, ha, hd, hn, q⟩ := q
  obtain ⟨a, vs, rfl, i, _, l⟩ := rep_lst rv
  exact ⟨a, vs, ps, rfl, SqL.of i, RepL.dp _ _ _ l hp, ha, hd, hn, minAt_of rm l hp f q⟩
/-- min(.., default = None) -/
def minNs (ds : List D) (μ : Mu) (R : KD) : Prop := ∃ ps, pyL ds = some ps ∧ AlikeAll ps ∧ PyData.depthAll ps ≤ 20 ∧ (ps = [] → R .non μ) ∧ ∀ (p0 : PyData) (pr : List PyData), ps = p0 :: pr → ∀ (i : Nat) (d : D), ds[i]? = some d → py d = some (minD p0 pr) → R d μ
def gMinN (ga gk : GA) : GE := fun δ μ R => ga δ μ fun ds μ1 => gk δ μ1 fun es μ2 => ∃ l, ds = [.lst l] ∧ es = [.non] ∧ minNs l μ2 R
theorem de_minN {X : Cx} {e : Expr} {es : List Expr} {kws : List Keyword} {p pos : Pos} {ga gk : GA} (hc : X.calm = true) (hu : X.A.units + 64 < cLine) (hg : Gl X "min") (hm : X.mg "min" = none) (ha : DA X (e :: es) ga) (hd : DK X kws gk)
    (h1 : backTo pos (starEach (e :: es) X.env) = (false, eval e X.env) :: backTo pos (starEach es X.env) := by rfl) (h2 : (backTo pos (starEach (e :: es) X.env)).any (·.1) = false := by rfl)
    (h3 : (backToKw pos (keywordEach kws X.env)).all (·.1.isSome) = true := by rfl) (h4 : (backToKw pos (keywordEach kws X.env)).any (·.1.isNone) = false := by rfl) (h5 : (backToKw pos (keywordEach kws X.env)).filterMap (·.1) = [("default" : Str)] := by rfl) :
    DE X (.Call (.Name "min" p) (e :: es) kws pos) (gMinN ga gk) := by
  obtain ⟨t, a1, a2⟩ := ha.ex
  obtain ⟨u, b1, b2⟩ := hd.ex
  refine ⟨_, pe_callBK (id := "min") (cr_minN hc hu) hg hm (by decide +kernel) a1 b1 (by decide) (by decide) h1 h2 h3 h4 h5, fun σ H δ μ Q R rm rs q f => ?_⟩
  refine a2 σ H δ μ _ _ rm rs q fun vs ds H1 μ1 k1 rm1 r1 q1 => ?_
  refine b2 σ H1 δ μ1 _ _ rm1 (rs.mono k1) q1 fun ws ys H2 μ2 k2 rm2 r2 q2 => ?_
  obtain ⟨l, rfl, rfl, q2⟩ := q2
  obtain ⟨v, rfl, rv⟩ := repL1 (r1.mono k2)
  obtain ⟨w, rfl, rw2⟩ := repL1 r2
  obtain ⟨ps, hp, ha, hdp, h0, q3⟩ := q2
  obtain ⟨a, vs, rfl, i, _, l⟩ := rep_lst rv
  have f2 := f.re (k1.trans k2)
  exact ⟨a, vs, ps, rfl, by rw [rep_non rw2], SqL.of i, RepL.dp _ _ _ l hp, ha, hdp, fun e => f2 _ _ H2 μ2 (Kp.refl _ _) rm2 to_non (h0 e), minAt_of rm2 l hp f2 q3⟩
/-- sorted of tuples of any alike data -/
abbrev byP : D × PyData → D × PyData → Bool := dataLe false (·.2)
abbrev byT : (D × V) × PyData → (D × V) × PyData → Bool := dataLe false (·.2)
def sortDs (ds : List D) (μ : Mu) (R : KD) : Prop := ∃ ps, pyL ds = some ps ∧ AllAlike ps ∧ Sortable ps ∧ (∀ p ∈ ps, p.depth ≤ 20) ∧ R (.lst (((ds.zip ps).mergeSort byP).map (·.1))) μ
def gSortD1 : G1 := fun x μ R => match x with
  | .lst ds => sortDs ds μ R
  | _ => False
theorem repL_maps {H : Hp} {μ : Mu} {α : Type} {f : α → D} {g : α → V} : ∀ {l : List α}, (∀ t ∈ l, Rep K H μ (f t) (g t)) → RepL K H μ (l.map f) (l.map g)
  | [], _ => by
    rw [List.map_nil, List.map_nil]
    exact RepL.nil
  | t :: l, h => by
    rw [List.map_cons, List.map_cons]
    exact RepL.cons (h t List.mem_cons_self) (repL_maps fun s hs => h s (List.mem_cons_of_mem _ hs))
theorem repL_zip {H : Hp} {μ : Mu} : ∀ {ds : List D} {vs : List V} {ps : List PyData}, RepL K H μ ds vs → ∀ t ∈ (ds.zip vs).zip ps, Rep K H μ t.1.1 t.1.2
  | [], _, _, _, t, ht => by simp at ht
  | d :: ds, vs, ps, l, t, ht => by
    unfold RepL at l
    obtain ⟨v, r, rfl, h1, h2⟩ := l
    cases ps with
    | nil => simp at ht
    | cons p ps =>
      rw [List.zip_cons_cons, List.zip_cons_cons] at ht
      rcases List.mem_cons.mp ht with rfl | ht
      · exact h1
      · exact repL_zip h2 t ht
theorem zips_d : ∀ {ds : List D} {vs : List V} {ps : List PyData}, vs.length = ds.length → ((ds.zip vs).zip ps).map (fun t => (t.1.1, t.2)) = ds.zip ps
  | [], _, _, _ => by simp
  | d :: ds, [], _, h => by simp at h
  | d :: ds, v :: vs, [], _ => by simp
  | d :: ds, v :: vs, p :: ps, h => by
    rw [List.zip_cons_cons, List.zip_cons_cons, List.map_cons, List.zip_cons_cons, zips_d (by simpa using h)]
theorem zips_v : ∀ {ds : List D} {vs : List V} {ps : List PyData}, vs.length = ds.length → ((ds.zip vs).zip ps).map (fun t => (t.1.2, t.2)) = vs.zip ps
  | [], vs, _, h => by
    have : vs = [] := List.eq_nil_of_length_eq_zero (by simpa using h)
    subst this
    simp
  | d :: ds, [], _, h => by simp at h
  | d :: ds, v :: vs, [], _ => by simp
  | d :: ds, v :: vs, p :: ps, h => by
    rw [List.zip_cons_cons, List.zip_cons_cons, List.map_cons, List.zip_cons_cons, zips_v (by simpa using h)]
theorem sim_sortD : SimC K (rSortD K) (g1 gSortD1) := sim_g1 fun v d H μ Q R rm rv q f => by
  cases d <;> try exact False.elim q
  rename_i ds
  obtain ⟨ps, hp, ha, hk, hd, q⟩ := q
  obtain ⟨a, vs, rfl, i, _, l⟩ := rep_lst rv
  refine ⟨a, vs, ps, rfl, SqL.of i, RepL.dp _ _ _ l hp, ha, hk, hd, fun p n => ?_⟩
  have hl := l.length
  have e1 := List.map_mergeSort (l := (ds.zip vs).zip ps) (r := byT) (s := byP) (f := fun t => (t.1.1, t.2)) fun _ _ _ _ => rfl
  have e2 := List.map_mergeSort (l := (ds.zip vs).zip ps) (r := byT) (s := byD) (f := fun t => (t.1.2, t.2)) fun _ _ _ _ => rfl
  rw [zips_d hl] at e1
  rw [zips_v hl] at e2
  rw [← e1, List.map_map] at q
  rw [← e2, List.map_map]
  refine fw_lst rm n (repL_maps (f := fun t : (D × V) × PyData => t.1.1) (g := fun t : (D × V) × PyData => t.1.2) fun t ht => ?_) q f
  exact repL_zip l t ((List.mergeSort_perm _ _).mem_iff.mp ht)
end
end DL

set_option Elab.async false
set_option linter.all false
set_option maxRecDepth 100000
namespace DL
open PySem PySem.Spec PyProof.Rows L2
/-! ### len of an instance whose class has a __len__ of its own -/
def rLenI (C : Addr) (sp : Sp) : List V → Hp → VK → Prop := fun xs H Q => ∃ a dx fs, xs = [.ref a] ∧ H a = some (.ins C dx fs) ∧ sp [.ref a] H (fun v H' => ∃ n : Int, v = .int n ∧ 0 ≤ n ∧ n < 2 ^ 63 ∧ Q (.int n) H') E0
section
variable {X : Cx} {k : Nat} {f C : Addr} {fd : FuncData} {sp : Sp}
theorem cr_lenI (F : FnOk X.prog X.w X.K X.mg X.base CX0 k f fd ["self"] sp) (hr : Room (k + 1) X.A) (hb : Binds X.K fd ["self"] []) (hs : PySem.W.findIn X.K (.ref C) "__len__" = some (some (.ref f))) (hf : PySem.W.typeIn X.K (.ref f) = some (.type "function")) :
    CallR X (.builtin "len") (rLenI C sp) := by
  intro pins s σ H vs us Q I r h
  obtain ⟨a, dx, fs, rfl, e, q⟩ := h
  rw [Vals.ref1 r]
  obtain ⟨mA, O, _, _⟩ := ins_get I.hok e
  obtain ⟨od, J, _⟩ := O.look
  refine Calls.call_function_entry kind_len plain_len entry_len (args_len1 _) (?body : wpAny _ _ (Builtin.«len» _) _ _ _)
  unfold Builtin.«len»
  refine wpAny_bind (m := oneArg "len" _) (wpAny_pure (wpAny_bind (m := callSpecial? (.ref a) (Str.ofString "__len__")) (PySem.W.special_fn I.kIn J hs hf ?_)))
  have hl : ([Value.ref a] ++ []).length = ["self"].length := rfl
  have rv : Vals [V.ref a] [Value.ref a] := .cons rfl .nil
  refine wpAny_call (codeAny_mono (F.run X.A.in1 X.stack s H ⟨[.ref a], []⟩ [.ref a] [.ref a] _ E0 hr.in1 I.env0.in1 (by have := hb s [.ref a] I.kIn hl; rwa [List.append_nil] at this) rv q) fun r s' hq => ?_)
  cases r with
  | error e => exact pass0 (X := X) pins σ H s e s' I hq
  | ok fl =>
    cases fl with
    | ret u =>
      obtain ⟨v, H', I', rv', n, rfl, h0, h1, q'⟩ := I.after hq
      obtain ⟨t, rfl⟩ := rv'
      refine wpAny_bind (wpAny_holding (wpAny_pure (wpAny_bind (wpAny_letGo ?_))))
      have small : ¬ n < 0 ∧ ¬ n ≥ 2 ^ 63 := ⟨by omega, by omega⟩
      show wpAny _ _ (if n < 0 then _ else if n ≥ 2 ^ 63 then _ else _) _ _ _
      rw [if_neg small.1, if_neg small.2]
      exact wpAny_bind (wpAny_mkInt (wpAny_pure ⟨_, rfl, .int n, H', I'.tok _, ⟨_, rfl⟩, q'⟩))
    | next => exact False.elim hq
    | brk => exact False.elim hq
    | cont => exact False.elim hq
end
def gLenI (C : Addr) (g : GC) : G1 := fun x μ R => ∃ fs, x = .ins C fs ∧ g [x] μ fun d μ' => ∃ n : Nat, d = .int (n : Nat) ∧ n < 2 ^ 63 ∧ R d μ'
theorem sim_lenI {K : PySem.W.Frag} {C : Addr} {g : GC} : SimC K (rLenI C (toSp K g)) (g1 (gLenI C g)) := sim_g1 fun v d H μ Q R rm rv q f => by
  obtain ⟨fs, rfl, q⟩ := q
  obtain ⟨a, dx, vs, rfl, e, n, rf⟩ := rep_ins rv
  refine ⟨a, dx, vs, rfl, e, [.ins C fs], μ, _, rm, RepL.cons rv RepL.nil, q, fun w d' H' μ' kp rm' r' q' => ?_⟩
  obtain ⟨n, rfl, hn, q'⟩ := q'
  have e := rep_int r'
  subst e
  exact ⟨(n : Nat), rfl, by omega, by exact_mod_cast hn, f _ _ H' μ' kp rm' r' q'⟩
end DL

set_option Elab.async false
set_option linter.all false
set_option maxRecDepth 100000
namespace K10
open PySem PySem.Spec PyProof.Rows L2 DL
def top (i : Nat) : Stmt := PySem.Challenge.pw_webreckon_k23_whole_rings_between_leanin.main.body.getD i (.Pass ⟨0, 0, 0, 0⟩)
structure Ad where
  are_letters : Addr
  fd_are_letters : FuncData
  are_places : Addr
  fd_are_places : FuncData
  is_tie : Addr
  fd_is_tie : FuncData
  first_wrong_tie : Addr
  fd_first_wrong_tie : FuncData
  check_places : Addr
  fd_check_places : FuncData
  check_ties : Addr
  fd_check_ties : FuncData
  check_leaning : Addr
  fd_check_leaning : FuncData
  check_web : Addr
  fd_check_web : FuncData
  arrow_of : Addr
  fd_arrow_of : FuncData
  arrows_of : Addr
  fd_arrows_of : FuncData
  ways_along : Addr
  fd_ways_along : FuncData
  score_of : Addr
  fd_score_of : FuncData
  ring_among : Addr
  fd_ring_among : FuncData
  turning_rings : Addr
  fd_turning_rings : FuncData
  L_purse : Addr
  fd_L_purse : FuncData
  L_take : Addr
  fd_L_take : FuncData
  L_one : Addr
  fd_L_one : FuncData
  L_web : Addr
  fd_L_web : FuncData
  L_lean : Addr
  fd_L_lean : FuncData
  L_ways : Addr
  fd_L_ways : FuncData
  L_goes_round : Addr
  fd_L_goes_round : FuncData
  L_flip : Addr
  fd_L_flip : FuncData
  L_row : Addr
  fd_L_row : FuncData
  L_shown : Addr
  fd_L_shown : FuncData
  L_near : Addr
  fd_L_near : FuncData
  L_right : Addr
  fd_L_right : FuncData
  law : Addr
  fd_law : FuncData
  Web : Addr
  Web_init : Addr
  fd_Web_init : FuncData
structure Tx (K : PySem.W.Frag) (mg : Str → Option Value) (A : Ad) : Prop where
  F_are_letters : Fun K "are_letters" "are_letters" (top 12) A.are_letters A.fd_are_letters
  b_are_letters : Binds K A.fd_are_letters ["value"] []
  g_are_letters : mg "are_letters" = some (.ref A.are_letters)
  F_are_places : Fun K "are_places" "are_places" (top 13) A.are_places A.fd_are_places
  b_are_places : Binds K A.fd_are_places ["value"] []
  g_are_places : mg "are_places" = some (.ref A.are_places)
  F_is_tie : Fun K "is_tie" "is_tie" (top 14) A.is_tie A.fd_is_tie
  b_is_tie : Binds K A.fd_is_tie ["places", "value"] []
  g_is_tie : mg "is_tie" = some (.ref A.is_tie)
  F_first_wrong_tie : Fun K "first_wrong_tie" "first_wrong_tie" (top 15) A.first_wrong_tie A.fd_first_wrong_tie
  b_first_wrong_tie : Binds K A.fd_first_wrong_tie ["places", "ties"] []
  g_first_wrong_tie : mg "first_wrong_tie" = some (.ref A.first_wrong_tie)
  F_check_places : Fun K "check_places" "check_places" (top 17) A.check_places A.fd_check_places
  b_check_places : Binds K A.fd_check_places ["places"] []
  g_check_places : mg "check_places" = some (.ref A.check_places)
  F_check_ties : Fun K "check_ties" "check_ties" (top 18) A.check_ties A.fd_check_ties
  b_check_ties : Binds K A.fd_check_ties ["places", "ties"] []
  g_check_ties : mg "check_ties" = some (.ref A.check_ties)
  F_check_leaning : Fun K "check_leaning" "check_leaning" (top 19) A.check_leaning A.fd_check_leaning
  b_check_leaning : Binds K A.fd_check_leaning ["web", "leaning"] []
  g_check_leaning : mg "check_leaning" = some (.ref A.check_leaning)
  F_check_web : Fun K "check_web" "check_web" (top 22) A.check_web A.fd_check_web
  b_check_web : Binds K A.fd_check_web ["web"] []
  g_check_web : mg "check_web" = some (.ref A.check_web)
  F_arrow_of : Fun K "arrow_of" "arrow_of" (top 24) A.arrow_of A.fd_arrow_of
  b_arrow_of : Binds K A.fd_arrow_of ["tie", "sign"] []
  g_arrow_of : mg "arrow_of" = some (.ref A.arrow_of)
  F_arrows_of : Fun K "arrows_of" "arrows_of" (top 25) A.arrows_of A.fd_arrows_of
  b_arrows_of : Binds K A.fd_arrows_of ["web", "leaning"] []
  g_arrows_of : mg "arrows_of" = some (.ref A.arrows_of)
  F_ways_along : Fun K "ways_along" "ways_along" (top 26) A.ways_along A.fd_ways_along
  b_ways_along : Binds K A.fd_ways_along ["row", "start"] []
  g_ways_along : mg "ways_along" = some (.ref A.ways_along)
  F_score_of : Fun K "score_of" "score_of" (top 28) A.score_of A.fd_score_of
  b_score_of : Binds K A.fd_score_of ["web", "leaning"] []
  g_score_of : mg "score_of" = some (.ref A.score_of)
  F_ring_among : Fun K "ring_among" "ring_among" (top 29) A.ring_among A.fd_ring_among
  b_ring_among : Binds K A.fd_ring_among ["arrows", "indexes"] []
  g_ring_among : mg "ring_among" = some (.ref A.ring_among)
  F_turning_rings : Fun K "turning_rings" "turning_rings" (top 30) A.turning_rings A.fd_turning_rings
  b_turning_rings : Binds K A.fd_turning_rings ["web", "leaning", "other_leaning"] []
  g_turning_rings : mg "turning_rings" = some (.ref A.turning_rings)
  F_L_purse : Fun K "_law_purse" "_law_purse" (top 32) A.L_purse A.fd_L_purse
  b_L_purse : Binds K A.fd_L_purse ["_law_script", "_law_k"] []
  g_L_purse : mg "_law_purse" = some (.ref A.L_purse)
  F_L_take : Fun K "_law_take" "_law_take" (top 33) A.L_take A.fd_L_take
  b_L_take : Binds K A.fd_L_take ["_law_purse_here", "_law_many"] []
  g_L_take : mg "_law_take" = some (.ref A.L_take)
  F_L_one : Fun K "_law_one" "_law_one" (top 34) A.L_one A.fd_L_one
  b_L_one : Binds K A.fd_L_one ["_law_purse_here", "_law_things"] []
  g_L_one : mg "_law_one" = some (.ref A.L_one)
  F_L_web : Fun K "_law_web" "_law_web" (top 35) A.L_web A.fd_L_web
  b_L_web : Binds K A.fd_L_web ["_law_purse_here", "_law_most_places", "_law_most_ties"] []
  g_L_web : mg "_law_web" = some (.ref A.L_web)
  F_L_lean : Fun K "_law_lean" "_law_lean" (top 36) A.L_lean A.fd_L_lean
  b_L_lean : Binds K A.fd_L_lean ["_law_purse_here", "_law_ties_here"] []
  g_L_lean : mg "_law_lean" = some (.ref A.L_lean)
  F_L_ways : Fun K "_law_ways" "_law_ways" (top 37) A.L_ways A.fd_L_ways
  b_L_ways : Binds K A.fd_L_ways ["_law_ties_here", "_law_leaning_here"] []
  g_L_ways : mg "_law_ways" = some (.ref A.L_ways)
  F_L_goes_round : Fun K "_law_goes_round" "_law_goes_round" (top 38) A.L_goes_round A.fd_L_goes_round
  b_L_goes_round : Binds K A.fd_L_goes_round ["_law_ways_here", "_law_lot"] []
  g_L_goes_round : mg "_law_goes_round" = some (.ref A.L_goes_round)
  F_L_flip : Fun K "_law_flip" "_law_flip" (top 39) A.L_flip A.fd_L_flip
  b_L_flip : Binds K A.fd_L_flip ["_law_leaning_here", "_law_lot"] []
  g_L_flip : mg "_law_flip" = some (.ref A.L_flip)
  F_L_row : Fun K "_law_row" "_law_row" (top 40) A.L_row A.fd_L_row
  b_L_row : Binds K A.fd_L_row ["_law_places_here", "_law_ways_here"] []
  g_L_row : mg "_law_row" = some (.ref A.L_row)
  F_L_shown : Fun K "_law_shown" "_law_shown" (top 41) A.L_shown A.fd_L_shown
  b_L_shown : Binds K A.fd_L_shown ["_law_mine", "_law_leaning_here", "_law_other", "_law_told"] []
  g_L_shown : mg "_law_shown" = some (.ref A.L_shown)
  F_L_near : Fun K "_law_near" "_law_near" (top 42) A.L_near A.fd_L_near
  b_L_near : Binds K A.fd_L_near ["_law_purse_here", "_law_ties_here", "_law_leaning_here"] []
  g_L_near : mg "_law_near" = some (.ref A.L_near)
  F_L_right : Fun K "_law_right" "_law_right" (top 43) A.L_right A.fd_L_right
  b_L_right : Binds K A.fd_L_right ["_law_purse_here"] []
  g_L_right : mg "_law_right" = some (.ref A.L_right)
  F_law : Fun K "law" "law" (top 44) A.law A.fd_law
  b_law : Binds K A.fd_law ["_law_script"] []
  g_law : mg "law" = some (.ref A.law)
  z_abs : mg "abs" = none
  z_all : mg "all" = none
  z_divmod : mg "divmod" = none
  z_enumerate : mg "enumerate" = none
  z_int : mg "int" = none
  z_isinstance : mg "isinstance" = none
  z_len : mg "len" = none
  z_list : mg "list" = none
  z_max : mg "max" = none
  z_min : mg "min" = none
  z_range : mg "range" = none
  z_set : mg "set" = none
  z_sorted : mg "sorted" = none
  z_str : mg "str" = none
  z_tuple : mg "tuple" = none
  z_zip : mg "zip" = none
  c_MOST_PLACES : ∃ t, mg "MOST_PLACES" = some (.int (7) t)
  c_MOST_TIES : ∃ t, mg "MOST_TIES" = some (.int (11) t)
  c_LETTERS : ∃ t, mg "LETTERS" = some (.str "abcdefgh" t)
  c_SIGNS : ∃ t, mg "SIGNS" = some (.str "+-" t)
  g_Web : mg "Web" = some (.ref A.Web)
  k_Web : Cls K A.Web
  i_Web : IsC K A.Web
  n_places : NoAttr K A.Web "places"
  n_ties : NoAttr K A.Web "ties"
  m_Web : Mk K A.Web A.Web_init
  F_Web_init : Fun K "__init__" "Web.__init__" (inClass (top 21) 0) A.Web_init A.fd_Web_init
  b_Web_init : Binds K A.fd_Web_init ["self", "places", "ties"] []
  kb_turning_rings : KBn K A.fd_turning_rings ["web", "leaning", "other_leaning"] 0 ["other_leaning", "leaning", "web"] (fun _ ws => rev3 ws) (fun _ zs => rev3 zs)

def dWeb (C : Addr) (p : List Nat) (ts : List Str) : D := .ins C [("places", .str (toS p)), ("ties", .tup (ts.map D.str))]
def dLot (lot : List Nat) : D := dI (lot.map Int.ofNat)
structure OkWeb (p : List Nat) (ts : List Str) : Prop where
  few : p.length ≤ 8
  many : ts.length ≤ 11
  ties : ∀ y ∈ ts, y.cps.size = 2 ∧ (ends y).1 ∈ p ∧ (ends y).2 ∈ p
def tiesOf (ts : List Str) (lot : List Nat) : List (Nat × Nat) := lot.map fun i => ends (ts.getD i Str.empty)
section
variable {P : Program} {w : World} {K : PySem.W.Frag} {mg : Str → Option Value} {base : Heap} {A : Ad}
theorem atK_nat {ds : List D} {j : Nat} {d : D} {R : D → Prop} (h : ds[j]? = some d) (r : R d) : atK ds (j : Int) R := by
  unfold atK
  rw [atI_nat h]
  exact r
theorem lot_at {lot : List Nat} {i : Nat} {x : D} (h : ((lot.map Int.ofNat).map D.int)[i]? = some x) : ∃ k, lot[i]? = some k ∧ x = .int (k : Nat) := by
  rw [List.getElem?_map, List.getElem?_map] at h
  cases e : lot[i]? with
  | none => rw [e] at h; cases h
  | some k =>
    rw [e] at h
    exact ⟨k, rfl, (Option.some.inj h).symm⟩
theorem two_signs {y : Str} (h : y.cps.size = 2) : ∃ a b, y.cps[0]? = some a ∧ y.cps[1]? = some b ∧ ends y = (a, b) := by
  obtain ⟨l⟩ := y
  obtain ⟨l⟩ := l
  match l, h with
  | [a, b], _ => exact ⟨a, b, rfl, rfl, rfl⟩
theorem occ_first' {p : List Nat} {c : Nat} (h : c ∈ p) : Builtin.Str.occurrences (toS p) ⟨#[c]⟩ 0 (toS p).length 1 = p.idxOf c :: [] := by
  have := occ_first (z := toS p) (c := c) (by rw [toS_list]; exact h)
  rw [toS_list] at this
  exact this
def g_marks (C : Addr) : GC := fun ds μ R => ∃ (p : List Nat) (ts : List Str) (lot : List Nat), ds = [dWeb C p ts, dLot lot] ∧ OkWeb p ts ∧ (∀ i ∈ lot, i < ts.length) ∧ R (.str (toS (marksL p (tiesOf ts lot)))) μ

def g_lot_of_all (C : Addr) : GC := fun ds μ R => ∃ (p : List Nat) (ts : List Str), ds = [dWeb C p ts] ∧ OkWeb p ts ∧ R (dLot (List.range ts.length)) μ
theorem upTo_lot (n : Nat) : D.tup (DL.upTo n) = dLot (List.range n) := by
  unfold DL.upTo dLot dI
  rw [List.map_map]
  rfl

def rankOf (p : List Nat) (ts : List Str) (lot : List Nat) : Nat := ((List.zip (marksL p (tiesOf ts lot)) p).filter fun q => decide (q.1 ≠ q.2)).length
def g_rank_of (C : Addr) : GC := fun ds μ R => ∃ (p : List Nat) (ts : List Str) (lot : List Nat), ds = [dWeb C p ts, dLot lot] ∧ OkWeb p ts ∧ (∀ i ∈ lot, i < ts.length) ∧ R (.int (rankOf p ts lot : Nat)) μ
theorem pairs_len {x y : Str} : (pairsS x y).length = min x.cps.toList.length y.cps.toList.length := by
  unfold pairsS
  rw [List.length_zipWith]
theorem pairs_mem {x y : Str} {d : D} (h : d ∈ pairsS x y) : ∃ a b, d = .tup [.str ⟨#[a]⟩, .str ⟨#[b]⟩] := by
  unfold pairsS at h
  generalize x.cps.toList = l at h
  generalize y.cps.toList = m at h
  induction l generalizing m with
  | nil => cases h
  | cons a l ih =>
    cases m with
    | nil => cases h
    | cons b m =>
      rw [List.zipWith_cons_cons] at h
      rcases List.mem_cons.mp h with e | h
      · exact ⟨a, b, e⟩
      · exact ih m h
def unlike : D → Bool
  | .tup [.str a, .str b] => decide (a ≠ b)
  | _ => false
def head1 : D → D
  | .tup (d :: _) => d
  | d => d
theorem pairs_unlike {l p : List Nat} : ((pairsS (toS l) (toS p)).filter unlike).length = ((List.zip l p).filter fun q => decide (q.1 ≠ q.2)).length := by
  unfold pairsS
  rw [toS_list, toS_list]
  induction l generalizing p with
  | nil => rfl
  | cons a l ih =>
    cases p with
    | nil => rfl
    | cons b p =>
      rw [List.zipWith_cons_cons, List.zip_cons_cons]
      by_cases e : a = b
      · subst e
        rw [List.filter_cons_of_neg (by simp [unlike]), List.filter_cons_of_neg (by simp)]
        exact ih
      · rw [List.filter_cons_of_pos (by simp [unlike, e]), List.filter_cons_of_pos (by simp [e]), List.length_cons, List.length_cons, ih]

def g_spare_of (C : Addr) : GC := fun ds μ R => ∃ (p : List Nat) (ts : List Str) (lot : List Nat), ds = [dWeb C p ts, dLot lot] ∧ OkWeb p ts ∧ (∀ i ∈ lot, i < ts.length) ∧ R (.int ((lot.length : Int) - (rankOf p ts lot : Nat))) μ
def g_full_rank (C : Addr) : GC := fun ds μ R => ∃ (p : List Nat) (ts : List Str), ds = [dWeb C p ts] ∧ OkWeb p ts ∧ R (.int (rankOf p ts (List.range ts.length) : Nat)) μ

theorem perm_map {α β : Type} {f : α → β} {L : List α} {out : List β} (h : out.Perm (L.map f)) : ∃ L' : List α, L'.Perm L ∧ out = L'.map f := by
  generalize e : L.map f = M at h
  induction h generalizing L with
  | nil =>
    have : L = [] := by simpa using e
    subst this
    exact ⟨[], .refl _, rfl⟩
  | cons x p ih =>
    obtain ⟨a, l, rfl, rfl, e2⟩ := List.map_eq_cons_iff.mp e
    obtain ⟨L', p', rfl⟩ := ih e2
    exact ⟨a :: L', p'.cons a, rfl⟩
  | swap x y l =>
    obtain ⟨a, l', rfl, rfl, e2⟩ := List.map_eq_cons_iff.mp e
    obtain ⟨b, l'', rfl, rfl, e3⟩ := List.map_eq_cons_iff.mp e2
    subst e3
    exact ⟨b :: a :: l'', List.Perm.swap _ _ _, rfl⟩
  | trans p q ih1 ih2 =>
    obtain ⟨L2, p2, e2⟩ := ih2 e
    obtain ⟨L1, p1, e1⟩ := ih1 e2.symm
    exact ⟨L1, p1.trans p2, e1⟩
/-- the woods among the first ties -/
def woodsStep (p : List Nat) (ts : List Str) (ws : List (List Nat)) (i : Nat) : List (List Nat) := ws ++ (ws.map (· ++ [i])).filter fun u => decide ((u.length : Int) - (rankOf p ts u : Nat) = 0)
def woodsL (p : List Nat) (ts : List Str) (n : Nat) : List (List Nat) := (List.range n).foldl (woodsStep p ts) [[]]
theorem woods_succ (p : List Nat) (ts : List Str) (n : Nat) : woodsL p ts (n + 1) = woodsStep p ts (woodsL p ts n) n := by
  unfold woodsL
  rw [List.range_succ, List.foldl_append]
  rfl
theorem woods_few (p : List Nat) (ts : List Str) : ∀ n, (woodsL p ts n).length ≤ 2 ^ n
  | 0 => Nat.le_refl _
  | n + 1 => by
    rw [woods_succ]
    unfold woodsStep
    have ih := woods_few p ts n
    have h2 := List.length_filter_le (fun u : List Nat => decide ((u.length : Int) - (rankOf p ts u : Nat) = 0)) ((woodsL p ts n).map (· ++ [n]))
    rw [List.length_map] at h2
    rw [List.length_append, Nat.pow_succ]
    omega
theorem woods_in (p : List Nat) (ts : List Str) : ∀ n, ∀ u ∈ woodsL p ts n, (∀ i ∈ u, i < n) ∧ u.length ≤ n
  | 0, u, h => by
    have : u = [] := by simpa [woodsL] using h
    subst this
    exact ⟨fun i hi => (by cases hi), Nat.le_refl _⟩
  | n + 1, u, h => by
    rw [woods_succ] at h
    unfold woodsStep at h
    rcases List.mem_append.mp h with h | h
    · obtain ⟨h1, h2⟩ := woods_in p ts n u h
      exact ⟨fun i hi => Nat.lt_succ_of_lt (h1 i hi), Nat.le_succ_of_le h2⟩
    · obtain ⟨v, hv, e⟩ := List.mem_map.mp (List.mem_filter.mp h).1
      have e : v ++ [n] = u := e
      subst e
      obtain ⟨h1, h2⟩ := woods_in p ts n v hv
      refine ⟨fun i hi => ?_, ?_⟩
      · rcases List.mem_append.mp hi with q | q
        · exact Nat.lt_succ_of_lt (h1 i q)
        · rw [List.mem_singleton.mp q]
          exact Nat.lt_succ_self _
      · rw [List.length_append]
        exact Nat.succ_le_succ h2
def ltN (a b : List Nat) : Bool := ltI (a.map Int.ofNat) (b.map Int.ofNat)
def g_trees_of (C : Addr) : GC := fun ds μ R => ∃ (p : List Nat) (ts : List Str), ds = [dWeb C p ts] ∧ OkWeb p ts ∧
  ∀ out : List (List Nat), out.Perm ((woodsL p ts ts.length).filter fun u => decide ((u.length : Int) = (rankOf p ts (List.range ts.length) : Nat))) → out.Pairwise (fun a b => ltN b a = false) → R (.tup (out.map dLot)) μ

def lotOf : D → List Nat
  | .tup ds => ds.map fun d => match d with
    | .int i => i.toNat
    | _ => 0
  | _ => []
theorem lotOf_dLot (u : List Nat) : lotOf (dLot u) = u := by
  show ((u.map Int.ofNat).map D.int).map (fun d => match d with
    | .int i => i.toNat
    | _ => 0) = u
  induction u with
  | nil => rfl
  | cons a u ih =>
    rw [List.map_cons, List.map_cons, List.map_cons, ih]
    rfl
def addI (i : Nat) : D → D
  | .tup ds => .tup (ds ++ [.int (i : Nat)])
  | d => d
theorem addI_map (i : Nat) (ws : List (List Nat)) : (ws.map dLot).map (addI i) = (ws.map (· ++ [i])).map dLot := by
  rw [List.map_map, List.map_map]
  refine List.map_congr_left fun u _ => ?_
  show D.tup (((u.map Int.ofNat).map D.int) ++ [.int (i : Nat)]) = dLot (u ++ [i])
  unfold dLot dI
  rw [List.map_append, List.map_append]
  rfl
theorem filter_dLot (q : List Nat → Bool) (ws : List (List Nat)) : (ws.map dLot).filter (fun d => q (lotOf d)) = (ws.filter q).map dLot := by
  rw [List.filter_map]
  congr 1
  refine List.filter_congr fun u _ => ?_
  show q (lotOf (dLot u)) = q u
  rw [lotOf_dLot]
theorem range_at {n i : Nat} {x : D} (h : ((List.range n).map fun i => D.int (i : Nat))[i]? = some x) : i < n ∧ x = .int (i : Nat) := by
  rw [List.getElem?_map] at h
  by_cases hi : i < n
  · rw [List.getElem?_range hi] at h
    exact ⟨hi, (Option.some.inj h).symm⟩
  · rw [List.getElem?_eq_none (by simp; omega)] at h
    cases h
theorem pow_few {i : Nat} (h : i ≤ 11) : 2 ^ i ≤ 2048 := Nat.pow_le_pow_right (by omega) h

def g_check_web (C : Addr) : GC := fun ds μ R => ∃ (p : List Nat) (ts : List Str), ds = [dWeb C p ts] ∧ R .non μ
/-- all trees, ascending, in whatever way that is reached -/
def IsTrees (p : List Nat) (ts : List Str) (out : List (List Nat)) : Prop := out.Perm ((woodsL p ts ts.length).filter fun u => decide ((u.length : Int) = (rankOf p ts (List.range ts.length) : Nat))) ∧ out.Pairwise (fun a b => ltN b a = false)
def g_count_trees (C : Addr) : GC := fun ds μ R => ∃ (p : List Nat) (ts : List Str), ds = [dWeb C p ts] ∧ OkWeb p ts ∧ ∀ out, IsTrees p ts out → R (.int (out.length : Nat)) μ
def g_all_trees (C : Addr) : GC := fun ds μ R => ∃ (p : List Nat) (ts : List Str), ds = [dWeb C p ts] ∧ OkWeb p ts ∧ ∀ out, IsTrees p ts out → R (.tup (out.map dLot)) μ
def N22 : List Str := ["web"]
theorem sc22 : FnScope N22 ["web"] (defScope (top 22)) := ⟨rfl, rfl, rfl, by decide +kernel, rfl, by decide +kernel, by decide +kernel⟩
theorem ok_check_web (T : Tx K mg A) : FnOk P w K mg base CX0 1 A.check_web A.fd_check_web ["web"] (toSp K (g_check_web A.Web)) := by
  refine okD T.F_check_web sc22 (fun ds μ R h => ?_) ⟨_, fun cdv A0 outer s H E hr =>
    (dss_one (ds_if (dt_not (dt_val (de_isc T.i_Web (by rfl) T.z_isinstance (by rfl) T.g_Web (dv 0)))) (dss_one ds_never) dss_nil)), fun ds μ R h => ?_⟩
  · obtain ⟨p, ts, rfl, _⟩ := h
    rfl
  · obtain ⟨p, ts, rfl, h⟩ := h
    exact ⟨rfl, h⟩

def g_is_integer : GC := g1 fun d μ R => match d with
  | .int _ => R (.bl true) μ
  | _ => False

def g_is_integer_from : GC := fun ds μ R => match ds with
  | [.int v, .int lo, .int hi] => R (.bl (decide (lo ≤ v) && decide (v ≤ hi))) μ
  | _ => False

structure AscLot (lot : List Nat) (n : Nat) : Prop where
  asc : lot.Pairwise (· < ·)
  few : ∀ i ∈ lot, i < n
def g_check_lot (C : Addr) : GC := fun ds μ R => ∃ (p : List Nat) (ts : List Str) (lot : List Nat), ds = [dWeb C p ts, dLot lot] ∧ AscLot lot ts.length ∧ R .non μ
theorem numbered_at {ds : List D} {i : Nat} {x : D} (h : (DL.numbered ds)[i]? = some x) : ∃ d, ds[i]? = some d ∧ x = .tup [.int (i : Nat), d] := by
  unfold DL.numbered at h
  rw [List.getElem?_mapIdx] at h
  cases e : ds[i]? with
  | none => rw [e] at h; cases h
  | some d =>
    rw [e] at h
    exact ⟨d, rfl, (Option.some.inj h).symm⟩
theorem asc_next {lot : List Nat} (h : lot.Pairwise (· < ·)) {i a b : Nat} (ha : lot[i]? = some a) (hb : lot[i + 1]? = some b) : a < b := by
  obtain ⟨h1, e1⟩ := List.getElem?_eq_some_iff.mp ha
  obtain ⟨h2, e2⟩ := List.getElem?_eq_some_iff.mp hb
  rw [← e1, ← e2]
  exact List.pairwise_iff_getElem.mp h i (i + 1) h1 h2 (Nat.lt_succ_self _)

def countWith (out : List (List Nat)) (ins outs : List Nat) : Nat := (out.filter fun t => ins.all (fun k => decide (k ∈ t)) && !outs.any (fun k => decide (k ∈ t))).length
def g_trees_with (C : Addr) : GC := fun ds μ R => ∃ (p : List Nat) (ts : List Str) (ins outs : List Nat), ds = [dWeb C p ts, dLot ins, dLot outs] ∧ OkWeb p ts ∧ AscLot ins ts.length ∧ AscLot outs ts.length ∧
  ins.length ≤ 64 ∧ outs.length ≤ 64 ∧ ∀ out, IsTrees p ts out → R (.int (countWith out ins outs : Nat)) μ
theorem bK_case {c : Bool} {F : Bool → Mu → Prop} {μ : Mu} (h1 : c = true → F true μ) (h2 : c = false → F false μ) : bK F (.bl c) μ := by
  cases c with
  | true => exact h1 rfl
  | false => exact h2 rfl
theorem filter_one {α : Type} (q : α → Bool) (t : α) : ([t].filter q).length = if q t = true then 1 else 0 := by
  rw [List.filter_cons]
  split <;> rfl
def hasI (t : List Nat) : D → D
  | .int k => .bl (decide (k.toNat ∈ t))
  | d => d
theorem hasI_map (t ins : List Nat) : ((ins.map Int.ofNat).map D.int).map (hasI t) = (ins.map fun k => decide (k ∈ t)).map D.bl := by
  rw [List.map_map, List.map_map, List.map_map]
  rfl
theorem in_lot {k : Nat} {t : List Nat} {R : Bool → Prop} (h : R (decide (k ∈ t))) : inDs (.int (k : Nat)) ((t.map Int.ofNat).map D.int) R := by
  refine .inl ⟨(k : Int), t.map Int.ofNat, rfl, rfl, ?_⟩
  have e : decide ((k : Int) ∈ t.map Int.ofNat) = decide (k ∈ t) := by
    rw [decide_eq_decide]
    constructor
    · intro h
      obtain ⟨j, hj, e⟩ := List.mem_map.mp h
      have e : j = k := Int.ofNat.inj e
      rw [← e]
      exact hj
    · intro h
      exact List.mem_map.mpr ⟨k, h, rfl⟩
  rw [e]
  exact h
theorem items_lot {lot : List Nat} {x : D} (h : x ∈ (lot.map Int.ofNat).map D.int) : ∃ k, k ∈ lot ∧ x = .int (k : Nat) := by
  obtain ⟨j, hj, e⟩ := List.mem_map.mp h
  obtain ⟨k, hk, e2⟩ := List.mem_map.mp hj
  exact ⟨k, hk, by rw [← e, ← e2]; rfl⟩

def g_is_tie : GC := fun ds μ R => match ds with
  | [.str p, .str v] => ∃ a b, v = ⟨#[a, b]⟩ ∧ a ∈ p.cps.toList ∧ b ∈ p.cps.toList ∧ a ≤ b ∧ R (.bl true) μ
  | _ => False
def N14 : List Str := ["places", "value"]
theorem sc14 : FnScope N14 ["places", "value"] (defScope (top 14)) := ⟨rfl, rfl, rfl, by decide +kernel, rfl, by decide +kernel, by decide +kernel⟩
theorem ok_is_tie (T : Tx K mg A) : FnOk P w K mg base CX0 1 A.is_tie A.fd_is_tie ["places", "value"] (toSp K (g_is_tie)) := by
  refine okD T.F_is_tie sc14 (fun ds μ R h => ?_) ⟨_, fun cdv A0 outer s H E hr =>
    (dss_cons (ds_if (dw_or (dt_not (dt_val (de_isi (T := "str") (by rfl) T.z_isinstance (by rfl) T.z_str (by decide +kernel) (dv 1)))) (dw_or1 (dt_cmp (op_neA hr.units) sim_ne (de_callB cr_len sim_len (by rfl) T.z_len boot_len (da_cons (dv 1) da_nil)) de_int (nomark _)))).dt (dss_one (ds_ret de_bl)) dss_nil)
      (dss_one (ds_ret (de_and (de_cmp op_inA sim_in (de_ix ix_any sim_ix (dv 1) de_int (fun _ _ => rfl)) (dv 0) rfl) (de_and (de_cmp op_inA sim_in (de_ix ix_any sim_ix (dv 1) de_int (fun _ _ => rfl)) (dv 0) rfl) (de_one (de_cmp op_leA sim_ord (de_ix ix_any sim_ix (dv 1) de_int (fun _ _ => rfl)) (de_ix ix_any sim_ix (dv 1) de_int (fun _ _ => rfl)) (nomark _)))))))), fun ds μ R h => ?_⟩
  · match ds, h with
    | [.str p, .str v], h => rfl
  · match ds, h with
    | [.str p, .str v], h =>
      obtain ⟨a, b, rfl, ha, hb, hab, h⟩ := h
      refine ⟨_, true, rfl, by decide +kernel, ?_⟩
      refine ⟨(by show 2 ≤ sizeLine; decide), ?_⟩
      refine ⟨(by show 2 ≤ sizeLine; decide), a, rfl, ?_⟩
      have e1 : decide (a ∈ p.cps.toList) = true := decide_eq_true ha
      have e2 : decide (b ∈ p.cps.toList) = true := decide_eq_true hb
      rw [e1]
      refine ⟨(by show 2 ≤ sizeLine; decide), b, rfl, ?_⟩
      rw [e2]
      refine ⟨(by show 2 ≤ sizeLine; decide), (by show 2 ≤ sizeLine; decide), ?_⟩
      have e3 : (!decide (([b] : List Nat) < [a])) = true := by
        rw [decide_eq_false (fun z => by have := lt_one.mp z; omega)]
        rfl
      show R (.bl (!decide (([b] : List Nat) < [a]))) μ
      rw [e3]
      exact h

structure OkTies (p : List Nat) (ts : List Str) : Prop where
  many : ts.length ≤ 11
  ties : ∀ y ∈ ts, ∃ a b, y = ⟨#[a, b]⟩ ∧ a ∈ p ∧ b ∈ p ∧ a ≤ b
def g_first_wrong_tie : GC := fun ds μ R => ∃ (p : List Nat) (ts : List Str), ds = [.str (toS p), .tup (ts.map D.str)] ∧ OkTies p ts ∧ R .non μ
def N15 : List Str := ["places", "ties", "at", "tie"]
theorem sc15 : FnScope N15 ["places", "ties"] (defScope (top 15)) := ⟨rfl, rfl, rfl, by decide +kernel, rfl, by decide +kernel, by decide +kernel⟩
theorem ok_first_wrong_tie (T : Tx K mg A) : FnOk P w K mg base CX0 2 A.first_wrong_tie A.fd_first_wrong_tie ["places", "ties"] (toSp K (g_first_wrong_tie)) := by
  refine okD T.F_first_wrong_tie sc15 (fun ds μ R h => ?_) ⟨_, fun cdv A0 outer s H E hr =>
    (dss_cons (ds_for PassesOwn.never rfl (di_enumT (by rfl) T.z_enumerate (da_cons (dv 1) da_nil)) (pg_tup (n := 2) (by rfl) (pgs_cons (pg_name (i := 2) sc15.nd rfl (by first | exact Or.inl rfl | exact Or.inr rfl)) (pgs_cons (pg_name (i := 3) sc15.nd rfl (by first | exact Or.inl rfl | exact Or.inr rfl)) pgs_nil))) (sim_tupT (n := 2) (sim_consT (sim_nm (i := 2)) (sim_consT (sim_nm (i := 3)) sim_nilT)))
      (dss_one (ds_if (dw_or (dt_cmp op_geA sim_ord (dv 2) (de_globI (by rfl) T.c_MOST_TIES.choose_spec) (nomark _)) (dw_or1 (dt_not (dt_val (de_call ((ok_is_tie T).mono (by decide)) hr (by rfl) T.g_is_tie T.F_is_tie.kp T.b_is_tie (da_cons (dv 0) (da_cons (dv 3) da_nil))))))).dt (dss_one (ds_ret (dv 2))) dss_nil)))
      (dss_one (ds_ret de_non))), fun ds μ R h => ?_⟩
  · obtain ⟨p, ts, rfl, _⟩ := h
    rfl
  · obtain ⟨p, ts, rfl, ok, h⟩ := h
    refine ⟨fun i δ' μ' => μ' = μ ∧ ∃ o2 o3, δ' = [some (.str (toS p)), some (.tup (ts.map D.str)), o2, o3], ⟨rfl, none, none, rfl⟩, ?_, ?_⟩
    · rintro i x δ' μ' hx ⟨rfl, o2, o3, rfl⟩
      obtain ⟨d, hd, rfl⟩ := numbered_at hx
      rw [List.getElem?_map] at hd
      obtain ⟨y, hy, rfl⟩ : ∃ y, ts[i]? = some y ∧ D.str y = d := by
        cases e : ts[i]? with
        | none => rw [e] at hd; cases hd
        | some t => rw [e] at hd; exact ⟨t, rfl, Option.some.inj hd⟩
      have hi : i < ts.length := (List.getElem?_eq_some_iff.mp hy).1
      have many := ok.many
      obtain ⟨a, b, rfl, ha, hb, hab⟩ := ok.ties y (List.mem_of_getElem? hy)
      refine ⟨rfl, ?_⟩
      have hn : ¬ decide ((11 : Int) ≤ (i : Int)) = true := by
        rw [decide_eq_true_eq]
        omega
      show (if decide ((11 : Int) ≤ (i : Int)) = true then _ else _)
      rw [if_neg hn]
      refine ⟨a, b, rfl, by rw [toS_list]; exact ha, by rw [toS_list]; exact hb, hab, ?_⟩
      exact ⟨rfl, _, _, rfl⟩
    · rintro δ' μ' ⟨rfl, o2, o3, rfl⟩
      exact h

def g_check_ties : GC := g_first_wrong_tie
def N18 : List Str := ["places", "ties", "wrong"]
theorem sc18 : FnScope N18 ["places", "ties"] (defScope (top 18)) := ⟨rfl, rfl, rfl, by decide +kernel, rfl, by decide +kernel, by decide +kernel⟩
theorem ok_check_ties (T : Tx K mg A) : FnOk P w K mg base CX0 3 A.check_ties A.fd_check_ties ["places", "ties"] (toSp K (g_check_ties)) := by
  refine okD T.F_check_ties sc18 (fun ds μ R h => ?_) ⟨_, fun cdv A0 outer s H E hr =>
    (dss_cons (ds_if (dt_not (dt_val (de_isi (T := "tuple") (by rfl) T.z_isinstance (by rfl) T.z_tuple (by decide +kernel) (dv 1)))) (dss_one ds_never) dss_nil)
      (dss_cons (ds_set sc18.nd (i := 2) rfl (by first | exact Or.inl rfl | exact Or.inr rfl) (de_call ((ok_first_wrong_tie T).mono (by decide)) hr (by rfl) T.g_first_wrong_tie T.F_first_wrong_tie.kp T.b_first_wrong_tie (da_cons (dv 0) (da_cons (dv 1) da_nil))))
      (dss_one (ds_if (dt_cmp op_notN sim_notN (dv 2) de_non (nomark _)) (dss_one ds_never) dss_nil)))), fun ds μ R h => ?_⟩
  · obtain ⟨p, ts, rfl, _⟩ := h
    rfl
  · obtain ⟨p, ts, rfl, ok, h⟩ := h
    refine ⟨_, true, rfl, by decide +kernel, ?_⟩
    refine ⟨p, ts, rfl, ok, ?_⟩
    exact h

structure OkPlaces (p : List Nat) : Prop where
  one : 1 ≤ p.length
  few : p.length ≤ 7
  asc : p.Pairwise (· < ·)
  sign : ∀ c ∈ p, 97 ≤ c ∧ c ≤ 104
theorem count_none {c : Nat} : ∀ {l : List Nat}, c ∉ l → PyProof.Rows.cnt c l = 0
  | [], _ => rfl
  | n :: l, h => by
    rw [PyProof.Rows.cnt_cons, if_neg (fun e => h (by rw [e]; exact List.mem_cons_self)), count_none fun q => h (List.mem_cons_of_mem _ q)]
    rfl
theorem cnt_once {c : Nat} : ∀ {l : List Nat}, c ∈ l → l.Pairwise (· ≠ ·) → PyProof.Rows.cnt c l = 1
  | n :: l, h, p => by
    rw [List.pairwise_cons] at p
    rw [PyProof.Rows.cnt_cons]
    by_cases e : n = c
    · subst e
      rw [if_pos rfl, count_none fun q => p.1 n q rfl]
      rfl
    · rw [if_neg e, cnt_once ((List.mem_cons.mp h).resolve_left fun q => e q.symm) p.2]
      rfl
theorem count_once {p : List Nat} {c : Nat} (h : c ∈ p) (u : p.Pairwise (· ≠ ·)) : decide (Txt.count (toS p) ⟨#[c]⟩ = 1) = true := by
  rw [decide_eq_true_eq, count_cnt, toS_list]
  exact cnt_once h u
def g_are_letters : GC := fun ds μ R => ∃ p : List Nat, ds = [.str (toS p)] ∧ OkPlaces p ∧ R (.bl true) μ
def N12 : List Str := ["value", "letter"]
theorem sc12 : FnScope N12 ["value"] (defScope (top 12)) := ⟨rfl, rfl, rfl, by decide +kernel, rfl, by decide +kernel, by decide +kernel⟩
theorem ok_are_letters (T : Tx K mg A) : FnOk P w K mg base CX0 1 A.are_letters A.fd_are_letters ["value"] (toSp K (g_are_letters)) := by
  refine okD T.F_are_letters sc12 (fun ds μ R h => ?_) ⟨_, fun cdv A0 outer s H E hr =>
    (dss_cons (ds_if (dw_or (dt_not (dt_val (de_isi (T := "str") (by rfl) T.z_isinstance (by rfl) T.z_str (by decide +kernel) (dv 0)))) (dw_or1 (dt_cmp op_gtA sim_ord (de_callB cr_len sim_len (by rfl) T.z_len boot_len (da_cons (dv 0) da_nil)) (de_callB cr_len sim_len (by rfl) T.z_len boot_len (da_cons (de_globS (by rfl) T.c_LETTERS.choose_spec) da_nil)) (nomark _)))).dt (dss_one (ds_ret de_bl)) dss_nil)
      (dss_one (ds_ret (de_callB (cr_all (by rfl)) sim_all (by rfl) T.z_all boot_all (da_cons (de_lc (own := [("letter", 1)]) (by rfl) sc12.nd (di_str (dv 0)) (blkOk_by (N := N12) (own := [("letter", 1)]) (sc := defScope (top 12)) (by decide +kernel)) (fun _ _ _ _ _ => (pg_name (i := 1) sc12.nd rfl (by first | exact Or.inl rfl | exact Or.inr rfl))) (sim_nm (i := 1)) (fun _ _ _ _ _ => dts_nil) (fun _ _ _ _ _ => (de_and (de_cmp op_inA sim_in (dv 1) (de_globS (by rfl) T.c_LETTERS.choose_spec) rfl) (de_one (de_cmp (op_eqA hr.units) sim_eq (de_bm PySem.F.plainAttrs_str PySem.F.slot_str_count PySem.F.type_str_count mt_count sim_count ok_str (dv 0) (da_cons (dv 1) da_nil)) de_int (nomark _)))))) da_nil))))), fun ds μ R h => ?_⟩
  · obtain ⟨p, rfl, _⟩ := h
    rfl
  · obtain ⟨p, rfl, ok, h⟩ := h
    have few := ok.few
    refine ⟨_, true, rfl, by decide +kernel, ?_⟩
    have hz : (toS p).length = p.length := by
      show p.toArray.size = p.length
      rw [List.size_toArray]
    have hn : ¬ decide ((("abcdefgh" : Str).length : Int) < ((toS p).length : Int)) = true := by
      rw [decide_eq_true_eq, hz]
      have : ("abcdefgh" : Str).length = 8 := by decide +kernel
      rw [this]
      omega
    refine ⟨by rw [hz, sizeLine_eq]; omega, by decide +kernel, ?_⟩
    show (if decide ((("abcdefgh" : Str).length : Int) < ((toS p).length : Int)) = true then _ else _)
    rw [if_neg hn]
    show LcB _ _ _ _ _ _ _ _
    refine lcb_map (fun _ => .bl true) ?_ ?_ ?_
    · unfold DL.signs
      rw [List.length_map, toS_list, sizeLine_eq]
      omega
    · intro x hx μ2 Y _ hy
      unfold DL.signs at hx
      obtain ⟨c, hc, rfl⟩ := List.mem_map.mp hx
      rw [toS_list] at hc
      have hs := ok.sign c hc
      refine ⟨c, rfl, ?_⟩
      have e1 : decide (c ∈ ("abcdefgh" : Str).cps.toList) = true := by
        have e : ("abcdefgh" : Str).cps.toList = [97, 98, 99, 100, 101, 102, 103, 104] := by decide +kernel
        rw [e, decide_eq_true_eq]
        simp
        omega
      show (if id (decide (c ∈ ("abcdefgh" : Str).cps.toList)) = true then _ else _)
      rw [if_pos (show id (decide (c ∈ ("abcdefgh" : Str).cps.toList)) = true from e1)]
      refine ⟨True.intro, ?_⟩
      show Y (.bl (id (decide (Txt.count (toS p) ⟨#[c]⟩ = 1)))) μ2
      rw [count_once hc (ok.asc.imp fun h => Nat.ne_of_lt h)]
      exact hy
    · unfold DL.signs
      rw [List.map_map]
      refine ⟨List.replicate p.length true, ?_, ?_⟩
      · rw [toS_list, List.map_replicate]
        exact List.map_const'
      · show R (.bl ((List.replicate p.length true).all id)) μ
        have : (List.replicate p.length true).all id = true := by
          rw [List.all_eq_true]
          intro b hb
          rw [List.eq_of_mem_replicate hb]
          rfl
        rw [this]
        exact h
end
end K10

set_option Elab.async false
set_option linter.all false
set_option maxRecDepth 100000
namespace K10
open DL
/-! ### the ranks of both sides -/
/-- how many places have a mark that is not their own -/
def nonFix (r p : List Nat) : Nat := ((List.zip r p).filter fun q => decide (q.1 ≠ q.2)).length
theorem nonFix_nil (r : List Nat) : nonFix r [] = 0 := by cases r <;> rfl
theorem nonFix_cons (a b : Nat) (r p : List Nat) : nonFix (a :: r) (b :: p) = (if a ≠ b then 1 else 0) + nonFix r p := by
  unfold nonFix
  rw [List.zip_cons_cons]
  by_cases e : a = b
  · rw [List.filter_cons_of_neg (by simp [e]), if_neg (by simp [e])]
    omega
  · rw [List.filter_cons_of_pos (by simp [e]), if_pos e, List.length_cons]
    omega
theorem nonFix_self : ∀ p : List Nat, nonFix p p = 0
  | [] => rfl
  | a :: p => by rw [nonFix_cons, nonFix_self p]; simp
/-- one mark put in the place of another one -/
theorem nonFix_map (m n : Nat) : ∀ (r p : List Nat), p.Pairwise (· ≠ ·) → nonFix (r.map fun x => if x = m then n else x) p ≤ nonFix r p + (if m ∈ p then 1 else 0)
  | [], p, _ => by
    show nonFix [] p ≤ _
    unfold nonFix
    simp
  | a :: r, [], _ => by rw [nonFix_nil]; omega
  | a :: r, b :: p, u => by
    rw [List.pairwise_cons] at u
    have ih := nonFix_map m n r p u.2
    rw [List.map_cons, nonFix_cons, nonFix_cons]
    by_cases e : a = m
    · subst e
      rw [if_pos rfl]
      by_cases eb : a = b
      · subst eb
        have : ¬ a ∈ p := fun h => u.1 a h rfl
        rw [if_neg this] at ih
        rw [if_pos List.mem_cons_self]
        split <;> split <;> omega
      · rw [if_pos eb]
        have : (if a ∈ p then 1 else 0) ≤ (if a ∈ b :: p then 1 else 0) := by
          by_cases h : a ∈ p
          · rw [if_pos h, if_pos (List.mem_cons_of_mem _ h)]; omega
          · rw [if_neg h]; omega
        split <;> omega
    · rw [if_neg e]
      have : (if m ∈ p then 1 else 0) ≤ (if m ∈ b :: p then 1 else 0) := by
        by_cases h : m ∈ p
        · rw [if_pos h, if_pos (List.mem_cons_of_mem _ h)]; omega
        · rw [if_neg h]; omega
      omega
theorem nonFix_step {p : List Nat} (u : p.Pairwise (· ≠ ·)) (r : List Nat) (y : Nat × Nat) : nonFix (stepM p r y) p ≤ nonFix r p + 1 := by
  have := nonFix_map (max (r.getD (p.idxOf y.1) 0) (r.getD (p.idxOf y.2) 0)) (min (r.getD (p.idxOf y.1) 0) (r.getD (p.idxOf y.2) 0)) r p u
  unfold stepM
  have h : (if max (r.getD (p.idxOf y.1) 0) (r.getD (p.idxOf y.2) 0) ∈ p then 1 else 0) ≤ 1 := by split <;> omega
  exact Nat.le_trans this (by omega)
theorem marksL_snoc (p : List Nat) (ys : List (Nat × Nat)) (y : Nat × Nat) : marksL p (ys ++ [y]) = stepM p (marksL p ys) y := by
  unfold marksL
  rw [List.foldl_append]
  rfl
theorem nonFix_snoc {p : List Nat} (u : p.Pairwise (· ≠ ·)) (ys : List (Nat × Nat)) (y : Nat × Nat) : nonFix (marksL p (ys ++ [y])) p ≤ nonFix (marksL p ys) p + 1 := by
  rw [marksL_snoc]
  exact nonFix_step u _ _
theorem nonFix_foldl {p : List Nat} (u : p.Pairwise (· ≠ ·)) : ∀ (ys : List (Nat × Nat)) (r : List Nat), nonFix (ys.foldl (stepM p) r) p ≤ nonFix r p + ys.length
  | [], r => by simp
  | y :: ys, r => by
    have := nonFix_foldl u ys (stepM p r y)
    have h := nonFix_step u r y
    rw [List.foldl_cons, List.length_cons]
    omega
theorem nonFix_le {p : List Nat} (u : p.Pairwise (· ≠ ·)) (ys : List (Nat × Nat)) : nonFix (marksL p ys) p ≤ ys.length := by
  have := nonFix_foldl u ys p
  rw [nonFix_self] at this
  unfold marksL
  omega
/-! each mark is the mark of its own place -/
structure Roots (p r : List Nat) : Prop where
  len : r.length = p.length
  own : ∀ v ∈ r, v ∈ p ∧ r.getD (p.idxOf v) 0 = v
theorem getD_map_ne {l : List Nat} {f : Nat → Nat} {i : Nat} (h : i < l.length) : (l.map f).getD i 0 = f (l.getD i 0) := by
  rw [List.getD_eq_getElem?_getD, List.getD_eq_getElem?_getD, List.getElem?_map, List.getElem?_eq_getElem h]
  rfl
theorem getD_in {l : List Nat} {i : Nat} (h : i < l.length) : l.getD i 0 ∈ l := by
  rw [List.getD_eq_getElem?_getD, List.getElem?_eq_getElem h]
  exact List.getElem_mem h
theorem Roots.step {p r : List Nat} (h : Roots p r) {y : Nat × Nat} (h1 : y.1 ∈ p) (h2 : y.2 ∈ p) : Roots p (stepM p r y) := by
  refine ⟨by rw [stepM_len]; exact h.len, ?_⟩
  have l1 : p.idxOf y.1 < r.length := by rw [h.len]; exact List.idxOf_lt_length_of_mem h1
  have l2 : p.idxOf y.2 < r.length := by rw [h.len]; exact List.idxOf_lt_length_of_mem h2
  have m1 := getD_in l1
  have m2 := getD_in l2
  unfold stepM
  generalize r.getD (p.idxOf y.1) 0 = a at *
  generalize r.getD (p.idxOf y.2) 0 = b at *
  show ∀ v ∈ r.map (fun x => if x = max a b then min a b else x), v ∈ p ∧ (r.map (fun x => if x = max a b then min a b else x)).getD (p.idxOf v) 0 = v
  have mm : min a b ∈ r := by
    by_cases e : a ≤ b
    · rw [Nat.min_eq_left e]; exact m1
    · rw [Nat.min_eq_right (by omega)]; exact m2
  have key : ∀ v ∈ r, (v ≠ max a b ∨ a = b) → v ∈ p ∧ (r.map (fun x => if x = max a b then min a b else x)).getD (p.idxOf v) 0 = v := by
    intro v hv hne
    obtain ⟨k1, k2⟩ := h.own v hv
    refine ⟨k1, ?_⟩
    rw [getD_map_ne (by rw [h.len]; exact List.idxOf_lt_length_of_mem k1), k2]
    by_cases e : v = max a b
    · rw [if_pos e]
      have : a = b := hne.resolve_left fun z => z e
      omega
    · rw [if_neg e]
  intro v hv
  obtain ⟨x, hx, e⟩ := List.mem_map.mp hv
  by_cases ex : x = max a b
  · have e : (if x = max a b then min a b else x) = v := e
    rw [if_pos ex] at e
    subst e
    refine key _ mm ?_
    by_cases z : a = b
    · exact .inr z
    · exact .inl (by omega)
  · have e : (if x = max a b then min a b else x) = v := e
    rw [if_neg ex] at e
    subst e
    exact key _ hx (.inl ex)
theorem idx_get {p : List Nat} (u : p.Pairwise (· ≠ ·)) {i : Nat} (h : i < p.length) : p.idxOf p[i] = i := by
  have hm : p[i] ∈ p := List.getElem_mem h
  have hl := List.idxOf_lt_length_of_mem hm
  have e : p[p.idxOf p[i]] = p[i] := List.getElem_idxOf hl
  rcases Nat.lt_trichotomy (p.idxOf p[i]) i with z | z | z
  · exact absurd e (List.pairwise_iff_getElem.mp u _ _ hl h z)
  · exact z
  · exact absurd e.symm (List.pairwise_iff_getElem.mp u _ _ h hl z)
theorem Roots.start {p : List Nat} (u : p.Pairwise (· ≠ ·)) : Roots p p := by
  refine ⟨rfl, fun v hv => ⟨hv, ?_⟩⟩
  have hl := List.idxOf_lt_length_of_mem hv
  rw [List.getD_eq_getElem?_getD, List.getElem?_eq_getElem hl]
  exact List.getElem_idxOf hl
theorem Roots.foldl {p : List Nat} : ∀ (ys : List (Nat × Nat)) (r : List Nat), (∀ y ∈ ys, y.1 ∈ p ∧ y.2 ∈ p) → Roots p r → Roots p (ys.foldl (stepM p) r)
  | [], r, _, h => h
  | y :: ys, r, hy, h => by
    rw [List.foldl_cons]
    exact Roots.foldl ys _ (fun z hz => hy z (List.mem_cons_of_mem _ hz)) (h.step (hy y List.mem_cons_self).1 (hy y List.mem_cons_self).2)
theorem roots_marks {p : List Nat} (u : p.Pairwise (· ≠ ·)) {ys : List (Nat × Nat)} (hy : ∀ y ∈ ys, y.1 ∈ p ∧ y.2 ∈ p) : Roots p (marksL p ys) := Roots.foldl ys p hy (.start u)
/-! how many unlike marks -/
section
variable {κ : Type} [DecidableEq κ]
theorem met_mem (val : Nat → κ) : ∀ (n : Nat) (k : κ), k ∈ metK val n ↔ ∃ i, i < n ∧ val i = k
  | 0, k => by
    constructor
    · intro h; cases h
    · rintro ⟨i, h, _⟩; omega
  | n + 1, k => by
    have ih := met_mem val n
    unfold metK
    split
    · rename_i h
      rw [ih]
      constructor
      · rintro ⟨i, h1, h2⟩; exact ⟨i, by omega, h2⟩
      · rintro ⟨i, h1, h2⟩
        by_cases e : i = n
        · subst e
          obtain ⟨z, hz, e⟩ := List.any_eq_true.mp h
          have e : z = val i := by simpa using e
          rw [e] at hz
          rw [← h2]
          exact (ih _).mp hz
        · exact ⟨i, by omega, h2⟩
    · rw [List.mem_append, ih, List.mem_singleton]
      constructor
      · rintro (⟨i, h1, h2⟩ | h)
        · exact ⟨i, by omega, h2⟩
        · exact ⟨n, by omega, h.symm⟩
      · rintro ⟨i, h1, h2⟩
        by_cases e : i = n
        · subst e; exact .inr h2.symm
        · exact .inl ⟨i, by omega, h2⟩
theorem met_nodup (val : Nat → κ) : ∀ n, (metK val n).Nodup
  | 0 => .nil
  | n + 1 => by
    have ih := met_nodup val n
    unfold metK
    split
    · exact ih
    · rename_i h
      refine List.nodup_append.mpr ⟨ih, by simp, fun a ha b hb e => ?_⟩
      rw [List.mem_singleton.mp hb] at e
      subst e
      exact h (List.any_eq_true.mpr ⟨_, ha, by simp⟩)
theorem nodup_le {α : Type} [DecidableEq α] : ∀ {l m : List α}, l.Nodup → (∀ x ∈ l, x ∈ m) → l.length ≤ m.length
  | [], m, _, _ => Nat.zero_le _
  | a :: l, m, u, h => by
    rw [List.nodup_cons] at u
    have ha : a ∈ m := h a List.mem_cons_self
    have := nodup_le (l := l) (m := m.erase a) u.2 fun x hx => by
      rw [List.mem_erase_of_ne (by rintro rfl; exact u.1 hx)]
      exact h x (List.mem_cons_of_mem _ hx)
    rw [List.length_erase_of_mem ha] at this
    have : 0 < m.length := List.length_pos_of_mem ha
    rw [List.length_cons]
    omega
theorem nodup_same {α : Type} [DecidableEq α] {l m : List α} (u : l.Nodup) (v : m.Nodup) (h : ∀ x, x ∈ l ↔ x ∈ m) : l.length = m.length :=
  Nat.le_antisymm (nodup_le u fun x => (h x).mp) (nodup_le v fun x => (h x).mpr)
end
/-- the places that have their own mark -/
def fixes (r p : List Nat) : List Nat := p.filter fun c => decide (r.getD (p.idxOf c) 0 = c)
theorem fix_count : ∀ (r p : List Nat), r.length = p.length → ((List.zip r p).filter fun q => decide (q.1 = q.2)).length + nonFix r p = p.length
  | [], [], _ => rfl
  | a :: r, b :: p, h => by
    have ih := fix_count r p (by simpa using h)
    rw [nonFix_cons, List.zip_cons_cons, List.length_cons]
    by_cases e : a = b
    · rw [List.filter_cons_of_pos (by simp [e]), List.length_cons, if_neg (by simp [e])]
      omega
    · rw [List.filter_cons_of_neg (by simp [e]), if_pos e]
      omega
theorem fixes_len {r p : List Nat} (u : p.Pairwise (· ≠ ·)) (h : r.length = p.length) : (fixes r p).length = ((List.zip r p).filter fun q => decide (q.1 = q.2)).length := by
  have e : ((List.zip r p).filter fun q => decide (q.1 = q.2)).map (·.2) = fixes r p := by
    have e2 : p = (List.zip r p).map (·.2) := by
      rw [List.map_snd_zip (by omega)]
    unfold fixes
    conv => rhs; rw [show List.filter (fun c => decide (r.getD (p.idxOf c) 0 = c)) p = List.filter (fun c => decide (r.getD (p.idxOf c) 0 = c)) ((List.zip r p).map (·.2)) from by rw [← e2]]
    rw [List.filter_map]
    congr 1
    refine List.filter_congr fun q hq => ?_
    obtain ⟨i, hi, e⟩ := List.getElem_of_mem hq
    rw [List.getElem_zip] at e
    subst e
    rw [List.length_zip] at hi
    show decide (r[i] = p[i]) = decide (r.getD (p.idxOf p[i]) 0 = p[i])
    rw [idx_get u (by omega), List.getD_eq_getElem?_getD, List.getElem?_eq_getElem (by omega)]
    rfl
  rw [← e, List.length_map]
/-- unlike marks are as many as places with their own mark -/
theorem dist_marks {κ : Type} [DecidableEq κ] {p r : List Nat} (u : p.Pairwise (· ≠ ·)) (h : Roots p r) (f : Nat → κ) (inj : ∀ a b, f a = f b → a = b) (val : Nat → κ) (hv : ∀ i, i < p.length → val i = f (r.getD i 0)) :
    (metK val p.length).length + nonFix r p = p.length := by
  have e1 := fix_count r p h.len
  rw [← fixes_len u h.len] at e1
  suffices e2 : (metK val p.length).length = (fixes r p).length by omega
  rw [← List.length_map (as := fixes r p) f]
  have un : p.Nodup := u
  refine nodup_same (met_nodup _ _) ?_ fun k => ?_
  · unfold fixes
    exact (List.pairwise_map.mpr ((un.filter _).imp fun h e => h (inj _ _ e)))
  · rw [met_mem, List.mem_map]
    constructor
    · rintro ⟨i, hi, rfl⟩
      rw [hv i hi]
      have hm : r.getD i 0 ∈ r := getD_in (by rw [h.len]; exact hi)
      obtain ⟨k1, k2⟩ := h.own _ hm
      exact ⟨_, List.mem_filter.mpr ⟨k1, decide_eq_true k2⟩, rfl⟩
    · rintro ⟨c, hc, rfl⟩
      obtain ⟨k1, k2⟩ := List.mem_filter.mp hc
      have k2 := of_decide_eq_true k2
      exact ⟨p.idxOf c, List.idxOf_lt_length_of_mem k1, by rw [hv _ (List.idxOf_lt_length_of_mem k1), k2]⟩
/-! ### all lots, and the woods among them -/
def lotsL : Nat → List (List Nat)
  | 0 => [[]]
  | n + 1 => lotsL n ++ (lotsL n).map (· ++ [n])
theorem lots_in : ∀ (n : Nat), ∀ u ∈ lotsL n, (∀ i ∈ u, i < n) ∧ u.length ≤ n ∧ u.Pairwise (· < ·)
  | 0, u, h => by
    have : u = [] := by simpa [lotsL] using h
    subst this
    exact ⟨fun i hi => (by cases hi), Nat.le_refl _, .nil⟩
  | n + 1, u, h => by
    unfold lotsL at h
    rcases List.mem_append.mp h with h | h
    · obtain ⟨h1, h2, h3⟩ := lots_in n u h
      exact ⟨fun i hi => Nat.lt_succ_of_lt (h1 i hi), Nat.le_succ_of_le h2, h3⟩
    · obtain ⟨v, hv, e⟩ := List.mem_map.mp h
      have e : v ++ [n] = u := e
      subst e
      obtain ⟨h1, h2, h3⟩ := lots_in n v hv
      refine ⟨fun i hi => ?_, ?_, ?_⟩
      · rcases List.mem_append.mp hi with q | q
        · exact Nat.lt_succ_of_lt (h1 i q)
        · rw [List.mem_singleton.mp q]
          exact Nat.lt_succ_self _
      · rw [List.length_append]
        exact Nat.succ_le_succ h2
      · refine List.pairwise_append.mpr ⟨h3, by simp, fun a ha b hb => ?_⟩
        rw [List.mem_singleton.mp hb]
        exact h1 a ha
theorem lots_few : ∀ n, (lotsL n).length = 2 ^ n
  | 0 => rfl
  | n + 1 => by
    unfold lotsL
    rw [List.length_append, List.length_map, lots_few n, Nat.pow_succ]
    omega
/-- what goes on from woods alone tells all woods -/
theorem pruned (q : List Nat → Bool) (mono : ∀ u i, q (u ++ [i]) = true → q u = true) (q0 : q [] = true) : ∀ (n : Nat) (W : Nat → List (List Nat)), W 0 = [[]] → (∀ k, k < n → W (k + 1) = W k ++ ((W k).map (· ++ [k])).filter q) → W n = (lotsL n).filter q
  | 0, W, h0, _ => by
    rw [h0]
    show [[]] = [[]].filter q
    rw [List.filter_cons_of_pos q0]
    rfl
  | n + 1, W, h0, hs => by
    have ih := pruned q mono q0 n W h0 fun k hk => hs k (by omega)
    rw [hs n (by omega), ih]
    show _ = (lotsL n ++ (lotsL n).map (· ++ [n])).filter q
    rw [List.filter_append]
    congr 1
    rw [List.filter_map, List.filter_map, List.filter_filter]
    congr 1
    refine List.filter_congr fun u _ => ?_
    show (q (u ++ [n]) && q u) = q (u ++ [n])
    cases e : q (u ++ [n]) with
    | false => rfl
    | true => rw [mono u n e]; rfl
end K10

set_option Elab.async false
set_option linter.all false
set_option maxRecDepth 100000
namespace K10
open PySem PySem.Spec PyProof.Rows L2 DL
def sg (c : Nat) : Str := ⟨#[c]⟩
theorem sg_inj {a b : Nat} (h : sg a = sg b) : a = b := by
  have e : (sg a).cps.toList = (sg b).cps.toList := by rw [h]
  simpa [sg] using e
theorem lt_sg {a b : Nat} : ltCps (sg a).cps.toList (sg b).cps.toList = decide (a < b) := by
  rw [ltCps_eq]
  exact decide_eq_decide.mpr lt_one
theorem rising_sg : ∀ (ms : List Nat) (a : Nat), risingS (sg a) (ms.map sg) = true → (a :: ms).Pairwise (· ≤ ·)
  | [], a, _ => by simp
  | x :: ms, a, h => by
    have h : (!ltCps (sg x).cps.toList (sg a).cps.toList && risingS (sg x) (ms.map sg)) = true := h
    rw [Bool.and_eq_true, lt_sg] at h
    have ih := rising_sg ms x h.2
    have h1 : a ≤ x := by
      have := h.1
      simp at this
      exact this
    refine List.pairwise_cons.mpr ⟨fun y hy => ?_, ih⟩
    rcases List.mem_cons.mp hy with e | hy
    · rw [e]; exact h1
    · exact Nat.le_trans h1 ((List.pairwise_cons.mp ih).1 y hy)
theorem sorted_sg {ms : List Nat} (h : sortedS (ms.map sg) = true) : ms.Pairwise (· ≤ ·) := by
  cases ms with
  | nil => exact .nil
  | cons a ms => exact rising_sg ms a h
/-- what sorted leaves of signs -/
theorem sorted_signs {ys : List Str} {f : List Nat} (hp : ys.Perm (f.map sg)) (hs : sortedS ys = true) : ∃ ms : List Nat, ms.Perm f ∧ ms.Pairwise (· ≤ ·) ∧ ys = ms.map sg := by
  obtain ⟨ms, h1, rfl⟩ := perm_map hp
  exact ⟨ms, h1, sorted_sg hs, rfl⟩
theorem sorted_same {ms p : List Nat} (h : ms.Perm p) (hs : ms.Pairwise (· ≤ ·)) (hp : p.Pairwise (· < ·)) : ms = p :=
  h.eq_of_pairwise (fun _ _ _ _ a b => Nat.le_antisymm a b) hs (hp.imp fun h => Nat.le_of_lt h)
theorem join_sg (ms : List Nat) : Txt.join ("" : Str) (ms.map sg) = toS ms := by
  have e0 : ("" : Str) = ⟨#[]⟩ := by decide +kernel
  rw [e0]
  unfold Txt.join
  rw [StrLaws.glued_eq_join]
  have := join_nil_signs (toS ms)
  unfold PyProof.Rows.signs at this
  rw [toS_list] at this
  exact this
theorem sum_sg (ms : List Nat) (k : Nat) : ((ms.map sg).map (·.length)).sum + (ms.map sg).length * k = ms.length + ms.length * k := by
  have : (ms.map sg).map (·.length) = List.replicate ms.length 1 := by
    rw [List.map_map]
    exact List.map_const'
  rw [this, List.length_map]
  simp
section
variable {P : Program} {w : World} {K : PySem.W.Frag} {mg : Str → Option Value} {base : Heap} {A : Ad}
theorem ord_case {h : Int → Int → Bool} {k : List Nat → List Nat → Bool} {i j : Int} {F : Bool → Mu → Prop} {μ : Mu} (h1 : h i j = true → F true μ) (h2 : h i j = false → F false μ) : gOrd h k (.int i) (.int j) μ (bK F) := by
  show bK F (.bl (h i j)) μ
  exact bK_case h1 h2
theorem eq_case {k : Bool → Bool} {i j : Int} {F : Bool → Mu → Prop} {μ : Mu} (h1 : k (decide (i = j)) = true → F true μ) (h2 : k (decide (i = j)) = false → F false μ) : gEqK k (.int i) (.int j) μ (bK F) := by
  show bK F (.bl (k (decide (i = j)))) μ
  exact bK_case h1 h2
theorem eqs_case {k : Bool → Bool} {i j : Str} {F : Bool → Mu → Prop} {μ : Mu} (h1 : k (decide (i = j)) = true → F true μ) (h2 : k (decide (i = j)) = false → F false μ) : gEqK k (.str i) (.str j) μ (bK F) := by
  show bK F (.bl (k (decide (i = j)))) μ
  exact bK_case h1 h2
def g_are_places : GC := g_are_letters
def N13 : List Str := ["value"]
theorem sc13 : FnScope N13 ["value"] (defScope (top 13)) := ⟨rfl, rfl, rfl, by decide +kernel, rfl, by decide +kernel, by decide +kernel⟩
theorem ok_are_places (T : Tx K mg A) : FnOk P w K mg base CX0 2 A.are_places A.fd_are_places ["value"] (toSp K (g_are_places)) := by
  refine okD T.F_are_places sc13 (fun ds μ R h => ?_) ⟨_, fun cdv A0 outer s H E hr =>
    (dss_cons (ds_if (dw_or (dt_not (dt_val (de_call ((ok_are_letters T).mono (by decide)) hr (by rfl) T.g_are_letters T.F_are_letters.kp T.b_are_letters (da_cons (dv 0) da_nil)))) (dw_or1 (dt_not (dt_chain op_leA sim_ord op_leA sim_ord de_int (de_callB cr_len sim_len (by rfl) T.z_len boot_len (da_cons (dv 0) da_nil)) (de_globI (by rfl) T.c_MOST_PLACES.choose_spec))))).dt (dss_one (ds_ret de_bl)) dss_nil)
      (dss_one (ds_ret (de_cmp (op_eqA hr.units) sim_eq (dv 0) (de_bm PySem.F.plainAttrs_str PySem.F.slot_str_join PySem.F.type_str_join mt_join sim_join ok_str de_str (da_cons (de_callB (DL.cr_sortedT (by rfl)) sim_sortedT (by rfl) T.z_sorted boot_sorted (da_cons (dv 0) da_nil)) da_nil)) (nomark _))))), fun ds μ R h => ?_⟩
  · obtain ⟨p, rfl, _⟩ := h
    rfl
  · obtain ⟨p, rfl, ok, h⟩ := h
    have hz : (toS p).length = p.length := by
      show p.toArray.size = p.length
      rw [List.size_toArray]
    have few := ok.few
    refine ⟨p, rfl, ok, ?_⟩
    have e1 : decide ((1 : Int) ≤ ((toS p).length : Int)) = true := by
      rw [decide_eq_true_eq, hz]
      have := ok.one
      omega
    have e2 : decide (((toS p).length : Int) ≤ 7) = true := by
      rw [decide_eq_true_eq, hz]
      omega
    refine ⟨by rw [hz, sizeLine_eq]; omega, ?_⟩
    refine ord_case (fun e => ?_) (fun e => ?_)
    rotate_left
    · exact absurd (e1.symm.trans e) (by decide)
    rw [if_pos rfl]
    unfold gC
    refine ord_case (fun e => ?_) (fun e => ?_)
    rotate_left
    · exact absurd (e2.symm.trans e) (by decide)
    refine ⟨True.intro, ?_⟩
    refine ⟨by show p.toArray.size ≤ sizeLine; rw [List.size_toArray, sizeLine_eq]; omega, fun ys hp hs => ?_⟩
    rw [toS_list] at hp
    obtain ⟨ms, h1, h2, rfl⟩ := sorted_signs (f := p) hp hs
    have := sorted_same h1 h2 ok.asc
    subst this
    refine ⟨_, rfl, by rw [sum_sg]; have : ("" : Str).length = 0 := (by decide +kernel); rw [this]; omega, ?_⟩
    show R (.bl (id (decide (toS ms = Txt.join ("" : Str) (ms.map sg))))) μ
    rw [join_sg, decide_eq_true rfl]
    exact h

def g_check_places : GC := fun ds μ R => ∃ p : List Nat, ds = [.str (toS p)] ∧ OkPlaces p ∧ R .non μ
def N17 : List Str := ["places"]
theorem sc17 : FnScope N17 ["places"] (defScope (top 17)) := ⟨rfl, rfl, rfl, by decide +kernel, rfl, by decide +kernel, by decide +kernel⟩
theorem ok_check_places (T : Tx K mg A) : FnOk P w K mg base CX0 3 A.check_places A.fd_check_places ["places"] (toSp K (g_check_places)) := by
  refine okD T.F_check_places sc17 (fun ds μ R h => ?_) ⟨_, fun cdv A0 outer s H E hr =>
    (dss_one (ds_if (dt_not (dt_val (de_call ((ok_are_places T).mono (by decide)) hr (by rfl) T.g_are_places T.F_are_places.kp T.b_are_places (da_cons (dv 0) da_nil)))) (dss_one ds_never) dss_nil)), fun ds μ R h => ?_⟩
  · obtain ⟨p, rfl, _⟩ := h
    rfl
  · obtain ⟨p, rfl, ok, h⟩ := h
    refine ⟨p, rfl, ok, ?_⟩
    exact h
end
end K10

set_option Elab.async false
set_option linter.all false
set_option maxRecDepth 100000
namespace K10
open PySem PySem.Spec PyProof.Rows L2 DL
section
variable {P : Program} {w : World} {K : PySem.W.Frag} {mg : Str → Option Value} {base : Heap} {A : Ad}

def N21 : List Str := ["self", "places", "ties"]
theorem sc21 : FnScope N21 ["self", "places", "ties"] (defScope (inClass (top 21) 0)) := ⟨rfl, rfl, rfl, by decide +kernel, rfl, by decide +kernel, by decide +kernel⟩
theorem put_ties {x y : D} : dPut "ties" y [(("places" : Str), x)] = [(("places" : Str), x), (("ties" : Str), y)] := by
  have h : ¬ (("places" : Str) = "ties") := by decide +kernel
  show (if ("places" : Str) = "ties" then [(("places" : Str), y)] else (("places" : Str), x) :: dPut "ties" y []) = _
  rw [if_neg h]
  rfl
def g_init (C : Addr) : GC := fun ds μ R => ∃ (a : Addr) (p : List Nat) (ts : List Str), ds = [.adr a, .str (toS p), .tup (ts.map D.str)] ∧ OkPlaces p ∧ OkTies p ts ∧ μ a = some (.ins C []) ∧ R .non (put μ a (.ins C [("places", .str (toS p)), ("ties", .tup (ts.map D.str))]))
theorem ok_Web_init (T : Tx K mg A) : FnOk P w K mg base CX0 4 A.Web_init A.fd_Web_init ["self", "places", "ties"] (toSp K (g_init A.Web)) := by
  refine okD T.F_Web_init sc21 (fun ds μ R h => ?_) ⟨_, fun cdv A0 outer s H E hr =>
    (dss_cons (ds_expr (de_call ((ok_check_places T).mono (by decide)) hr (by rfl) T.g_check_places T.F_check_places.kp T.b_check_places (da_cons (dv 1) da_nil)))
      (dss_cons (ds_expr (de_call ((ok_check_ties T).mono (by decide)) hr (by rfl) T.g_check_ties T.F_check_ties.kp T.b_check_ties (da_cons (dv 1) (da_cons (dv 2) da_nil))))
      (dss_cons (ds_fld T.k_Web T.n_places (dv 0) (dv 1))
      (dss_one (ds_fld T.k_Web T.n_ties (dv 0) (dv 2)))))), fun ds μ R h => ?_⟩
  · obtain ⟨a, p, ts, rfl, _⟩ := h
    rfl
  · obtain ⟨a, p, ts, rfl, op, ot, ha, h⟩ := h
    refine ⟨p, rfl, op, ?_⟩
    refine ⟨p, ts, rfl, ot, ?_⟩
    refine ⟨_, ha, by show 0 < 1000; decide, ?_⟩
    refine ⟨_, put_same, by show 1 < 1000; decide, ?_⟩
    show R .non (put (put μ a _) a (.ins A.Web (dPut "ties" (.tup (ts.map D.str)) [(("places" : Str), .str (toS p))])))
    rw [put_put, put_ties]
    exact h
theorem set_cell {μ : Mu} {a : Addr} {ds ds' : List D} {d : D} {R : Mu → Prop} (k : Nat) (ha : μ a = some (.lst ds)) (hk : k < ds.length) (e : ds.set k d = ds') (r : R (put μ a (.lst ds'))) : setK (.adr a) (.int (k : Nat)) d μ R := by
  subst e
  refine ⟨ds, k, ha, ?_, r⟩
  unfold ixN
  rw [if_pos (by omega), if_pos (by omega)]
  simp
theorem nz1 : (2147483629 : Int) ≠ 0 := by decide
theorem nz2 : (2147480009 : Int) ≠ 0 := by decide
theorem if_case {c : Bool} {X Y : Prop} (h1 : c = true → X) (h2 : c = false → Y) : if c = true then X else Y := by
  cases c with
  | true => exact h1 rfl
  | false => exact h2 rfl
def pot (x y z : Int) : MO := .lst [.int x, .int y, .int z]
def g_L_pot : GC := fun ds μ R => ∃ (ns : List Int) (k : Nat), ds = [.seq (ns.map D.int), .int (k : Nat)] ∧ ∀ (x y z : Int) (a : Addr), μ a = none → R (.adr a) (put μ a (pot x y z))
theorem ints_at {ns : List Int} {k : Nat} (h : k < ns.length) : ∃ n, (ns.map D.int)[k]? = some (.int n) := ⟨ns[k], by rw [List.getElem?_map, List.getElem?_eq_getElem h]; rfl⟩
theorem cut_ints {ns : List Int} {lo hi : Option Int} {i : Nat} {x : D} (h : (DL.cutD (ns.map D.int) lo hi)[i]? = some x) : ∃ n, x = .int n := by
  have hm := List.mem_of_getElem? h
  unfold DL.cutD at hm
  have hm := List.mem_of_mem_drop (List.mem_of_mem_take hm)
  obtain ⟨n, _, e⟩ := List.mem_map.mp hm
  exact ⟨n, e.symm⟩

def g_L_dip : GC := fun ds μ R => ∃ (a : Addr) (x y z m : Int), ds = [.adr a, .int m] ∧ μ a = some (pot x y z) ∧ 0 < m ∧ m < 9223372036854775808 ∧ ∀ (d : Nat) (x y z : Int), (d : Int) < m → R (.int (d : Nat)) (put μ a (pot x y z))
theorem ix_cell {μ : Mu} {a : Addr} {ds : List D} {d : D} {R : KD} (j : Nat) (ha : μ a = some (.lst ds)) (h : ds[j]? = some d) (r : R d μ) : gIx (.adr a) (.int (j : Nat)) μ R := by
  unfold gIx
  simp only [ha]
  exact atK_nat h r
theorem ix_str {μ : Mu} {p : List Nat} {c : Nat} {R : KD} {j : Nat} (hl : p.length ≤ 1000) (h : p[j]? = some c) (r : R (.str (sg c)) μ) : gIx (.str (toS p)) (.int (j : Nat)) μ R := by
  refine ⟨by show p.toArray.size ≤ sizeLine; rw [List.size_toArray, sizeLine_eq]; omega, ?_⟩
  rw [toS_list, atI_nat h]
  exact r

def g_L_any : GC := fun ds μ R => ∃ (a : Addr) (x y z : Int) (p : List Nat), ds = [.adr a, .str (toS p)] ∧ μ a = some (pot x y z) ∧ 1 ≤ p.length ∧ p.length ≤ 8 ∧ ∀ (c : Nat) (x y z : Int), c ∈ p → R (.str (sg c)) (put μ a (pot x y z))
theorem toS_len (p : List Nat) : (toS p).length = p.length := by
  show p.toArray.size = p.length
  rw [List.size_toArray]

def g_L_lot : GC := fun ds μ R => ∃ (a : Addr) (x y z : Int) (n : Nat), ds = [.adr a, .int (n : Nat)] ∧ μ a = some (pot x y z) ∧ n ≤ 64 ∧ ∀ (lot : List Nat) (x y z : Int), AscLot lot n → R (dLot lot) (put μ a (pot x y z))
theorem asc_len {lot : List Nat} {n : Nat} (h : AscLot lot n) : lot.length ≤ n := by
  have u : lot.Nodup := h.asc.imp fun h => Nat.ne_of_lt h
  have := nodup_le (m := List.range n) u fun x hx => List.mem_range.mpr (h.few x hx)
  rw [List.length_range] at this
  exact this
end
end K10

set_option Elab.async false
set_option linter.all false
set_option maxRecDepth 100000
namespace K10
open PySem PySem.Spec PyProof.Rows L2 DL
section
variable {P : Program} {w : World} {K : PySem.W.Frag} {mg : Str → Option Value} {base : Heap} {A : Ad}

def g_L_lots : GC := fun ds μ R => ∃ n : Nat, ds = [.int (n : Nat)] ∧ n ≤ 11 ∧ ∀ out : List (List Nat), out.Perm (lotsL n) → out.Pairwise (fun a b => ltN b a = false) → R (.lst (out.map dLot)) μ
theorem lots_head : ∀ n, (lotsL n).head? = some []
  | 0 => rfl
  | n + 1 => by
    unfold lotsL
    rw [List.head?_append, lots_head n]
    rfl

def g_L_with : GC := fun ds μ R => ∃ (out : List (List Nat)) (ins outs : List Nat), ds = [.lst (out.map dLot), dLot ins, dLot outs] ∧ ins.length ≤ 64 ∧ outs.length ≤ 64 ∧ R (.int (countWith out ins outs : Nat)) μ
end
end K10

set_option Elab.async false
set_option linter.all false
set_option maxRecDepth 100000
namespace K10
open PySem PySem.Spec PyProof.Rows L2 DL
section
variable {P : Program} {w : World} {K : PySem.W.Frag} {mg : Str → Option Value} {base : Heap} {A : Ad}

/-! the heads of places as a dict -/
def dH (p : List Nat) (g : Nat → Nat) : List (Key × D) := p.map fun c => (Sum.inr (sg c), D.str (sg (g c)))
theorem dH_look {p : List Nat} {g : Nat → Nat} {c : Nat} (h : c ∈ p) : valD (dH p g) (Sum.inr (sg c)) = some (.str (sg (g c))) := by
  induction p with
  | nil => cases h
  | cons a p ih =>
    by_cases e : a = c
    · subst e
      simp [valD, dH]
    · have hm : c ∈ p := (List.mem_cons.mp h).resolve_left fun z => e z.symm
      have ne : ¬ ((Sum.inr (sg a) : Key) = Sum.inr (sg c)) := fun z => e (sg_inj (Sum.inr.inj z))
      have := ih hm
      unfold valD dH at this ⊢
      rw [List.map_cons, List.find?_cons_of_neg (by simpa using ne)]
      exact this
theorem dH_congr {p : List Nat} {g h : Nat → Nat} (e : ∀ x ∈ p, g x = h x) : dH p g = dH p h := List.map_congr_left fun x hx => by rw [e x hx]
theorem dH_put {p : List Nat} {g : Nat → Nat} {c v : Nat} (h : c ∈ p) : putD (dH p g) (Sum.inr (sg c)) (.str (sg v)) = dH p fun x => if x = c then v else g x := by
  unfold putD
  rw [if_pos]
  · unfold dH
    rw [List.map_map]
    refine List.map_congr_left fun x _ => ?_
    show (if (Sum.inr (sg x) : Key) = Sum.inr (sg c) then _ else _) = _
    by_cases e : x = c
    · subst e
      rw [if_pos rfl]
      show _ = ((Sum.inr (sg x) : Key), D.str (sg (if x = x then v else g x)))
      rw [if_pos rfl]
    · rw [if_neg fun z => e (sg_inj (Sum.inr.inj z))]
      show _ = ((Sum.inr (sg x) : Key), D.str (sg (if x = c then v else g x)))
      rw [if_neg e]
  · rw [List.any_eq_true]
    exact ⟨_, List.mem_map.mpr ⟨c, h, rfl⟩, by simp⟩
theorem merge_new : ∀ (more acc : List (Key × D)), more.Pairwise (fun x y => x.1 ≠ y.1) → (∀ x ∈ acc, ∀ y ∈ more, x.1 ≠ y.1) → mergeD acc more = acc ++ more
  | [], acc, _, _ => by simp [mergeD]
  | m :: more, acc, u, h => by
    rw [List.pairwise_cons] at u
    have hn : ¬ (acc.any fun kv => decide (kv.1 = m.1)) = true := by
      intro z
      obtain ⟨x, hx, e⟩ := List.any_eq_true.mp z
      exact h x hx m List.mem_cons_self (of_decide_eq_true e)
    have e : putD acc m.1 m.2 = acc ++ [m] := by
      unfold putD
      rw [if_neg hn]
    show mergeD (putD acc m.1 m.2) more = _
    rw [e, merge_new more (acc ++ [m]) u.2, List.append_assoc]
    · rfl
    · intro x hx y hy
      rcases List.mem_append.mp hx with q | q
      · exact h x q y (List.mem_cons_of_mem _ hy)
      · rw [List.mem_singleton.mp q]
        exact u.1 y hy
theorem dH_merge {p : List Nat} {g : Nat → Nat} (u : p.Pairwise (· ≠ ·)) : mergeD [] (dH p g) = dH p g := by
  rw [merge_new _ _ ?_ (fun x hx => by cases hx)]
  · rfl
  · exact List.pairwise_map.mpr (u.imp fun h e => h (sg_inj (Sum.inr.inj e)))
theorem map_getD {p : List Nat} {g : Nat → Nat} {c : Nat} (h : c ∈ p) : (p.map g).getD (p.idxOf c) 0 = g c := by
  have hl := List.idxOf_lt_length_of_mem h
  rw [getD_map_ne hl, List.getD_eq_getElem?_getD, List.getElem?_eq_getElem hl]
  show g p[p.idxOf c] = g c
  rw [List.getElem_idxOf hl]
theorem min_sg (a b : Nat) : (if (sg b).cps.toList < (sg a).cps.toList then sg b else sg a) = sg (min a b) := by
  have c : (sg b).cps.toList < (sg a).cps.toList ↔ b < a := lt_one
  by_cases h : b < a
  · rw [if_pos (c.mpr h), Nat.min_eq_right (by omega)]
  · rw [if_neg (fun z => h (c.mp z)), Nat.min_eq_left (by omega)]
theorem max_sg (a b : Nat) : (if (sg a).cps.toList < (sg b).cps.toList then sg b else sg a) = sg (max a b) := by
  have c : (sg a).cps.toList < (sg b).cps.toList ↔ a < b := lt_one
  by_cases h : a < b
  · rw [if_pos (c.mpr h), Nat.max_eq_right (by omega)]
  · rw [if_neg (fun z => h (c.mp z)), Nat.max_eq_left (by omega)]
theorem ix_sign {μ : Mu} {y : Str} {c : Nat} {R : KD} (j : Nat) (hl : y.cps.size ≤ 1000) (h : y.cps[j]? = some c) (r : R (.str (sg c)) μ) : gIx (.str y) (.int (j : Nat)) μ R := by
  refine ⟨by show y.cps.size ≤ sizeLine; rw [sizeLine_eq]; omega, ?_⟩
  rw [← Array.getElem?_toList] at h
  rw [atI_nat h]
  exact r
theorem signs_eq (p : List Nat) : DL.signs (toS p) = p.map fun c => D.str (sg c) := by
  unfold DL.signs
  rw [toS_list]
  rfl
def swp (a b v : Nat) : Nat := if v = max a b then min a b else v
def twoD : D → D := fun d => .tup [d, d]
def hF (g : Nat → Nat) : D → D
  | .str x => .str (sg (g (x.cps.toList.getD 0 0)))
  | d => d
structure OkEnds (p : List Nat) (ts : List Str) : Prop where
  ties : ∀ y ∈ ts, y.cps.size = 2 ∧ (ends y).1 ∈ p ∧ (ends y).2 ∈ p
def g_L_rank : GC := fun ds μ R => ∃ (p : List Nat) (ts : List Str) (x : D), ds = [.str (toS p), x] ∧ (x = .tup (ts.map D.str) ∨ x = .lst (ts.map D.str)) ∧ OkPlaces p ∧ OkEnds p ts ∧ R (.int (nonFix (marksL p (ts.map ends)) p : Nat)) μ
end
end K10

set_option Elab.async false
set_option linter.all false
set_option maxRecDepth 100000
namespace K10
open PySem PySem.Spec PyProof.Rows L2 DL
/-! ### both sides' trees are the same -/
theorem ofNat_inj : ∀ {a b : List Nat}, a.map Int.ofNat = b.map Int.ofNat → a = b
  | [], [], _ => rfl
  | [], _ :: _, h => by simp at h
  | _ :: _, [], h => by simp at h
  | x :: a, y :: b, h => by
    rw [List.map_cons, List.map_cons] at h
    injection h with h1 h2
    rw [Int.ofNat.inj h1, ofNat_inj h2]
theorem ltN_anti (a b : List Nat) (h : ltN a b = false) (h2 : ltN b a = false) : a = b := ofNat_inj (ltI_anti _ _ h h2)
theorem sorted_one {l m : List (List Nat)} (p : l.Perm m) (hl : l.Pairwise (fun a b => ltN b a = false)) (hm : m.Pairwise (fun a b => ltN b a = false)) : l = m :=
  p.eq_of_pairwise (fun a b _ _ h1 h2 => (ltN_anti _ _ h2 h1)) hl hm
theorem rank_le {p : List Nat} (u : p.Pairwise (· ≠ ·)) (ts : List Str) (lot : List Nat) : rankOf p ts lot ≤ lot.length := by
  have := nonFix_le u (tiesOf ts lot)
  have e : (tiesOf ts lot).length = lot.length := List.length_map _
  rw [e] at this
  exact this
theorem rank_snoc {p : List Nat} (u : p.Pairwise (· ≠ ·)) (ts : List Str) (lot : List Nat) (i : Nat) : rankOf p ts (lot ++ [i]) ≤ rankOf p ts lot + 1 := by
  have := nonFix_snoc u (tiesOf ts lot) (ends (ts.getD i Str.empty))
  have e : tiesOf ts (lot ++ [i]) = tiesOf ts lot ++ [ends (ts.getD i Str.empty)] := by
    unfold tiesOf
    rw [List.map_append]
    rfl
  show nonFix (marksL p (tiesOf ts (lot ++ [i]))) p ≤ _
  rw [e]
  exact this
theorem woods_all {p : List Nat} (u : p.Pairwise (· ≠ ·)) (ts : List Str) (n : Nat) : woodsL p ts n = (lotsL n).filter fun u => decide ((u.length : Int) - (rankOf p ts u : Nat) = 0) := by
  refine pruned (fun u => decide ((u.length : Int) - (rankOf p ts u : Nat) = 0)) (fun v i h => ?_) ?_ n (woodsL p ts) rfl fun k _ => woods_succ p ts k
  · have h := of_decide_eq_true h
    have h1 := rank_snoc u ts v i
    have h2 := rank_le u ts v
    rw [List.length_append, List.length_singleton] at h
    exact decide_eq_true (by omega)
  · have h2 := rank_le u ts []
    exact decide_eq_true (by simp at h2 ⊢; omega)
/-- the law's list -/
def lawTrees (p : List Nat) (ts : List Str) (S : List (List Nat)) : List (List Nat) := S.filter fun u => decide (u.length = rankOf p ts (List.range ts.length)) && decide (rankOf p ts u = rankOf p ts (List.range ts.length))
theorem trees_same {p : List Nat} (u : p.Pairwise (· ≠ ·)) {ts : List Str} {S out : List (List Nat)} (h : IsTrees p ts out) (hp : S.Perm (lotsL ts.length)) (hs : S.Pairwise (fun a b => ltN b a = false)) : lawTrees p ts S = out := by
  refine sorted_one ?_ (hs.filter _) h.2
  refine .trans (hp.filter _) (.trans ?_ h.1.symm)
  rw [woods_all u, List.filter_filter]
  refine List.Perm.of_eq (List.filter_congr fun v _ => ?_)
  have h2 := rank_le u ts v
  generalize rankOf p ts (List.range ts.length) = k
  rw [← Bool.decide_and, ← Bool.decide_and]
  refine decide_eq_decide.mpr ?_
  omega
/-! counts of trees with a tie -/
end K10
namespace K10
open PySem PySem.Spec PyProof.Rows L2 DL
section
variable {P : Program} {w : World} {K : PySem.W.Frag} {mg : Str → Option Value} {base : Heap} {A : Ad}

def g_L_trees : GC := fun ds μ R => ∃ (p : List Nat) (ts : List Str), ds = [.str (toS p), .tup (ts.map D.str)] ∧ OkPlaces p ∧ OkEnds p ts ∧ ts.length ≤ 11 ∧
  ∀ S : List (List Nat), S.Perm (lotsL ts.length) → S.Pairwise (fun a b => ltN b a = false) → R (.lst ((lawTrees p ts S).map dLot)) μ
theorem cell_ok {μ : Mu} {a : Addr} {ds : List D} (h : μ a = some (.lst ds)) : okCell (.adr a) μ := by
  unfold okCell
  simp only [h]
def tieAt (ts : List Str) : D → D
  | .int k => .str (ts.getD k.toNat Str.empty)
  | d => d
theorem law_take {p : List Nat} {ts : List Str} {S : List (List Nat)} {i : Nat} {u : List Nat} (h : S[i]? = some u) (k : Nat) (hk : rankOf p ts (List.range ts.length) = k) :
    lawTrees p ts (S.take (i + 1)) = lawTrees p ts (S.take i) ++ if (decide (u.length = k) && decide (rankOf p ts u = k)) = true then [u] else [] := by
  unfold lawTrees
  rw [hk, take_succ_get h, List.filter_append]
  congr 1
  rw [List.filter_cons]
  split <;> rfl
end
end K10

set_option Elab.async false
set_option linter.all false
set_option maxRecDepth 100000
namespace K10
open PySem PySem.Spec PyProof.Rows L2 DL
section
variable {P : Program} {w : World} {K : PySem.W.Frag} {mg : Str → Option Value} {base : Heap} {A : Ad}

/-- the pot at a, all else that was there as it was -/
structure Sa (μ μ1 : Mu) (a : Addr) : Prop where
  keep : ∀ c o, c ≠ a → μ c = some o → μ1 c = some o
  has : ∃ x y z, μ1 a = some (pot x y z)
/-- a new cell at b -/
structure Sc (μ μ1 : Mu) (a b : Addr) (l : List D) : Prop where
  at_ : μ1 b = some (.lst l)
  new : μ b = none
  ne : b ≠ a
section
variable {μ μ1 : Mu} {a b c : Addr} {l m : List D}
theorem Sa.draw (s : Sa μ μ1 a) (x y z : Int) : Sa μ (put μ1 a (pot x y z)) a :=
  ⟨fun c o hc e => by rw [put_ne hc]; exact s.keep c o hc e, ⟨x, y, z, put_same⟩⟩
theorem Sc.draw (s : Sc μ μ1 a b l) (x y z : Int) : Sc μ (put μ1 a (pot x y z)) a b l :=
  ⟨by rw [put_ne s.ne]; exact s.at_, s.new, s.ne⟩
theorem Sa.cell (s : Sa μ μ1 a) (n : μ b = none) (ne : b ≠ a) (o : MO) : Sa μ (put μ1 b o) a := by
  obtain ⟨x, y, z, e⟩ := s.has
  refine ⟨fun c o' hc e' => ?_, ⟨x, y, z, by rw [put_ne ne.symm]; exact e⟩⟩
  rw [put_ne (fun q => by rw [q, n] at e'; cases e')]
  exact s.keep c o' hc e'
theorem Sa.new (s : Sa μ μ1 a) (n : μ1 b = none) : μ b = none ∧ b ≠ a := by
  obtain ⟨x, y, z, e⟩ := s.has
  have ne : b ≠ a := fun q => by rw [q, e] at n; cases n
  refine ⟨?_, ne⟩
  cases h : μ b with
  | none => rfl
  | some o =>
    rw [s.keep b o ne h] at n
    cases n
theorem Sc.same (s : Sc μ μ1 a b l) : Sc μ (put μ1 b (.lst m)) a b m := ⟨put_same, s.new, s.ne⟩
theorem Sc.other (s : Sc μ μ1 a b l) {o : MO} (h : b ≠ c) : Sc μ (put μ1 c o) a b l := ⟨by rw [put_ne h]; exact s.at_, s.new, s.ne⟩
theorem Sc.apart {l' : List D} (s : Sc μ μ1 a b l) (n : μ1 c = none) : b ≠ c := fun q => by
  have := s.at_
  rw [q, n] at this
  cases this
theorem Sa.back (s : Sa μ μ1 a) {d : D} {R : KD} (h : ∀ x y z : Int, R d (put μ a (pot x y z))) : freed R d μ1 := by
  obtain ⟨x, y, z, e⟩ := s.has
  refine ⟨d, _, .less fun c o hc => ?_, h x y z⟩
  by_cases q : c = a
  · rw [q, put_same] at hc
    rw [q, e]
    exact hc
  · rw [put_ne q] at hc
    exact s.keep c o q hc
end
def gLenC : G1 := fun x μ R => ∃ a ds, x = .adr a ∧ μ a = some (.lst ds) ∧ R (.int (ds.length : Nat)) μ
theorem sim_lenC {K : PySem.W.Frag} : SimC K (rLenA K) (g1 gLenC) := fun vs ds H μ Q R rm rl q f => by
  match ds, q with
  | [d], q =>
    obtain ⟨a, ds, rfl, e, q⟩ := q
    refine sim_len vs _ H μ Q R rm rl ?_ f
    show gLen1 (.adr a) μ R
    unfold gLen1
    simp only [e]
    exact q
def gTupC : G1 := fun x μ R => ∃ a ds, x = .adr a ∧ μ a = some (.lst ds) ∧ R (.tup ds) μ
theorem sim_tupC {K : PySem.W.Frag} : SimC K (fun xs H Q => ∃ p ys, xs = [.ref p] ∧ ((SqL K H p ys ∧ ∀ l, H l = none → Q (.ref l) (upd H l (.tup ys))) ∨ (SqT K H p ys ∧ Q (.ref p) H))) (g1 gTupC) := fun vs ds H μ Q R rm rl q f => by
  match ds, q with
  | [d], q =>
    obtain ⟨a, ds, rfl, e, q⟩ := q
    refine sim_tuple vs _ H μ Q R rm rl ?_ f
    show gTuple1 (.adr a) μ R
    unfold gTuple1
    simp only [e]
    exact q
def gSrtC : G1 := fun x μ R => ∃ a ss, x = .adr a ∧ μ a = some (.lst (List.map D.str ss)) ∧ ss.length < 64 ∧ ∀ ys : List Str, ys.Perm ss → sortedS ys = true → R (.lst (List.map D.str ys)) μ
theorem sim_srtC {K : PySem.W.Frag} : SimC K (rSortedS K) (g1 gSrtC) := fun vs ds H μ Q R rm rl q f => by
  match ds, q with
  | [d], q =>
    obtain ⟨a, ss, rfl, e, q⟩ := q
    refine sim_sortedS vs _ H μ Q R rm rl ?_ f
    show gSortedS1 (.adr a) μ R
    unfold gSortedS1
    simp only [e]
    exact ⟨ss, rfl, q⟩
theorem erase_map {α β : Type} (f : α → β) : ∀ (l : List α) (i : Nat), (l.map f).eraseIdx i = (l.eraseIdx i).map f
  | [], _ => rfl
  | _ :: _, 0 => rfl
  | a :: l, i + 1 => by
    show f a :: (l.map f).eraseIdx i = f a :: (l.eraseIdx i).map f
    rw [erase_map f l i]
theorem erase_perm {α : Type} : ∀ (l : List α) (i : Nat) (h : i < l.length), (l[i] :: l.eraseIdx i).Perm l
  | a :: l, 0, _ => .refl _
  | a :: l, i + 1, h => by
    have := erase_perm l i (by simpa using h)
    exact (List.Perm.swap _ _ _).trans (this.cons a)
def chs (l : List Nat) : List D := l.map fun c => .str (sg c)
def eight : List Nat := [97, 98, 99, 100, 101, 102, 103, 104]
theorem eight_signs : DL.signs ("abcdefgh" : Str) = chs eight := by
  unfold DL.signs
  have e : ("abcdefgh" : Str).cps.toList = eight := by decide +kernel
  rw [e]
  rfl
def yTie (a b : Nat) : Str := ⟨#[a, b]⟩
theorem sg_add (a b : Nat) : sg a ++ sg b = yTie a b := rfl
structure OkT (p : List Nat) (ts : List Str) : Prop where
  ties : ∀ y ∈ ts, ∃ a b, y = yTie a b ∧ a ∈ p ∧ b ∈ p ∧ a ≤ b
theorem OkT.ok {p : List Nat} {ts : List Str} (h : OkT p ts) (l : ts.length ≤ 11) : OkTies p ts := ⟨l, h.ties⟩
theorem OkT.ends {p : List Nat} {ts : List Str} (h : OkT p ts) : OkEnds p ts := ⟨fun y hy => by
  obtain ⟨a, b, rfl, ha, hb, _⟩ := h.ties y hy
  exact ⟨rfl, ha, hb⟩⟩
theorem OkT.put {p : List Nat} {ts : List Str} (h : OkT p ts) {a b : Nat} (ha : a ∈ p) (hb : b ∈ p) (k : Nat) : OkT p (ts.take k ++ [yTie (min a b) (max a b)] ++ ts.drop k) := ⟨fun y hy => by
  rcases List.mem_append.mp hy with q | q
  · rcases List.mem_append.mp q with q | q
    · exact h.ties y (List.mem_of_mem_take q)
    · rw [List.mem_singleton.mp q]
      have h1 : min a b ∈ p := by
        by_cases e : a ≤ b
        · rw [Nat.min_eq_left e]; exact ha
        · rw [Nat.min_eq_right (by omega)]; exact hb
      have h2 : max a b ∈ p := by
        by_cases e : a ≤ b
        · rw [Nat.max_eq_right e]; exact hb
        · rw [Nat.max_eq_left (by omega)]; exact ha
      exact ⟨_, _, rfl, h1, h2, by omega⟩
  · exact h.ties y (List.mem_of_mem_drop q)⟩
def lowS (a b : Nat) : Str := if (sg b).cps.toList < (sg a).cps.toList then sg b else sg a
def highS (a b : Nat) : Str := if (sg a).cps.toList < (sg b).cps.toList then sg b else sg a
def rowT (p : List Nat) (n : Nat) : List Str := (List.range n).map fun k => yTie (p.getD k 0) (p.getD (k + 1) 0)
theorem rowT_ok {p : List Nat} (u : p.Pairwise (· < ·)) {n : Nat} (h : n + 1 ≤ p.length) : OkT p (rowT p n) := ⟨fun y hy => by
  obtain ⟨k, hk, rfl⟩ := List.mem_map.mp hy
  have hk := List.mem_range.mp hk
  refine ⟨_, _, rfl, getD_in (by omega), getD_in (by omega), ?_⟩
  rw [List.getD_eq_getElem?_getD, List.getD_eq_getElem?_getD, List.getElem?_eq_getElem (by omega), List.getElem?_eq_getElem (by omega)]
  exact Nat.le_of_lt (List.pairwise_iff_getElem.mp u k (k + 1) (by omega) (by omega) (by omega))⟩
theorem rowT_snoc (p : List Nat) (n : Nat) : rowT p (n + 1) = rowT p n ++ [yTie (p.getD n 0) (p.getD (n + 1) 0)] := by
  unfold rowT
  rw [List.range_succ, List.map_append]
  rfl
def g_L_parts : GC := fun ds μ R => ∃ (a : Addr) (x y z : Int), ds = [.adr a, .int 4, .int 6] ∧ μ a = some (pot x y z) ∧
  ∀ (p : List Nat) (ts : List Str) (x y z : Int), OkPlaces p → OkT p ts → ts.length ≤ 6 → p.length ≤ 4 → R (.tup [.str (toS p), .tup (ts.map D.str)]) (put μ a (pot x y z))
end
end K10

set_option Elab.async false
set_option linter.all false
set_option maxRecDepth 100000
namespace K10
open PySem PySem.Spec PyProof.Rows L2 DL
section
variable {P : Program} {w : World} {K : PySem.W.Frag} {mg : Str → Option Value} {base : Heap} {A : Ad}

/-! what repr is asked to show -/
structure Sh (d : PyData) (k w : Nat) : Prop where
  lay : PyData.canLay0 d = true
  shrt : PyData.intsShort 13 d = true
  show_ : PyData.showable d = true
  dp : PyData.depth d ≤ k
  wt : PyData.weight d ≤ w
theorem Sh.ok {d : PyData} {k w : Nat} (h : Sh d k w) (hk : k ≤ 20) (hw : w ≤ 2 ^ 20) : ShowOk d := by
  refine ⟨?_, h.shrt, h.show_, PyData.hasDict_of_canLay d h.lay, Nat.le_trans h.dp hk⟩
  unfold PyData.layable0
  rw [h.lay, decide_eq_true (show d.depth ≤ 64 by have := h.dp; omega), decide_eq_true (show d.weight ≤ 2 ^ 20 by have := h.wt; omega)]
  rfl
theorem Sh.many {k w : Nat} : ∀ {xs : List PyData}, (∀ x ∈ xs, Sh x k w) → PyData.canLayAll0 xs = true ∧ PyData.intsShortAll 13 xs = true ∧ PyData.showableAll xs = true ∧ PyData.depthAll xs ≤ k ∧ PyData.weightAll xs ≤ xs.length * (w + 1)
  | [], _ => by
    refine ⟨by unfold PyData.canLayAll0; rfl, by unfold PyData.intsShortAll; rfl, by unfold PyData.showableAll; rfl, by unfold PyData.depthAll; omega, by unfold PyData.weightAll; omega⟩
  | x :: xs, h => by
    have hx := h x List.mem_cons_self
    obtain ⟨h1, h2, h3, h4, h5⟩ := Sh.many (xs := xs) fun y hy => h y (List.mem_cons_of_mem _ hy)
    refine ⟨?_, ?_, ?_, ?_, ?_⟩
    · unfold PyData.canLayAll0
      rw [hx.lay, h1]
      rfl
    · unfold PyData.intsShortAll
      rw [hx.shrt, h2]
      rfl
    · unfold PyData.showableAll
      rw [hx.show_, h3]
      rfl
    · unfold PyData.depthAll
      have := hx.dp
      omega
    · unfold PyData.weightAll
      have := hx.wt
      rw [List.length_cons, Nat.succ_mul]
      omega
theorem Sh.tup {k w n : Nat} {xs : List PyData} (h : ∀ x ∈ xs, Sh x k w) (l : xs.length ≤ n) : Sh (.tuple xs) (k + 1) (n * (w + 1)) := by
  obtain ⟨h1, h2, h3, h4, h5⟩ := Sh.many h
  have := Nat.mul_le_mul_right (w + 1) l
  refine ⟨by unfold PyData.canLay0; exact h1, by unfold PyData.intsShort; exact h2, by unfold PyData.showable; exact h3, by unfold PyData.depth; omega, by unfold PyData.weight; omega⟩
theorem Sh.lst {k w n : Nat} {xs : List PyData} (h : ∀ x ∈ xs, Sh x k w) (l : xs.length ≤ n) : Sh (.list xs) (k + 1) (n * (w + 1)) := by
  obtain ⟨h1, h2, h3, h4, h5⟩ := Sh.many h
  have := Nat.mul_le_mul_right (w + 1) l
  refine ⟨by unfold PyData.canLay0; exact h1, by unfold PyData.intsShort; exact h2, by unfold PyData.showable; exact h3, by unfold PyData.depth; omega, by unfold PyData.weight; omega⟩
theorem Sh.mono {d : PyData} {k w k' w' : Nat} (h : Sh d k w) (hk : k ≤ k') (hw : w ≤ w') : Sh d k' w' := ⟨h.lay, h.shrt, h.show_, Nat.le_trans h.dp hk, Nat.le_trans h.wt hw⟩
theorem log_small {n : Nat} (h : n < 8192) : n.log2 < 13 := by
  by_cases e : n = 0
  · subst e
    decide
  · exact (Nat.log2_lt e).mpr h
theorem Sh.int {n : Nat} (h : n < 8192) : Sh (.int (n : Nat)) 0 13 := by
  have l := log_small h
  refine ⟨by unfold PyData.canLay0; rfl, ?_, ?_, by unfold PyData.depth; omega, ?_⟩
  · unfold PyData.intsShort
    rw [decide_eq_true_eq]
    exact PyData.shown_int_le (by show n < 10 ^ 12; omega)
  · unfold PyData.showable
    rw [decide_eq_true_eq]
    show n.log2 < 1920
    omega
  · unfold PyData.weight
    split
    · omega
    · show n.log2 + 1 ≤ 13
      omega
theorem Sh.str {x : Str} (h : ∀ c ∈ x.cps.toList, c < 0x110000) (l : x.cps.size ≤ 13) : Sh (.str x) 0 13 := by
  refine ⟨?_, by unfold PyData.intsShort; rfl, by unfold PyData.showable; rfl, by unfold PyData.depth; omega, by unfold PyData.weight; exact l⟩
  unfold PyData.canLay0 PyData.strOk
  rw [Array.all_eq_true]
  intro i hi
  have := h _ (Array.getElem_mem_toList hi)
  simpa using this
def pLot (u : List Nat) : PyData := .tuple (u.map fun k => .int (k : Nat))
def pTies (ts : List Str) : PyData := .tuple (ts.map .str)
theorem pyL_map {α : Type} {f : α → D} {g : α → PyData} : ∀ {l : List α}, (∀ x ∈ l, py (f x) = some (g x)) → pyL (l.map f) = some (l.map g)
  | [], _ => by
    rw [List.map_nil, List.map_nil]
    unfold pyL
    rfl
  | a :: l, h => by
    rw [List.map_cons, List.map_cons]
    unfold pyL
    rw [h a List.mem_cons_self, pyL_map fun x hx => h x (List.mem_cons_of_mem _ hx)]
theorem py_lot (u : List Nat) : py (dLot u) = some (pLot u) := by
  unfold dLot dI py
  rw [List.map_map, pyL_map (g := fun k : Nat => PyData.int (k : Nat)) fun x _ => by
    show py (.int (x : Nat)) = _
    unfold py
    rfl]
  rfl
theorem py_lots (L : List (List Nat)) : py (.tup (L.map dLot)) = some (.tuple (L.map pLot)) := by
  unfold py
  rw [pyL_map fun x _ => py_lot x]
  rfl
theorem py_ties (ts : List Str) : py (.tup (ts.map D.str)) = some (pTies ts) := by
  unfold py
  rw [pyL_map (g := PyData.str) fun x _ => by unfold py; rfl]
  rfl
theorem sh_lot {u : List Nat} {n : Nat} (h : ∀ k ∈ u, k < 8192) (l : u.length ≤ n) : Sh (pLot u) 1 (n * 14) := Sh.tup (fun x hx => by
  obtain ⟨k, hk, rfl⟩ := List.mem_map.mp hx
  exact Sh.int (h k hk)) (by rw [List.length_map]; exact l)
theorem sh_lots {L : List (List Nat)} (h : ∀ u ∈ L, (∀ k ∈ u, k < 11) ∧ u.length ≤ 11) (l : L.length ≤ 2048) : Sh (.tuple (L.map pLot)) 2 (2048 * 155) := Sh.tup (fun x hx => by
  obtain ⟨u, hu, rfl⟩ := List.mem_map.mp hx
  obtain ⟨h1, h2⟩ := h u hu
  exact sh_lot (n := 11) (fun k hk => by have := h1 k hk; omega) h2) (by rw [List.length_map]; exact l)
theorem sh_ties {p : List Nat} {ts : List Str} (h : OkT p ts) (hp : ∀ c ∈ p, c ≤ 104) (l : ts.length ≤ 11) : Sh (pTies ts) 1 (11 * 14) := Sh.tup (fun x hx => by
  obtain ⟨y, hy, rfl⟩ := List.mem_map.mp hx
  obtain ⟨a, b, rfl, ha, hb, _⟩ := h.ties y hy
  refine Sh.str (fun c hc => ?_) (by show 2 ≤ 13; omega)
  have hc : c ∈ [a, b] := hc
  have h1 := hp a ha
  have h2 := hp b hb
  rcases List.mem_cons.mp hc with e | hc
  · omega
  · rw [List.mem_singleton.mp hc]
    omega) (by rw [List.length_map]; exact l)
/-! the counts that the law compares -/
theorem count_parts (L : List (List Nat)) (k : Nat) : countWith L [k] [] + countWith L [] [k] = L.length := by
  induction L with
  | nil => rfl
  | cons t L ih =>
    unfold countWith at ih ⊢
    rw [List.filter_cons, List.filter_cons, List.length_cons]
    by_cases e : k ∈ t
    · rw [if_pos (by simp [e]), if_neg (by simp [e]), List.length_cons]
      omega
    · rw [if_neg (by simp [e]), if_pos (by simp [e]), List.length_cons]
      omega
theorem count_none2 (L : List (List Nat)) (k : Nat) : countWith L [k] [k] = 0 := by
  unfold countWith
  rw [List.length_eq_zero_iff, List.filter_eq_nil_iff]
  intro t _
  by_cases e : k ∈ t <;> simp [e]

theorem if_ne_str {x y : Str} {X Y : Prop} (e : x = y) (h : Y) : if (!decide (x = y)) = true then X else Y := by
  subst e
  simpa using h
theorem if_ne_int {x y : Int} {X Y : Prop} (e : x = y) (h : Y) : if (!decide (x = y)) = true then X else Y := by
  subst e
  simpa using h
theorem put_id {μ : Mu} {a : Addr} {o : MO} (h : μ a = some o) : put μ a o = μ := by
  funext b
  unfold put
  split
  · rename_i e
    rw [e, h]
  · rfl
theorem py_three {x y z : D} {a b c : PyData} (h1 : py x = some a) (h2 : py y = some b) (h3 : py z = some c) : py (.lst [x, y, z]) = some (.list [a, b, c]) := by
  unfold py
  simp only [pyL, h1, h2, h3]
  rfl
theorem log_nat {n : Nat} (h : n < 8192) : ((n : Nat) : Int).natAbs.log2 < 1920 := by
  have := log_small h
  show n.log2 < 1920
  omega
theorem OkT.web {p : List Nat} {ts : List Str} (h : OkT p ts) (hp : OkPlaces p) (l : ts.length ≤ 11) : OkWeb p ts := ⟨by have := hp.few; omega, l, h.ends.ties⟩
theorem Sh.intZ {i : Int} (h : i.natAbs < 1000000000000) : Sh (.int i) 0 64 := by
  have l : i.natAbs.log2 < 40 := by
    by_cases e : i.natAbs = 0
    · rw [e]
      decide
    · exact (Nat.log2_lt e).mpr (by omega)
  refine ⟨by unfold PyData.canLay0; rfl, ?_, ?_, by unfold PyData.depth; omega, ?_⟩
  · unfold PyData.intsShort
    rw [decide_eq_true_eq]
    exact PyData.shown_int_le (by omega)
  · unfold PyData.showable
    rw [decide_eq_true_eq]
    omega
  · unfold PyData.weight
    split
    · omega
    · omega
theorem py_int (i : Int) : py (.int i) = some (.int i) := by unfold py; rfl
theorem py_two {x y : D} {a b : PyData} (h1 : py x = some a) (h2 : py y = some b) : py (.lst [x, y]) = some (.list [a, b]) := by
  unfold py
  simp only [pyL, h1, h2]
  rfl
theorem Sh.shaped {d : PyData} {k w : Nat} (h : Sh d k w) (hk : k ≤ 64) : SeqAt.shaped d = true := by
  unfold SeqAt.shaped
  rw [h.lay, decide_eq_true (Nat.le_trans h.dp hk)]
  rfl
theorem Sh.eqv {d : PyData} {k w : Nat} (h : Sh d k w) : (!PyData.eqv d d) = false := by
  rw [SeqAt.eqv_refl d h.lay]
  rfl
def g_L_right : GC := fun ds μ R => ∃ (a : Addr) (x y z : Int), ds = [.adr a] ∧ μ a = some (pot x y z) ∧ ∀ x y z : Int, R (.bl true) (put μ a (pot x y z))
end
end K10

set_option Elab.async false
set_option linter.all false
set_option maxRecDepth 100000
namespace K10
open PySem PySem.Spec PyProof.Rows L2 DL
/-! ### a tree there is -/
theorem step_same {p r : List Nat} {y : Nat × Nat} (e : r.getD (p.idxOf y.1) 0 = r.getD (p.idxOf y.2) 0) : stepM p r y = r := by
  unfold stepM
  rw [e]
  have : (fun x : Nat => if x = max (r.getD (p.idxOf y.2) 0) (r.getD (p.idxOf y.2) 0) then min (r.getD (p.idxOf y.2) 0) (r.getD (p.idxOf y.2) 0) else x) = fun x => x := by
    funext x
    split
    · rename_i h
      rw [h]
      omega
    · rfl
  show r.map (fun x : Nat => if x = max (r.getD (p.idxOf y.2) 0) (r.getD (p.idxOf y.2) 0) then min (r.getD (p.idxOf y.2) 0) (r.getD (p.idxOf y.2) 0) else x) = r
  rw [this, List.map_id']
theorem step_up {p r : List Nat} (u : p.Pairwise (· ≠ ·)) (h : Roots p r) {y : Nat × Nat} (h1 : y.1 ∈ p) (h2 : y.2 ∈ p) (ne : r.getD (p.idxOf y.1) 0 ≠ r.getD (p.idxOf y.2) 0) : nonFix r p + 1 ≤ nonFix (stepM p r y) p := by
  have e1 := fix_count r p h.len
  have hs := h.step h1 h2
  have e2 := fix_count (stepM p r y) p hs.len
  rw [← fixes_len u h.len] at e1
  rw [← fixes_len u hs.len] at e2
  have l1 : p.idxOf y.1 < r.length := by rw [h.len]; exact List.idxOf_lt_length_of_mem h1
  have l2 : p.idxOf y.2 < r.length := by rw [h.len]; exact List.idxOf_lt_length_of_mem h2
  obtain ⟨a1, a2⟩ := h.own _ (getD_in l1)
  obtain ⟨b1, b2⟩ := h.own _ (getD_in l2)
  have key : ∀ c, c ∈ p → (stepM p r y).getD (p.idxOf c) 0 = (fun x => if x = max (r.getD (p.idxOf y.1) 0) (r.getD (p.idxOf y.2) 0) then min (r.getD (p.idxOf y.1) 0) (r.getD (p.idxOf y.2) 0) else x) (r.getD (p.idxOf c) 0) := fun c hc => by
    unfold stepM
    exact getD_map_ne (by rw [h.len]; exact List.idxOf_lt_length_of_mem hc)
  generalize r.getD (p.idxOf y.1) 0 = a at *
  generalize r.getD (p.idxOf y.2) 0 = b at *
  have mx : max a b ∈ p ∧ r.getD (p.idxOf (max a b)) 0 = max a b := by
    rcases Nat.le_total a b with q | q
    · rw [Nat.max_eq_right q]
      exact ⟨b1, b2⟩
    · rw [Nat.max_eq_left q]
      exact ⟨a1, a2⟩
  have mn : r.getD (p.idxOf (min a b)) 0 = min a b := by
    rcases Nat.le_total a b with q | q
    · rw [Nat.min_eq_left q]
      exact a2
    · rw [Nat.min_eq_right q]
      exact b2
  have lt : min a b < max a b := by omega
  have un : p.Nodup := u
  have := nodup_le (l := max a b :: fixes (stepM p r y) p) (m := fixes r p) (by
    refine List.nodup_cons.mpr ⟨fun hm => ?_, un.filter _⟩
    obtain ⟨k1, k2⟩ := List.mem_filter.mp hm
    have k2 := of_decide_eq_true k2
    rw [key _ k1, mx.2] at k2
    have k2 : (if max a b = max a b then min a b else max a b) = max a b := k2
    rw [if_pos rfl] at k2
    omega) (fun c hc => by
    rcases List.mem_cons.mp hc with e | hc
    · rw [e]
      exact List.mem_filter.mpr ⟨mx.1, decide_eq_true mx.2⟩
    · obtain ⟨k1, k2⟩ := List.mem_filter.mp hc
      have k2 := of_decide_eq_true k2
      rw [key _ k1] at k2
      have k2 : (if r.getD (p.idxOf c) 0 = max a b then min a b else r.getD (p.idxOf c) 0) = c := k2
      refine List.mem_filter.mpr ⟨k1, decide_eq_true ?_⟩
      by_cases e : r.getD (p.idxOf c) 0 = max a b
      · rw [if_pos e] at k2
        rw [← k2, mn] at e
        omega
      · rwa [if_neg e] at k2)
  rw [List.length_cons] at this
  omega
theorem ties_snoc (ts : List Str) (lot : List Nat) (i : Nat) : tiesOf ts (lot ++ [i]) = tiesOf ts lot ++ [ends (ts.getD i Str.empty)] := by
  unfold tiesOf
  rw [List.map_append]
  rfl
theorem grown {p : List Nat} (u : p.Pairwise (· ≠ ·)) {ts : List Str} (he : ∀ y ∈ ts, (ends y).1 ∈ p ∧ (ends y).2 ∈ p) : ∀ n, n ≤ ts.length → ∃ v ∈ lotsL n, marksL p (tiesOf ts v) = marksL p (tiesOf ts (List.range n)) ∧ v.length = rankOf p ts v
  | 0, _ => ⟨[], List.mem_singleton.mpr rfl, rfl, by
    have := rank_le u ts []
    simp at this ⊢
    omega⟩
  | n + 1, hn => by
    obtain ⟨v, hv, e, l⟩ := grown u he n (by omega)
    have ht : ts[n]? = some ts[n] := List.getElem?_eq_getElem (by omega)
    have eg : ts.getD n Str.empty = ts[n] := by rw [List.getD_eq_getElem?_getD, ht]; rfl
    obtain ⟨m1, m2⟩ := he _ (List.getElem_mem (show n < ts.length by omega))
    have er : marksL p (tiesOf ts (List.range (n + 1))) = stepM p (marksL p (tiesOf ts (List.range n))) (ends ts[n]) := by
      rw [List.range_succ, ties_snoc, marksL_snoc, eg]
    have ev : marksL p (tiesOf ts (v ++ [n])) = stepM p (marksL p (tiesOf ts v)) (ends ts[n]) := by
      rw [ties_snoc, marksL_snoc, eg]
    by_cases c : (marksL p (tiesOf ts v)).getD (p.idxOf (ends ts[n]).1) 0 = (marksL p (tiesOf ts v)).getD (p.idxOf (ends ts[n]).2) 0
    · refine ⟨v, List.mem_append.mpr (.inl hv), ?_, l⟩
      rw [er, ← e, step_same c]
    · refine ⟨v ++ [n], List.mem_append.mpr (.inr (List.mem_map.mpr ⟨v, hv, rfl⟩)), by rw [ev, er, e], ?_⟩
      have hr : Roots p (marksL p (tiesOf ts v)) := roots_marks u fun y hy => by
        obtain ⟨i, hi, e⟩ := List.mem_map.mp hy
        obtain ⟨h1, _⟩ := lots_in n v hv
        have hi2 := h1 i hi
        have : ts.getD i Str.empty = ts[i] := by rw [List.getD_eq_getElem?_getD, List.getElem?_eq_getElem (by omega)]; rfl
        rw [← e, this]
        exact he _ (List.getElem_mem _)
      have h1 := step_up u hr m1 m2 c
      rw [← ev] at h1
      have h1 : rankOf p ts v + 1 ≤ rankOf p ts (v ++ [n]) := h1
      have h2 := rank_snoc u ts v n
      rw [List.length_append, List.length_singleton]
      omega
theorem law_some {p : List Nat} (u : p.Pairwise (· ≠ ·)) {ts : List Str} (he : ∀ y ∈ ts, (ends y).1 ∈ p ∧ (ends y).2 ∈ p) {S : List (List Nat)} (hS : S.Perm (lotsL ts.length)) : lawTrees p ts S ≠ [] := by
  obtain ⟨v, hv, e, l⟩ := grown u he ts.length (Nat.le_refl _)
  have er : rankOf p ts v = rankOf p ts (List.range ts.length) := by
    show nonFix (marksL p (tiesOf ts v)) p = _
    rw [e]
    rfl
  have hm : v ∈ lawTrees p ts S := List.mem_filter.mpr ⟨hS.symm.subset hv, by rw [decide_eq_true (l.trans er), decide_eq_true er]; rfl⟩
  intro z
  rw [z] at hm
  cases hm
end K10

set_option Elab.async false
set_option linter.all false
set_option maxRecDepth 100000
namespace K10
open PySem PySem.Spec PyProof.Rows L2 DL
/-! ### marks tell what is joined, whatever the order of the ties -/
def markOf (p r : List Nat) (a : Nat) : Nat := r.getD (p.idxOf a) 0
inductive Conn (ys : List (Nat × Nat)) : Nat → Nat → Prop
  | refl (a : Nat) : Conn ys a a
  | tie {y : Nat × Nat} (h : y ∈ ys) : Conn ys y.1 y.2
  | symm {a b : Nat} (h : Conn ys a b) : Conn ys b a
  | trans {a b c : Nat} (h : Conn ys a b) (k : Conn ys b c) : Conn ys a c
theorem Conn.mono {ys zs : List (Nat × Nat)} (s : ∀ y ∈ ys, y ∈ zs) {a b : Nat} (h : Conn ys a b) : Conn zs a b := by
  induction h with
  | refl a => exact .refl a
  | tie h => exact .tie (s _ h)
  | symm _ ih => exact ih.symm
  | trans _ _ i1 i2 => exact i1.trans i2
theorem mark_step {p r : List Nat} (hl : r.length = p.length) {y : Nat × Nat} {a : Nat} (ha : a ∈ p) :
    markOf p (stepM p r y) a = if markOf p r a = max (markOf p r y.1) (markOf p r y.2) then min (markOf p r y.1) (markOf p r y.2) else markOf p r a := by
  unfold markOf stepM
  rw [getD_map_ne (by rw [hl]; exact List.idxOf_lt_length_of_mem ha)]
theorem mark_self {p : List Nat} {a : Nat} (ha : a ∈ p) : markOf p p a = a := by
  unfold markOf
  rw [List.getD_eq_getElem?_getD, List.getElem?_eq_getElem (List.idxOf_lt_length_of_mem ha), List.getElem_idxOf]
  rfl
theorem marks_len (p : List Nat) (ys : List (Nat × Nat)) : (marksL p ys).length = p.length := foldl_len p ys p
theorem snoc_ind {α : Type} {P : List α → Prop} (h0 : P []) (h1 : ∀ l a, P l → P (l ++ [a])) : ∀ l, P l := fun l => by
  have : ∀ (n : Nat) (l : List α), l.length = n → P l := by
    intro n
    induction n with
    | zero => intro l hl; rw [List.eq_nil_of_length_eq_zero hl]; exact h0
    | succ n ih =>
      intro l hl
      have hn : l ≠ [] := fun e => by rw [e] at hl; cases hl
      rw [← List.dropLast_concat_getLast hn]
      exact h1 _ _ (ih _ (by rw [List.length_dropLast, hl]; rfl))
  exact this l.length l rfl
def InP (p : List Nat) (ys : List (Nat × Nat)) : Prop := ∀ y ∈ ys, y.1 ∈ p ∧ y.2 ∈ p
theorem InP.left {p : List Nat} {ys : List (Nat × Nat)} {y : Nat × Nat} (h : InP p (ys ++ [y])) : InP p ys := fun z hz => h z (List.mem_append.mpr (.inl hz))
theorem InP.last {p : List Nat} {ys : List (Nat × Nat)} {y : Nat × Nat} (h : InP p (ys ++ [y])) : y.1 ∈ p ∧ y.2 ∈ p := h y (List.mem_append.mpr (.inr (List.mem_singleton.mpr rfl)))
/-- ties join their ends -/
theorem tie_marks {p : List Nat} : ∀ ys, InP p ys → ∀ y ∈ ys, markOf p (marksL p ys) y.1 = markOf p (marksL p ys) y.2 := by
  refine snoc_ind (P := fun ys => InP p ys → ∀ y ∈ ys, markOf p (marksL p ys) y.1 = markOf p (marksL p ys) y.2) (fun _ y hy => by cases hy) ?_
  intro ys z ih hp y hy
  obtain ⟨m1, m2⟩ := hp y hy
  rw [marksL_snoc, mark_step (marks_len p ys) m1, mark_step (marks_len p ys) m2]
  rcases List.mem_append.mp hy with q | q
  · rw [ih hp.left y q]
  · rw [List.mem_singleton.mp q]
    generalize markOf p (marksL p ys) z.1 = a
    generalize markOf p (marksL p ys) z.2 = b
    split <;> split <;> omega
theorem conn_marks {p : List Nat} {ys : List (Nat × Nat)} (hp : InP p ys) {a b : Nat} (h : Conn ys a b) : markOf p (marksL p ys) a = markOf p (marksL p ys) b := by
  induction h with
  | refl a => rfl
  | tie h => exact tie_marks ys hp _ h
  | symm _ ih => exact ih.symm
  | trans _ _ i1 i2 => exact i1.trans i2
theorem marks_conn {p : List Nat} : ∀ ys, InP p ys → ∀ a b, a ∈ p → b ∈ p → markOf p (marksL p ys) a = markOf p (marksL p ys) b → Conn ys a b := by
  refine snoc_ind (P := fun ys => InP p ys → ∀ a b, a ∈ p → b ∈ p → markOf p (marksL p ys) a = markOf p (marksL p ys) b → Conn ys a b) ?_ ?_
  · intro _ a b ha hb e
    have e : markOf p p a = markOf p p b := e
    rw [mark_self ha, mark_self hb] at e
    rw [e]
    exact .refl b
  · intro ys z ih hp a b ha hb e
    have sub : ∀ y ∈ ys, y ∈ ys ++ [z] := fun y hy => List.mem_append.mpr (.inl hy)
    obtain ⟨z1, z2⟩ := hp.last
    have hz : Conn (ys ++ [z]) z.1 z.2 := .tie (List.mem_append.mpr (.inr (List.mem_singleton.mpr rfl)))
    rw [marksL_snoc, mark_step (marks_len p ys) ha, mark_step (marks_len p ys) hb] at e
    have key : ∀ c d, c ∈ p → d ∈ p → markOf p (marksL p ys) c = markOf p (marksL p ys) d → Conn (ys ++ [z]) c d := fun c d hc hd h => (ih hp.left c d hc hd h).mono sub
    have ka1 := key a z.1 ha z1
    have ka2 := key a z.2 ha z2
    have kb1 := key b z.1 hb z1
    have kb2 := key b z.2 hb z2
    have kab := key a b ha hb
    generalize markOf p (marksL p ys) a = x at e ka1 ka2 kab
    generalize markOf p (marksL p ys) b = y at e kb1 kb2 kab
    generalize markOf p (marksL p ys) z.1 = m at e ka1 ka2 kb1 kb2
    generalize markOf p (marksL p ys) z.2 = n at e ka1 ka2 kb1 kb2
    by_cases exy : x = y
    · exact kab exy
    · have h : (x = m ∧ y = n) ∨ (x = n ∧ y = m) := by
        split at e <;> split at e <;> omega
      rcases h with ⟨h1, h2⟩ | ⟨h1, h2⟩
      · exact ((ka1 h1).trans hz).trans (kb2 h2).symm
      · exact ((ka2 h1).trans hz.symm).trans (kb1 h2).symm
theorem mark_le {p : List Nat} : ∀ ys, InP p ys → ∀ a ∈ p, markOf p (marksL p ys) a ≤ a := by
  refine snoc_ind (P := fun ys => InP p ys → ∀ a ∈ p, markOf p (marksL p ys) a ≤ a) (fun _ a ha => by show markOf p p a ≤ a; rw [mark_self ha]; exact Nat.le_refl _) ?_
  intro ys z ih hp a ha
  rw [marksL_snoc, mark_step (marks_len p ys) ha]
  have := ih hp.left a ha
  split <;> omega
theorem mark_root {p : List Nat} (u : p.Pairwise (· ≠ ·)) {ys : List (Nat × Nat)} (hp : InP p ys) {a : Nat} (ha : a ∈ p) : markOf p (marksL p ys) a ∈ p ∧ markOf p (marksL p ys) (markOf p (marksL p ys) a) = markOf p (marksL p ys) a :=
  (roots_marks u hp).own _ (getD_in (by rw [marks_len]; exact List.idxOf_lt_length_of_mem ha))
/-- the marks hang on what is joined alone -/
theorem same_marks {p : List Nat} (u : p.Pairwise (· ≠ ·)) {ys zs : List (Nat × Nat)} (hy : InP p ys) (hz : InP p zs) (h1 : ∀ y ∈ ys, y ∈ zs) (h2 : ∀ y ∈ zs, y ∈ ys) : marksL p ys = marksL p zs := by
  have le : ∀ {ys zs : List (Nat × Nat)}, InP p ys → InP p zs → (∀ y ∈ ys, y ∈ zs) → ∀ a ∈ p, markOf p (marksL p zs) a ≤ markOf p (marksL p ys) a := fun {ys zs} hy hz s a ha => by
    obtain ⟨r1, r2⟩ := mark_root u hy ha
    have c := (marks_conn ys hy a _ ha r1 r2.symm).mono s
    rw [conn_marks hz c]
    exact mark_le zs hz _ r1
  apply List.ext_getElem (by rw [marks_len, marks_len])
  intro i h3 h4
  have hi : i < p.length := by rwa [marks_len] at h3
  have e := Nat.le_antisymm (le hz hy h2 p[i] (List.getElem_mem hi)) (le hy hz h1 p[i] (List.getElem_mem hi))
  unfold markOf at e
  rw [idx_get u hi, List.getD_eq_getElem?_getD, List.getD_eq_getElem?_getD, List.getElem?_eq_getElem h3, List.getElem?_eq_getElem h4] at e
  exact e
/-! ### ranks of lots in any order -/
def Ends (p : List Nat) (ts : List Str) : Prop := ∀ y ∈ ts, (ends y).1 ∈ p ∧ (ends y).2 ∈ p
theorem ties_in {p : List Nat} {ts : List Str} (he : Ends p ts) {v : List Nat} (hv : ∀ k ∈ v, k < ts.length) : InP p (tiesOf ts v) := fun y hy => by
  obtain ⟨i, hi, e⟩ := List.mem_map.mp hy
  have hi2 := hv i hi
  have : ts.getD i Str.empty = ts[i] := by rw [List.getD_eq_getElem?_getD, List.getElem?_eq_getElem hi2]; rfl
  rw [← e, this]
  exact he _ (List.getElem_mem _)
theorem lot_marks {p : List Nat} (u : p.Pairwise (· ≠ ·)) {ts : List Str} (he : Ends p ts) {v w : List Nat} (hv : ∀ k ∈ v, k < ts.length) (hw : ∀ k ∈ w, k < ts.length) (h1 : ∀ k ∈ v, k ∈ w) (h2 : ∀ k ∈ w, k ∈ v) : marksL p (tiesOf ts v) = marksL p (tiesOf ts w) := by
  refine same_marks u (ties_in he hv) (ties_in he hw) (fun y hy => ?_) (fun y hy => ?_)
  · obtain ⟨i, hi, e⟩ := List.mem_map.mp hy
    exact List.mem_map.mpr ⟨i, h1 i hi, e⟩
  · obtain ⟨i, hi, e⟩ := List.mem_map.mp hy
    exact List.mem_map.mpr ⟨i, h2 i hi, e⟩
theorem lot_rank {p : List Nat} (u : p.Pairwise (· ≠ ·)) {ts : List Str} (he : Ends p ts) {v w : List Nat} (hv : ∀ k ∈ v, k < ts.length) (hw : ∀ k ∈ w, k < ts.length) (h1 : ∀ k ∈ v, k ∈ w) (h2 : ∀ k ∈ w, k ∈ v) : rankOf p ts v = rankOf p ts w := by
  show nonFix (marksL p (tiesOf ts v)) p = nonFix (marksL p (tiesOf ts w)) p
  rw [lot_marks u he hv hw h1 h2]
/-- whether a tie's ends are not joined by a lot -/
def partsL (p : List Nat) (ts : List Str) (v : List Nat) (k : Nat) : Bool := decide (markOf p (marksL p (tiesOf ts v)) (ends (ts.getD k Str.empty)).1 ≠ markOf p (marksL p (tiesOf ts v)) (ends (ts.getD k Str.empty)).2)
theorem rank_more {p : List Nat} (u : p.Pairwise (· ≠ ·)) {ts : List Str} (he : Ends p ts) {v : List Nat} {k : Nat} (hv : ∀ j ∈ v, j < ts.length) (hk : k < ts.length) : rankOf p ts (v ++ [k]) = rankOf p ts v + if partsL p ts v k = true then 1 else 0 := by
  have et : ts.getD k Str.empty = ts[k] := by rw [List.getD_eq_getElem?_getD, List.getElem?_eq_getElem hk]; rfl
  obtain ⟨m1, m2⟩ := he _ (List.getElem_mem hk)
  show nonFix (marksL p (tiesOf ts (v ++ [k]))) p = nonFix (marksL p (tiesOf ts v)) p + _
  rw [ties_snoc, marksL_snoc]
  by_cases c : markOf p (marksL p (tiesOf ts v)) (ends (ts.getD k Str.empty)).1 = markOf p (marksL p (tiesOf ts v)) (ends (ts.getD k Str.empty)).2
  · have hf : partsL p ts v k = false := decide_eq_false (fun h => h c)
    rw [hf, step_same c]
    rfl
  · have hf : partsL p ts v k = true := decide_eq_true c
    rw [hf, if_pos rfl]
    refine Nat.le_antisymm ?_ ?_
    · have := nonFix_step u (marksL p (tiesOf ts v)) (ends (ts.getD k Str.empty))
      exact this
    · rw [et] at c ⊢
      exact step_up u (roots_marks u (ties_in he hv)) m1 m2 c
theorem rank_sub {p : List Nat} (u : p.Pairwise (· ≠ ·)) {ts : List Str} (he : Ends p ts) (v : List Nat) (hv : ∀ j ∈ v, j < ts.length) : ∀ w : List Nat, (∀ j ∈ w, j < ts.length) → rankOf p ts v ≤ rankOf p ts (v ++ w) := by
  refine snoc_ind (P := fun w => (∀ j ∈ w, j < ts.length) → rankOf p ts v ≤ rankOf p ts (v ++ w)) (fun _ => by rw [List.append_nil]; exact Nat.le_refl _) ?_
  intro w k ih hw
  have h1 := ih fun j hj => hw j (List.mem_append.mpr (.inl hj))
  rw [← List.append_assoc, rank_more u he (fun j hj => (List.mem_append.mp hj).elim (hv j) fun q => hw j (List.mem_append.mpr (.inl q))) (hw k (List.mem_append.mpr (.inr (List.mem_singleton.mpr rfl))))]
  omega
/-- ties that part nothing leave the rank -/
theorem rank_same {p : List Nat} (u : p.Pairwise (· ≠ ·)) {ts : List Str} (he : Ends p ts) (v : List Nat) (hv : ∀ j ∈ v, j < ts.length) : ∀ w : List Nat, (∀ j ∈ w, j < ts.length) → (∀ j ∈ w, partsL p ts v j = false) → marksL p (tiesOf ts (v ++ w)) = marksL p (tiesOf ts v) := by
  refine snoc_ind (P := fun w => (∀ j ∈ w, j < ts.length) → (∀ j ∈ w, partsL p ts v j = false) → marksL p (tiesOf ts (v ++ w)) = marksL p (tiesOf ts v)) (fun _ _ => by rw [List.append_nil]) ?_
  intro w k ih hw hn
  have e := ih (fun j hj => hw j (List.mem_append.mpr (.inl hj))) (fun j hj => hn j (List.mem_append.mpr (.inl hj)))
  rw [← List.append_assoc, ties_snoc, marksL_snoc, e]
  have := hn k (List.mem_append.mpr (.inr (List.mem_singleton.mpr rfl)))
  have := of_decide_eq_false this
  exact step_same (Classical.not_not.mp this)
/-! ### trees, and exchanges -/
structure IsTree (p : List Nat) (ts : List Str) (r : Nat) (v : List Nat) : Prop where
  asc : v.Pairwise (· < ·)
  few : ∀ k ∈ v, k < ts.length
  len : v.length = r
  rank : rankOf p ts v = r
theorem IsTree.nodup {p : List Nat} {ts : List Str} {r : Nat} {v : List Nat} (h : IsTree p ts r v) : v.Nodup := h.asc.imp fun h => Nat.ne_of_lt h
theorem lots_all : ∀ (n : Nat) (v : List Nat), v.Pairwise (· < ·) → (∀ k ∈ v, k < n) → v ∈ lotsL n
  | 0, v, _, h => by
    have : v = [] := List.eq_nil_iff_forall_not_mem.mpr fun k hk => Nat.not_lt_zero _ (h k hk)
    rw [this]
    exact List.mem_singleton.mpr rfl
  | n + 1, v, ha, h => by
    by_cases hn : n ∈ v
    · have ne : v ≠ [] := fun e => by rw [e] at hn; cases hn
      have ev := List.dropLast_concat_getLast ne
      have hl := h _ (List.getLast_mem ne)
      rw [← ev, List.pairwise_append] at ha
      have last : v.getLast ne = n := by
        rw [← ev] at hn
        rcases List.mem_append.mp hn with q | q
        · have := ha.2.2 n q _ (List.mem_singleton.mpr rfl)
          omega
        · exact (List.mem_singleton.mp q).symm
      refine List.mem_append.mpr (.inr (List.mem_map.mpr ⟨v.dropLast, lots_all n _ ha.1 (fun k hk => ?_), by rw [← last]; exact ev⟩))
      have := ha.2.2 k hk _ (List.mem_singleton.mpr rfl)
      omega
    · refine List.mem_append.mpr (.inl (lots_all n v ha fun k hk => ?_))
      have := h k hk
      have : k ≠ n := fun e => hn (e ▸ hk)
      omega
theorem tree_law {p : List Nat} {ts : List Str} {S : List (List Nat)} (hS : S.Perm (lotsL ts.length)) (v : List Nat) : v ∈ lawTrees p ts S ↔ IsTree p ts (rankOf p ts (List.range ts.length)) v := by
  constructor
  · intro h
    obtain ⟨h1, h2⟩ := List.mem_filter.mp h
    obtain ⟨a, b, c⟩ := lots_in _ v (hS.subset h1)
    rw [Bool.and_eq_true] at h2
    exact ⟨c, a, of_decide_eq_true h2.1, of_decide_eq_true h2.2⟩
  · intro h
    refine List.mem_filter.mpr ⟨hS.symm.subset (lots_all _ v h.asc h.few), ?_⟩
    rw [decide_eq_true h.len, decide_eq_true h.rank]
    rfl
def wout (v : List Nat) (o : Nat) : List Nat := v.filter fun k => decide (k ≠ o)
theorem wout_mem {v : List Nat} {o k : Nat} : k ∈ wout v o ↔ k ∈ v ∧ k ≠ o := by
  unfold wout
  rw [List.mem_filter, decide_eq_true_eq]
theorem wout_len {v : List Nat} (u : v.Nodup) {o : Nat} (ho : o ∈ v) : (wout v o).length + 1 = v.length := by
  have e : (wout v o).length + 1 = (o :: wout v o).length := rfl
  rw [e]
  refine nodup_same (List.nodup_cons.mpr ⟨fun h => (wout_mem.mp h).2 rfl, u.filter _⟩) u fun x => ?_
  rw [List.mem_cons, wout_mem]
  constructor
  · rintro (rfl | h)
    · exact ho
    · exact h.1
  · intro h
    by_cases e : x = o
    · exact .inl e
    · exact .inr ⟨h, e⟩
section
variable {p : List Nat} {ts : List Str} {r : Nat}
theorem IsTree.less (u : p.Pairwise (· ≠ ·)) (he : Ends p ts) {v : List Nat} (h : IsTree p ts r v) {o : Nat} (ho : o ∈ v) : rankOf p ts (wout v o) + 1 = r ∧ partsL p ts (wout v o) o = true := by
  have hf : ∀ k ∈ wout v o, k < ts.length := fun k hk => h.few k (wout_mem.mp hk).1
  have e : rankOf p ts (wout v o ++ [o]) = r := by
    rw [← h.rank]
    refine lot_rank u he (fun k hk => ?_) h.few (fun k hk => ?_) (fun k hk => ?_)
    · rcases List.mem_append.mp hk with q | q
      · exact hf k q
      · rw [List.mem_singleton.mp q]; exact h.few o ho
    · rcases List.mem_append.mp hk with q | q
      · exact (wout_mem.mp q).1
      · rw [List.mem_singleton.mp q]; exact ho
    · by_cases e : k = o
      · exact List.mem_append.mpr (.inr (List.mem_singleton.mpr e))
      · exact List.mem_append.mpr (.inl (wout_mem.mpr ⟨hk, e⟩))
  rw [rank_more u he hf (h.few o ho)] at e
  have h1 := rank_le u ts (wout v o)
  have h2 := wout_len h.nodup ho
  have h3 := h.len
  cases c : partsL p ts (wout v o) o with
  | true => rw [c, if_pos rfl] at e; exact ⟨e, rfl⟩
  | false => rw [c] at e; simp at e; omega
/-- an exchange: what is put for what is taken out makes a tree just if it parts nothing else -/
theorem swap_tree (u : p.Pairwise (· ≠ ·)) (he : Ends p ts) {v w : List Nat} (h : IsTree p ts r v) {o k : Nat} (ho : o ∈ v) (hk : k ∉ v) (kn : k < ts.length) (hp : w.Perm (wout v o ++ [k])) (hw : w.Pairwise (· ≤ ·)) : IsTree p ts r w ↔ partsL p ts (wout v o) k = true := by
  have hf : ∀ j ∈ wout v o, j < ts.length := fun j hj => h.few j (wout_mem.mp hj).1
  have hf2 : ∀ j ∈ wout v o ++ [k], j < ts.length := fun j hj => by
    rcases List.mem_append.mp hj with q | q
    · exact hf j q
    · rw [List.mem_singleton.mp q]; exact kn
  have hfw : ∀ j ∈ w, j < ts.length := fun j hj => hf2 j (hp.subset hj)
  have nd : w.Nodup := by
    refine hp.nodup_iff.mpr ?_
    rw [List.nodup_append]
    refine ⟨h.nodup.filter _, by simp, fun a ha b hb => ?_⟩
    rw [List.mem_singleton.mp hb]
    intro e
    exact hk (e ▸ (wout_mem.mp ha).1)
  have asc : w.Pairwise (· < ·) := by
    have := List.Pairwise.and hw nd
    exact this.imp fun h => Nat.lt_of_le_of_ne h.1 h.2
  have len : w.length = r := by
    rw [hp.length_eq, List.length_append, List.length_singleton, wout_len h.nodup ho, h.len]
  have er : rankOf p ts w = rankOf p ts (wout v o) + if partsL p ts (wout v o) k = true then 1 else 0 := by
    rw [← rank_more u he hf kn]
    exact lot_rank u he hfw hf2 (fun j hj => hp.subset hj) (fun j hj => hp.symm.subset hj)
  have hl := (h.less u he ho).1
  constructor
  · intro ht
    have := ht.rank
    rw [er] at this
    by_cases c : partsL p ts (wout v o) k = true
    · exact c
    · rw [if_neg c] at this
      omega
  · intro c
    rw [if_pos c] at er
    exact ⟨asc, hfw, len, by omega⟩
/-- from one tree towards another one -/
theorem towards (u : p.Pairwise (· ≠ ·)) (he : Ends p ts) {v w : List Nat} (h : IsTree p ts r v) (k : IsTree p ts r w) {o : Nat} (ho : o ∈ v) (no : o ∉ w) : ∃ j, j ∈ w ∧ j ∉ v ∧ partsL p ts (wout v o) j = true := by
  have hf : ∀ j ∈ wout v o, j < ts.length := fun j hj => h.few j (wout_mem.mp hj).1
  have hl := (h.less u he ho).1
  by_cases c : ∃ j, j ∈ w ∧ partsL p ts (wout v o) j = true
  · obtain ⟨j, hj, c⟩ := c
    refine ⟨j, hj, fun hv => ?_, c⟩
    have jo : j ≠ o := fun e => no (e ▸ hj)
    have hm : j ∈ wout v o := wout_mem.mpr ⟨hv, jo⟩
    have e1 := rank_more u he hf (k.few j hj)
    rw [if_pos c] at e1
    have e2 : rankOf p ts (wout v o ++ [j]) = rankOf p ts (wout v o) := lot_rank u he (fun i hi => by
      rcases List.mem_append.mp hi with q | q
      · exact hf i q
      · rw [List.mem_singleton.mp q]; exact k.few j hj) hf (fun i hi => by
      rcases List.mem_append.mp hi with q | q
      · exact q
      · rw [List.mem_singleton.mp q]; exact hm) fun i hi => List.mem_append.mpr (.inl hi)
    omega
  · exfalso
    have e := rank_same u he (wout v o) hf w k.few fun j hj => by
      cases q : partsL p ts (wout v o) j with
      | true => exact absurd ⟨j, hj, q⟩ c
      | false => rfl
    have e2 : rankOf p ts (wout v o ++ w) = rankOf p ts (wout v o) := by
      show nonFix (marksL p (tiesOf ts (wout v o ++ w))) p = _
      rw [e]
      rfl
    have e3 := rank_sub u he w k.few (wout v o) hf
    have e4 : rankOf p ts (w ++ wout v o) = rankOf p ts (wout v o ++ w) := lot_rank u he (fun i hi => (List.mem_append.mp hi).elim (k.few i) (hf i)) (fun i hi => (List.mem_append.mp hi).elim (hf i) (k.few i))
      (fun i hi => List.mem_append.mpr ((List.mem_append.mp hi).symm)) (fun i hi => List.mem_append.mpr ((List.mem_append.mp hi).symm))
    have := k.rank
    omega
/-- the other ties -/
def outs (v : List Nat) (n : Nat) : List Nat := (List.range n).filter fun k => decide (k ∉ v)
/-- the exchanges of a tie, as the program tells them -/
def swaps (p : List Nat) (ts : List Str) (v : List Nat) (k : Nat) : List Nat :=
  if k ∈ v then (outs v ts.length).filter fun o => partsL p ts (wout v k) o else v.filter fun o => partsL p ts (wout v o) k
theorem swaps_both {v : List Nat} (hv : ∀ k ∈ v, k < ts.length) {k o : Nat} (hk : k < ts.length) (h : o ∈ swaps p ts v k) : k ∈ swaps p ts v o := by
  unfold swaps at h ⊢
  by_cases c : k ∈ v
  · rw [if_pos c] at h
    obtain ⟨h1, h2⟩ := List.mem_filter.mp h
    have h1 := of_decide_eq_true (List.mem_filter.mp h1).2
    rw [if_neg h1]
    exact List.mem_filter.mpr ⟨c, h2⟩
  · rw [if_neg c] at h
    obtain ⟨h1, h2⟩ := List.mem_filter.mp h
    rw [if_pos h1]
    exact List.mem_filter.mpr ⟨List.mem_filter.mpr ⟨List.mem_range.mpr hk, decide_eq_true c⟩, h2⟩
theorem swaps_in {v : List Nat} (hv : ∀ k ∈ v, k < ts.length) {k o : Nat} (h : o ∈ swaps p ts v k) : o < ts.length := by
  unfold swaps at h
  split at h
  · exact List.mem_range.mp (List.mem_filter.mp (List.mem_filter.mp h).1).1
  · exact hv o (List.mem_filter.mp h).1
theorem swaps_loop (u : p.Pairwise (· ≠ ·)) (he : Ends p ts) {v : List Nat} (h : IsTree p ts r v) {k : Nat} (e : (ends (ts.getD k Str.empty)).1 = (ends (ts.getD k Str.empty)).2) : swaps p ts v k = [] := by
  have np : ∀ w, partsL p ts w k = false := fun w => decide_eq_false fun q => q (by rw [e])
  unfold swaps
  by_cases c : k ∈ v
  · have := (h.less u he c).2
    rw [np] at this
    cases this
  · rw [if_neg c, List.filter_eq_nil_iff]
    intro o _
    rw [np]
    exact Bool.false_ne_true
end
end K10

set_option Elab.async false
set_option linter.all false
set_option maxRecDepth 100000
namespace K10
open PySem PySem.Spec PyProof.Rows L2 DL
section
variable {P : Program} {w : World} {K : PySem.W.Frag} {mg : Str → Option Value} {base : Heap} {A : Ad}

/-! ### lots with a condition -/
def onK (q : Nat → Bool) : D → Bool
  | .int k => q k.toNat
  | _ => false
theorem filt_lot {q : Nat → Bool} {v : List Nat} : ((((v.map Int.ofNat).map D.int).filter (onK q)).map id) = ((v.filter q).map Int.ofNat).map D.int := by
  rw [List.map_id, List.filter_map, List.filter_map]
  rfl
theorem range_lot (n : Nat) : ((List.range n).map fun i => D.int (i : Nat)) = ((List.range n).map Int.ofNat).map D.int := by
  rw [List.map_map]
  rfl
theorem OkWeb.ends {p : List Nat} {ts : List Str} (ok : OkWeb p ts) : Ends p ts := fun y hy => (ok.ties y hy).2
theorem ne_nat {j o : Nat} : (!decide ((j : Int) = (o : Int))) = decide (j ≠ o) := by
  by_cases e : j = o
  · subst e
    simp
  · have : ¬ ((j : Int) = (o : Int)) := by omega
    rw [decide_eq_false this, decide_eq_true e]
    rfl
def g_check_index (C : Addr) : GC := fun ds μ R => ∃ (p : List Nat) (ts : List Str) (k : Nat), ds = [dWeb C p ts, .int (k : Nat)] ∧ k < ts.length ∧ R .non μ

def g_without : GC := fun ds μ R => ∃ (v : List Nat) (o : Nat), ds = [dLot v, .int (o : Nat)] ∧ v.length ≤ 1000 ∧ R (dLot (wout v o)) μ

def g_outside_of (C : Addr) : GC := fun ds μ R => ∃ (p : List Nat) (ts : List Str) (v : List Nat), ds = [dWeb C p ts, dLot v] ∧ ts.length ≤ 11 ∧ R (dLot (outs v ts.length)) μ
theorem int_mem {j : Nat} {v : List Nat} : decide ((j : Int) ∈ v.map Int.ofNat) = decide (j ∈ v) := by
  refine decide_eq_decide.mpr ⟨fun h => ?_, fun h => List.mem_map.mpr ⟨j, h, rfl⟩⟩
  obtain ⟨i, hi, e⟩ := List.mem_map.mp h
  have e : i = j := Int.ofNat.inj e
  rw [← e]
  exact hi
theorem not_mem {j : Nat} {v : List Nat} : (!decide (j ∈ v)) = decide (j ∉ v) := by
  by_cases e : j ∈ v
  · rw [decide_eq_true e, decide_eq_false (fun h => h e)]
    rfl
  · rw [decide_eq_false e, decide_eq_true e]
    rfl

def g_is_tree_lot (C : Addr) : GC := fun ds μ R => ∃ (p : List Nat) (ts : List Str) (v : List Nat), ds = [dWeb C p ts, dLot v] ∧ OkWeb p ts ∧ (∀ k ∈ v, k < ts.length) ∧ R (.bl (decide (v.length = rankOf p ts v) && decide (rankOf p ts v = rankOf p ts (List.range ts.length)))) μ
theorem nat_int {i j : Nat} : decide ((i : Int) = (j : Int)) = decide (i = j) := decide_eq_decide.mpr (by omega)

def g_check_tree (C : Addr) : GC := fun ds μ R => ∃ (p : List Nat) (ts : List Str) (v : List Nat), ds = [dWeb C p ts, dLot v] ∧ OkWeb p ts ∧ IsTree p ts (rankOf p ts (List.range ts.length)) v ∧ R .non μ

def g_parts_ends (C : Addr) : GC := fun ds μ R => ∃ (p : List Nat) (ts : List Str) (v : List Nat) (k : Nat), ds = [dWeb C p ts, dLot v, .int (k : Nat)] ∧ OkWeb p ts ∧ (∀ j ∈ v, j < ts.length) ∧ k < ts.length ∧ R (.bl (partsL p ts v k)) μ
theorem sg_mark {p r : List Nat} {c : Nat} (hl : r.length = p.length) (hc : c ∈ p) : r[p.idxOf c]? = some (markOf p r c) := by
  unfold markOf
  rw [List.getD_eq_getElem?_getD, List.getElem?_eq_getElem (by rw [hl]; exact List.idxOf_lt_length_of_mem hc)]
  rfl

def g_are_joined (C : Addr) : GC := fun ds μ R => ∃ (p : List Nat) (ts : List Str) (v : List Nat) (c d : Nat), ds = [dWeb C p ts, dLot v, .str (sg c), .str (sg d)] ∧ OkWeb p ts ∧ (∀ j ∈ v, j < ts.length) ∧ c ∈ p ∧ d ∈ p ∧
  R (.bl (decide (sg (markOf p (marksL p (tiesOf ts v)) c) = sg (markOf p (marksL p (tiesOf ts v)) d)))) μ

def g_exchanges_of (C : Addr) : GC := fun ds μ R => ∃ (p : List Nat) (ts : List Str) (v : List Nat) (k : Nat), ds = [dWeb C p ts, dLot v, .int (k : Nat)] ∧ OkWeb p ts ∧ (∀ j ∈ v, j < ts.length) ∧ v.length ≤ 11 ∧ k < ts.length ∧ R (dLot (swaps p ts v k)) μ

def g_exchanges (C : Addr) : GC := fun ds μ R => ∃ (p : List Nat) (ts : List Str) (v : List Nat) (k : Nat), ds = [dWeb C p ts, dLot v, .int (k : Nat)] ∧ OkWeb p ts ∧ IsTree p ts (rankOf p ts (List.range ts.length)) v ∧ k < ts.length ∧ R (dLot (swaps p ts v k)) μ
end
end K10

set_option Elab.async false
set_option linter.all false
set_option maxRecDepth 100000
namespace K10
open PySem PySem.Spec PyProof.Rows L2 DL PySem.W
/-! ### herds -/
def subsL (v : List Nat) : List (List Nat) := v.foldl (fun L i => L ++ L.map (· ++ [i])) [[]]
theorem subs_snoc (v : List Nat) (k : Nat) : subsL (v ++ [k]) = subsL v ++ (subsL v).map (· ++ [k]) := by
  unfold subsL
  rw [List.foldl_append]
  rfl
theorem subs_few : ∀ v : List Nat, (subsL v).length = 2 ^ v.length := by
  refine snoc_ind (P := fun v => (subsL v).length = 2 ^ v.length) rfl ?_
  intro w k ih
  rw [subs_snoc, List.length_append, List.length_map, ih, List.length_append, List.length_singleton, Nat.pow_succ]
  omega
theorem subs_mem : ∀ v : List Nat, ∀ h, h ∈ subsL v ↔ h.Sublist v := by
  refine snoc_ind (P := fun v => ∀ h, h ∈ subsL v ↔ h.Sublist v) (fun h => ?_) ?_
  · constructor
    · intro q
      rw [List.mem_singleton.mp q]
      exact List.Sublist.refl _
    · intro q
      rw [List.sublist_nil.mp q]
      exact List.mem_singleton.mpr rfl
  · intro w k ih h
    rw [subs_snoc, List.mem_append, List.mem_map, List.sublist_append_iff]
    constructor
    · rintro (q | ⟨g, q, rfl⟩)
      · exact ⟨h, [], (List.append_nil _).symm, (ih h).mp q, List.nil_sublist _⟩
      · exact ⟨g, [k], rfl, (ih g).mp q, List.Sublist.refl _⟩
    · rintro ⟨a, b, rfl, qa, qb⟩
      cases b with
      | nil =>
        rw [List.append_nil]
        exact .inl ((ih a).mpr qa)
      | cons x t =>
        have l := qb.length_le
        have e : t = [] := List.eq_nil_of_length_eq_zero (by rw [List.length_cons, List.length_singleton] at l; omega)
        subst e
        have m : x ∈ [k] := qb.subset List.mem_cons_self
        rw [List.mem_singleton.mp m]
        exact .inr ⟨a, (ih a).mpr qa, rfl⟩
theorem subs_len {v h : List Nat} (q : h ∈ subsL v) : h.length ≤ v.length := ((subs_mem v h).mp q).length_le
theorem subs_in {v h : List Nat} (q : h ∈ subsL v) : ∀ c ∈ h, c ∈ v := fun c hc => ((subs_mem v h).mp q).subset hc
theorem subs_all {v h : List Nat} (q : h ∈ subsL v) (a : ∀ c ∈ v, c ∈ h) (u : v.Pairwise (· ≠ ·)) : h = v := by
  have s := (subs_mem v h).mp q
  refine s.eq_of_length_le ?_
  exact nodup_le u a
/-- ties that cross a herd's border -/
def crB (h : List Nat) (y : Str) : Bool := decide ((ends y).1 ∈ h) != decide ((ends y).2 ∈ h)
def nx (ts : List Str) (h : List Nat) : Nat := (ts.filter (crB h)).length
def crossL (ts : List Str) (h : List Nat) : List Nat := (List.range ts.length).filter fun i => crB h (ts.getD i Str.empty)
theorem cross_len (ts : List Str) (h : List Nat) : (crossL ts h).length = nx ts h := by
  have e : (List.range ts.length).map (fun k => ts.getD k Str.empty) = ts := by
    apply List.ext_getElem?
    intro i
    rw [List.getElem?_map]
    by_cases hi : i < ts.length
    · rw [List.getElem?_range hi, List.getElem?_eq_getElem hi]
      show some (ts.getD i Str.empty) = _
      rw [List.getD_eq_getElem?_getD, List.getElem?_eq_getElem hi]
      rfl
    · rw [List.getElem?_eq_none (by simp; omega), List.getElem?_eq_none (by omega)]
      rfl
  unfold crossL nx
  conv => rhs; rw [← e]
  rw [List.filter_map, List.length_map]
  rfl
theorem nx_le (ts : List Str) (h : List Nat) : nx ts h ≤ ts.length := List.length_filter_le _ _
theorem nx_cut (ts : List Str) (h : List Nat) (k : Nat) : nx ts h ≤ nx (ts.take k ++ ts.drop (k + 1)) h + 1 := by
  unfold nx
  rw [List.filter_append, List.length_append]
  by_cases hk : k < ts.length
  · have e : ts = ts.take k ++ ts[k] :: ts.drop (k + 1) := by rw [List.getElem_cons_drop, List.take_append_drop]
    conv => lhs; rw [e]
    rw [List.filter_append, List.length_append, List.filter_cons]
    split
    · rw [List.length_cons]
      omega
    · omega
  · rw [List.take_of_length_le (by omega), List.drop_eq_nil_of_le (by omega), List.filter_nil]
    simp
/-- the herds with the first place, not of all places -/
def firstB (p h : List Nat) : Bool := decide (p.getD 0 0 ∈ h) && decide (h ≠ p)
def firsts (p : List Nat) : List (List Nat) := (subsL p).filter (firstB p)
theorem firsts_mem {p h : List Nat} : h ∈ firsts p ↔ h ∈ subsL p ∧ p.getD 0 0 ∈ h ∧ h ≠ p := by
  unfold firsts firstB
  rw [List.mem_filter, Bool.and_eq_true, decide_eq_true_eq, decide_eq_true_eq]
/-! ### marks as a function -/
def stepF (μ : Nat → Nat) (y : Nat × Nat) : Nat → Nat := fun c => if μ c = max (μ y.1) (μ y.2) then min (μ y.1) (μ y.2) else μ c
def marksF (μ : Nat → Nat) (ys : List (Nat × Nat)) : Nat → Nat := ys.foldl stepF μ
theorem mapF_getD {p : List Nat} {μ : Nat → Nat} {c : Nat} (h : c ∈ p) : (p.map μ).getD (p.idxOf c) 0 = μ c := by
  have hl : p.idxOf c < p.length := List.idxOf_lt_length_of_mem h
  rw [List.getD_eq_getElem?_getD, List.getElem?_map, List.getElem?_eq_getElem hl, List.getElem_idxOf]
  rfl
theorem stepM_F {p : List Nat} {μ : Nat → Nat} {y : Nat × Nat} (h1 : y.1 ∈ p) (h2 : y.2 ∈ p) : stepM p (p.map μ) y = p.map (stepF μ y) := by
  unfold stepM
  rw [mapF_getD h1, mapF_getD h2, List.map_map]
  rfl
theorem foldM_F {p : List Nat} : ∀ (ys : List (Nat × Nat)) (μ : Nat → Nat), (∀ y ∈ ys, y.1 ∈ p ∧ y.2 ∈ p) → ys.foldl (stepM p) (p.map μ) = p.map (marksF μ ys)
  | [], _, _ => rfl
  | y :: ys, μ, h => by
    obtain ⟨h1, h2⟩ := h y List.mem_cons_self
    rw [List.foldl_cons, stepM_F h1 h2, foldM_F ys _ fun z hz => h z (List.mem_cons_of_mem _ hz)]
    rfl
theorem marksL_F {p : List Nat} {ys : List (Nat × Nat)} (h : ∀ y ∈ ys, y.1 ∈ p ∧ y.2 ∈ p) : marksL p ys = p.map (marksF id ys) := by
  unfold marksL
  have := foldM_F (p := p) ys id h
  rw [List.map_id] at this
  exact this
theorem stepF_two (μ : Nat → Nat) (y : Nat × Nat) : stepF μ y y.1 = stepF μ y y.2 := by
  unfold stepF
  rcases Nat.le_total (μ y.1) (μ y.2) with h | h
  · rw [Nat.max_eq_right h, Nat.min_eq_left h, if_pos rfl]
    split <;> rfl
  · rw [Nat.max_eq_left h, Nat.min_eq_right h, if_pos rfl]
    split <;> rfl
theorem stepF_same {μ : Nat → Nat} {a b : Nat} (h : μ a = μ b) (y : Nat × Nat) : stepF μ y a = stepF μ y b := by
  unfold stepF
  rw [h]
theorem marksF_same {a b : Nat} : ∀ (ys : List (Nat × Nat)) (μ : Nat → Nat), μ a = μ b → marksF μ ys a = marksF μ ys b
  | [], _, h => h
  | y :: ys, μ, h => marksF_same ys (stepF μ y) (stepF_same h y)
theorem marksF_ends : ∀ (ys : List (Nat × Nat)) (μ : Nat → Nat), ∀ y ∈ ys, marksF μ ys y.1 = marksF μ ys y.2
  | z :: ys, μ, y, hy => by
    rcases List.mem_cons.mp hy with rfl | hy
    · exact marksF_same ys _ (stepF_two μ _)
    · exact marksF_ends ys _ y hy
theorem stepF_in {h : List Nat} {μ : Nat → Nat} (i : ∀ c, c ∈ h ↔ μ c ∈ h) {y : Nat × Nat} (e : y.1 ∈ h ↔ y.2 ∈ h) : ∀ c, c ∈ h ↔ stepF μ y c ∈ h := fun c => by
  have e2 : μ y.1 ∈ h ↔ μ y.2 ∈ h := (i _).symm.trans (e.trans (i _))
  unfold stepF
  split
  · rename_i q
    rw [i c, q]
    rcases Nat.le_total (μ y.1) (μ y.2) with l | l
    · rw [Nat.max_eq_right l, Nat.min_eq_left l]
      exact e2.symm
    · rw [Nat.max_eq_left l, Nat.min_eq_right l]
      exact e2
  · exact i c
theorem marksF_in {h : List Nat} : ∀ (ys : List (Nat × Nat)) (μ : Nat → Nat), (∀ c, c ∈ h ↔ μ c ∈ h) → (∀ y ∈ ys, (y.1 ∈ h ↔ y.2 ∈ h)) → ∀ c, c ∈ h ↔ marksF μ ys c ∈ h
  | [], _, i, _ => i
  | y :: ys, μ, i, e => marksF_in ys _ (stepF_in i (e y List.mem_cons_self)) fun z hz => e z (List.mem_cons_of_mem _ hz)
theorem stepF_low {p : List Nat} {μ : Nat → Nat} (i : ∀ c ∈ p, μ c ∈ p ∧ μ c ≤ c) {y : Nat × Nat} (h1 : y.1 ∈ p) (h2 : y.2 ∈ p) : ∀ c ∈ p, stepF μ y c ∈ p ∧ stepF μ y c ≤ c := fun c hc => by
  have a := i _ h1
  have b := i _ h2
  have d := i c hc
  unfold stepF
  split
  · rename_i q
    rcases Nat.le_total (μ y.1) (μ y.2) with l | l
    · rw [Nat.max_eq_right l] at q
      rw [Nat.min_eq_left l]
      exact ⟨a.1, by omega⟩
    · rw [Nat.max_eq_left l] at q
      rw [Nat.min_eq_right l]
      exact ⟨b.1, by omega⟩
  · exact d
theorem marksF_low {p : List Nat} : ∀ (ys : List (Nat × Nat)) (μ : Nat → Nat), (∀ c ∈ p, μ c ∈ p ∧ μ c ≤ c) → (∀ y ∈ ys, y.1 ∈ p ∧ y.2 ∈ p) → ∀ c ∈ p, marksF μ ys c ∈ p ∧ marksF μ ys c ≤ c
  | [], _, i, _ => i
  | y :: ys, μ, i, e => marksF_low ys _ (stepF_low i (e y List.mem_cons_self).1 (e y List.mem_cons_self).2) fun z hz => e z (List.mem_cons_of_mem _ hz)
/-- all places have the first one as their mark -/
def wholeB (p : List Nat) (ts : List Str) : Bool := decide (marksL p (ts.map ends) = List.replicate p.length (p.getD 0 0))
theorem first_in {p : List Nat} (h : 1 ≤ p.length) : p.getD 0 0 ∈ p := by
  rw [List.getD_eq_getElem?_getD, List.getElem?_eq_getElem (by omega)]
  exact List.getElem_mem _
theorem first_low {p : List Nat} (asc : p.Pairwise (· < ·)) {c : Nat} (hc : c ∈ p) : p.getD 0 0 ≤ c := by
  cases p with
  | nil => cases hc
  | cons a p =>
    show a ≤ c
    rcases List.mem_cons.mp hc with e | h
    · omega
    · exact Nat.le_of_lt ((List.pairwise_cons.mp asc).1 c h)
theorem whole_iff {p : List Nat} {ts : List Str} (one : 1 ≤ p.length) (asc : p.Pairwise (· < ·)) (he : ∀ y ∈ ts, (ends y).1 ∈ p ∧ (ends y).2 ∈ p) : wholeB p ts = true ↔ ∀ h ∈ firsts p, 1 ≤ nx ts h := by
  have hy : ∀ y ∈ ts.map ends, y.1 ∈ p ∧ y.2 ∈ p := fun y hy => by
    obtain ⟨z, hz, rfl⟩ := List.mem_map.mp hy
    exact he z hz
  have low := marksF_low (p := p) (ts.map ends) id (fun c hc => ⟨hc, Nat.le_refl _⟩) hy
  have f0 := first_in one
  have m0 : marksF id (ts.map ends) (p.getD 0 0) = p.getD 0 0 := Nat.le_antisymm (low _ f0).2 (first_low asc (low _ f0).1)
  have key : wholeB p ts = true ↔ ∀ c ∈ p, marksF id (ts.map ends) c = p.getD 0 0 := by
    unfold wholeB
    rw [decide_eq_true_eq, marksL_F hy]
    constructor
    · intro e c hc
      have : marksF id (ts.map ends) c ∈ List.replicate p.length (p.getD 0 0) := e ▸ List.mem_map_of_mem hc
      exact List.eq_of_mem_replicate this
    · intro e
      rw [List.map_congr_left (g := fun _ => p.getD 0 0) e]
      exact List.map_const'
  rw [key]
  constructor
  · intro w h hh
    obtain ⟨h1, h2, h3⟩ := firsts_mem.mp hh
    refine Nat.one_le_iff_ne_zero.mpr fun z => h3 ?_
    have nox : ∀ y ∈ ts.map ends, (y.1 ∈ h ↔ y.2 ∈ h) := fun y hy => by
      obtain ⟨t, ht, rfl⟩ := List.mem_map.mp hy
      have f : crB h t = false := by
        cases q : crB h t with
        | false => rfl
        | true =>
          have : t ∈ ts.filter (crB h) := List.mem_filter.mpr ⟨ht, q⟩
          rw [List.eq_nil_of_length_eq_zero z] at this
          cases this
      unfold crB at f
      rw [bne_eq_false_iff_eq, decide_eq_decide] at f
      exact f
    have inv := marksF_in (h := h) (ts.map ends) id (fun c => Iff.rfl) nox
    exact subs_all h1 (fun c hc => (inv c).mpr (by rw [w c hc]; exact h2)) (asc.imp fun q => Nat.ne_of_lt q)
  · intro w c hc
    refine Decidable.byContradiction fun ne => ?_
    have hm : (p.filter fun d => decide (marksF id (ts.map ends) d = p.getD 0 0)) ∈ firsts p := by
      refine firsts_mem.mpr ⟨(subs_mem _ _).mpr List.filter_sublist, List.mem_filter.mpr ⟨f0, decide_eq_true m0⟩, fun e => ?_⟩
      have : c ∈ p.filter fun d => decide (marksF id (ts.map ends) d = p.getD 0 0) := e.symm ▸ hc
      exact ne (of_decide_eq_true (List.mem_filter.mp this).2)
    have := w _ hm
    have z : nx ts (p.filter fun d => decide (marksF id (ts.map ends) d = p.getD 0 0)) = 0 := by
      unfold nx
      rw [List.length_eq_zero_iff, List.filter_eq_nil_iff]
      intro y hy q
      have e := marksF_ends (ts.map ends) id (ends y) (List.mem_map_of_mem hy)
      obtain ⟨m1, m2⟩ := he y hy
      unfold crB at q
      rw [bne_iff_ne] at q
      refine q (decide_eq_decide.mpr ?_)
      rw [List.mem_filter, List.mem_filter, decide_eq_true_eq, decide_eq_true_eq, e]
      exact ⟨fun a => ⟨m2, a.2⟩, fun a => ⟨m1, a.2⟩⟩
    omega
/-! ### the least of some numbers -/
def minZ : List Int → Int
  | [] => 0
  | n :: ns => ns.foldl min n
theorem foldl_min : ∀ (ns : List Int) (n : Int), (ns.foldl min n = n ∨ ns.foldl min n ∈ ns) ∧ ns.foldl min n ≤ n ∧ ∀ x ∈ ns, ns.foldl min n ≤ x
  | [], n => ⟨.inl rfl, Int.le_refl _, fun x hx => by cases hx⟩
  | m :: ns, n => by
    obtain ⟨h1, h2, h3⟩ := foldl_min ns (min n m)
    rw [List.foldl_cons]
    have a : min n m ≤ n := Int.min_le_left n m
    have b : min n m ≤ m := Int.min_le_right n m
    refine ⟨?_, by omega, fun x hx => ?_⟩
    · rcases h1 with e | e
      · rw [e]
        by_cases q : n ≤ m
        · exact .inl (Int.min_eq_left q)
        · rw [Int.min_eq_right (by omega)]
          exact .inr List.mem_cons_self
      · exact .inr (List.mem_cons_of_mem _ e)
    · rcases List.mem_cons.mp hx with rfl | hx
      · omega
      · exact h3 x hx
theorem minZ_in {l : List Int} (h : l ≠ []) : minZ l ∈ l ∧ ∀ x ∈ l, minZ l ≤ x := by
  cases l with
  | nil => exact absurd rfl h
  | cons n ns =>
    obtain ⟨h1, h2, h3⟩ := foldl_min ns n
    refine ⟨?_, fun x hx => ?_⟩
    · rcases h1 with e | e
      · show ns.foldl min n ∈ _
        rw [e]
        exact List.mem_cons_self
      · exact List.mem_cons_of_mem _ e
    · rcases List.mem_cons.mp hx with rfl | hx
      · exact h2
      · exact h3 x hx
theorem minZ_one {l : List Int} {m : Int} (h : m ∈ l) (k : ∀ x ∈ l, m ≤ x) : minZ l = m := by
  obtain ⟨a, b⟩ := minZ_in (l := l) (fun e => by rw [e] at h; cases h)
  have := b m h
  have := k _ a
  omega
theorem minZ_same {l m : List Int} (h : l ≠ []) (e : ∀ x, x ∈ l ↔ x ∈ m) : minZ m = minZ l := by
  obtain ⟨a, b⟩ := minZ_in h
  exact minZ_one ((e _).mp a) fun x hx => b x ((e x).mpr hx)
/-! ### the least of some data, the order of herds -/
theorem dle_total {β : Type} (k : β → PyData) : TotalLe (dataLe false k) := sortLe_total _ _ _
theorem minD_least : ∀ (pr : List PyData) (p0 : PyData), (∀ q, (q = p0 ∨ q ∈ pr) → dataLt q (minD p0 pr) = false) ∧ (minD p0 pr = p0 ∨ minD p0 pr ∈ pr) := by
  have tr : ∀ a b c : PyData, dataLt b a = false → dataLt c b = false → dataLt c a = false := fun a b c h1 h2 => by
    have := (dle_total (id : PyData → PyData)).trans a b c (by show (!dataLt b a) = true; rw [h1]; rfl) (by show (!dataLt c b) = true; rw [h2]; rfl)
    have this : (!dataLt c a) = true := this
    rwa [Bool.not_eq_true'] at this
  have as : ∀ a b : PyData, dataLt a b = true → dataLt b a = false := fun a b h => by
    rcases (dle_total (id : PyData → PyData)).total a b with q | q
    · have q : (!dataLt b a) = true := q
      rwa [Bool.not_eq_true'] at q
    · have q : (!dataLt a b) = true := q
      rw [h] at q
      cases q
  have rf : ∀ a : PyData, dataLt a a = false := fun a => by
    cases q : dataLt a a with
    | false => rfl
    | true =>
      have := as a a q
      rw [q] at this
      cases this
  intro pr
  induction pr with
  | nil =>
    intro p0
    refine ⟨fun q hq => ?_, .inl rfl⟩
    rcases hq with rfl | hq
    · exact rf _
    · cases hq
  | cons y pr ih =>
    intro p0
    obtain ⟨h1, h2⟩ := ih (if dataLt y p0 then y else p0)
    have e : minD p0 (y :: pr) = minD (if dataLt y p0 then y else p0) pr := rfl
    rw [e]
    refine ⟨fun q hq => ?_, ?_⟩
    · have top := h1 _ (.inl rfl)
      rcases hq with rfl | hq
      · cases c : dataLt y q with
        | false => rw [c] at top; exact top
        | true =>
          rw [c, if_pos rfl] at top
          rw [if_pos rfl]
          exact tr _ _ _ top (as _ _ c)
      · rcases List.mem_cons.mp hq with rfl | hq
        · cases c : dataLt q p0 with
          | true => rw [c] at top; exact top
          | false =>
            rw [c, if_neg Bool.false_ne_true] at top
            rw [if_neg Bool.false_ne_true]
            exact tr _ _ _ top c
        · exact h1 q (.inr hq)
    · rcases h2 with e2 | e2
      · rw [e2]
        cases dataLt y p0
        · exact .inl rfl
        · exact .inr List.mem_cons_self
      · exact .inr (List.mem_cons_of_mem _ e2)
theorem lt_first {x y : Int} {xs ys : List PyData} (h : x < y) : dataLt (.tuple (.int x :: xs)) (.tuple (.int y :: ys)) = true := by
  rw [dataLt_tuple, dataLt_cons (by unfold alike; rfl)]
  have ne : PyData.eqv (.int x) (.int y) = false := by
    unfold PyData.eqv
    exact decide_eq_false (by omega)
  rw [ne, if_neg Bool.false_ne_true, dataLt_int]
  exact decide_eq_true h
theorem sort_filter {α : Type} {le : α → α → Bool} (T : TotalLe le) (q : α → Bool) (l : List α) : (l.mergeSort le).filter q = (l.filter q).mergeSort le := by
  refine sort_unique T ((sort_pairwise T l).filter _) fun c => ?_
  rw [List.filter_filter, List.filter_filter]
  have e := sort_stable T l c
  have a : ∀ m : List α, m.filter (fun a => sameRank le c a && q a) = (m.filter (sameRank le c)).filter q := fun m => by
    rw [List.filter_filter]
    exact List.filter_congr fun x _ => Bool.and_comm _ _
  rw [a, a, e]
/-- herds by the number of their places, then in the order of strings -/
def pK (h : List Nat) : PyData := .tuple [.int (h.length : Nat), .str (toS h)]
abbrev byH : List Nat → List Nat → Bool := dataLe false pK
end K10

set_option Elab.async false
set_option linter.all false
set_option maxRecDepth 100000
namespace DL
open PySem PySem.Spec PyProof.Rows L2
/-! ### a text times a number -/
def rMulS : R2 := fun x y H Q => ∃ (z : Str) (n : Int), x = .str z ∧ y = .int n ∧ MulOk z n ∧ Q (.str (Txt.mul z n)) H
theorem op_mulS {X : Cx} : OpR X (binaryOp .Mult) rMulS := by
  intro pins s σ H x y v u Q I rx ry h
  obtain ⟨z, n, rfl, rfl, ok, q⟩ := h
  obtain ⟨t, rfl⟩ := rx
  obtain ⟨t2, rfl⟩ := ry
  exact SB.mul ok fun t' k => ⟨.str (Txt.mul z n), H, I.tok k, ⟨t', rfl⟩, q⟩
def gMulS : G2 := fun x y μ R => ∃ (z : Str) (n : Int), x = .str z ∧ y = .int n ∧ MulOk z n ∧ R (.str (Txt.mul z n)) μ
theorem sim_mulS {K : PySem.W.Frag} : SimO K rMulS gMulS := fun x y dx dy H μ Q R rm rx ry q f => by
  obtain ⟨z, n, rfl, rfl, ok, q⟩ := q
  exact ⟨z, n, rep_str rx, rep_int ry, ok, fw_now rm to_str q f⟩
theorem join_ones (c : Nat) : ∀ (n : Nat) (a : Array Nat), (List.replicate n #[c]).foldl (· ++ ·) a = a ++ (List.replicate n c).toArray
  | 0, a => by simp
  | n + 1, a => by
    rw [List.replicate_succ, List.foldl_cons, join_ones c n, List.replicate_succ]
    apply Array.ext'
    simp
theorem mul_sign (c n : Nat) : Txt.mul ⟨#[c]⟩ (n : Int) = ⟨(List.replicate n c).toArray⟩ := by
  unfold Txt.mul
  by_cases h : (n : Int) < 1
  · rw [if_pos h]
    have e : n = 0 := by omega
    subst e
    rfl
  · rw [if_neg h]
    by_cases h1 : n = 1
    · subst h1
      rfl
    · have f : ((n : Int) == 1 || (⟨#[c]⟩ : Str).length == 0) = false := by
        have : ((n : Int) == 1) = false := beq_eq_false_iff_ne.mpr (by omega)
        rw [this]
        rfl
      rw [if_neg (by rw [f]; exact Bool.false_ne_true), Int.toNat_natCast]
      congr 1
      rw [join_ones]
      simp
theorem mul_fine {c n : Nat} (h : n ≤ 1000) : MulOk ⟨#[c]⟩ (n : Int) := by
  have l : (⟨#[c]⟩ : Str).length = 1 := rfl
  refine ⟨?_, fun h1 _ => ?_, fun _ _ => ?_⟩
  · rw [decide_eq_false (by omega), decide_eq_false (by omega)]
    rfl
  · rw [l]
    have : (n : Int) ≤ 2 ^ 63 - 1 := by omega
    have q : (1 : Int) ≤ (2 ^ 63 - 1) / (n : Int) := by
      rw [Int.le_ediv_iff_mul_le (by omega)]
      omega
    omega
  · rw [l]
    unfold Builtin.Str.tooLong sizeLine
    exact decide_eq_false (by omega)
end DL

set_option Elab.async false
set_option linter.all false
set_option maxRecDepth 100000
namespace K10
open PySem PySem.Spec PyProof.Rows L2 DL
section
variable {P : Program} {w : World} {K : PySem.W.Frag} {mg : Str → Option Value} {base : Heap} {A : Ad}

/-! ### herds, ties that cross -/
def dHerd (h : List Nat) : D := .str (toS h)
theorem cutL {ds : List D} {e : Nat} (h : e ≤ ds.length) : DL.cutD ds none (some (e : Int)) = ds.take e := by
  unfold DL.cutD
  rw [HT.sIx_nat, HT.sIx_none, List.drop_zero, Nat.min_eq_left h, Nat.sub_zero]
theorem cutR {ds : List D} {e : Nat} (h : e ≤ ds.length) : DL.cutD ds (some (e : Int)) none = ds.drop e := by
  unfold DL.cutD
  rw [HT.sIx_nat, HT.sIx_none, Nat.min_eq_left h]
  exact List.take_of_length_le (by rw [List.length_drop]; exact Nat.le_refl _)
theorem toS_inj {a b : List Nat} (h : toS a = toS b) : a = b := by
  have := congrArg (fun z : Str => z.cps.toList) h
  simpa [toS] using this
theorem toS_add (h : List Nat) (c : Nat) : toS h ++ (⟨#[c]⟩ : Str) = toS (h ++ [c]) := by
  show (⟨h.toArray ++ #[c]⟩ : Str) = ⟨(h ++ [c]).toArray⟩
  congr 1
  simp
def addC (c : Nat) : D → D
  | .str z => .str (z ++ ⟨#[c]⟩)
  | d => d
theorem signs_at {p : List Nat} {i : Nat} {x : D} (h : (DL.signs (toS p))[i]? = some x) : ∃ c, p[i]? = some c ∧ x = .str ⟨#[c]⟩ := by
  unfold DL.signs at h
  rw [List.getElem?_map, toS_list] at h
  cases e : p[i]? with
  | none => rw [e] at h; cases h
  | some c =>
    rw [e] at h
    exact ⟨c, rfl, (Option.some.inj h).symm⟩
theorem signs_len (p : List Nat) : (DL.signs (toS p)).length = p.length := by
  unfold DL.signs
  rw [List.length_map, toS_list]
theorem all_ends (ts : List Str) : tiesOf ts (List.range ts.length) = ts.map ends := by
  unfold tiesOf
  apply List.ext_getElem?
  intro i
  rw [List.getElem?_map, List.getElem?_map]
  by_cases hi : i < ts.length
  · rw [List.getElem?_range hi, List.getElem?_eq_getElem hi]
    show some (ends (ts.getD i Str.empty)) = some (ends ts[i])
    rw [List.getD_eq_getElem?_getD, List.getElem?_eq_getElem hi]
    rfl
  · rw [List.getElem?_eq_none (by simp; omega), List.getElem?_eq_none (by omega)]
    rfl
theorem cross_more {ts : List Str} {hh : List Nat} {i : Nat} {y : Str} (h : ts[i]? = some y) : crossL (ts.take (i + 1)) hh = crossL (ts.take i) hh ++ if crB hh y = true then [i] else [] := by
  have hi : i < ts.length := (List.getElem?_eq_some_iff.mp h).1
  unfold crossL
  have l1 : (ts.take (i + 1)).length = i + 1 := by rw [List.length_take]; omega
  have l0 : (ts.take i).length = i := by rw [List.length_take]; omega
  rw [l1, l0, List.range_succ, List.filter_append]
  congr 1
  · refine List.filter_congr fun k hk => ?_
    have hk := List.mem_range.mp hk
    rw [List.getD_eq_getElem?_getD, List.getD_eq_getElem?_getD, List.getElem?_take, List.getElem?_take, if_pos (by omega), if_pos hk]
  · have e : (ts.take (i + 1)).getD i Str.empty = y := by
      rw [List.getD_eq_getElem?_getD, List.getElem?_take, if_pos (by omega), h]
      rfl
    rw [List.filter_cons, e, List.filter_nil]
def g_is_place (C : Addr) : GC := fun ds μ R => ∃ (p : List Nat) (ts : List Str) (c : Nat), ds = [dWeb C p ts, .str (sg c)] ∧ c ∈ p ∧ R (.bl true) μ
def g_check_place (C : Addr) : GC := fun ds μ R => ∃ (p : List Nat) (ts : List Str) (c : Nat), ds = [dWeb C p ts, .str (sg c)] ∧ c ∈ p ∧ R .non μ
def g_check_ends (C : Addr) : GC := fun ds μ R => ∃ (p : List Nat) (ts : List Str) (c d : Nat), ds = [dWeb C p ts, .str (sg c), .str (sg d)] ∧ c ∈ p ∧ d ∈ p ∧ c ≠ d ∧ R .non μ

def g_cut (C : Addr) : GC := fun ds μ R => ∃ (p : List Nat) (ts : List Str) (k : Nat), ds = [dWeb C p ts, .int (k : Nat)] ∧ OkPlaces p ∧ OkTies p ts ∧ k < ts.length ∧ R (dWeb C p (ts.take k ++ ts.drop (k + 1))) μ

def g_is_whole (C : Addr) : GC := fun ds μ R => ∃ (p : List Nat) (ts : List Str), ds = [dWeb C p ts] ∧ OkWeb p ts ∧ 1 ≤ p.length ∧ R (.bl (wholeB p ts)) μ

def g_all_herds (C : Addr) : GC := fun ds μ R => ∃ (p : List Nat) (ts : List Str), ds = [dWeb C p ts] ∧ p.length ≤ 8 ∧ R (.lst ((subsL p).map dHerd)) μ

def g_crossing (C : Addr) : GC := fun ds μ R => ∃ (p : List Nat) (ts : List Str) (h : List Nat), ds = [dWeb C p ts, dHerd h] ∧ OkWeb p ts ∧ R (dLot (crossL ts h)) μ
end
end K10

set_option Elab.async false
set_option linter.all false
set_option maxRecDepth 100000
namespace DL
open PySem PySem.Spec PyProof.Rows L2
/-! ### a cell that nobody changes any more goes on as a plain list, before a statement -/
theorem repS_turn {K : PySem.W.Frag} {H : Hp} {μ μ' : Mu} {d d' : D} (k : Kp H μ H μ') (t : ∀ v, Rep K H μ d v → Rep K H μ' d' v) : ∀ (δ : DS) (i : Nat) (σ : L2.St), RepS K H μ δ σ → δ[i]? = some (some d) → RepS K H μ' (δ.set i (some d')) σ
  | [], _, _, _, h => by cases h
  | x :: δ, 0, σ, r, h => by
    have h : x = some d := Option.some.inj h
    subst h
    obtain ⟨v, tl, e, rv, rs⟩ := r
    exact ⟨v, tl, e, t v rv, rs.mono k⟩
  | none :: δ, i + 1, σ, r, h => by
    obtain ⟨o, tl, e, rs⟩ := r
    exact ⟨o, tl, e, repS_turn k t δ i tl rs h⟩
  | some x :: δ, i + 1, σ, r, h => by
    obtain ⟨v, tl, e, rv, rs⟩ := r
    exact ⟨v, tl, e, rv.mono k, repS_turn k t δ i tl rs h⟩
def gSeal (i : Nat) (g : GS) : GS := fun F δ μ => ∃ a ds, δ[i]? = some (some (.adr a)) ∧ μ a = some (.lst ds) ∧ g F (δ.set i (some (.lst ds))) (del μ a)
theorem ds_seal {X : Cx} {st : Stmt} {g : GS} (i : Nat) (h : DSt X st g) : DSt X st (gSeal i g) := by
  obtain ⟨t, a1, a2⟩ := h.ex
  refine ⟨_, a1, fun σ H δ μ E F rm rs e q => ?_⟩
  obtain ⟨a, ds, hi, ha, q⟩ := q
  refine a2 σ H (δ.set i (some (.lst ds))) (del μ a) E F rm.drop ?_ (e.re Kp.drop) q
  exact repS_turn Kp.drop (fun v rv => ((Into.frz ha).ok X.K H v rm rv).2.2) δ i σ rs hi
/-! ### range of two numbers -/
def gRange2 (g : GA) : GI := fun δ μ R => g δ μ fun ds μ1 => ∃ i j : Int, ds = [.int i, .int j] ∧ (-(2 ^ 62) ≤ i ∧ i < 2 ^ 62 ∧ -(2 ^ 62) ≤ j ∧ j < 2 ^ 62) ∧ R ((List.range (j - i).toNat).map fun k => D.int (i + (k : Nat))) μ1
theorem di_range2 {X : Cx} {tg a b : Expr} {ga : GA} {p pos : Pos} (hg : Gl X "range") (hm : X.mg "range" = none) (h : DA X [a, b] ga) (hs : starEach [a, b] X.env = [(false, eval a X.env), (false, eval b X.env)] := by rfl) (hs2 : starEach [b] X.env = [(false, eval b X.env)] := by rfl) :
    DI X tg (.Call (.Name "range" p) [a, b] [] pos) (gRange2 ga) := by
  obtain ⟨t, a1, a2⟩ := h.ex
  refine ⟨_, pi_range2 hg hm a1 hs hs2, fun σ H δ μ Q R rm rs q f => ?_⟩
  refine a2 σ H δ μ _ _ rm rs q fun vs ds H1 μ1 k1 rm1 r1 ⟨i, j, ed, hz, q1⟩ => ?_
  subst ed
  unfold RepL at r1
  obtain ⟨v, r, rfl, r2, r3⟩ := r1
  unfold RepL at r3
  obtain ⟨v2, r4, rfl, r5, r6⟩ := r3
  unfold RepL at r6
  unfold Rep at r2 r5
  subst r2 r5 r6
  refine ⟨i, j, rfl, hz, f _ _ H1 μ1 k1 rm1 ?_ q1⟩
  have e : (j - i).toNat = ((List.range (j - i).toNat).map fun k => D.int (i + (k : Nat))).length := by simp
  rw [WalkD, ← e]
  refine (walk_range (lo := i) (n := (j - i).toNat)).mono (fun H' _ => True.intro) fun k H' y H2 hi _ ⟨e1, e2⟩ μ' k rm => ?_
  subst e1 e2
  refine ⟨.int (i + _), ?_, by unfold Rep; rfl, Kp.refl _ _, rm⟩
  rw [List.getElem?_map, List.getElem?_range hi]
  rfl
end DL

set_option Elab.async false
set_option linter.all false
set_option maxRecDepth 100000
namespace DL
open PySem PySem.Spec PyProof.Rows L2
/-! ### zip of a tuple and a list -/
def ItZTL (K : PySem.W.Frag) (a b : Addr) : It :=
  ⟨fun i H => ∃ (p : List V) (q : List V) (x y : V), SqT K H a p ∧ SqL K H b q ∧ p[i]? = some x ∧ q[i]? = some y,
    fun i H v H' => ∃ T x y, v = .ref T ∧ H T = none ∧ H' = upd H T (.tup [x, y]) ∧ (∀ p, SqT K H a p → p[i]? = some x) ∧ ∀ q, SqL K H b q → q[i]? = some y,
    fun i H => ∃ p q : List V, SqT K H a p ∧ SqL K H b q ∧ i ≤ p.length ∧ i ≤ q.length ∧ (i = p.length ∨ i = q.length)⟩
theorem turn_zipTL {P : Program} {w : World} {K : PySem.W.Frag} {elts : List Expr} {kk : Nat} {tpos : Pos} {a b z ti tu i1 i2 : Addr} (D : ZipSep2 z ti tu i1 i2 [i1, a] [i2, b]) (na : a ≠ i1) (nb : b ≠ i2) :
    Turn P w K (.Tuple elts kk tpos) (ItZTL K a b) [z, ti, tu, i1, i2] z (fun i h => IsZip h z ti tu .none ∧ IsTupOf2 h ti (.ref i1) (.ref i2) ∧ (∃ u v, IsTupOf2 h tu u v) ∧ h.IsTupleIter i1 a i ∧ h.IsListIter i2 b i) where
  mem := by simp
  obj := fun i h st c hc => by
    obtain ⟨gz, gti, ⟨x, y, gtu⟩, ⟨o1, e1, _, d1⟩, ⟨o2, e2, _, d2⟩⟩ := st
    have ce : c = z ∨ c = ti ∨ c = tu ∨ c = i1 ∨ c = i2 := by simpa using hc
    rcases ce with q | q | q | q | q
    · rw [q]; exact ⟨_, gz, fun v q => nomatch q⟩
    · rw [q]; exact ⟨_, gti, fun v q => nomatch q⟩
    · rw [q]; exact ⟨_, gtu, fun v q => nomatch q⟩
    · rw [q]; exact ⟨o1, e1, fun v q => by rw [d1] at q; cases q⟩
    · rw [q]; exact ⟨o2, e2, fun v q => by rw [d2] at q; cases q⟩
  keep := fun i h h' st k => by
    obtain ⟨gz, gti, ⟨x, y, gtu⟩, ⟨o1, e1, r1⟩, ⟨o2, e2, r2⟩⟩ := st
    exact ⟨k z (by simp) _ gz, k ti (by simp) _ gti, ⟨x, y, k tu (by simp) _ gtu⟩, ⟨o1, k i1 (by simp) o1 e1, r1⟩, ⟨o2, k i2 (by simp) o2 e2, r2⟩⟩
  item := by
    intro X eP ew eK hc i pn s σ H E I fr st hg
    subst eP ew eK
    obtain ⟨gz, gti, ⟨x0, y0, gtu⟩, a1, a2⟩ := st
    have zl : z < s.heap.objs.size := Heap.lt_size gz
    have hh : X.A.in1.handled = none := I.ok.hd hc
    obtain ⟨p, q, x, y, hp, hq, hx, hy⟩ := hg
    obtain ⟨vp, rp, jp, _⟩ := I.tuple hp
    obtain ⟨vq, rq, jq, _⟩ := I.list hq
    have lp := rp.length
    have lq := rq.length
    have ip : i < vp.toArray.size := by have := (List.getElem?_eq_some_iff.mp hx).1; simp; omega
    have iq : i < vq.toArray.size := by have := (List.getElem?_eq_some_iff.mp hy).1; simp; omega
    refine wpAny_pyNext_zipD2_item D (Draws.tuple hh i1 a na vp.toArray) (Draws.list hh i2 b nb vq.toArray) gz gti gtu ⟨a1, jp⟩ ⟨a2, jq.isList⟩ ip iq fun u1 u2 h' tk p1 p2 z' tu' a1' a2' hT sz hk => ?_
    have a1' := a1'.1
    have a2' := a2'.1
    obtain ⟨g1, e1, r1⟩ := rp.get hx
    obtain ⟨g2, e2, r2⟩ := rq.get hy
    have f1 : g1 = u1 := by
      have : vp.toArray[i]? = some u1 := p1
      rw [List.getElem?_toArray, e1] at this
      exact Option.some.inj this
    have f2 : g2 = u2 := by
      have : vq.toArray[i]? = some u2 := p2
      rw [List.getElem?_toArray, e2] at this
      exact Option.some.inj this
    subst f1 f2
    refine ⟨_, rfl, wpAny_letOwnedTupleGo_zip (s := { s with heap := h', toks := tk }) z' fun h'' z'' so => ?_⟩
    have hT2 : h''.get? s.heap.objs.size = some { cls := .type "tuple", data := .seq #[g1, g2] } := (so.2 _ (Nat.ne_of_gt zl)).trans hT
    have nw : ObjOk X.prog X.w (upd H s.heap.objs.size (.tup [x, y])) h'' s.heap.objs.size (.tup [x, y]) :=
      ⟨by show 2 ≤ sizeLine; decide, [g1, g2], .cons r1 (.cons r2 .nil), ⟨_, hT2, rfl, _, rfl⟩⟩
    have I1 : Inv X pn σ (upd H s.heap.objs.size (.tup [x, y])) { s with heap := h'', toks := tk } :=
      I.turnedNew (t' := tk) (ch := [z, ti, tu, i1, i2]) (fun c o hb q => (so.2 c (fun q' => hb (by simp [q']))).trans (hk c o (fun q' => hb (by simp [q'])) (fun q' => hb (by simp [q'])) (fun q' => hb (by simp [q'])) (fun q' => hb (by simp [q'])) q)) fr (Nat.le_refl _) nw
    refine ⟨.ref s.heap.objs.size, _, I1, rfl, ⟨_, x, y, rfl, I.hok.fresh (Nat.le_refl _), rfl, fun l hl => by rw [I.tuple_inj hl hp]; exact hx, fun l hl => by rw [I.list_inj hl hq]; exact hy⟩, ⟨z'', ?_, ⟨g1, g2, ?_⟩, ?_, ?_⟩, fun c mc => ?_⟩
    · exact (so.2 _ D.TIz).trans (hk _ _ D.TIz D.TITO D.TIi1 D.TIi2 gti)
    · exact (so.2 _ D.TOz).trans tu'
    · obtain ⟨o1, e1, r1⟩ := a1'
      exact ⟨o1, (so.2 _ (Ne.symm D.zi1)).trans e1, r1⟩
    · obtain ⟨o2, e2, r2⟩ := a2'
      exact ⟨o2, (so.2 _ (Ne.symm D.zi2)).trans e2, r2⟩
    · have lz : c < s.heap.objs.size := by
        have ce : c = z ∨ c = ti ∨ c = tu ∨ c = i1 ∨ c = i2 := by simpa using mc
        rcases ce with q | q | q | q | q
        · rw [q]; exact zl
        · rw [q]; exact Heap.lt_size gti
        · rw [q]; exact Heap.lt_size gtu
        · rw [q]; obtain ⟨_, e1, _⟩ := a1; exact Heap.lt_size e1
        · rw [q]; obtain ⟨_, e2, _⟩ := a2; exact Heap.lt_size e2
      rw [upd_ne (Nat.ne_of_lt lz)]
      exact (fr c mc).1
  done := by
    intro X eP ew eK hc i pn s σ H E I fr st hg
    subst eP ew eK
    obtain ⟨gz, gti, ⟨x0, y0, gtu⟩, a1, a2⟩ := st
    have hh : X.A.in1.handled = none := I.ok.hd hc
    obtain ⟨p, q, hp, hq, le1, le2, en⟩ := hg
    obtain ⟨vp, rp, jp, _⟩ := I.tuple hp
    obtain ⟨vq, rq, jq, _⟩ := I.list hq
    have lp := rp.length
    have lq := rq.length
    exact wpAny_pyNext_zipD2_end D (Draws.tuple hh i1 a na vp.toArray) (Draws.list hh i2 b nb vq.toArray) gz gti gtu ⟨a1, jp⟩ ⟨a2, jq.isList⟩ (by simp; omega) (by simp; omega) (by simp; omega) fun h' tk hk => ⟨rfl, I.turnedL (t' := tk) (ch := [z, ti, tu, i1, i2]) (fun c o hb q =>
      hk c o (fun q' => hb (by simp [q'])) (fun q' => hb (by simp [q'])) (fun q' => hb (by simp [q'])) (fun q' => hb (by simp [q'])) q) fr⟩
  self := fun A i s Q E st h => wpAny_pyIter_zip st.1 h

def iZipTL (K : PySem.W.Frag) (ta : TA) : TI := fun σ H R => ta σ H fun vs H1 => ∃ a b p q, vs = [.ref a, .ref b] ∧ SqT K H1 a p ∧ SqL K H1 b q ∧ R (ItZTL K a b) H1
theorem pi_zipTL {X : Cx} {e e2 : Expr} {ta : TA} {p pos tpos : Pos} {elts : List Expr} {kk : Nat} (hg : Gl X "zip") (hm : X.mg "zip" = none) (ha : PA X [e, e2] ta)
    (st1 : starEach [e, e2] X.env = (false, eval e X.env) :: starEach [e2] X.env := by rfl) (st2 : (backTo pos (starEach [e2] X.env)).any (·.1) = false := by rfl) :
    PI X (.Tuple elts kk tpos) (.Call (.Name "zip" p) [e, e2] [] pos) (iZipTL X.K ta) := by
  refine ⟨fun pn s σ H R I h => ?_⟩
  refine Call_ (ld_blt I hg hm PyProof.Rows.boot_zip (PyProof.Rows.callWith_type1 (thn (ha.run pos pn s σ H _ I h) fun us s1 ⟨vs, H1, I1, r1, q1⟩ => ?_) st1 st2))
  obtain ⟨a, b, p, q, ex, hp, hq, q1⟩ := q1
  subst ex
  cases r1 with
  | cons r rr =>
    cases rr with
    | cons r' rr =>
      cases rr
      cases r
      cases r'
      obtain ⟨vp, rp, jp, _⟩ := I1.tuple hp
      obtain ⟨vq, rq, jq, _⟩ := I1.list hq
      obtain ⟨oa, ja, _⟩ := id jp
      have la : a < s1.heap.objs.size := Heap.lt_size ja
      have lb : b < s1.heap.objs.size := jq.lt
      have all5 : ∀ c, c ∈ [s1.heap.objs.size + 4, s1.heap.objs.size + 2, s1.heap.objs.size + 3, s1.heap.objs.size, s1.heap.objs.size + 1] → FpOk X pn H1 c := fun c mc => by
        have ce : c = s1.heap.objs.size + 4 ∨ c = s1.heap.objs.size + 2 ∨ c = s1.heap.objs.size + 3 ∨ c = s1.heap.objs.size ∨ c = s1.heap.objs.size + 1 := by simpa using mc
        have ge : s1.heap.objs.size ≤ c := by
          rcases ce with z | z | z | z | z
          · rw [z]; exact Nat.le_add_right _ _
          · rw [z]; exact Nat.le_add_right _ _
          · rw [z]; exact Nat.le_add_right _ _
          · rw [z]; exact Nat.le_refl _
          · rw [z]; exact Nat.le_add_right _ _
        exact I1.fpOk ge (I1.hok.fresh ge)
      refine zip_begins2 (begins_tuple a vp.toArray) (begins_list b vq.toArray) jp jq.isList fun h' gz gti gtu g1 g2 sz hk => wpAny_pyIter_zip gz ?_
      have J2 : Inv X pn σ H1 { s1 with heap := h' } := I1.kept (t' := s1.toks) hk
      exact ⟨s1.heap.objs.size + 4, [s1.heap.objs.size + 4, s1.heap.objs.size + 2, s1.heap.objs.size + 3, s1.heap.objs.size, s1.heap.objs.size + 1], _, _, H1, rfl, J2,
        turn_zipTL (zip_sep2 (fun c h => by rw [List.mem_singleton.mp h]; exact la) (fun c h => by rw [List.mem_singleton.mp h]; exact lb)) (Nat.ne_of_lt la) (Nat.ne_of_lt (Nat.lt_succ_of_lt lb)), ⟨gz, gti, ⟨_, _, gtu⟩, ⟨_, g1, rfl, rfl⟩, ⟨_, g2, rfl, rfl⟩⟩, all5, q1⟩
def gZipTL (ga : GA) : GI := fun δ μ R => ga δ μ fun ds μ1 => ∃ xs ys, ds = [.tup xs, .lst ys] ∧ R (pairsL xs ys) μ1
theorem di_zipTL {X : Cx} {e e2 : Expr} {ga : GA} {p pos tpos : Pos} {elts : List Expr} {kk : Nat} (hg : Gl X "zip") (hm : X.mg "zip" = none) (h : DA X [e, e2] ga)
    (st1 : starEach [e, e2] X.env = (false, eval e X.env) :: starEach [e2] X.env := by rfl) (st2 : (backTo pos (starEach [e2] X.env)).any (·.1) = false := by rfl) :
    DI X (.Tuple elts kk tpos) (.Call (.Name "zip" p) [e, e2] [] pos) (gZipTL ga) := by
  obtain ⟨t, a1, a2⟩ := h.ex
  refine ⟨_, pi_zipTL hg hm a1 st1 st2, fun σ H δ μ Q R rm rs q f => ?_⟩
  refine a2 σ H δ μ _ _ rm rs q fun vs ds H1 μ1 k1 rm1 r1 ⟨xs, ys, ed, q1⟩ => ?_
  subst ed
  obtain ⟨v, w, rfl, r2, r3⟩ := repL2 r1
  obtain ⟨a, vx, rfl, im, rl⟩ := rep_tup r2
  obtain ⟨b, vy, rfl, hH2, hn2, rl2⟩ := rep_lst r3
  have sx : ∀ {H' μ'}, Kp H1 μ1 H' μ' → SqT X.K H' a vx := fun k => (ImT.mono k im).sq
  have sy : ∀ {H' μ'}, Kp H1 μ1 H' μ' → SqL X.K H' b vy := fun k => SqL.of (k.k1 _ _ hH2 hn2)
  have l1 := rl.length
  have l2 := rl2.length
  have hl : (pairsL xs ys).length = min vx.length vy.length := by rw [l1, l2]; simp [pairsL]
  refine ⟨a, b, vx, vy, rfl, im.sq, SqL.of hH2, f _ (pairsL xs ys) H1 μ1 k1 rm1 ?_ q1⟩
  refine ⟨fun i H' hi ⟨μ', k, _⟩ => ?_, fun H' ⟨μ', k, _⟩ => ⟨vx, vy, sx k, sy k, by omega, by omega, by omega⟩, fun i H' v H2 hi _ y => ?_⟩
  · have a1 : i < vx.length := by omega
    have a2 : i < vy.length := by omega
    exact ⟨vx, vy, vx[i], vy[i], sx k, sy k, List.getElem?_eq_getElem a1, List.getElem?_eq_getElem a2⟩
  · intro μ' k rm
    obtain ⟨T, x, z, rfl, nT, rfl, e3, e4⟩ := y
    obtain ⟨d, f3, r3⟩ := (rl.mono k).atV (e3 vx (sx k))
    obtain ⟨d2, f4, r4⟩ := (rl2.mono k).atV (e4 vy (sy k))
    have nm : μ' T = none := rm.free nT
    have k2 : Kp H' μ' (upd H' T (.tup [x, z])) μ' := Kp.new nT
    refine ⟨.tup [d, d2], ?_, ?_, k2, rm.laid nT⟩
    · unfold pairsL
      rw [List.getElem?_zipWith, f3, f4]
    · unfold Rep
      exact ⟨T, _, rfl, .inl ⟨upd_same, nm⟩, by unfold RepL; exact ⟨_, _, rfl, r3.mono k2, by unfold RepL; exact ⟨_, _, rfl, r4.mono k2, RepL.nil⟩⟩⟩
end DL

set_option Elab.async false
set_option linter.all false
set_option maxRecDepth 100000
namespace DL
open PySem PySem.Spec PyProof.Rows L2
/-! ### a plain list, some times over -/
def gMulL : G2 := fun x y μ R => ∃ (ds : List D) (k : Int), x = .lst ds ∧ y = .int k ∧ -(2 ^ 63) ≤ k ∧ k < 2 ^ 63 ∧ ds.length * k.toNat ≤ sizeLine ∧ R (.lst (List.replicate k.toNat ds).flatten) μ
theorem sim_mulL {K : PySem.W.Frag} : SimO K rRep gMulL := by
  intro x y dx dy H μ Q R rm rx ry ⟨ds, k, ex, ey, l1, l2, l3, q⟩ f
  subst ex ey
  obtain ⟨a, vs, rfl, hH, _, rl⟩ := rep_lst rx
  rw [rep_int ry]
  exact ⟨a, k, vs, rfl, rfl, hH, l1, l2, by rw [rl.length]; exact l3, fun p n => fw_lst rm n (rl.rep _) q f⟩
end DL

set_option Elab.async false
set_option linter.all false
set_option maxRecDepth 100000
namespace DL
open PySem PySem.Spec PyProof.Rows L2
/-! ### a list turned round; list(range(n)) that will change -/
theorem RepL.rev {K : PySem.W.Frag} {H : Hp} {μ : Mu} : ∀ {ds : List D} {vs : List V}, RepL K H μ ds vs → RepL K H μ ds.reverse vs.reverse
  | [], _, h => by
    unfold RepL at h
    subst h
    exact RepL.nil
  | d :: ds, _, h => by
    unfold RepL at h
    obtain ⟨v, r, rfl, h1, h2⟩ := h
    rw [List.reverse_cons, List.reverse_cons]
    exact (RepL.rev h2).append (RepL.cons h1 RepL.nil)
def gRevL (ge : GE) : GE := fun δ μ R => ge δ μ fun x μ1 => match x with
  | .lst ds => R (.lst ds.reverse) μ1
  | .seq ds => R (.lst ds.reverse) μ1
  | _ => False
theorem de_revL {X : Cx} {e : Expr} {ge : GE} {k : Nat} {p1 p2 p3 pos : Pos} (he : DE X e ge) : DE X (.Subscript e (.Slice none none (some (.UnaryOp .USub (.Constant (.int 1) k p1) p2)) p3) pos) (gRevL ge) := by
  obtain ⟨t, a1, a2⟩ := he.ex
  refine ⟨_, pe_revL a1, fun σ H δ μ Q R rm rs q f => ?_⟩
  refine a2 σ H δ μ _ _ rm rs q fun v d H1 μ1 k1 rm1 r1 q1 => ?_
  cases d <;> try exact False.elim q1
  · obtain ⟨a, vs, rfl, e1, e2, rl⟩ := rep_lst r1
    exact ⟨a, vs, rfl, SqL.of e1, fun p n => fw_lst rm1 n rl.rev q1 (f.re k1)⟩
  · unfold Rep at r1
    obtain ⟨a, vs, rfl, im, rl⟩ := r1
    exact ⟨a, vs, rfl, im.sq, fun p n => fw_lst rm1 n rl.rev q1 (f.re k1)⟩
def gLstRgC (g : GE) : GE := fun δ μ R => g δ μ fun d μ1 => match d with
  | .int i => ∃ n : Nat, i = n ∧ n ≤ 16777216 ∧ ∀ a, μ1 a = none → R (.adr a) (put μ1 a (.lst (upTo n)))
  | _ => False
section
variable {X : Cx} {a : Expr} {ga : GE} {p p2 pos q : Pos}
theorem de_lstRgC (hc : X.calm = true) (hg : Gl X "list") (hm : X.mg "list" = none) (hg2 : Gl X "range") (hm2 : X.mg "range" = none) (ha : DE X a ga) (n1 : starEach [a] X.env = (false, eval a X.env) :: starEach [] X.env := by rfl)
    (n2 : starEach [.Call (.Name "range" p2) [a] [] q] X.env = (false, eval (.Call (.Name "range" p2) [a] [] q) X.env) :: starEach [] X.env := by rfl) : DE X (.Call (.Name "list" p) [.Call (.Name "range" p2) [a] [] q] [] pos) (gLstRgC ga) := by
  obtain ⟨t, a1, a2⟩ := ha.ex
  refine ⟨_, pe_listRg hc hg hm (prg_1 hg2 hm2 a1 n1) n2, fun σ H δ μ Q R rm rs q f => ?_⟩
  refine a2 σ H δ μ _ _ rm rs q fun v d H1 μ1 k1 rm1 r1 q1 => ?_
  cases d <;> try exact False.elim q1
  obtain ⟨n, rfl, hn, q1⟩ := q1
  refine ⟨(n : Int), rep_int r1, RgOk.of_le (by omega) (by omega) (by omega) (by omega), fun c nc => ?_⟩
  exact fw_cell rm1 nc upTo_rep q1 (f.re k1)
end
end DL

set_option Elab.async false
set_option linter.all false
set_option maxRecDepth 100000
namespace DL
open PySem PySem.Spec PyProof.Rows L2
/-! ### a text of two signs unpacked: two new texts, their tokens told -/
section
variable {prog : Program} {w : World} {A : Around} {E : Value → Shared → Prop} {s : Shared}
theorem two_drawn {x : Str} {t : Tok} {c0 c1 : Nat} {Q : List Value → Shared → Prop} (hh : A.handled = none) (hx : x.cps = #[c0, c1]) (low : x.cps.all (· < 128) = true)
    (fin : ∀ h', (∀ b o, s.heap.get? b = some o → h'.get? b = some o) → Q [.str ⟨#[c0]⟩ s.toks, .str ⟨#[c1]⟩ (s.toks + 1)] { s with heap := h', toks := s.toks + 1 + 1 }) :
    wpAny (model prog w) A (unpackItems (.str x t) 2 none) Q E s := by
  unfold unpackItems
  refine wpAny_bind ?_
  unfold notIterableAtAll
  refine wpAny_bind (wpAny_specialOf (typeIs_str s x t) F.slot_str_iter.lookup ?_)
  refine wpAny_pure ?_
  simp only [Bool.false_eq_true, if_false]
  refine wpAny_bind (wpAny_holding (wpAny_pyIter_ascii low ?_))
  obtain ⟨I, eI⟩ : ∃ I, s.heap.objs.size = I := ⟨_, rfl⟩
  rw [eI]
  have st : (s.heap.push { cls := .type "str_ascii_iterator", data := .fields #[.str x t, .int 0 0] }).IsStrIter I "str_ascii_iterator" x t 0 := by
    rw [← eI]
    exact ⟨_, Heap.get?_push_size _ rfl, rfl, rfl⟩
  refine wpAny_bind (wpAny_holding ?_)
  show wpAny _ _ (pyNext (.ref I) >>= _) _ _ _
  refine wpAny_bind (wpAny_pyNext_ascii_item (i := 0) (c := c0) st (by rw [hx]; rfl) fun h1 st1 b1 => ?_)
  refine wpAny_bind (wpAny_holding ?_)
  show wpAny _ _ (pyNext (.ref I) >>= _) _ _ _
  refine wpAny_bind (wpAny_pyNext_ascii_item (i := 1) (c := c1) st1 (by rw [hx]; rfl) fun h2 st2 b2 => ?_)
  refine wpAny_bind (wpAny_holding (wpAny_pure (wpAny_pure (wpAny_pure ?_))))
  simp only [List.length_cons, List.length_nil, Nat.lt_irrefl, if_false]
  refine wpAny_bind (wpAny_holding (wpAny_pyNext_ascii_end hh st2 (by rw [hx]; rfl) fun h3 b3 => ?_))
  simp only [Option.isSome_none, Bool.false_eq_true, if_false]
  refine wpAny_pure (fin h3 fun b o e => ?_)
  have nb : b ≠ I := by
    rw [← eI]
    exact Nat.ne_of_lt (Heap.lt_size e)
  exact b3 b o nb ((b2.2 b nb).trans ((b1.2 b nb).trans (Heap.get?_push_of_some _ e)))
theorem two_unpacked {x : Str} {t : Tok} {c0 c1 : Nat} {Q : Unit → Shared → Prop} {env : Env} {e0 e1 : Expr} {k} {pos : Pos} (hh : A.handled = none) (hx : x.cps = #[c0, c1]) (low : x.cps.all (· < 128) = true)
    (two : assignEach [e0, e1] env = [(false, assign e0 env), (false, assign e1 env)])
    (fin : ∀ h', (∀ b o, s.heap.get? b = some o → h'.get? b = some o) → wpAny (model prog w) A (assign e0 env (.str ⟨#[c0]⟩ s.toks)) (fun _ s1 => wpAny (model prog w) A (assign e1 env (.str ⟨#[c1]⟩ (s.toks + 1))) Q E s1) E { s with heap := h', toks := s.toks + 1 + 1 }) :
    wpAny (model prog w) A (assign (.Tuple [e0, e1] k pos) env (.str x t)) Q E s := by
  rw [assign_Tuple]
  refine wpAny_bind (wpAny_standAt ?_)
  unfold unpack
  rw [two]
  refine wpAny_bind (wpAny_holding (two_drawn hh hx low fun h' kp => ?_))
  refine assignInOrder_cons (wpAny_mono (fin h' kp) (fun _ s1 z => assignInOrder_cons (wpAny_mono z (fun _ s2 z2 => assignInOrder_nil z2) fun _ _ y => y)) fun _ _ y => y)
end
section
variable {X : Cx} {pins : List (Addr × Obj)} {σ : L2.St} {H : Hp} {s : Shared} {E : Value → Shared → Prop}
/-- a name whose cell the block's callee does not reach is stored: what the cell holds -/
theorem store_cl {M : Model} {A : Around} {i : Nat} {x : Str} {v : V} {u : Value} {c : Addr} {Q : Unit → Shared → Prop} (I : L2.Inv X pins σ H s) (hN : X.N.Nodup) (hi : X.N[i]? = some x) (hk : X.env.scope.names.lookup x = some .cell) (fn : X.fn x = true) (r : RelV v u)
    (hc : X.env.cells.lookup x = some c) (h : ∀ h', L2.Inv X pins (σ.set i (some v)) H { s with heap := h' } → h'.IsCell c (some u) → Heap.SameBut c s.heap h' → Q () { s with heap := h' }) : wpAny M A (storeName X.env x u) Q E s := by
  obtain ⟨w0, z⟩ := I.cell x c hc
  refine wpAny_storeName_cell I.ok.kind hk hc z fun h' new same => ?_
  obtain ⟨oc, eo, ed⟩ := id z
  have cl : c ≠ X.env.locals := I.cne x c hc
  have cf : H c = none := I.freeC x c hc
  have lt : i < σ.length := by rw [I.len]; exact (List.getElem?_eq_some_iff.mp hi).1
  have old : ∀ b o, X.s_0.heap.get? b = some o → h'.get? b = s.heap.get? b := fun b o e => same.2 b (Nat.ne_of_lt (Nat.lt_of_lt_of_le (Heap.lt_size e) (I.ok.cab x c fn hc)))
  refine h h' ?_ new same
  obtain ⟨m, nsm, lk⟩ := id I.loc
  have okH : HOk X.prog X.w H h' := fun b ob e => by
    refine (I.hok b ob e).stay (fun d w1 own q => ?_) (fun _ q => q) fun _ _ q => q
    rw [same.2 d ?_]
    · exact q
    · intro e1
      rw [e1] at own
      rcases own with e2 | e2
      · rw [← e2, cf] at e; cases e
      · rw [cf] at e2; cases e2
  refine { I with base := { I.base with keep := ?_, slot := ?_, there := ?_ }, loc := ⟨m, nsm.sameBut same cl.symm, ?_⟩, cell := ?_, pin := ?_, hok := okH, len := by simpa using I.len }
  · intro b o e n nf nx
    show h'.get? b = some o
    rw [old b o e]
    exact I.base.keep b o e n nf nx
  · intro b o e n nf nx
    show ∃ sl, h'.get? b = _
    rw [old b o e]
    exact I.base.slot b o e n nf nx
  · intro b o e nx
    show ∃ o', h'.get? b = _
    rw [old b o e]
    exact I.base.there b o e nx
  · intro j y v' e1 e2 e3
    by_cases ji : j = i
    · rw [ji] at e1 e2
      rw [hi] at e1
      obtain rfl := Option.some.inj e1
      rw [List.getElem?_set_self lt] at e2
      obtain rfl := Option.some.inj (Option.some.inj e2)
      exact ⟨u, r, .inr ⟨.inl hk, c, hc, new⟩⟩
    · rw [List.getElem?_set_ne (fun e => ji e.symm)] at e2
      obtain ⟨u', r', z'⟩ := lk j y v' e1 e2 e3
      refine ⟨u', r', z'.imp id fun ⟨k, d, ed', z3⟩ => ⟨k, d, ed', z3.sameBut same fun e => ?_⟩⟩
      rw [e] at ed'
      have := I.ok.inj _ _ _ ed' hc
      rw [this] at e1
      exact ji (nodup_ix hN e1 hi)
  · intro y d e
    by_cases dc : d = c
    · rw [dc]; exact ⟨_, new⟩
    · obtain ⟨w2, z2⟩ := I.cell y d e
      exact ⟨w2, z2.sameBut same dc⟩
  · intro p hp
    obtain ⟨e, n, ne, nf, d⟩ := I.pin p hp
    refine ⟨?_, n, ne, nf, d⟩
    show h'.get? p.1 = _
    rw [same.2 p.1 fun q => ?_]
    · exact e
    · rw [q, eo] at e
      obtain rfl := Option.some.inj e
      exact d w0 ed
end
section
variable {X : Cx}
/-- G rests on the own names' cells alone -/
def ByCells (X : Cx) (G : Shared → Prop) : Prop := ∀ s t : Shared, G s → (∀ x c v, X.env.cells.lookup x = some c → s.heap.IsCell c v → t.heap.IsCell c v) → G t
theorem cell_kept {h h' : Heap} {c : Addr} {v : Option Value} (k : ∀ b o, h.get? b = some o → h'.get? b = some o) (z : h.IsCell c v) : h'.IsCell c v := let ⟨o, e, d⟩ := z; ⟨o, k c o e, d⟩
theorem lc_tok {G : Shared → Prop} (by_ : ByCells X G) (all : ∀ x, X.fn x = true) {pn : List (Addr × Obj)} {s : Shared} {σ : L2.St} {H : Hp} {Q : VK} {elt tg iter : Expr} {ifs : List Expr} {scope : Scope} {own : List (Str × Nat)} {pos ps : Pos} {wi : TI} {g : TG} {tt : TT} {te : TE} {use : Option (Value → Sem Unit)} {Z : Value → Shared → Prop}
    (calm : X.calm = true) (nd : X.N.Nodup) (I : L2.Inv X pn σ H s) (ok : BlkOk X.N X.env.scope scope own)
    (hi : ∀ R, wi σ H R → wpAny (model X.prog X.w) X.A (eval iter X.env) (fun v t => wpAny (model X.prog X.w) X.A (pyIter v) (fun u t2 => G t2 ∧ PIE X pn σ tg R u t2) X.xe t) X.xe s)
    (hg : ∀ (s : Shared) (H : Hp) (C : Addr) (cl : List (Str × Addr)) (fp : List Addr), PG (X.blk s H scope (compEnvC scope cl C X.env) fp) tg g)
    (ht : ∀ (s : Shared) (H : Hp) (C : Addr) (cl : List (Str × Addr)) (fp : List Addr), PTs (X.blk s H scope (compEnvC scope cl C X.env) fp) ifs tt)
    (he : ∀ (s : Shared) (H : Hp) (fp : List Addr), G s → (∀ x c, X.env.cells.lookup x = some c → H c = none ∧ c ∉ frs X.stack ∧ c ∉ fp) → PE (X.blk s H scope (compEnvC scope (cellsFrom (s.heap.objs.size + 1) scope.names (cloFrom X.env.cells scope.names [])) s.heap.objs.size X.env) fp) elt te)
    (fold : ∀ x, foldedSetIterable iter X.env x = pure x) (start : tLc wi g tt te (own.map (·.2)) σ H Q)
    (back : ∀ D C t m H1, G t → L2.Inv X pn σ H1 t → Q (.ref D) H1 → t.heap.Ns C m → FpOk X pn H1 C → compPost (model X.prog X.w) X.A X.xe use Z (.ref D) C (.ok .next) t) :
    wpAny (model X.prog X.w) X.A (comprehension (.ListComp elt [⟨tg, iter, ifs, 0⟩] scope pos) scope X.env ps (newList []) false (eval iter X.env) use) Z X.xe s := by
  have clo : ∀ y ∈ scope.names, y.2 = .free → ∃ c, X.env.cells.lookup y.1 = some c := fun y hy fr => (ok.free y hy fr).elim (fun a => I.ok.has _ (.inl a)) fun a => I.ok.has _ (.inr a)
  refine wpAny_comprehension_free (use := use) rfl fold (closure_ok clo) ok.kind (fun y hy lc => by rw [ok.uniq y hy, lc]) (thn (hi _ start) fun _ _ w1 => thn w1 fun _ t ⟨gt, w2⟩ => ?_)
  obtain ⟨a, fp, tn, J, H2, rfl, I2, T, stt, free2, q⟩ := w2
  refine wpAny_newObj_type (newEnv_comp ?_) (by show 0 ≤ sizeLine; decide)
  obtain ⟨D, eD⟩ : ∃ D, t.heap.objs.size = D := ⟨_, rfl⟩
  have nD : H2 D = none := I2.hok.fresh (Nat.le_of_eq eD)
  obtain ⟨W, ⟨m0, w0⟩, turn⟩ := q D nD
  rw [eD]
  obtain ⟨u, eu⟩ : ∃ u : Shared, ({ t with heap := t.heap.push { cls := .type "list", data := .seq ([] : List Value).toArray } } : Shared) = u := ⟨_, rfl⟩
  have up : u.heap = t.heap.push { cls := .type "list", data := .seq ([] : List Value).toArray } := by rw [← eu]
  have more : ∀ b o, t.heap.get? b = some o → u.heap.get? b = some o := fun b o z => by rw [up]; exact Heap.get?_push_of_some _ z
  have gu : G u := by_ t u gt fun _ _ _ _ z => cell_kept more z
  have J3 : L2.Inv X pn σ (upd H2 D (.lst [])) u := by
    rw [← eu]
    refine I2.laid (t' := t.toks) (fun b o z => Heap.get?_push_of_some _ z) (Nat.le_of_eq eD) ⟨Nat.zero_le _, [], 0, .nil, ?_⟩
    rw [← eD]
    exact Heap.get?_push_size _ rfl
  have fp3 : ∀ b ∈ fp, FpOk X pn (upd H2 D (.lst [])) b ∧ b < u.heap.objs.size := fun b hb => by
    obtain ⟨o, z, _⟩ := T.obj _ _ stt b hb
    have lt := Heap.lt_size z
    refine ⟨⟨?_, (free2 b hb).2⟩, by rw [up, Heap.size_push]; exact Nat.lt_succ_of_lt lt⟩
    rw [upd_ne (by rw [← eD]; exact Nat.ne_of_lt lt)]
    exact (free2 b hb).1
  have cin : ∀ x c, X.env.cells.lookup x = some c → (upd H2 D (.lst [])) c = none ∧ c ∉ frs X.stack ∧ c ∉ fp := fun x c e => by
    refine ⟨J3.freeC x c e, fun hb => ?_, fun hb => (fp3 c hb).1.2.2.2.2.1 x c e rfl⟩
    rcases List.mem_cons.mp (J3.stkSub c hb) with z | z
    · exact J3.cne x c e z
    · obtain ⟨_, o, z1, _⟩ := J3.ok.funs.mem z
      exact absurd (Nat.lt_of_lt_of_le (Heap.lt_size z1) (J3.ok.cab x c (all x) e)) (Nat.lt_irrefl _)
  have st3 : tn 0 u.heap := T.keep _ _ _ stt fun b _ o z => more b o z
  have J4 := block_start J3 ok nd fp3
  rw [eu]
  obtain ⟨ce, ece⟩ : ∃ ce, compEnvC scope (cellsFrom (u.heap.objs.size + 1) scope.names (cloFrom X.env.cells scope.names [])) u.heap.objs.size X.env = ce := ⟨_, rfl⟩
  have pg := hg u (upd H2 D (.lst [])) u.heap.objs.size (cellsFrom (u.heap.objs.size + 1) scope.names (cloFrom X.env.cells scope.names [])) fp
  have pt := ht u (upd H2 D (.lst [])) u.heap.objs.size (cellsFrom (u.heap.objs.size + 1) scope.names (cloFrom X.env.cells scope.names [])) fp
  have pe := he u (upd H2 D (.lst [])) fp gu cin
  show codeAny _ _ (.compStart (.ListComp elt [⟨tg, iter, ifs, 0⟩] scope pos) 0 (.ref a) (.ref D) (compEnvC scope (cellsFrom (u.heap.objs.size + 1) scope.names (cloFrom X.env.cells scope.names [])) u.heap.objs.size X.env)) (compPost (model X.prog X.w) X.A X.xe use Z (.ref D) u.heap.objs.size) { u with heap := pushCells (u.heap.push { cls := .type "dict", data := .dict #[] }) scope.names }
  have nf : ∀ b ∈ fp, (upd H2 D (.lst [])) b = none := fun b hb => (fp3 b hb).1.1
  have cl : ce.locals = u.heap.objs.size := by rw [← ece]; rfl
  rw [ece] at J4 pg pt pe ⊢
  generalize upd H2 D (.lst []) = H3 at J3 J4 pg pt pe w0 nf fp3 cin
  generalize ew : ({ u with heap := pushCells (u.heap.push { cls := .type "dict", data := .dict #[] }) scope.names } : Shared) = w at J4 ⊢
  have st4 : tn 0 w.heap := T.keep _ _ _ st3 fun b _ o z => by rw [← ew]; exact pushCells_keeps _ _ _ _ (Heap.get?_push_of_some _ z)
  have fok : ∀ {τ : L2.St} {K : Hp} {t : Shared}, L2.Inv (X.blk u H3 scope ce fp) [] τ K t → (∀ b ∈ fp, K b = none) → ∀ b ∈ fp, FpOk (X.blk u H3 scope ce fp) [] K b := fun j n b hb =>
    ⟨n b hb, (j.ok.exf b hb).1, j.ok.exfs b hb, .inl hb, fun x c z => (j.ok.exf b hb).2 x c z, fun r hr => absurd (show r ∈ ([] : List (Addr × Obj)) ++ [] from hr) (by simp)⟩
  refine codeAny_compStart_list ?loop (T.self X.A 0 _ _ _ st4 ?loop2)
  all_goals
    refine compLoop_any (fun n t => ∃ i K, L2.Inv (X.blk u H3 scope ce fp) [] (wipe σ (own.map (·.2))) K t ∧ tn i t.heap ∧ (∀ b ∈ fp, K b = none) ∧ W i n K) ?_ m0 ⟨0, H3, J4, st4, nf, w0⟩
    rintro n t5 ⟨i, K5, I5, st5, n5, w5⟩
    rcases turn i n K5 w5 with ⟨stop, fin⟩ | ⟨go, Nx, less, step⟩
    · refine thnF (T.done (X.blk u H3 scope ce fp) rfl rfl rfl calm i [] t5 _ K5 (fun _ _ => False) I5 (fok I5 n5) st5 stop) fun r t6 ⟨er, I6⟩ => ?_
      subst er
      have I7 : L2.Inv X pn σ K5 t6 := J3.call' (ch := fp) I6.os I6.base I6.hok I6.bare fun b hb => ⟨(fp3 b hb).1.2.2.2.1, (fp3 b hb).1.2.1, (fp3 b hb).1.2.2.2.2.1, (fp3 b hb).1.2.2.2.2.2⟩
      have nC : K5 u.heap.objs.size = none := cl ▸ I6.free
      obtain ⟨m, hn, _⟩ := I6.loc
      have hn : t6.heap.Ns u.heap.objs.size m := cl ▸ hn
      have g6 : G t6 := by_ u t6 gu fun x c v e ⟨o, z, d⟩ => ⟨o, I6.base.keep c o z (cin x c e).1 (cin x c e).2.1 (cin x c e).2.2, d⟩
      exact back D u.heap.objs.size t6 m K5 g6 I7 fin hn (J3.fpOk (Nat.le_refl _) nC)
    · refine thnF (T.item (X.blk u H3 scope ce fp) rfl rfl rfl calm i [] t5 _ K5 (fun _ _ => False) I5 (fok I5 n5) st5 go) fun r t6 ⟨v, er, w6⟩ => ?_
      subst er
      refine thnF w6 fun _ t7 ⟨x, K7, I7, r7, y7, st7, n7⟩ => ?_
      have I7p := I7.pinned (fok I7 n7) (T.obj _ _ st7)
      refine thnF (pg.run _ t7 _ K7 x v _ I7p r7 (step x K7 y7)) fun _ t8 ⟨σ8, K8, I8, wp8, q8⟩ => ?_
      refine thnF (pt.run _ t8 σ8 K8 _ I8 q8) fun c t9 ⟨K9, I9, q9⟩ => ?_
      have next : ∀ {t : Shared} {K : Hp}, L2.Inv (X.blk u H3 scope ce fp) ([] ++ pinsAt fp t7.heap) σ8 K t → Nx K → ∃ m, m < n ∧ ∃ i K, L2.Inv (X.blk u H3 scope ce fp) [] (wipe σ (own.map (·.2))) K t ∧ tn i t.heap ∧ (∀ b ∈ fp, K b = none) ∧ W i m K := fun {t K} j nx => by
        obtain ⟨m1, lt, w1⟩ := less K nx
        have held : ∀ b ∈ fp, ∀ o, t7.heap.get? b = some o → t.heap.get? b = some o ∧ K b = none := fun b hb o z =>
          let y := j.pin (b, o) (List.mem_append_right _ (List.mem_append_right _ (mem_pinsAt hb z)))
          ⟨y.1, y.2.1⟩
        have ll : (wipe σ (own.map (·.2))).length = σ8.length := by rw [← wp8, wipe_length]
        refine ⟨m1, lt, i + 1, K, (j.unpinned (pins := [])).weak ll (fun k y z => ?_), T.keep _ _ _ st7 fun b hb o z => (held b hb o z).1, fun b hb => ?_, w1⟩
        · rw [← wp8] at z
          exact (wipe_some z).1
        · obtain ⟨o, z, _⟩ := T.obj _ _ st7 b hb
          exact (held b hb o z).2
      cases c with
      | false => exact next I9 (by simpa using q9)
      | true =>
        have q9 := (if_pos rfl : _ = _) ▸ q9
        refine thnF (pe.run _ t9 σ8 K9 _ I9 q9) fun y t10 ⟨yv, K10, I10, r10, acc, aD, az, nx⟩ => ?_
        exact app_ok (X := X.blk u H3 scope ce fp) I10 aD az r10 fun t11 I11 => next I11 nx
end
end DL

set_option Elab.async false
set_option linter.all false
set_option maxRecDepth 100000
namespace DL
open PySem PySem.Spec PyProof.Rows L2
/-! ### t.index(d), t a tuple of data -/
section
variable {X : Cx}
def rTupD (K : PySem.W.Frag) : V → List V → Hp → VK → Prop := fun x xs H Q => ∃ (a : Addr) (y : V) (d : PyData) (ds : List PyData) (j : Nat) (z : PyData), x = V.ref a ∧ xs = [y] ∧ Dp K H (V.ref a) (.tuple ds) ∧ Dp K H y d ∧
  SeqAt.shaped (.tuple ds) = true ∧ SeqAt.shaped d = true ∧ ds[j]? = some z ∧ PyData.eqv z d = true ∧ (∀ (m : Nat) (w : PyData), m < j → ds[m]? = some w → PyData.eqv w d = false) ∧ Q (.int (j : Nat)) H
theorem mt_tupD (hu : X.A.units + 65 < cLine) : MtR X "tuple.index" (rTupD X.K) := by
  intro pins s σ H x xs v us Q I rx rxs h
  obtain ⟨a, y, d, ds, j, z, rfl, rfl, hl, hy, sl, sd, hz, hzj, hno, q⟩ := h
  cases rx
  obtain ⟨uy, rfl, ry⟩ := vals1 rxs
  obtain ⟨bs, r1⟩ := Dp.reads I d y uy hy ry
  cases hl with
  | tup hs ha =>
    obtain ⟨its, rv, tp, hz2⟩ := I.tuple hs
    obtain ⟨as, rs⟩ := Dp.readsAll I ds _ its ha rv
    obtain ⟨⟨cls, dd, data, sls⟩, ho, hc, n, hd⟩ := tp
    simp only at hc hd
    subst hc
    subst hd
    have lay : PyData.canLayAll0 ds = true := SeqAt.canLay_of_shaped sl
    have ln : its.length = ds.length := SeqAt.ReadsAll.length ds its as rs
    have mp : its.map (SeqAt.readOf s.heap) = ds := SeqAt.readsAll_map ds its as lay rs
    have room : X.A.units + 1 + min (PyData.depthAll ds) d.depth < cLine := room_in_shaped sd hu
    obtain ⟨jd, _⟩ := List.getElem?_eq_some_iff.mp hz
    have jz : j < its.toArray.size := by rw [List.size_toArray]; omega
    have item : ∀ (m : Nat) (hm : m < its.toArray.size) (w : PyData), ds[m]? = some w → SeqAt.readOf s.heap its.toArray[m] = w := fun m hm w e => by
      have ml : m < its.length := by rw [List.size_toArray] at hm; exact hm
      rw [← mp, List.getElem?_map, List.getElem?_eq_getElem ml] at e
      have e : SeqAt.readOf s.heap its[m] = w := Option.some.inj e
      rw [← e]
      simp
    refine call_meets PySem.F.slot_tuple_index ⟨_, ho, rfl⟩ PySem.F.entry_tuple_index (PySem.F.args_tuple_index_2 _ _)
      (TI.tuple_indexAt a its.toArray n dd sls uy (fun u => PyData.eqv (SeqAt.readOf s.heap u) d) j jz ?_ ?_)
      ⟨ho, SeqAt.items_eqAt (vs := its.toArray) (show ReadsAll s.heap its.toArray.toList ds as from rs) r1 lay (SeqAt.canLay_of_shaped sd) room, ⟨.int (j : Nat), H, I.tok _, ⟨_, rfl⟩, q⟩⟩
    · show PyData.eqv (SeqAt.readOf s.heap its.toArray[j]) d = true
      rw [item j jz z hz]
      exact hzj
    · intro m hm mj
      have md : m < ds.length := by omega
      show PyData.eqv (SeqAt.readOf s.heap its.toArray[m]) d = false
      rw [item m hm _ (List.getElem?_eq_getElem md)]
      exact hno m _ mj (List.getElem?_eq_getElem md)
end
/-- a tuple just made: its object is known -/
theorem call_tupZ {X : Cx} : CallR X (.type "tuple") (fun xs H Q => ∃ p ys, xs = [.ref p] ∧ SqL X.K H p ys ∧ ∀ (l : Addr) (o : Obj), H l = none → o.dict = none → Q (.ref l) (upd H l (.frz o (.tup ys)))) := by
  intro pins s σ H xs us Q I r ⟨p, ys, e, hq, q⟩
  subst e
  obtain ⟨u, rfl, rx⟩ := vals1 r
  cases rx
  obtain ⟨its, rv, pl, hz⟩ := I.list hq
  have len := rv.length
  refine call_tuple_list pl.isList (fun h' kp => ?_) (by simp only [List.size_toArray] <;> omega)
  have I1 : L2.Inv X pins σ H { s with heap := h' } := I.kept (t' := s.toks) kp
  have I2 : L2.Inv X pins σ (upd H h'.objs.size (.frz { cls := .type "tuple", data := .seq its.toArray } (.tup ys))) { s with heap := h'.push { cls := .type "tuple", data := .seq its.toArray } } :=
    I1.laid (t' := s.toks) (fun b o e => Heap.get?_push_of_some _ e) (Nat.le_refl _) (show ObjOk X.prog X.w _ _ _ (.frz _ (.tup ys)) from ⟨Heap.get?_push_size _ rfl, hz, its, rv, IsTup.new _ _⟩)
  exact ⟨.ref h'.objs.size, _, I2, rfl, q _ _ (I1.hok.fresh (Nat.le_refl _)) rfl⟩
def gTupZ : G1 := fun x μ R => ∃ ds, x = .lst ds ∧ ∀ l, μ l = none → R (.adr l) (put μ l (.ftp ds))
theorem sim_tupZ {K : PySem.W.Frag} : SimC K (fun xs H Q => ∃ p ys, xs = [.ref p] ∧ SqL K H p ys ∧ ∀ (l : Addr) (o : Obj), H l = none → o.dict = none → Q (.ref l) (upd H l (.frz o (.tup ys)))) (g1 gTupZ) := sim_g1 fun v d H μ Q R rm rv q f => by
  obtain ⟨ds, rfl, q⟩ := q
  obtain ⟨p, vs, rfl, i, n, l⟩ := rep_lst rv
  refine ⟨p, vs, rfl, SqL.of i, fun t o nt od => ?_⟩
  have kc : Kp H μ (upd H t (.frz o (.tup vs))) (put μ t (.ftp ds)) := Kp.cell nt
  exact f _ _ _ _ kc (rm.put kc (fun b u n _ => upd_ne n) ⟨o, vs, upd_same, od, l.mono kc _ _⟩) (by unfold Rep; rfl) (q t (rm.free nt))
section
variable {X : Cx} {o e : Expr} {name : Str} {apos cpos : Pos} {id : String} {r : V → List V → Hp → VK → Prop} {to : TE} {t : TA} {go : GE} {ga : GA} {g : GM}
def tBMZ (r : V → List V → Hp → VK → Prop) (to : TE) (t : TA) : TE := fun σ H Q => to σ H fun x H1 => (∃ a ob vs, x = .ref a ∧ H1 a = some (.frz ob (.tup vs)) ∧ ob.dict = none) ∧ t σ H1 fun xs H2 => r x xs H2 Q
theorem pe_bmZ (slot : Slot "tuple" name id) (hty : typeOf (.builtin id) = pure (.type "method_descriptor")) (hm : MtR X id r) (ho : PE X o to) (ha : PA X [e] t)
    (base : attributeBase o name X.env (eval o X.env) = eval o X.env := by rfl)
    (few : ((backTo cpos (starEach [e] X.env)).all (fun x => !x.1) && (backToKw cpos (keywordEach [] X.env)).all (fun x => x.1.isSome)
      && decide (([e] : List Expr).length + ([] : List Keyword).length + (if ([] : List Keyword).isEmpty then 0 else 1) < 30)) = true := by rfl)
    (line : (apos.endLine == cpos.line) = true := by rfl) (st : starEach [e] X.env = [(false, eval e X.env)] := by rfl) :
    PE X (.Call (.Attribute o name apos) [e] [] cpos) (tBMZ r to t) := by
  refine ⟨fun pins s σ H Q I h => ?_⟩
  refine wpAny_Call_method_late base few line rfl (thn (ho.run pins s σ H _ I h) fun v s1 ⟨x, H1, I1, r1, ⟨a, ob, vs, ex, ea, od⟩, q1⟩ => ?_)
  subst ex
  have ev : v = Value.ref a := r1
  subst ev
  obtain ⟨h1, _, its, _, tp⟩ := I1.hok a _ ea
  have hc : ob.cls = .type "tuple" := by
    obtain ⟨o2, e2, c2, _⟩ := tp
    rw [h1] at e2
    cases e2
    exact c2
  refine ⟨"tuple", id, PySem.F.plainAttrs_tuple, slot, hty, ⟨ob, h1, hc⟩, fun b eb => ?_, ?_⟩
  · cases eb
    exact ⟨ob, h1, od⟩
  have hA := ha.run cpos pins s1 σ H1 _ I1 q1
  rw [st] at hA ⊢
  refine Calls.callWith_builtin rfl (Calls.evalArgs_plain ?_)
  exact thn hA fun us s2 ⟨ws, H2, I2, r2, q2⟩ => hm pins s2 σ H2 _ ws _ us Q I2 r1 r2 q2
def gBMZ (g : GM) (go : GE) (ga : GA) : GE := fun δ μ R => go δ μ fun x μ1 => (∃ a ds, x = .adr a ∧ μ1 a = some (.ftp ds)) ∧ ga δ μ1 fun xs μ2 => g x xs μ2 R
theorem de_bmZ (slot : Slot "tuple" name id) (hty : typeOf (.builtin id) = pure (.type "method_descriptor")) (hm : MtR X id r) (sm : SimM X.K r g) (ho : DE X o go) (ha : DA X [e] ga)
    (base : attributeBase o name X.env (eval o X.env) = eval o X.env := by rfl)
    (few : ((backTo cpos (starEach [e] X.env)).all (fun x => !x.1) && (backToKw cpos (keywordEach [] X.env)).all (fun x => x.1.isSome)
      && decide (([e] : List Expr).length + ([] : List Keyword).length + (if ([] : List Keyword).isEmpty then 0 else 1) < 30)) = true := by rfl)
    (line : (apos.endLine == cpos.line) = true := by rfl) (st : starEach [e] X.env = [(false, eval e X.env)] := by rfl) :
    DE X (.Call (.Attribute o name apos) [e] [] cpos) (gBMZ g go ga) := by
  obtain ⟨to, a1, a2⟩ := ho.ex
  obtain ⟨ta, b1, b2⟩ := ha.ex
  refine ⟨_, pe_bmZ slot hty hm a1 b1 base few line st, fun σ H δ μ Q R rm rs q f => ?_⟩
  refine a2 σ H δ μ _ _ rm rs q fun v d H1 μ1 k1 rm1 r1 ⟨⟨a, ds, ed, ea⟩, q1⟩ => ?_
  subst ed
  obtain ⟨ob, vs, h1, od, h2⟩ := rm1 a _ ea
  refine ⟨⟨a, ob, vs, by unfold Rep at r1; exact r1, h1, od⟩, ?_⟩
  exact b2 σ H1 δ μ1 _ _ rm1 (rs.mono k1) q1 fun us es H2 μ2 k2 rm2 r2 q2 => sm v (.adr a) us es H2 μ2 Q R rm2 (r1.mono k2) r2 q2 (f.re (k1.trans k2))
end
def gTupIx : G2 := fun x y μ R => ∃ (a : Addr) (xs : List D) (d : PyData) (ds : List PyData) (j : Nat) (z : PyData), x = .adr a ∧ μ a = some (.ftp xs) ∧ py (.lst xs) = some (.list ds) ∧ py y = some d ∧ SeqAt.shaped (.tuple ds) = true ∧ SeqAt.shaped d = true ∧
  ds[j]? = some z ∧ PyData.eqv z d = true ∧ (∀ (m : Nat) (w : PyData), m < j → ds[m]? = some w → PyData.eqv w d = false) ∧ R (.int (j : Nat)) μ
theorem pyL_of_list {xs : List D} {ds : List PyData} (h : py (.lst xs) = some (.list ds)) : pyL xs = some ds := by
  unfold py at h
  cases e : pyL xs with
  | none => rw [e] at h; cases h
  | some l => rw [e] at h; cases h; rfl
theorem sim_tupIx {K : PySem.W.Frag} : SimM K (rTupD K) (gM1 gTupIx) := sim_m1 fun x v dx d H μ Q R rm rx rv q f => by
  obtain ⟨a, xs, e, ds, j, z, rfl, ea, h1, h2, s1, s2, hz, hj, no, q⟩ := q
  obtain ⟨ob, vs, e1, _, l⟩ := rm a _ ea
  unfold Rep at rx
  subst rx
  exact ⟨a, v, e, ds, j, z, rfl, rfl, .tup (.inl (.inr ⟨ob, e1⟩)) (RepL.dp _ _ _ l (pyL_of_list h1)), rv.dp _ _ _ h2, s1, s2, hz, hj, no, fw_now rm to_int q f⟩
/-! ### a, b = a text of two signs -/
section
variable {X : Cx}
def gUnp (i j : Nat) : TG := fun v σ H Q => ∃ (y : Str) (c0 c1 : Nat), v = .str y ∧ y.cps = #[c0, c1] ∧ y.cps.all (· < 128) = true ∧ Q ((σ.set i (some (.str ⟨#[c0]⟩))).set j (some (.str ⟨#[c1]⟩))) H
theorem pg_unp {i j k : Nat} {x z : Str} {p1 p2 pos : Pos} (calm : X.calm = true) (nd : X.N.Nodup) (hi : X.N[i]? = some x) (hj : X.N[j]? = some z) (lx : X.env.scope.names.lookup x = some .local) (lz : X.env.scope.names.lookup z = some .local)
    (two : assignEach [.Name x p1, .Name z p2] X.env = [(false, assign (.Name x p1) X.env), (false, assign (.Name z p2) X.env)] := by rfl) : PG X (.Tuple [.Name x p1, .Name z p2] k pos) (gUnp i j) := by
  refine ⟨fun pins s σ H v u Q I r ⟨y, c0, c1, ev, ey, low, q⟩ => ?_⟩
  subst ev
  obtain ⟨t, rfl⟩ := r
  refine two_unpacked (I.ok.hd calm) ey low two fun h1 kp => ?_
  have I1 : L2.Inv X pins σ H { s with heap := h1, toks := s.toks + 1 + 1 } := I.kept kp
  refine wpAny_assign_Name (store_ok (v := .str ⟨#[c0]⟩) I1 nd hi (.inl lx) ⟨_, rfl⟩ (fun s2 I2 => ?_) (.inr lx))
  exact wpAny_assign_Name (store_ok (v := .str ⟨#[c1]⟩) I2 nd hj (.inl lz) ⟨_, rfl⟩ (fun s3 I3 => ⟨_, H, I3, q⟩) (.inr lz))
end
def gUnpT (i j : Nat) : GG := fun d δ R => match d with
  | .str y => ∃ c0 c1 : Nat, y.cps = #[c0, c1] ∧ y.cps.all (· < 128) = true ∧ R ((δ.set i (some (.str ⟨#[c0]⟩))).set j (some (.str ⟨#[c1]⟩)))
  | _ => False
theorem sim_unp {K : PySem.W.Frag} {i j : Nat} : SimG K (gUnp i j) (gUnpT i j) [i, j] := by
  intro v d σ H δ μ Q R rm rs r q f
  cases d <;> try exact False.elim q
  rename_i y
  obtain ⟨c0, c1, ey, low, q⟩ := q
  unfold Rep at r
  refine ⟨y, c0, c1, r, ey, low, f _ _ ((rs.set i (d := .str ⟨#[c0]⟩) (v := .str ⟨#[c0]⟩) (by unfold Rep; rfl)).set j (d := .str ⟨#[c1]⟩) (v := .str ⟨#[c1]⟩) (by unfold Rep; rfl)) q fun vs h => ?_⟩
  rw [wipe_set (h j (List.mem_cons_of_mem _ (List.mem_singleton.mpr rfl))), wipe_set (h i List.mem_cons_self)]
end DL

set_option Elab.async false
set_option linter.all false
set_option maxRecDepth 100000
namespace DL
open PySem PySem.W PySem.Spec PyProof.Rows L2
/-! ### dict comprehensions over data; tuple(d.values()) -/
theorem dc_it {J : It} {n : Nat} {G : Hp → Prop} {Y : Nat → Hp → V → Hp → Prop} (w : Walk J n G Y) {g : TG} {tt : TT} {tk tv : TE} {vs : List Nat} {σ : L2.St} {H1 : Hp} {D : Addr} {Qd : Hp → Prop} (Pv : Nat → Hp → Prop) (h0 : Pv 0 (upd H1 D (.dK []))) (hG : ∀ i H, i ≤ n → Pv i H → G H)
    (hs : ∀ i x H H', i < n → Pv i H → Y i H x H' → g x (L2.wipe σ vs) H' fun σ2 H2 => L2.wipe σ2 vs = L2.wipe σ vs ∧ tt σ2 H2 fun b H3 =>
      if b = true then tk σ2 H3 fun y H4 => tv σ2 H4 fun z H5 => ∃ kvs k, y = kV k ∧ H5 D = some (.dK kvs) ∧ kvs.length < sizeLine ∧ Pv (i + 1) (upd H5 D (.dK (putK kvs k z))) else Pv (i + 1) H3) (hd : ∀ H, Pv n H → Qd H) :
    ∃ W : Nat → Nat → Hp → Prop, (∃ m, W 0 m (upd H1 D (.dK []))) ∧ ∀ i m H, W i m H →
      (J.stop i H ∧ Qd H) ∨ (J.go i H ∧ ∃ Nx : Hp → Prop, (∀ H', Nx H' → ∃ m', m' < m ∧ W (i + 1) m' H') ∧ ∀ x H', J.yld i H x H' → g x (L2.wipe σ vs) H' fun σ2 H2 => L2.wipe σ2 vs = L2.wipe σ vs ∧ tt σ2 H2 fun b H3 =>
        if b = true then tk σ2 H3 fun y H4 => tv σ2 H4 fun z H5 => ∃ kvs k, y = kV k ∧ H5 D = some (.dK kvs) ∧ kvs.length < sizeLine ∧ Nx (upd H5 D (.dK (putK kvs k z))) else Nx H3) := by
  refine ⟨fun i m H => m = n - i ∧ i ≤ n ∧ Pv i H, ⟨n, by simp, Nat.zero_le _, h0⟩, ?_⟩
  rintro i m H ⟨rfl, hi, p⟩
  have q := hG i H hi p
  by_cases hlt : i < n
  · refine .inr ⟨w.goes i H hlt q, Pv (i + 1), fun H' p' => ⟨n - (i + 1), by omega, rfl, hlt, p'⟩, fun x H' y => hs i x H H' hlt p (w.yields i H x H' hlt q y)⟩
  · have e : i = n := by omega
    subst e
    exact .inl ⟨w.stops H q, hd H p⟩
/-- what a dict comprehension asks over its items -/
structure DcB (gt : GG) (gc : GT) (gk ge : GE) (own : List Nat) (δ : DS) (R : KD) (items : List D) (μ1 : Mu) : Prop where
  ex : ∀ a, μ1 a = none → ∃ Iv : Nat → Mu → Prop, Iv 0 (put μ1 a (.dct [])) ∧
  (∀ i x μ', items[i]? = some x → Iv i μ' → gt x (wiped δ own) fun δ2 => gc δ2 μ' fun b μ2 => if b = true then gk δ2 μ2 fun y μ3 => ge δ2 μ3 fun z μ4 => ∃ kvs k, keyOf y = some k ∧ μ4 a = some (.dct kvs) ∧ kvs.length < sizeLine ∧ Iv (i + 1) (put μ4 a (.dct (putD kvs k z))) else Iv (i + 1) μ2) ∧
  ∀ μ', Iv items.length μ' → R (.adr a) μ'
def gDc (gi : GI) (gt : GG) (gc : GT) (gk ge : GE) (own : List Nat) : GE := fun δ μ R => gi δ μ (DcB gt gc gk ge own δ R)
theorem sim_dc {K : PySem.W.Frag} {ti : TI} {gi : GI} {g : TG} {gg : GG} {ow : List Nat} {tc : TT} {gc : GT} {tk te : TE} {gk ge : GE} {own : List Nat} (hi : SimI K ti gi) (sg : SimG K g gg ow) (ho : ∀ i ∈ ow, i ∈ own) (hc : SimT K tc gc) (hk : SimE K tk gk) (he : SimE K te ge) :
    SimE K (tDc ti g tc tk te own) (gDc gi gg gc gk ge own) := by
  intro σ H δ μ Q R rm rs q f
  refine hi σ H δ μ _ _ rm rs q fun J items H1 μ1 k1 rm1 wk q1 => ?_
  intro D nD
  obtain ⟨Iv, h0, hstep, hend⟩ := q1.ex D (rm1.free nD)
  have kc : Kp H1 μ1 (upd H1 D (.dK [])) (put μ1 D (.dct [])) := Kp.cell nD
  refine dc_it wk (fun i H => ∃ μ, Kp H1 μ1 H μ ∧ RM K H μ ∧ Iv i μ) ⟨_, kc, rm1.cellD nD (by unfold RepK; rfl), h0⟩ (fun i H _ ⟨μ, k, rm, _⟩ => ⟨μ, k, rm⟩) ?_ ?_
  · rintro i x H2 H3 hi2 ⟨μ2, k2, rm2, iv⟩ y
    obtain ⟨d, e1, r1, k3, rm3⟩ := y μ2 k2 rm2
    have rsw : RepS K H3 μ2 (wiped δ own) (L2.wipe σ own) := (rs.mono (k1.trans (k2.trans k3))).wipe own
    refine sg x d _ H3 _ μ2 _ _ rm3 rsw r1 (hstep i d μ2 e1 iv) fun σ4 δ4 rs4 q4 w4 => ⟨(w4 own ho).trans wipe_wipe, ?_⟩
    refine hc σ4 H3 δ4 μ2 _ _ rm3 rs4 q4 fun b H5 μ5 k5 rm5 q5 => ?_
    cases b with
    | false => exact ⟨μ5, k2.trans (k3.trans k5), rm5, q5⟩
    | true =>
      rw [if_pos rfl] at q5 ⊢
      refine hk σ4 H5 δ4 μ5 _ _ rm5 (rs4.mono k5) q5 fun vk dk H6 μ6 k6 rm6 r6 q6 => ?_
      refine he σ4 H6 δ4 μ6 _ _ rm6 (rs4.mono (k5.trans k6)) q6 fun v d7 H7 μ7 k7 rm7 r7 q7 => ?_
      obtain ⟨kvs, k, ek, ea, hl, iv7⟩ := q7
      obtain ⟨kv, h1, h2⟩ := rm7 D _ ea
      refine ⟨kv, k, key_rep ek r6, h1, by rw [h2.length]; exact hl, _, k2.trans (k3.trans (k5.trans (k6.trans (k7.trans (Kp.write ea))))), ?_, iv7⟩
      refine rm7.put (Kp.write ea) (fun a o n _ => upd_ne n) ⟨_, upd_same, ?_⟩
      exact (h2.put r7).mono (Kp.write ea) _ _
  · rintro H2 ⟨μ2, k2, rm2, iv⟩
    exact f (.ref D) (.adr D) H2 μ2 (k1.trans k2) rm2 (by unfold Rep; rfl) (hend μ2 iv)
theorem de_dc {X : Cx} {kx vx tg iter : Expr} {ifs : List Expr} {scope : Scope} {own : List (Str × Nat)} {pos : Pos} {gi : GI} {g : TG} {gg : GG} {ow : List Nat} {gc : GT} {gk ge : GE} (hc : X.calm = true) (hN : X.N.Nodup) (hi : DI X tg iter gi) (ok : BlkOk X.N X.env.scope scope own)
    (hg : ∀ (s : Shared) (H : Hp) (C : Addr) (cl : List (Str × Addr)) (fp : List Addr), PG (X.blk s H scope (compEnvC scope cl C X.env) fp) tg g) (sg : SimG X.K g gg ow) (ht : ∀ (s : Shared) (H : Hp) (C : Addr) (cl : List (Str × Addr)) (fp : List Addr), DTs (X.blk s H scope (compEnvC scope cl C X.env) fp) ifs gc)
    (hk : ∀ (s : Shared) (H : Hp) (C : Addr) (cl : List (Str × Addr)) (fp : List Addr), DE (X.blk s H scope (compEnvC scope cl C X.env) fp) kx gk)
    (he : ∀ (s : Shared) (H : Hp) (C : Addr) (cl : List (Str × Addr)) (fp : List Addr), DE (X.blk s H scope (compEnvC scope cl C X.env) fp) vx ge) (ho : ∀ i ∈ ow, i ∈ own.map (·.2) := by decide) (hs : ∀ x, foldedSetIterable iter X.env x = pure x := by intro _; rfl) :
    DE X (.DictComp kx vx [⟨tg, iter, ifs, 0⟩] scope pos) (gDc gi gg gc gk ge (own.map (·.2))) := by
  obtain ⟨ti, i1, i2⟩ := hi.ex
  exact ⟨_, pe_dc hc hN i1 ok hg (fun s H C cl fp => (ht s H C cl fp).pt) (fun s H C cl fp => (hk s H C cl fp).pe) (fun s H C cl fp => (he s H C cl fp).pe) hs, sim_dc i2 sg ho simT_of sim_of sim_of⟩
theorem ps_setDc {X : Cx} {i : Nat} {y : Str} {py : Pos} {kx vx tg iter : Expr} {ifs : List Expr} {scope : Scope} {own : List (Str × Nat)} {pos spos : Pos} {wi : TI} {g : TG} {tt : TT} {tk tv : TE} (hc : X.calm = true) (hN : X.N.Nodup) (hy : X.N[i]? = some y) (hyl : X.env.scope.names.lookup y = some .local)
    (hsw : swapsWith (.DictComp kx vx [⟨tg, iter, ifs, 0⟩] scope pos) (some (.Name y py)) spos.line X.env = pure true) (hi : PI X tg iter wi) (ok : BlkOk X.N X.env.scope scope own)
    (hg : ∀ (s : Shared) (H : Hp) (C : Addr) (cl : List (Str × Addr)) (fp : List Addr), PG (X.blk s H scope (compEnvC scope cl C X.env) fp) tg g) (ht : ∀ (s : Shared) (H : Hp) (C : Addr) (cl : List (Str × Addr)) (fp : List Addr), PTs (X.blk s H scope (compEnvC scope cl C X.env) fp) ifs tt)
    (hk : ∀ (s : Shared) (H : Hp) (C : Addr) (cl : List (Str × Addr)) (fp : List Addr), PE (X.blk s H scope (compEnvC scope cl C X.env) fp) kx tk)
    (he : ∀ (s : Shared) (H : Hp) (C : Addr) (cl : List (Str × Addr)) (fp : List Addr), PE (X.blk s H scope (compEnvC scope cl C X.env) fp) vx tv) (hs : ∀ x, foldedSetIterable iter X.env x = pure x := by intro _; rfl) :
    PS X (.Assign [.Name y py] (.DictComp kx vx [⟨tg, iter, ifs, 0⟩] scope pos) spos) (tAsg (tDc wi g tt tk tv (own.map (·.2))) (gName i)) := by
  refine ⟨fun pins s σ H D I h => ?_⟩
  rw [exec_Assign_Name_used _ _ _ _ hsw]
  refine wpAny_bind (wpAny_standAt (wpAny_bind ?_))
  show wpAny _ X.A (do let _ ← comprehension (.DictComp kx vx [⟨tg, iter, ifs, 0⟩] scope pos) scope X.env (firstIterPos [⟨tg, iter, ifs, 0⟩] pos) newDict false (eval iter X.env) (some (assign (.Name y py) X.env))) _ _ s
  have h : tDc wi g tt tk tv (own.map (·.2)) σ H (fun x H1 => gName i x σ H1 D.nx) := h
  refine wpAny_bind (thn (dc_core (Qf := fun _ s' => SP X pins D .next s') hc hN I hi ok hg ht hk he hs h fun L C s' m H' I' q hn f => ?_) fun _ s' hq => wpAny_pure (wpAny_pure hq))
  show wpAny _ _ (assign (.Name y py) X.env (.ref L)) _ _ _
  refine wpAny_assign_Name (store_ok2 (v := V.ref L) I' hN hy (.inl hyl) rfl (fun s2 I2 ⟨a, sb, ha⟩ => ?_) (.inr hyl))
  obtain ⟨f0, f1, f2, f3, f4, f5⟩ := f
  have haC : C ≠ a := by
    rcases ha with z | z
    · rw [z]; exact f1
    · exact fun e => f4 y a z e.symm
  refine ⟨m, hn.sameBut sb haC, fun h3 sb3 => ?_⟩
  exact ⟨_, H', I2.turned (t' := s2.toks) (fun b o hb e => (sb3.2 b hb).trans e) f0 f1 f3 f4 f5, q⟩
theorem sw_dict {kx vx : Expr} {gs : List Comprehension} {scope : Scope} {pos py : Pos} {y : Str} {l : Nat} {env : Env} (hk : env.scope.kind = .function) (hy : env.scope.names.lookup y = some .local) (hl : (py.line == pos.line) = true)
    (ha : (scope.names.any fun (n, k) => n == y && (k == .local || k == .cell)) = false) : swapsWith (.DictComp kx vx gs scope pos) (some (.Name y py)) l env = pure true := by
  have ky : env.kindOf y = some .local := hy
  have hb : env.blockKind = .function := by unfold Env.blockKind; rw [hk]; rfl
  unfold swapsWith
  simp only [hb, ky, ha, Expr.pos, hl]
  rfl
theorem ds_setDc {X : Cx} {i : Nat} {y : Str} {py : Pos} {kx vx tg iter : Expr} {ifs : List Expr} {scope : Scope} {own : List (Str × Nat)} {pos spos : Pos} {gi : GI} {g : TG} {gg : GG} {ow : List Nat} {gc : GT} {gk ge : GE} (hc : X.calm = true) (hN : X.N.Nodup) (hy : X.N[i]? = some y) (hyl : X.env.scope.names.lookup y = some .local)
    (hsw : swapsWith (.DictComp kx vx [⟨tg, iter, ifs, 0⟩] scope pos) (some (.Name y py)) spos.line X.env = pure true) (hi : DI X tg iter gi) (ok : BlkOk X.N X.env.scope scope own)
    (hg : ∀ (s : Shared) (H : Hp) (C : Addr) (cl : List (Str × Addr)) (fp : List Addr), PG (X.blk s H scope (compEnvC scope cl C X.env) fp) tg g) (sg : SimG X.K g gg ow) (ht : ∀ (s : Shared) (H : Hp) (C : Addr) (cl : List (Str × Addr)) (fp : List Addr), DTs (X.blk s H scope (compEnvC scope cl C X.env) fp) ifs gc)
    (hk : ∀ (s : Shared) (H : Hp) (C : Addr) (cl : List (Str × Addr)) (fp : List Addr), DE (X.blk s H scope (compEnvC scope cl C X.env) fp) kx gk)
    (he : ∀ (s : Shared) (H : Hp) (C : Addr) (cl : List (Str × Addr)) (fp : List Addr), DE (X.blk s H scope (compEnvC scope cl C X.env) fp) vx ge) (ho : ∀ i ∈ ow, i ∈ own.map (·.2) := by decide) (hs : ∀ x, foldedSetIterable iter X.env x = pure x := by intro _; rfl) :
    DSt X (.Assign [.Name y py] (.DictComp kx vx [⟨tg, iter, ifs, 0⟩] scope pos) spos) (gAsg (gDc gi gg gc gk ge (own.map (·.2))) (gNm i)) := by
  obtain ⟨ti, i1, i2⟩ := hi.ex
  exact ⟨_, ps_setDc hc hN hy hyl hsw i1 ok hg (fun s H C cl fp => (ht s H C cl fp).pt) (fun s H C cl fp => (hk s H C cl fp).pe) (fun s H C cl fp => (he s H C cl fp).pe) hs, sim_asg (sim_dc i2 sg ho simT_of sim_of sim_of) sim_nm⟩
/-! ### tuple(d.values()) -/
section
variable {prog : Program} {w : World} {A : Around} {E : Value → Shared → Prop} {s : Shared} {T : String} {r d : Addr} {n : Nat} {P : Nat → Value → Prop} {OK : Heap → Prop}
theorem collect_src {Q : List Value → Shared → Prop} (K : KdlSrc prog w T r d n P OK) (hh : A.handled = none) (hok : OK s.heap) (hn : n ≤ sizeLine)
    (hQ : ∀ (h' : Heap) (tk : Nat) (acc : Array Value), (∀ b o, s.heap.get? b = some o → h'.get? b = some o) → ItemsOf P acc n → Q acc.toList { s with heap := h', toks := tk }) :
    wpAny (model prog w) A (collect (.ref r)) Q E s := by
  unfold collect
  refine wpAny_bind (wpAny_runValue (codeAny_builtin F.entry_proto_collect ?_))
  rw [Around.under_plainId F.plain_proto_collect _]
  show wpAny _ A.in1 (newList [] >>= fun l => again (.builtin "list.__iadd__" ⟨[l, .ref r], []⟩)) _ _ s
  refine wpAny_bind (wpAny_newObj_type ?_)
  refine wpAny_pure ⟨plainId_quiet F.plain_list_iadd _, codeAny_builtin F.entry_list_iadd ?_⟩
  rw [Around.under_plainId F.plain_list_iadd _]
  show wpAny _ A.in1 (Builtin.List.listExtendWith (.ref s.heap.objs.size) (.ref r) (.ref s.heap.objs.size)) _ _ _
  have hS : (s.heap.push { cls := .type "list", data := .seq ([] : List Value).toArray }).get? s.heap.objs.size = some { cls := .type "list", data := .seq #[] 0 } := Heap.get?_push_size _ rfl
  have lt := K.there _ hok
  refine wpAny_mono (kdl_extend (A := A) (R := fun rr s' => rr = .ok (.ret (.ref s.heap.objs.size)) ∧ ∃ (h' : Heap) (tk : Nat) (acc : Array Value) (c' : Nat), s' = { s with heap := h', toks := tk } ∧
      (∀ b o, s.heap.get? b = some o → h'.get? b = some o) ∧ h'.get? s.heap.objs.size = some { cls := .type "list", dict := none, data := .seq acc c', slots := #[] } ∧ ItemsOf P acc n)
    (s := { s with heap := s.heap.push { cls := .type "list", data := .seq ([] : List Value).toArray } }) K hh (K.keep _ _ hok fun b _ o e => Heap.get?_push_of_some _ e) _ (Nat.ne_of_gt lt.1) (Nat.ne_of_gt lt.2) (.ref s.heap.objs.size) 0 hS
    (fun h' tk acc c' hk e hi => ⟨rfl, h', tk, acc, c', rfl, fun b o q => hk b o (Nat.ne_of_lt (Heap.lt_size q)) (Heap.get?_push_of_some _ q), e, hi⟩) hn) (fun fin s' h => ?_) (fun e s' h => ?_)
  · cases fin with
    | done f =>
      obtain ⟨e, h', tk, acc, c', rfl, hk, hS', hi⟩ := h
      cases e
      show wpAny _ A (load s.heap.objs.size >>= _) _ _ _
      exact wpAny_bind (wpAny_load hS' (wpAny_pure (hQ h' tk acc hk hi)))
    | again c' =>
      refine ⟨h.1, codeAny_mono h.2 fun rr s'' hr' => ?_⟩
      obtain ⟨rfl, h', tk, acc, c', rfl, hk, hS', hi⟩ := hr'
      show wpAny _ A (load s.heap.objs.size >>= _) _ _ _
      exact wpAny_bind (wpAny_load hS' (wpAny_pure (hQ h' tk acc hk hi)))
  · exact absurd h.1 (by simp)
theorem code_tuple_new_src {Q₁ : Value → Shared → Prop} (K : KdlSrc prog w T r d n P OK) (hh : A.handled = none) (hok : OK s.heap) (hn : n ≤ sizeLine)
    (h : ∀ (h' : Heap) (tk : Nat) (acc : Array Value), (∀ b o, s.heap.get? b = some o → h'.get? b = some o) → ItemsOf P acc n →
      Q₁ (.ref h'.objs.size) { s with heap := h'.push { cls := .type "tuple", data := .seq acc }, toks := tk }) :
    codeAny (model prog w) A (.call (.builtin "tuple.__new__") ⟨[.type "tuple", .ref r], []⟩) (wants Q₁ E) s := by
  refine codeAny_of_tree ?_
  show wpAny _ A.in1 (do checkBuiltinCall "tuple.__new__" ⟨[.type "tuple", .ref r], []⟩; again (.builtin "tuple.__new__" ⟨[.type "tuple", .ref r], []⟩)) _ _ s
  refine wpAny_bind (wpAny_of_eq (F.newCall_tuple_1 _) (wpAny_pure ⟨plainId_quiet F.plain_tuple_new _, codeAny_builtin PySem.F.entry_tuple_new ?_⟩))
  rw [Around.under_plainId F.plain_tuple_new _]
  have hsub := sub_tuple_self
  have hinit := init_tuple_lookup
  have hmh := madeHere_tuple
  have hTI : s.TypeIs (.ref r) T := K.type s hok
  have hnt := K.notTuple
  have hh1 : A.in1.handled = none := hh
  wp_walk using wpAny_typeOf hTI, collect_src (A := A.in1) K hh1 hok hn
  intro h' tk acc hk hacc
  show wpAny _ _ (Builtin.Tuple.tupleExact acc.toList.toArray >>= fun v => ret v) _ _ _
  unfold Builtin.Tuple.tupleExact
  refine wpAny_bind (wpAny_newObj_type ?_ (by show acc.toList.toArray.size ≤ sizeLine; simp only [Array.toArray_toList]; rw [hacc.1]; exact hn))
  refine wpAny_pure ?_
  have e : acc.toList.toArray = acc := by simp
  rw [e]
  exact h h' tk acc hk hacc
theorem call_tuple_src {Q : Value → Shared → Prop} (K : KdlSrc prog w T r d n P OK) (hh : A.handled = none) (hok : OK s.heap) (hn : n ≤ sizeLine)
    (hQ : ∀ (h' : Heap) (tk : Nat) (acc : Array Value), (∀ b o, s.heap.get? b = some o → h'.get? b = some o) → ItemsOf P acc n →
      Q (.ref h'.objs.size) { s with heap := h'.push { cls := .type "tuple", data := .seq acc }, toks := tk }) :
    wpAny (model prog w) A (call (.type "tuple") [.ref r]) Q E s := by
  refine callType_codes (Q₁ := fun obj s₁ => s₁.TypeIs obj "tuple" ∧ Q obj s₁) PySem.F.called_tuple (PySem.F.typeCall_tuple_1 _) F.entry_object_init
    (code_tuple_new_src (A := A.in1) K hh hok hn fun h' tk acc hk hacc => ⟨⟨_, Heap.get?_push_size _ rfl, rfl⟩, hQ h' tk acc hk hacc⟩) fun obj s₁ h₁ => ?_
  exact ⟨h₁.1, PySem.F.args_object_init_2 obj _, object_init_meets PySem.F.called_tuple.init.lookup PySem.F.called_tuple.made (by decide) prog w A.in1 _ s₁ ⟨h₁.1, rfl, h₁.2⟩⟩
end
def tTupVals (te : TE) : TE := fun σ H Q => te σ H fun x H1 => ∃ (d : Addr) (kvs : List (Key × V)), x = .ref d ∧ H1 d = some (.dK kvs) ∧ ∀ p, H1 p = none → Q (.ref p) (upd H1 p (.tup (kvs.map (·.2))))
theorem paired_vals {F : Key × V → Key × Value → Prop} : ∀ {kvs : List (Key × V)} {vs : List (Key × Value)}, Paired F kvs vs → (∀ q v, F q v → RelV q.2 v.2) → Vals (kvs.map (·.2)) (vs.map (·.2))
  | _, _, .nil, _ => .nil
  | _, _, .cons h t, r => .cons (r _ _ h) (paired_vals t r)
section
variable {X : Cx} {e : Expr} {te : TE} {p apos cpos pos : Pos}
theorem pe_tupVals (hc : X.calm = true) (he : PE X e te) (hg : Gl X "tuple") (hm : X.mg "tuple" = none) (hv : bootBuiltins "tuple" = some (.type "tuple")) (hbase : attributeBase e "values" X.env (eval e X.env) = eval e X.env := by rfl) (hline : (apos.endLine == cpos.line) = true := by rfl)
    (hs : starEach [.Call (.Attribute e "values" apos) [] [] cpos] X.env = (false, eval (.Call (.Attribute e "values" apos) [] [] cpos) X.env) :: starEach [] X.env := by rfl) :
    PE X (.Call (.Name "tuple" p) [.Call (.Attribute e "values" apos) [] [] cpos] [] pos) (tTupVals te) := by
  refine ⟨fun pins s σ H Q I hq => ?_⟩
  refine wpAny_Call_Name_kw (ld_blt I hg hm hv ?_)
  refine PyProof.Rows.callWith_type1 ?_ hs rfl
  rw [hs]
  show wpAny _ _ (spliced ((false, eval (.Call (.Attribute e "values" apos) [] [] cpos) X.env) :: backTo pos (starEach [] X.env))) _ _ s
  refine Calls.spliced_cons ?_
  refine wpAny_Call_method (T := "dict") (id := "dict.values") hbase rfl hline F.plainAttrs_dict F.slot_dict_values F.type_dict_values (thn (he.run pins s σ H _ I hq) fun u s1 ⟨x, H1, I1, rx, d, kvs, ex, hd, q⟩ => ?_)
  subst ex
  obtain rfl : u = Value.ref d := rx
  obtain ⟨hz, hs0, vs, kv, hdo⟩ := I1.hok d _ hd
  obtain ⟨ep, hat⟩ := hdo.dictAt
  have lk : kvs.length = vs.length := Paired.length kv
  have I2 : Inv X pins σ H1 { s1 with heap := s1.heap.push { cls := .type "dict_values", data := .fields #[.ref d] } } := I1.kept (t' := s1.toks) fun b ob q => Heap.get?_push_of_some _ q
  refine ⟨hdo.typeIs, hdo.mapOf.noDict, ?_⟩
  show wpAny _ _ (callWith cpos (.builtin "dict.values") [.ref d] [] []) _ X.xe s1
  refine method_meetsIn F.slot_dict_values F.entry_dict_values rfl (PySem.evalArgs_none ⟨rfl, hdo.typeIs, F.args_dict_values_1 _, _, meets_dict_values (mixKind X.prog X.w) d hs0, ⟨vs, hdo⟩, ?_⟩)
  refine Calls.spliced_nil ?_
  refine call_tuple_src (kdl_values (prog := X.prog) (w := X.w) (knd := mixKind X.prog X.w) (kvs := vs) (ep := ep)) (I1.ok.hd hc) ⟨⟨_, Heap.get?_push_size _ rfl, rfl, rfl⟩, hat.push _⟩ (by omega) fun h' tk acc hk hacc => ?_
  have ev : acc.toList = vs.map (·.2) := kdl_vals_eq acc.toList (by rw [Array.length_toList]; exact hacc.1) fun j v e => hacc.2 j v (by rw [← Array.getElem?_toList]; exact e)
  have I3 : Inv X pins σ H1 { s1 with heap := h', toks := tk } := I2.kept (t' := tk) hk
  have I4 : Inv X pins σ (upd H1 h'.objs.size (.tup (kvs.map (·.2)))) { s1 with heap := h'.push { cls := .type "tuple", data := .seq acc }, toks := tk } :=
    I3.laid (t' := tk) (fun b o e => Heap.get?_push_of_some _ e) (Nat.le_refl _) (show ObjOk X.prog X.w _ _ _ (.tup (kvs.map (·.2))) from ⟨by rw [List.length_map]; omega, acc.toList, by
      rw [ev]
      exact paired_vals kv fun q v h => h.2, by
      rw [Array.toArray_toList]
      exact IsTup.new _ _⟩)
  exact ⟨.ref h'.objs.size, _, I4, rfl, q _ (I3.hok.fresh (Nat.le_refl _))⟩
def gTupVals (go : GE) : GE := fun δ μ R => go δ μ fun x μ1 => ∃ a kvs, x = .adr a ∧ μ1 a = some (.dct kvs) ∧ R (.tup (kvs.map (·.2))) μ1
theorem repK_vals {K : PySem.W.Frag} {H : Hp} {μ : Mu} : ∀ {kvs : List (Key × D)} {kv : List (Key × V)}, RepK K H μ kvs kv → RepL K H μ (kvs.map (·.2)) (kv.map (·.2))
  | [], _, h => by
    unfold RepK at h
    subst h
    exact RepL.nil
  | (k, d) :: r, _, h => by
    unfold RepK at h
    obtain ⟨v, s, rfl, h1, h2⟩ := h
    exact RepL.cons h1 (repK_vals h2)
theorem de_tupVals {go : GE} (hc : X.calm = true) (he : DE X e go) (hg : Gl X "tuple") (hm : X.mg "tuple" = none) (hv : bootBuiltins "tuple" = some (.type "tuple")) (hbase : attributeBase e "values" X.env (eval e X.env) = eval e X.env := by rfl) (hline : (apos.endLine == cpos.line) = true := by rfl)
    (hs : starEach [.Call (.Attribute e "values" apos) [] [] cpos] X.env = (false, eval (.Call (.Attribute e "values" apos) [] [] cpos) X.env) :: starEach [] X.env := by rfl) :
    DE X (.Call (.Name "tuple" p) [.Call (.Attribute e "values" apos) [] [] cpos] [] pos) (gTupVals go) := by
  obtain ⟨t, a1, a2⟩ := he.ex
  refine ⟨_, pe_tupVals hc a1 hg hm hv hbase hline hs, fun σ H δ μ Q R rm rs q f => ?_⟩
  refine a2 σ H δ μ _ _ rm rs q fun v d H1 μ1 k1 rm1 r1 q1 => ?_
  obtain ⟨a, kvs, rfl, e1, q1⟩ := q1
  obtain ⟨kv, h1, h2⟩ := rm1 a _ e1
  unfold Rep at r1
  refine ⟨a, kv, r1, h1, fun p n => ?_⟩
  refine f (.ref p) (.tup (kvs.map (·.2))) _ μ1 (k1.trans (Kp.new n)) (rm1.laid n) ?_ q1
  unfold Rep
  exact ⟨p, _, rfl, .inl ⟨upd_same, rm1.free n⟩, (repK_vals h2).mono (Kp.new n) _ _⟩
end
end DL

set_option Elab.async false
set_option linter.all false
set_option maxRecDepth 100000
namespace DL
open PySem PySem.Spec PyProof.Rows L2
/-! ### sorted of a tuple of whole numbers -/
theorem sorted_intsT {prog : Program} {w : World} {A : Around} {E : Value → Shared → Prop} {s : Shared} {l : Addr} {items : Array Value} {ns : List Int} {Q : Value → Shared → Prop} (hl : IsTup s.heap l items) (hI : IntsAre items.toList ns) (h64 : items.size < 64)
    (h : ∀ (h1 h2 : Heap) (out : Array Value) (n : Nat) (ns' : List Int), (∀ b o, s.heap.get? b = some o → h1.get? b = some o) → (∀ b o, h1.get? b = some o → h2.get? b = some o) → h2.get? h1.objs.size = some (seqObj "list" out n) →
      IntsAre out.toList ns' → ns'.Perm ns → ns'.Pairwise (· ≤ ·) → Q (.ref h1.objs.size) { s with heap := h2 }) :
    wpAny (model prog w) A (call (.builtin "sorted") [.ref l]) Q E s := by
  refine Calls.call_function_entry kind_sorted plain_sorted entry_sorted (args_sorted1 _) ?_
  unfold Builtin.«sorted»
  refine wpAny_bind (m := checkCount "sorted" 1 1 _) (wpAny_pure ?_)
  obtain ⟨o, ho, hc, n, hd⟩ := hl
  refine wpAny_bind (wpAny_collect_seq l (.inr rfl) ho hc hd (fun h1 k1 => ?_) (by rw [sizeLine_eq]; omega))
  refine wpAny_bind (wpAny_newList ?_ (by rw [Array.length_toList, sizeLine_eq]; omega))
  have hoL : (h1.push (seqObj "list" items.toList.toArray 0)).get? h1.objs.size = some (seqObj "list" items.toList.toArray 0) := Heap.get?_push_size _ rfl
  refine wpAny_bind (wpAny_holding (wpAny_call_entry slot_list_sort ⟨_, hoL, rfl⟩ entry_list_sort (list_sort_tree hoL hI (by rw [Array.length_toList]; exact h64) fun out ns' a1 a2 a3 => ⟨_, rfl, ?_⟩) (args_list_sort _)))
  obtain ⟨n2, hn⟩ := sortedHeap_at (vs := items.toList) (out := out) hoL
  refine wpAny_pure ⟨_, rfl, h h1 _ out n2 ns' k1 (fun b ob e => ?_) hn a1 a2 a3⟩
  have hb := Heap.lt_size e
  rw [sortedHeap_old (Nat.ne_of_lt hb) (by rw [Heap.size_push]; exact Nat.lt_succ_of_lt hb)]
  exact Heap.get?_push_of_some _ e
def rSortedIT (K : PySem.W.Frag) : List V → Hp → VK → Prop := fun vs H Q => ∃ (a : Addr) (ns : List Int), vs = [V.ref a] ∧ SqT K H a (ns.map V.int) ∧ ns.length < 64 ∧
  ∀ (ns' : List Int) (p : Addr), ns'.Perm ns → ns'.Pairwise (· ≤ ·) → H p = none → Q (.ref p) (upd H p (.lst (ns'.map V.int)))
theorem cr_sortedIT {X : Cx} : CallR X (.builtin "sorted") (rSortedIT X.K) := by
  intro pins s σ H vs us Q I r h
  obtain ⟨a, ns, rfl, hs, h64, q⟩ := h
  obtain ⟨its, rv, hl, _⟩ := I.tuple hs
  rw [Vals.ref1 r]
  have hi := rv.ints
  refine sorted_intsT hl (show IntsAre its.toArray.toList ns from hi) (by rw [List.size_toArray, hi.length]; exact h64) fun h1 h2 out n ns' k1 k2 ho a1 a2 a3 => ?_
  have I1 : Inv X pins σ H { s with heap := h1 } := I.kept (t' := s.toks) k1
  have hlen : (ns'.map V.int).length ≤ sizeLine := by rw [List.length_map, a2.length_eq, sizeLine_eq]; omega
  exact ⟨.ref _, upd H h1.objs.size (.lst (ns'.map V.int)), I1.laid (t' := s.toks) k2 (Nat.le_refl _) ⟨hlen, out.toList, n, vals_of_ints a1, ho⟩, rfl, q ns' _ a2 a3 (I1.hok.fresh (Nat.le_refl _))⟩
def gSortedIT1 : G1 := fun x μ R => match x with
  | .tup ds => ∃ ns : List Int, ds = List.map D.int ns ∧ ns.length < 64 ∧ ∀ ns' : List Int, ns'.Perm ns → ns'.Pairwise (· ≤ ·) → R (.lst (List.map D.int ns')) μ
  | _ => False
theorem sim_sortedIT {K : PySem.W.Frag} : SimC K (rSortedIT K) (g1 gSortedIT1) := sim_g1 fun v d H μ Q R rm rv q f => by
  cases d <;> try exact False.elim q
  obtain ⟨ns, rfl, h64, q⟩ := q
  obtain ⟨p, vs, rfl, im, l⟩ := rep_tup rv
  have e := l.ints
  exact ⟨p, ns, rfl, by rw [← e]; exact im.sq, h64, fun ys t hp hs n => fw_lst rm n (RepL.of_ints ys) (q ys hp hs) f⟩
end DL

set_option Elab.async false
set_option linter.all false
set_option maxRecDepth 100000
namespace DL
open PySem PySem.Spec PyProof.Rows L2
/-! ### sorted of a tuple of tuples of ints -/
theorem sorted_tupsT {prog : Program} {w : World} {A : Around} {E : Value → Shared → Prop} {s : Shared} {l : Addr} {items : Array Value} {nss : List (List Int)} {k : Value → List Int} {Q : Value → Shared → Prop} (hu : A.units + 64 < cLine) (hl : IsTup s.heap l items) (hz : items.size ≤ sizeLine)
    (t : TupsI s.heap items.toList nss) (hp : ∀ v ∈ items.toList, TS.TupInts s.heap v (k v)) (hd : (∀ ns ∈ nss, ns ≠ []) ∨ nss.head? = some [])
    (h : ∀ (h1 h2 : Heap) (out : List Value) (n : Nat), (∀ b o, s.heap.get? b = some o → h1.get? b = some o) → (∀ b o, h1.get? b = some o → h2.get? b = some o) → h2.get? h1.objs.size = some (seqObj "list" out.toArray n) →
      SrtO.Srtd (fun v u => ltI (k v) (k u)) out → SrtO.Stb (fun v u => ltI (k v) (k u)) out items.toList → Q (.ref h1.objs.size) { s with heap := h2 }) :
    wpAny (model prog w) A (call (.builtin "sorted") [.ref l]) Q E s := by
  refine Calls.call_function_entry kind_sorted plain_sorted entry_sorted (args_sorted1 _) ?_
  unfold Builtin.«sorted»
  refine wpAny_bind (m := checkCount "sorted" 1 1 _) (wpAny_pure ?_)
  obtain ⟨o, ho, hc, n, hdd⟩ := hl
  refine wpAny_bind (wpAny_collect_seq l (.inr rfl) ho hc hdd (fun h1 k1 => ?_) hz)
  refine wpAny_bind (wpAny_newList ?_ (by rw [Array.length_toList]; exact hz))
  have hoL : (h1.push (seqObj "list" items.toList.toArray 0)).get? h1.objs.size = some (seqObj "list" items.toList.toArray 0) := Heap.get?_push_size _ rfl
  refine wpAny_bind (wpAny_holding (wpAny_call_entry slot_list_sort ⟨_, hoL, rfl⟩ entry_list_sort (SrtO.list_sort_ord (swo_ltI k) hoL (by rw [Array.length_toList]; exact hz) (fun _ => ?_) fun out hs hb => ⟨_, rfl, ?_⟩) (args_list_sort _)))
  · intro h' kk
    have kp : ∀ b o, s.heap.get? b = some o → o.cls = .type "tuple" → h'.get? b = some o := fun b o e c => by
      have e1 := k1 b o e
      exact kk b o (Nat.ne_of_lt (Heap.lt_size e1)) (Heap.get?_push_of_some _ e1)
    have t' : TupsI h' items.toList nss := tups_keeps kp t
    have hp' : ∀ v ∈ items.toList, TS.TupInts h' v (k v) := fun v hv => tup_keeps kp (hp v hv)
    by_cases hc : nss.head? = some []
    · refine ⟨oneType', fun Q E hq => kind_tups (s := { s with heap := h' }) t' (.inr hc) (by omega) (fun hh => ?_) (fun _ => hq), cmp_tups2 (s := { s with heap := h' }) (show A.units + 1 + 1 < cLine by omega) hp'⟩
      match nss, hc, hh with
      | ns :: nss, hc, hh =>
        have e : ns = [] := by simpa using hc
        exact absurd e (hh ns List.mem_cons_self)
    · exact ⟨tuples' true, fun Q E hq => kind_tups (s := { s with heap := h' }) t' (.inl (hd.resolve_right hc)) (by omega) (fun _ => hq) (fun hh => absurd hh hc), cmp_tups1 (s := { s with heap := h' }) hp'⟩
  · obtain ⟨n2, hn⟩ := sortedHeap_at (vs := items.toList) (out := out.toArray) hoL
    refine wpAny_pure ⟨_, rfl, h h1 _ out n2 k1 (fun b ob e => ?_) hn hs hb⟩
    have hb := Heap.lt_size e
    rw [sortedHeap_old (Nat.ne_of_lt hb) (by rw [Heap.size_push]; exact Nat.lt_succ_of_lt hb)]
    exact Heap.get?_push_of_some _ e
def rSortIT (K : PySem.W.Frag) : List V → Hp → VK → Prop := fun vs H Q => ∃ (a : Addr) (xs : List V) (nss : List (List Int)), vs = [V.ref a] ∧ SqT K H a xs ∧ TupIs K H xs nss ∧ ((∀ ns ∈ nss, ns ≠ []) ∨ nss.head? = some []) ∧
  ∀ (ys : List V) (p : Addr), ys.Perm xs → ys.Pairwise (fun x y => ∀ n m, TupI K H x n → TupI K H y m → ltI m n = false) → H p = none → Q (.ref p) (upd H p (.lst ys))
theorem cr_sortIT {X : Cx} (hu : X.A.units + 64 < cLine) : CallR X (.builtin "sorted") (rSortIT X.K) := by
  intro pins s σ H vs us Q I r h
  obtain ⟨a, xs, nss, rfl, hs, ht, hd, q⟩ := h
  obtain ⟨its, rv, hl, hz⟩ := I.tuple hs
  rw [Vals.ref1 r]
  obtain ⟨e1, e2⟩ := bkV_refs rv fun x m => by
    obtain ⟨ns, t, e, _⟩ := ht.has x m
    exact ⟨t, e⟩
  have t := tupsI_of I e2 (e1 ▸ ht)
  have hp : ∀ v ∈ its, TS.TupInts s.heap v (keyT s.heap v) := fun v hv => by
    obtain ⟨ns, _, h⟩ := TupsI.all t v hv
    rw [keyT_is h]
    exact h
  refine sorted_tupsT hu hl (by rw [List.size_toArray, ← rv.length]; exact hz) t hp hd fun h1 h2 out n k1 k2 ho s1 s2 => ?_
  have I1 : Inv X pins σ H { s with heap := h1 } := I.kept (t' := s.toks) k1
  have hpm : out.Perm its := s2.perm
  have h3 : ∀ u ∈ out, ∃ a, u = Value.ref a := fun u hu => e2 u (hpm.mem_iff.mp hu)
  have hp2 : (out.map bkV).Perm xs := by
    rw [e1]
    exact hpm.map bkV
  have hlen : (out.map bkV).length ≤ sizeLine := by
    rw [hp2.length_eq]
    exact hz
  refine ⟨.ref _, upd H h1.objs.size (.lst (out.map bkV)), I1.laid (t' := s.toks) k2 (Nat.le_refl _) ⟨hlen, out, n, bkV_vals h3, ho⟩, rfl, q _ _ hp2 ?_ (I1.hok.fresh (Nat.le_refl _))⟩
  rw [List.pairwise_map]
  refine List.Pairwise.imp (fun {u v} huv n m hn hm => ?_) s1
  obtain ⟨t, et, ht⟩ := hn
  obtain ⟨t', et', ht'⟩ := hm
  have eu := bkV_ref et
  have ev := bkV_ref et'
  subst eu ev
  have huv : ltI (keyT s.heap (Value.ref t')) (keyT s.heap (Value.ref t)) = false := huv
  rw [keyT_is (tupI_raw I ht), keyT_is (tupI_raw I ht')] at huv
  exact huv
def gSortIT1 : G1 := fun x μ R => match x with
  | .tup ds => sortI ds μ R
  | _ => False
theorem sim_sortIT {K : PySem.W.Frag} : SimC K (rSortIT K) (g1 gSortIT1) := sim_g1 fun v d H μ Q R rm rv q f => by
  cases d <;> try exact False.elim q
  obtain ⟨nss, rfl, hk, q⟩ := q
  obtain ⟨p, vs, rfl, im, l⟩ := rep_tup rv
  refine ⟨p, vs, nss, rfl, im.sq, tupIs_rep l, hk, fun ys p hp pw n => ?_⟩
  obtain ⟨mss, m1, m2⟩ := rep_perm l hp
  exact fw_lst rm n m2 (q mss m1 (pw_rep m2 pw)) f
end DL

set_option Elab.async false
set_option linter.all false
set_option maxRecDepth 100000
namespace DL
open PySem PySem.Spec PyProof.Rows L2
/-! ### dicts whose keys are tuples of ints and texts -/
def kDs (k : List Key) : D := .tup (k.map kD)
def ik (l : List Int) : List Key := l.map Sum.inl
theorem kDs_ik (l : List Int) : kDs (ik l) = .tup (l.map D.int) := by
  unfold kDs ik
  rw [List.map_map]
  rfl
theorem ik_inj {a b : List Int} (h : ik a = ik b) : a = b := List.map_inj_right (fun _ _ e => Sum.inl.inj e) |>.mp h
section
variable {K : PySem.W.Frag} {H : Hp} {μ : Mu}
theorem keys_rep : ∀ {k : List Key} {vs : List V}, RepL K H μ (k.map kD) vs → vs = k.map kV
  | [], _, h => by
    rw [List.map_nil] at h
    unfold RepL at h
    exact h
  | x :: k, _, h => by
    rw [List.map_cons] at h
    unfold RepL at h
    obtain ⟨v, r, rfl, h1, h2⟩ := h
    rw [kD_rep h1, keys_rep h2]
    rfl
theorem to_keys : ∀ k : List Key, RepL K H μ (k.map kD) (k.map kV)
  | [] => RepL.nil
  | .inl i :: k => RepL.cons to_int (to_keys k)
  | .inr x :: k => RepL.cons to_str (to_keys k)
theorem tkey_rep {k : List Key} {v : V} (h : Rep K H μ (kDs k) v) : ∃ b, v = .ref b ∧ H b = some (.tup (k.map kV)) := by
  obtain ⟨a, vs, rfl, im, rl⟩ := rep_tup h
  rw [keys_rep rl] at im
  exact ⟨a, rfl, im.at_.1⟩
theorem to_tkey (rm : RM K H μ) {k : List Key} {b : Addr} (h : H b = some (.tup (k.map kV))) : Rep K H μ (kDs k) (.ref b) := by
  unfold kDs Rep
  refine ⟨b, _, rfl, .inl ⟨h, ?_⟩, to_keys k⟩
  cases e : μ b with
  | none => rfl
  | some o =>
    have q := rm b o e
    cases o with
    | lst ds => obtain ⟨vs, h1, _⟩ := q; rw [h] at h1; cases h1
    | dct kvs => obtain ⟨vs, h1, _⟩ := q; rw [h] at h1; cases h1
    | dtt kvs => obtain ⟨vs, h1, _⟩ := q; rw [h] at h1; cases h1
    | lck kvs => obtain ⟨o, vs, h1, _⟩ := q; rw [h] at h1; cases h1
    | ftp ds => obtain ⟨o, vs, h1, _⟩ := q; rw [h] at h1; cases h1
    | ins C fs => obtain ⟨dx, vs, h1, _⟩ := q; rw [h] at h1; cases h1
end
theorem RM.cellT {K : PySem.W.Frag} {H : Hp} {μ : Mu} {p : Addr} {kv : List (List Key × V)} {kvs : List (List Key × D)} (rm : RM K H μ) (n : H p = none) (r : RepK K H μ kvs kv) : RM K (upd H p (.dT kv)) (DL.put μ p (.dtt kvs)) :=
  rm.put (Kp.cell n) (fun a o ea e => upd_ne ea) ⟨kv, upd_same, r.mono (Kp.cell n) _ _⟩
/-- {} whose keys will be tuples -/
def gDNewT : GE := fun _ μ R => ∀ a, μ a = none → R (.adr a) (put μ a (.dtt []))
theorem de_dnewT {X : Cx} {pos : Pos} : DE X (.Dict [] [] pos) gDNewT := by
  refine ⟨_, pe_dnewT, fun σ H δ μ Q R rm rs q f => ?_⟩
  intro p n
  exact f (.ref p) (.adr p) _ _ (Kp.cell n) (rm.cellT n (by unfold RepK; rfl)) to_adr (q p (rm.free n))
/-- d[t] = e -/
def setT (x y d : D) (μ : Mu) (R : Mu → Prop) : Prop := ∃ (a : Addr) (kvs : List (List Key × D)) (k : List Key), x = .adr a ∧ μ a = some (.dtt kvs) ∧ y = kDs k ∧ kvs.length < sizeLine ∧ R (put μ a (.dtt (putD kvs k d)))
def hSubT (go gi : GE) : GH := fun d δ μ R => go δ μ fun x μ1 => gi δ μ1 fun y μ2 => setT x y d μ2 fun μ3 => R δ μ3
theorem simH_subT {K : PySem.W.Frag} {go gi : GE} : SimH K (gSub (tOf K go) (tOf K gi) rSetD) (hSubT go gi) := by
  intro v d σ H δ μ Q R rm rs r q f
  refine sim_of σ H δ μ _ _ rm rs q fun x dx H1 μ1 k1 rm1 r1 q1 => ?_
  refine sim_of σ H1 δ μ1 _ _ rm1 (rs.mono k1) q1 fun y dy H2 μ2 k2 rm2 r2 q2 => ?_
  obtain ⟨a, kvs, k, rfl, e0, rfl, hl, q2⟩ := q2
  obtain ⟨kv, e1, l⟩ := rm2 a _ e0
  have kw : Kp H2 μ2 (upd H2 a (.dT (putK kv k v))) (put μ2 a (.dtt (putD kvs k d))) := Kp.write e0
  obtain ⟨b, rfl, eb⟩ := tkey_rep r2
  refine ⟨a, _, rep_adr (r1.mono k2), DPut.t e1 eb (by rw [l.length]; exact hl), f _ _ _ _ (k1.trans (k2.trans kw)) ?_ (rs.mono (k1.trans (k2.trans kw))) q2⟩
  exact rm2.put (m := .dtt (putD kvs k d)) kw (fun b o n _ => upd_ne n) ⟨_, upd_same, (l.put (r.mono (k1.trans k2))).mono kw _ _⟩
/-- d[t] -/
def gTGet (go gi : GE) : GE := fun δ μ R => go δ μ fun x μ1 => gi δ μ1 fun y μ2 => ∃ (a : Addr) (kvs : List (List Key × D)) (k : List Key) (d : D), x = .adr a ∧ μ2 a = some (.dtt kvs) ∧ y = kDs k ∧ valD kvs k = some d ∧ R d μ2
/-- d.get(t, e) -/
def gTGet2 (go gi gx : GE) : GE := fun δ μ R => go δ μ fun x μ1 => (∃ a kvs, x = .adr a ∧ μ1 a = some (.dtt kvs)) ∧ gi δ μ1 fun y μ2 => gx δ μ2 fun z μ3 =>
  ∃ (a : Addr) (kvs : List (List Key × D)) (k : List Key), x = .adr a ∧ μ3 a = some (.dtt kvs) ∧ y = kDs k ∧ R ((valD kvs k).getD z) μ3
section
variable {X : Cx} {o i e f : Expr} {pos apos cpos : Pos} {go gi ge : GE}
theorem de_tget (hu : X.A.units + 1 < cLine) (ho : DE X o go) (hi : DE X i gi) (hs : NoSl i) : DE X (.Subscript o i pos) (gTGet go gi) := by
  obtain ⟨t, a1, a2⟩ := ho.ex
  obtain ⟨t2, b1, b2⟩ := hi.ex
  refine ⟨_, pe_dget hu a1 b1 hs, fun σ H δ μ Q R rm rs q f => ?_⟩
  refine a2 σ H δ μ _ _ rm rs q fun v d H1 μ1 k1 rm1 r1 q1 => ?_
  refine b2 σ H1 δ μ1 _ _ rm1 (rs.mono k1) q1 fun y dy H2 μ2 k2 rm2 r2 q2 => ?_
  obtain ⟨a, kvs, k, d, rfl, e0, rfl, ed, q2⟩ := q2
  obtain ⟨kv, h1, l⟩ := rm2 a _ e0
  obtain ⟨w, g1, g2⟩ := l.look ed
  obtain ⟨b, rfl, eb⟩ := tkey_rep r2
  refine ⟨a, w, rep_adr (r1.mono k2), ?_, f w d H2 μ2 (k1.trans k2) rm2 g2 q2⟩
  rw [← g1]
  exact DGet.t h1 eb
theorem de_tget2 (hu : X.A.units + 1 < cLine) (ho : DE X o go) (he : DE X e gi) (hf : DE X f ge) (m : M2 X o "get" apos e f cpos) : DE X (.Call (.Attribute o "get" apos) [e, f] [] cpos) (gTGet2 go gi ge) := by
  obtain ⟨t, a1, a2⟩ := ho.ex
  obtain ⟨t2, b1, b2⟩ := he.ex
  obtain ⟨t3, c1, c2⟩ := hf.ex
  refine ⟨_, pe_dget2 hu a1 b1 c1 m, fun σ H δ μ Q R rm rs q f => ?_⟩
  refine a2 σ H δ μ _ _ rm rs q fun v d H1 μ1 k1 rm1 r1 q1 => ?_
  obtain ⟨⟨a, kvs0, rfl, e00⟩, q1⟩ := q1
  obtain ⟨kv0, h10, l0⟩ := rm1 a _ e00
  refine ⟨a, rep_adr r1, .inr ⟨_, .inl h10⟩, ?_⟩
  refine b2 σ H1 δ μ1 _ _ rm1 (rs.mono k1) q1 fun y dy H2 μ2 k2 rm2 r2 q2 => ?_
  refine c2 σ H2 δ μ2 _ _ rm2 (rs.mono (k1.trans k2)) q2 fun z dz H3 μ3 k3 rm3 r3 q3 => ?_
  obtain ⟨a', kvs, k, ea, e0, rfl, q3⟩ := q3
  cases ea
  obtain ⟨kv, h1, l⟩ := rm3 a _ e0
  obtain ⟨b, rfl, eb⟩ := tkey_rep (r2.mono k3)
  refine ⟨valV kv k, DGet.t h1 eb, ?_⟩
  cases ed : valD kvs k with
  | none =>
    rw [ed] at q3
    rw [l.lookN ed]
    exact f z dz H3 μ3 (k1.trans (k2.trans k3)) rm3 r3 q3
  | some d =>
    rw [ed] at q3
    obtain ⟨w, g1, g2⟩ := l.look ed
    rw [g1]
    exact f w d H3 μ3 (k1.trans (k2.trans k3)) rm3 g2 q3
end
/-! ### d.setdefault(t, e) -/
section
variable {X : Cx} {pins : List (Addr × Obj)} {σ : L2.St} {H : Hp} {s : Shared} {a b : Addr} {r : Value} {d : V} {k : List Key} {A : Around} {E : Value → Shared → Prop}
theorem d_setdT {kvs : List (List Key × V)} {Q : Value → Shared → Prop} (hu : A.units + 1 < cLine) (I : Inv X pins σ H s) (e : H a = some (.dT kvs)) (eb : H b = some (.tup (k.map kV))) (rd : RelV d r) (hl : kvs.length < sizeLine)
    (h1 : ∀ v, valV kvs k = some v → ∀ (w' : Value) (s' : Shared), Inv X pins σ H s' → RelV v w' → Q w' s') (h2 : valV kvs k = none → ∀ (w' : Value) (s' : Shared), Inv X pins σ (upd H a (.dT (putK kvs k d))) s' → RelV d w' → Q w' s') :
    wpAny (model X.prog X.w) A (call (.builtin "dict.setdefault") [.ref a, .ref b, r]) Q E s := by
  obtain ⟨z, hd, xs, rel, dd⟩ := dt_of I.hok e
  have hz : xs.length ≤ sizeLine := by rw [← Paired.length rel]; exact z
  have hl2 : (putK kvs k d).length ≤ sizeLine := by have := length_putK kvs k d; omega
  refine call_setdefault_heap (hsz := hz) (tupleKind_room_in1 hu) (key_of I.hok eb) hd dd (fun p hp => ?_) fun hn h' dd' hs => ?_
  · have q := rel.val k
    rw [hp] at q
    cases q0 : valV kvs k with
    | none =>
      rw [q0] at q
      exact (show False from q).elim
    | some v0 =>
      rw [q0] at q
      exact h1 v0 q0 _ _ (I.tok _) q
  · have q := rel.val k
    rw [hn] at q
    cases q0 : valV kvs k with
    | some v0 =>
      rw [q0] at q
      exact (show False from q).elim
    | none =>
      obtain ⟨q, es, ep, hq, g2, g3, g4, _, g5⟩ := dd'
      have new : ObjOk X.prog X.w (upd H a (.dT (putK kvs k d))) h' a (.dT (putK kvs k d)) := ⟨hl2, hd, _, (rel.put k eb rd).keeps fun c ys ec => by
        rw [upd_ne (ne_of ec e (fun z => nomatch z))]
        exact ec, q, es, ep, hq, g2, g3, g4, g5⟩
      exact h2 q0 _ _ (d_write I (by rw [e]; exact True.intro) hs ⟨q, hq⟩ new) rd
end
def tDSetdT (td ty tx : TE) : TE := fun σ H Q => td σ H fun x H1 => ∃ a, x = .ref a ∧ IsD H1 a ∧ ty σ H1 fun y H2 => tx σ H2 fun z H3 => ∃ (kvs : List (List Key × V)) (k : List Key) (b : Addr), H3 a = some (.dT kvs) ∧ y = .ref b ∧ H3 b = some (.tup (k.map kV)) ∧ kvs.length < sizeLine ∧
  (∀ v, valV kvs k = some v → Q v H3) ∧ (valV kvs k = none → Q z (upd H3 a (.dT (putK kvs k z))))
section
variable {X : Cx} {o e f : Expr} {td ty tx : TE} {apos cpos : Pos} {go gi ge : GE}
theorem pe_dsetdT (hu : X.A.units + 1 < cLine) (ho : PE X o td) (he : PE X e ty) (hf : PE X f tx) (m : M2 X o "setdefault" apos e f cpos) : PE X (.Call (.Attribute o "setdefault" apos) [e, f] [] cpos) (tDSetdT td ty tx) := by
  refine ⟨fun pins s σ H Q I h => ?_⟩
  refine wpAny_Call_method m.base m.few m.line PySem.F.plainAttrs_dict PySem.F.slot_dict_setdefault PySem.F.type_dict_setdefault (thn (ho.run pins s σ H _ I h) fun u s1 ⟨x, H1, I1, rx, a, ex, d, q1⟩ => ?_)
  subst ex
  obtain rfl : u = Value.ref a := rx
  obtain ⟨t1, t2, _⟩ := isD_at I1 d
  refine ⟨t1, t2, ?_⟩
  rw [m.trees]
  refine Calls.callWith_builtin rfl (Calls.evalArgs_plain (Calls.spliced_cons (thn (he.run pins s1 σ H1 _ I1 q1) fun iv s2 ⟨y, H2, I2, ry, q2⟩ =>
    Calls.spliced_cons (thn (hf.run pins s2 σ H2 _ I2 q2) fun fv s3 ⟨z, H3, I3, rz, kvs, k, b, ea, ey, eb, hl, q3, q4⟩ => Calls.spliced_nil ?_))))
  subst ey
  cases (show iv = Value.ref b from ry)
  exact d_setdT hu I3 ea eb rz hl (fun v hv w' s4 I4 rw' => ⟨v, _, I4, rw', q3 v hv⟩) fun hn w' s4 I4 rw' => ⟨z, _, I4, rw', q4 hn⟩
def gTSetd (go gi gx : GE) : GE := fun δ μ R => go δ μ fun x μ1 => (∃ a kvs, x = .adr a ∧ μ1 a = some (.dtt kvs)) ∧ gi δ μ1 fun y μ2 => gx δ μ2 fun z μ3 =>
  ∃ (a : Addr) (kvs : List (List Key × D)) (k : List Key), x = .adr a ∧ μ3 a = some (.dtt kvs) ∧ y = kDs k ∧ kvs.length < sizeLine ∧
    (∀ d, valD kvs k = some d → R d μ3) ∧ (valD kvs k = none → R z (put μ3 a (.dtt (putD kvs k z))))
theorem de_tsetd (hu : X.A.units + 1 < cLine) (ho : DE X o go) (he : DE X e gi) (hf : DE X f ge) (m : M2 X o "setdefault" apos e f cpos) : DE X (.Call (.Attribute o "setdefault" apos) [e, f] [] cpos) (gTSetd go gi ge) := by
  obtain ⟨t, a1, a2⟩ := ho.ex
  obtain ⟨t2, b1, b2⟩ := he.ex
  obtain ⟨t3, c1, c2⟩ := hf.ex
  refine ⟨_, pe_dsetdT hu a1 b1 c1 m, fun σ H δ μ Q R rm rs q f => ?_⟩
  refine a2 σ H δ μ _ _ rm rs q fun v d H1 μ1 k1 rm1 r1 q1 => ?_
  obtain ⟨⟨a, kvs0, rfl, e00⟩, q1⟩ := q1
  obtain ⟨kv0, h10, l0⟩ := rm1 a _ e00
  refine ⟨a, rep_adr r1, .inr ⟨_, .inl h10⟩, ?_⟩
  refine b2 σ H1 δ μ1 _ _ rm1 (rs.mono k1) q1 fun y dy H2 μ2 k2 rm2 r2 q2 => ?_
  refine c2 σ H2 δ μ2 _ _ rm2 (rs.mono (k1.trans k2)) q2 fun z dz H3 μ3 k3 rm3 r3 q3 => ?_
  obtain ⟨a', kvs, k, ea, e0, rfl, hl, q3, q4⟩ := q3
  cases ea
  obtain ⟨kv, h1, l⟩ := rm3 a _ e0
  obtain ⟨b, rfl, eb⟩ := tkey_rep (r2.mono k3)
  refine ⟨kv, k, b, h1, rfl, eb, by rw [l.length]; exact hl, fun v hv => ?_, fun hn => ?_⟩
  · cases ed : valD kvs k with
    | none => rw [l.lookN ed] at hv; cases hv
    | some d =>
      obtain ⟨w, g1, g2⟩ := l.look ed
      rw [g1] at hv
      cases hv
      exact f _ d H3 μ3 (k1.trans (k2.trans k3)) rm3 g2 (q3 d ed)
  · cases ed : valD kvs k with
    | some d =>
      obtain ⟨w, g1, g2⟩ := l.look ed
      rw [g1] at hn
      cases hn
    | none =>
      have kw : Kp H3 μ3 (upd H3 a (.dT (putK kv k z))) (put μ3 a (.dtt (putD kvs k dz))) := Kp.write e0
      refine f z dz _ _ (k1.trans (k2.trans (k3.trans kw))) ?_ (r3.mono kw) (q4 ed)
      exact rm3.put (m := .dtt (putD kvs k dz)) kw (fun b o n _ => upd_ne n) ⟨_, upd_same, (l.put r3).mono kw _ _⟩
end
/-! ### the keys of a dict that is let go: walked, listed, sorted -/
def keysD {β : Type} (kvs : List (List Key × β)) : List D := kvs.map fun p => kDs p.1
theorem repK_keys {K : PySem.W.Frag} {H : Hp} {μ : Mu} : ∀ {kvs : List (List Key × D)} {kv : List (List Key × V)}, RepK K H μ kvs kv → kv.map (·.1) = kvs.map (·.1)
  | [], _, h => by
    unfold RepK at h
    subst h
    rfl
  | (k, d) :: r, _, h => by
    unfold RepK at h
    obtain ⟨v, s, rfl, h1, h2⟩ := h
    rw [List.map_cons, List.map_cons, repK_keys h2]
def iKeysL (td : TE) : TI := fun σ H R => td σ H fun x H1 => ∃ d kvs, x = .ref d ∧ H1 d = some (.dT kvs) ∧ ∀ o, R (Itkt d o kvs) (upd H1 d (.frz o (.dT kvs)))
theorem pi_keysL {X : Cx} {tg e : Expr} {td : TE} (he : PE X e td) : PI X tg e (iKeysL td) := by
  refine ⟨fun pins s σ H R I h => ?_⟩
  refine thn (he.run pins s σ H _ I h) fun u s1 ⟨x, H1, I1, rx, d, kvs, ex, hd, q⟩ => ?_
  subst ex
  obtain rfl : u = Value.ref d := rx
  obtain ⟨od, I2⟩ := I1.lock hd True.intro
  have hd2 : upd H1 d (.frz od (.dT kvs)) d = some (.frz od (.dT kvs)) := upd_same
  obtain ⟨hs, hgd, hx, es, ep, hdt, hsz, ent⟩ := I2.frzT hd2
  refine iter_keys hs hgd hx hdt (pi_one (tk := s1.toks) I2 _ (turn_keysT _ hdt) ⟨_, Heap.get?_push_size _ rfl, rfl, ?_⟩ (q od))
  rw [hsz] <;> rfl
def gItemsK (g : GE) : GI := fun δ μ R => g δ μ fun x μ1 => ∃ (a : Addr) (kvs : List (List Key × D)), x = .adr a ∧ μ1 a = some (.dtt kvs) ∧ R (keysD kvs) (del μ1 a)
theorem Kp.gone {H : Hp} {μ : Mu} {p : Addr} {o : HO} {u : MO} (n : μ p = some u) : Kp H μ (upd H p o) (del μ p) := by
  refine ⟨fun b w e z => ?_, fun b h => ?_⟩
  · have : b ≠ p := by rintro rfl; rw [n] at z; cases z
    rw [upd_ne this]; exact e
  · by_cases e : b = p
    · left; rw [e, n]; simp
    · left; rw [del_ne e] at h; exact h
theorem RM.gone {K : PySem.W.Frag} {H : Hp} {μ : Mu} {p : Addr} {u : HO} {m : MO} (rm : RM K H μ) (n : μ p = some m) : RM K (upd H p u) (del μ p) := fun a o e => by
  have ne : a ≠ p := fun z => by rw [z, del_same] at e; cases e
  rw [del_ne ne] at e
  have q := rm a o e
  have k : Kp H μ (upd H p u) (del μ p) := Kp.gone n
  cases o with
  | lst ds => obtain ⟨vs, h1, h2⟩ := q; exact ⟨vs, (upd_ne ne).trans h1, h2.mono k _ _⟩
  | dct kvs => obtain ⟨vs, h1, h2⟩ := q; exact ⟨vs, (upd_ne ne).trans h1, h2.mono k _ _⟩
  | dtt kvs => obtain ⟨vs, h1, h2⟩ := q; exact ⟨vs, (upd_ne ne).trans h1, h2.mono k _ _⟩
  | lck kvs => obtain ⟨o, vs, h1, h2⟩ := q; exact ⟨o, vs, (upd_ne ne).trans h1, h2.mono k _ _⟩
  | ftp ds => obtain ⟨o, vs, h1, d, h2⟩ := q; exact ⟨o, vs, (upd_ne ne).trans h1, d, h2.mono k _ _⟩
  | ins C fs => obtain ⟨dx, vs, h1, h2⟩ := q; exact ⟨dx, vs, (upd_ne ne).trans h1, h2.mono k _ _⟩
theorem di_keysL {X : Cx} {tg e : Expr} {g : GE} (h : DE X e g) : DI X tg e (gItemsK g) := by
  obtain ⟨t, a1, a2⟩ := h.ex
  refine ⟨_, pi_keysL a1, fun σ H δ μ Q R rm rs q f => ?_⟩
  refine a2 σ H δ μ _ _ rm rs q fun v d H1 μ1 k1 rm1 r1 q1 => ?_
  obtain ⟨a, kvs, rfl, e0, q1⟩ := q1
  obtain ⟨kv, h1, l⟩ := rm1 a _ e0
  refine ⟨a, kv, rep_adr r1, h1, fun od => ?_⟩
  have ke := repK_keys l
  have kl := l.length
  refine f _ (keysD kvs) _ _ (k1.trans (Kp.gone e0)) (rm1.gone e0) ?_ q1
  have el : (keysD kvs).length = kv.length := by unfold keysD; rw [List.length_map, kl]
  have h2 : upd H1 a (.frz od (.dT kv)) a = some (.frz od (.dT kv)) := upd_same
  rw [WalkD, el]
  refine ⟨fun i H2 hi ⟨μ2, k2, rm2⟩ => ⟨k2.k1 _ _ h2 del_same, hi⟩, fun H2 ⟨μ2, k2, rm2⟩ => ⟨k2.k1 _ _ h2 del_same, Nat.le_refl _⟩, fun i H2 x H3 hi ⟨μ2, k2, rm2⟩ y μ3 k3 rm3 => ?_⟩
  obtain ⟨rfl, k, v, b, hk, rfl, hb⟩ := y
  refine ⟨kDs k, ?_, to_tkey rm3 hb, Kp.refl _ _, rm3⟩
  unfold keysD
  have e1 : (kv.map (·.1))[i]? = some k := by rw [List.getElem?_map, hk]; rfl
  rw [ke, List.getElem?_map] at e1
  rw [List.getElem?_map]
  cases q2 : kvs[i]? with
  | none => rw [q2] at e1; cases e1
  | some p => rw [q2] at e1; cases e1; rfl
end DL

set_option Elab.async false
set_option linter.all false
set_option maxRecDepth 100000
namespace DL
open PySem PySem.Spec PyProof.Rows L2
/-! ### list(d), sorted(d), d a dict whose keys are tuples -/
theorem isKeys_rep {K : PySem.W.Frag} {H : Hp} {μ : Mu} (rm : RM K H μ) : ∀ {kvs : List (List Key × V)} {bs : List Addr}, IsKeys H kvs bs → RepL K H μ ((kvs.map (·.1)).map kDs) (bs.map V.ref)
  | _, _, .nil => RepL.nil
  | _, _, .cons h t => RepL.cons (to_tkey rm h) (isKeys_rep rm t)
def gListT1 : G1 := fun x μ R => ∃ (a : Addr) (kvs : List (List Key × D)), x = .adr a ∧ μ a = some (.dtt kvs) ∧ R (.lst (keysD kvs)) μ
abbrev rListT : List V → Hp → VK → Prop := fun xs H Q => ∃ d kvs, xs = [V.ref d] ∧ Rd H d (.dT kvs) ∧ ∀ p bs, H p = none → IsKeys H kvs bs → Q (.ref p) (upd H p (.lst (bs.map V.ref)))
theorem keysD_of {kvs : List (List Key × D)} {kv : List (List Key × V)} (e : kv.map (·.1) = kvs.map (·.1)) : (kv.map (·.1)).map kDs = keysD kvs := by
  rw [e]
  unfold keysD
  rw [List.map_map]
  rfl
theorem sim_listT {K : PySem.W.Frag} : SimC K rListT (g1 gListT1) := sim_g1 fun v d H μ Q R rm rv q f => by
  obtain ⟨a, kvs, rfl, e0, q⟩ := q
  obtain ⟨kv, h1, l⟩ := rm a _ e0
  refine ⟨a, kv, by rw [rep_adr rv], .inl h1, fun p bs n hb => ?_⟩
  have r := isKeys_rep rm hb
  rw [keysD_of (repK_keys l)] at r
  exact fw_lst rm n r q f
section
variable {prog : Program} {w : World} {A : Around} {E : Value → Shared → Prop} {s : Shared} {T : String} {r d : Addr} {n : Nat} {P : Nat → Value → Prop} {OK : Heap → Prop}
theorem sorted_tupsS {nss : List (List Int)} {k : Value → List Int} {Q : Value → Shared → Prop} (hu : A.units + 64 < cLine) (KS : PySem.W.KdlSrc prog w T r d n P OK) (hh : A.handled = none) (hok : OK s.heap) (hn : n ≤ sizeLine)
    (t : ∀ acc : Array Value, ItemsOf P acc n → TupsI s.heap acc.toList nss ∧ ∀ v ∈ acc.toList, TS.TupInts s.heap v (k v)) (hd : (∀ ns ∈ nss, ns ≠ []) ∨ nss.head? = some [])
    (h : ∀ (h1 h2 : Heap) (tk : Nat) (acc : Array Value) (out : List Value) (n2 : Nat), ItemsOf P acc n → (∀ b o, s.heap.get? b = some o → h1.get? b = some o) → (∀ b o, h1.get? b = some o → h2.get? b = some o) → h2.get? h1.objs.size = some (seqObj "list" out.toArray n2) →
      SrtO.Srtd (fun v u => ltI (k v) (k u)) out → SrtO.Stb (fun v u => ltI (k v) (k u)) out acc.toList → Q (.ref h1.objs.size) { s with heap := h2, toks := tk }) :
    wpAny (model prog w) A (call (.builtin "sorted") [.ref r]) Q E s := by
  refine Calls.call_function_entry kind_sorted plain_sorted entry_sorted (args_sorted1 _) ?_
  unfold Builtin.«sorted»
  refine wpAny_bind (m := checkCount "sorted" 1 1 _) (wpAny_pure ?_)
  refine wpAny_bind (collect_src KS hh hok hn fun h1 tk acc k1 it => ?_)
  have hz : acc.size ≤ sizeLine := by rw [it.1]; exact hn
  obtain ⟨t1, hp⟩ := t acc it
  refine wpAny_bind (wpAny_newList ?_ (by rw [Array.length_toList]; exact hz))
  have hoL : (h1.push (seqObj "list" acc.toList.toArray 0)).get? h1.objs.size = some (seqObj "list" acc.toList.toArray 0) := Heap.get?_push_size _ rfl
  refine wpAny_bind (wpAny_holding (wpAny_call_entry (s := { s with heap := h1.push (seqObj "list" acc.toList.toArray 0), toks := tk }) slot_list_sort ⟨_, hoL, rfl⟩ entry_list_sort (SrtO.list_sort_ord (s := { s with heap := h1.push (seqObj "list" acc.toList.toArray 0), toks := tk }) (swo_ltI k) hoL (by rw [Array.length_toList]; exact hz) (fun _ => ?_) fun out hs hb => ⟨_, rfl, ?_⟩) (args_list_sort _)))
  · intro h' kk
    have kp : ∀ b o, s.heap.get? b = some o → o.cls = .type "tuple" → h'.get? b = some o := fun b o e c => by
      have e1 := k1 b o e
      exact kk b o (Nat.ne_of_lt (Heap.lt_size e1)) (Heap.get?_push_of_some _ e1)
    have t' : TupsI h' acc.toList nss := tups_keeps kp t1
    have hp' : ∀ v ∈ acc.toList, TS.TupInts h' v (k v) := fun v hv => tup_keeps kp (hp v hv)
    by_cases hc : nss.head? = some []
    · refine ⟨oneType', fun Q E hq => kind_tups (s := { s with heap := h', toks := tk }) t' (.inr hc) (by omega) (fun hh => ?_) (fun _ => hq), cmp_tups2 (s := { s with heap := h', toks := tk }) (show A.units + 1 + 1 < cLine by omega) hp'⟩
      match nss, hc, hh with
      | ns :: nss, hc, hh =>
        have e : ns = [] := by simpa using hc
        exact absurd e (hh ns List.mem_cons_self)
    · exact ⟨tuples' true, fun Q E hq => kind_tups (s := { s with heap := h', toks := tk }) t' (.inl (hd.resolve_right hc)) (by omega) (fun _ => hq) (fun hh => absurd hh hc), cmp_tups1 (s := { s with heap := h', toks := tk }) hp'⟩
  · obtain ⟨n2, hn2⟩ := sortedHeap_at (vs := acc.toList) (out := out.toArray) hoL
    refine wpAny_pure ⟨_, rfl, h h1 _ tk acc out n2 it k1 (fun b ob e => ?_) hn2 hs hb⟩
    have hb := Heap.lt_size e
    rw [sortedHeap_old (Nat.ne_of_lt hb) (by rw [Heap.size_push]; exact Nat.lt_succ_of_lt hb)]
    exact Heap.get?_push_of_some _ e
end
def rSortDT (K : PySem.W.Frag) : List V → Hp → VK → Prop := fun vs H Q => ∃ (a : Addr) (kvs : List (List Key × V)) (nss : List (List Int)), vs = [V.ref a] ∧ H a = some (.dT kvs) ∧ kvs.map (·.1) = nss.map ik ∧ ((∀ ns ∈ nss, ns ≠ []) ∨ nss.head? = some []) ∧
  ∀ (bs : List Addr) (ys : List V) (p : Addr), IsKeys H kvs bs → ys.Perm (bs.map V.ref) → ys.Pairwise (fun x y => ∀ n m, TupI K H x n → TupI K H y m → ltI m n = false) → H p = none → Q (.ref p) (upd H p (.lst ys))
theorem isKeys_tups {K : PySem.W.Frag} {H : Hp} : ∀ {kvs : List (List Key × V)} {bs : List Addr} {nss : List (List Int)}, IsKeys H kvs bs → kvs.map (·.1) = nss.map ik → TupIs K H (bs.map V.ref) nss
  | _, _, [], .nil, _ => True.intro
  | _, _, _ :: _, .nil, e => by cases e
  | _, _, [], .cons _ _, e => by cases e
  | (k, v) :: kvs, b :: bs, ns :: nss, .cons h t, e => by
    rw [List.map_cons, List.map_cons] at e
    injection e with e1 e2
    refine ⟨⟨b, rfl, ?_⟩, isKeys_tups t e2⟩
    have h : H b = some (.tup (k.map kV)) := h
    have e1 : k = ik ns := e1
    rw [e1] at h
    have e3 : (ik ns).map kV = ns.map V.int := by
      unfold ik
      rw [List.map_map]
      rfl
    rw [e3] at h
    exact SqT.of h
theorem cr_sortDT {X : Cx} (hc : X.calm = true) (hu : X.A.units + 64 < cLine) : CallR X (.builtin "sorted") (rSortDT X.K) := by
  intro pins s σ H vs us Q I r h
  obtain ⟨d, kvs, nss, rfl, hd, ek, hdj, q⟩ := h
  rw [Vals.ref1 r]
  obtain ⟨z, hs, ks, pr, o, es, ep, ho, hx, hdt, he, hnd⟩ := (show ObjOk X.prog X.w H s.heap d (.dT kvs) from I.hok d _ hd)
  have l1 : es.size = ks.length := size_of_entries he
  have l2 : kvs.length = ks.length := Paired.length pr
  have ik0 : IsKeys H kvs (ks.map fun x => x.2.1) := isKeys_of pr
  have acc_eq : ∀ acc : Array Value, ItemsOf (fun i v => ∃ en : DictEntry, es[i]? = some en ∧ v = en.key) acc es.size → acc.toList = (ks.map fun x => x.2.1).map Value.ref := fun acc it => by
    have hl : acc.toList.length = ks.length := by rw [Array.length_toList, it.1]; exact l1
    apply List.ext_getElem?
    intro j
    rw [List.getElem?_map, List.getElem?_map]
    cases hj : acc.toList[j]? with
    | none =>
      have h1 := List.getElem?_eq_none_iff.mp hj
      rw [List.getElem?_eq_none (by omega)]
      all_goals rfl
    | some v =>
      obtain ⟨en, hen, hv⟩ := it.2 j v (by rw [← Array.getElem?_toList]; exact hj)
      have qe := entry_at he j
      rw [hen] at qe
      cases hb : ks[j]? with
      | none =>
        rw [hb] at qe
        exact nomatch (show some en = none from qe)
      | some b =>
        rw [hb] at qe
        have e2 : en = entryOfKey (tupleKind (mixKind X.prog X.w)) b := Option.some.inj qe
        rw [hv, e2]
        all_goals rfl
  have rv0 : Vals ((ks.map fun x => x.2.1).map V.ref) ((ks.map fun x => x.2.1).map Value.ref) := vals_refs _
  have ht : TupIs X.K H ((ks.map fun x => x.2.1).map V.ref) nss := isKeys_tups ik0 ek
  obtain ⟨e1, e2⟩ := bkV_refs rv0 fun x m => by
    obtain ⟨ns, t, e, _⟩ := ht.has x m
    exact ⟨t, e⟩
  have t0 := tupsI_of I e2 (e1 ▸ ht)
  have hp0 : ∀ v ∈ (ks.map fun x => x.2.1).map Value.ref, TS.TupInts s.heap v (keyT s.heap v) := fun v hv => by
    obtain ⟨ns, _, h⟩ := TupsI.all t0 v hv
    rw [keyT_is h]
    exact h
  refine sorted_tupsS (nss := nss) (k := keyT s.heap) hu (kdl_raw hs hx hdt) (I.ok.hd hc) ho (by omega) (fun acc it => by rw [acc_eq acc it]; exact ⟨t0, hp0⟩) hdj fun h1 h2 tk acc out n it k1 k2 ho2 s1 s2 => ?_
  rw [acc_eq acc it] at s2
  have I1 : Inv X pins σ H { s with heap := h1, toks := tk } := I.kept (t' := tk) k1
  have hpm : out.Perm ((ks.map fun x => x.2.1).map Value.ref) := s2.perm
  have h3 : ∀ u ∈ out, ∃ a, u = Value.ref a := fun u hu => e2 u (hpm.mem_iff.mp hu)
  have hp2 : (out.map bkV).Perm ((ks.map fun x => x.2.1).map V.ref) := by
    rw [e1]
    exact hpm.map bkV
  have hlen : (out.map bkV).length ≤ sizeLine := by
    rw [hp2.length_eq, List.length_map, List.length_map]
    omega
  refine ⟨.ref _, upd H h1.objs.size (.lst (out.map bkV)), I1.laid (t' := tk) k2 (Nat.le_refl _) ⟨hlen, out, n, bkV_vals h3, ho2⟩, rfl, q _ _ _ ik0 hp2 ?_ (I1.hok.fresh (Nat.le_refl _))⟩
  rw [List.pairwise_map]
  refine List.Pairwise.imp (fun {u v} huv n m hn hm => ?_) s1
  obtain ⟨t, et, ht⟩ := hn
  obtain ⟨t', et', ht'⟩ := hm
  have eu := bkV_ref et
  have ev := bkV_ref et'
  subst eu ev
  have huv : ltI (keyT s.heap (Value.ref t')) (keyT s.heap (Value.ref t)) = false := huv
  rw [keyT_is (tupI_raw I ht), keyT_is (tupI_raw I ht')] at huv
  exact huv
def gSortDT1 : G1 := fun x μ R => ∃ (a : Addr) (kvs : List (List Key × D)) (nss : List (List Int)), x = .adr a ∧ μ a = some (.dtt kvs) ∧ kvs.map (·.1) = nss.map ik ∧ okI nss ∧
  ∀ out : List (List Int), out.Perm nss → out.Pairwise (fun a b => ltI b a = false) → R (.lst (out.map dI)) μ
theorem sim_sortDT {K : PySem.W.Frag} : SimC K (rSortDT K) (g1 gSortDT1) := sim_g1 fun v d H μ Q R rm rv q f => by
  obtain ⟨a, kvs, nss, rfl, e0, ek, hk, q⟩ := q
  obtain ⟨kv, h1, l⟩ := rm a _ e0
  have ke := repK_keys l
  refine ⟨a, kv, nss, by rw [rep_adr rv], h1, ke.trans ek, hk, fun bs ys p hb hp pw n => ?_⟩
  have r := isKeys_rep rm hb
  have e2 : (kv.map (·.1)).map kDs = nss.map dI := by
    rw [ke, ek, List.map_map]
    exact List.map_congr_left fun ns _ => kDs_ik ns
  rw [e2] at r
  obtain ⟨mss, m1, m2⟩ := rep_perm r hp
  exact fw_lst rm n m2 (q mss m1 (pw_rep m2 pw)) f
end DL

set_option Elab.async false
set_option linter.all false
set_option maxRecDepth 100000
namespace DL
open PySem PySem.Spec PyProof.Rows L2
/-! ### a text turned round -/
def revS (z : Str) : Str := ⟨z.cps.toList.reverse.toArray⟩
theorem rev_slice (z : Str) : (Builtin.Str.strSliceIndices none none (-1) z.length).filterMap (z.cps[·]?) = z.cps.toList.reverse := by
  have e : Builtin.Str.strSliceIndices none none (-1) z.length = (List.range z.length).map fun k => z.length - 1 - k := by
    show sliceRange _ _ _ = _
    exact PySem.W.krv_sliceRange z.length
  rw [e, PySem.W.krv_range, List.filterMap_reverse]
  exact congrArg List.reverse (PySem.W.krv_all z.cps)
def tRevS (te : TE) : TE := fun σ H Q => te σ H fun x H1 => ∃ z : Str, x = .str z ∧ z.length ≤ sizeLine ∧ Q (.str (revS z)) H1
theorem pe_revS {X : Cx} {e : Expr} {te : TE} {k : Nat} {p1 p2 p3 pos : Pos} (he : PE X e te) : PE X (.Subscript e (.Slice none none (some (.UnaryOp .USub (.Constant (.int 1) k p1) p2)) p3) pos) (tRevS te) := by
  refine ⟨fun pins s σ H Q I h => ?_⟩
  refine Subscript_ (thn (he.run pins s σ H _ I h) fun v s1 ⟨x, H1, I1, r1, q1⟩ => ?_)
  obtain ⟨z, ex, hz, q⟩ := q1
  subst ex
  obtain ⟨t, rfl⟩ := r1
  have hst : PO X (some (.UnaryOp .USub (.Constant (.int 1) k p1) p2)) (tPart (tUn (rU fun i => .int (-i)) (tC (.int 1)))) := po_some (pe_un un_neg pe_int)
  refine wpAny_Slice (thn (po_none.run pins s1 σ H1 (fun o H2 => o = none ∧ H2 = H1) I1 ⟨rfl, rfl⟩) fun vl s2 ⟨l, H2, I2, pl, el, e2⟩ => ?_)
  subst el e2
  refine thn (po_none.run pins s2 σ H2 (fun o H3 => o = none ∧ H3 = H2) I2 ⟨rfl, rfl⟩) fun vu s3 ⟨u, H3, I3, pu, eu, e3⟩ => ?_
  subst eu e3
  refine thn (hst.run pins s3 σ H3 (fun o H4 => o = some (-1) ∧ H4 = H3) I3 ⟨1, rfl, -1, rfl, rfl, rfl⟩) fun vs s4 ⟨o, H4, I4, ps, eo, e4⟩ => ?_
  subst eo e4
  have I5 : Inv X pins σ H4 { s4 with heap := s4.heap.push { cls := .type "slice", data := .fields #[vl, vu, vs] } } := I4.kept (t' := s4.toks) fun b ob q => Heap.get?_push_of_some _ q
  obtain ⟨l, rfl, hl0⟩ := IsPart.raw pl
  obtain ⟨u, rfl, hu0⟩ := IsPart.raw pu
  obtain ⟨st, rfl, hs0⟩ := IsPart.raw ps
  show wpAny (model X.prog X.w) X.A (subscriptTail e (.Slice none none (some (.UnaryOp .USub (.Constant (.int 1) k p1) p2)) p3) (.str z t) (.ref s4.heap.objs.size)) (EP X pins σ Q) X.xe { s4 with heap := s4.heap.push { cls := .type "slice", data := .fields #[_, _, _] } }
  refine tail_any (ops := [.str z t, .ref s4.heap.objs.size]) (typeIs_str _ _ _) F.slot_str_getitem.lookup ?_ (by with_unfolding_all rfl)
  refine wpAny_getItem_str_slice (l := l) (u := u) (st := st) ⟨_, Heap.get?_push_size _ rfl, rfl, rfl⟩ (by rw [hs0]; rfl) ?_
  unfold sliceMade slicePicked
  rw [hs0, hl0, hu0]
  show Made.post (if ((-1 : Int) == 1 && (Builtin.Str.strSliceIndices none none (-1) z.length).length == z.length) = true then Made.val (.str z t)
    else Made.str ⟨((Builtin.Str.strSliceIndices none none (-1) z.length).filterMap (z.cps[·]?)).toArray⟩) (EP X pins σ Q) _
  rw [rev_slice, if_neg (by rw [show ((-1 : Int) == 1) = false from rfl, Bool.false_and]; exact Bool.false_ne_true)]
  have hl : (revS z).length ≤ sizeLine := by
    show z.cps.toList.reverse.toArray.size ≤ sizeLine
    rw [List.size_toArray, List.length_reverse, Array.length_toList]
    exact hz
  exact ⟨hl, .str _, H4, I5.tok _, ⟨_, rfl⟩, q⟩
def gRevS (ge : GE) : GE := fun δ μ R => ge δ μ fun x μ1 => ∃ z : Str, x = .str z ∧ z.length ≤ sizeLine ∧ R (.str (revS z)) μ1
theorem de_revS {X : Cx} {e : Expr} {ge : GE} {k : Nat} {p1 p2 p3 pos : Pos} (he : DE X e ge) : DE X (.Subscript e (.Slice none none (some (.UnaryOp .USub (.Constant (.int 1) k p1) p2)) p3) pos) (gRevS ge) := by
  obtain ⟨t, a1, a2⟩ := he.ex
  refine ⟨_, pe_revS a1, fun σ H δ μ Q R rm rs q f => ?_⟩
  refine a2 σ H δ μ _ _ rm rs q fun v d H1 μ1 k1 rm1 r1 q1 => ?_
  obtain ⟨z, rfl, hz, q1⟩ := q1
  exact ⟨z, rep_str r1, hz, fw_now rm1 to_str q1 (f.re k1)⟩
end DL

set_option Elab.async false
set_option linter.all false
set_option maxRecDepth 100000
namespace DL
open PySem PySem.Spec PyProof.Rows L2
/-! ### comprehensions with two sources -/
def tIOf (K : PySem.W.Frag) (g : GI) : TI := fun σ H Q => ∃ δ μ R, RM K H μ ∧ RepS K H μ δ σ ∧ g δ μ R ∧ ∀ J items H' μ', Kp H μ H' μ' → RM K H' μ' → WalkD K J items H' μ' → R items μ' → Q J H'
theorem simI_of {K : PySem.W.Frag} {g : GI} : SimI K (tIOf K g) g := fun σ H δ μ Q R rm rs q f => ⟨δ, μ, R, rm, rs, q, f⟩
theorem DI.pi {X : Cx} {tg e : Expr} {g : GI} (h : DI X tg e g) : PI X tg e (tIOf X.K g) := by
  obtain ⟨t, a, b⟩ := h.ex
  exact ⟨fun pins s σ H R I ⟨δ, μ, R', rm, rs, q, f⟩ => a.run pins s σ H R I (b σ H δ μ R R' rm rs q f)⟩
theorem it_gen {J : It} {n : Nat} {G : Hp → Prop} {Y : Nat → Hp → V → Hp → Prop} (w : Walk J n G Y) (Pv : Nat → Hp → Prop) {Qd : Hp → Prop} (B : (Hp → Prop) → V → Hp → Prop) {start : Hp} (h0 : Pv 0 start) (hG : ∀ i H, i ≤ n → Pv i H → G H)
    (hs : ∀ i x H H', i < n → Pv i H → Y i H x H' → B (Pv (i + 1)) x H') (hd : ∀ H, Pv n H → Qd H) :
    ∃ W : Nat → Nat → Hp → Prop, (∃ m, W 0 m start) ∧ ∀ i m H, W i m H → (J.stop i H ∧ Qd H) ∨ (J.go i H ∧ ∃ Nx : Hp → Prop, (∀ H', Nx H' → ∃ m', m' < m ∧ W (i + 1) m' H') ∧ ∀ x H', J.yld i H x H' → B Nx x H') := by
  refine ⟨fun i m H => m = n - i ∧ i ≤ n ∧ Pv i H, ⟨n, by simp, Nat.zero_le _, h0⟩, ?_⟩
  rintro i m H ⟨rfl, hi, p⟩
  have q := hG i H hi p
  by_cases hlt : i < n
  · exact .inr ⟨w.goes i H hlt q, Pv (i + 1), fun H' p' => ⟨n - (i + 1), by omega, rfl, hlt, p'⟩, fun x H' y => hs i x H H' hlt p (w.yields i H x H' hlt q y)⟩
  · have e : i = n := by omega
    subst e
    exact .inl ⟨w.stops H q, hd H p⟩
structure LcB2 (gt : GG) (gc : GT) (gi1 : GI) (gt1 : GG) (gc1 : GT) (ge : GE) (own own1 : List Nat) (δ : DS) (R : KD) (items : List D) (μ1 : Mu) : Prop where
  ex : ∀ a, μ1 a = none → ∃ Iv : Nat → Mu → Prop, Iv 0 (put μ1 a (.lst [])) ∧
  (∀ i x μ', items[i]? = some x → Iv i μ' → gt x (wiped δ own) fun δ2 => gc δ2 μ' fun b μ2 => if b = true then gi1 δ2 μ2 fun items1 μ3 => ∃ Iv1 : Nat → Mu → Prop, Iv1 0 μ3 ∧
    (∀ j x1 μ4, items1[j]? = some x1 → Iv1 j μ4 → gt1 x1 (wiped δ2 own1) fun δ3 => gc1 δ3 μ4 fun b1 μ5 => if b1 = true then ge δ3 μ5 fun y μ6 => ∃ acc, μ6 a = some (.lst acc) ∧ acc.length < sizeLine ∧ Iv1 (j + 1) (put μ6 a (.lst (acc ++ [y]))) else Iv1 (j + 1) μ5) ∧
    ∀ μ5, Iv1 items1.length μ5 → Iv (i + 1) μ5 else Iv (i + 1) μ2) ∧
  ∀ μ', Iv items.length μ' → ∃ acc, μ' a = some (.lst acc) ∧ R (.lst acc) (del μ' a)
def gLc2 (gi : GI) (gt : GG) (gc : GT) (gi1 : GI) (gt1 : GG) (gc1 : GT) (ge : GE) (own own1 : List Nat) : GE := fun δ μ R => gi δ μ (LcB2 gt gc gi1 gt1 gc1 ge own own1 δ R)
theorem sim_lc2 {K : PySem.W.Frag} {ti ti1 : TI} {gi gi1 : GI} {g g1 : TG} {gg gg1 : GG} {ow ow1 : List Nat} {tc tc1 : TT} {gc gc1 : GT} {te : TE} {ge : GE} {own own1 : List Nat} (hi : SimI K ti gi) (sg : SimG K g gg ow) (ho : ∀ i ∈ ow, i ∈ own) (hc : SimT K tc gc)
    (hi1 : SimI K ti1 gi1) (sg1 : SimG K g1 gg1 ow1) (ho1 : ∀ i ∈ ow1, i ∈ own1) (hc1 : SimT K tc1 gc1) (he : SimE K te ge) :
    SimE K (tLc2 ti g tc ti1 g1 tc1 te own own1) (gLc2 gi gg gc gi1 gg1 gc1 ge own own1) := by
  intro σ H δ μ Q R rm rs q f
  refine hi σ H δ μ _ _ rm rs q fun J items H1 μ1 k1 rm1 wk q1 => ?_
  intro D nD
  obtain ⟨Iv, h0, hstep, hend⟩ := q1.ex D (rm1.free nD)
  have kc : Kp H1 μ1 (upd H1 D (.lst [])) (put μ1 D (.lst [])) := Kp.cell nD
  refine it_gen wk (fun i H => ∃ μ, Kp H1 μ1 H μ ∧ RM K H μ ∧ Iv i μ) (fun Nx x H' => g x (L2.wipe σ own) H' fun σ2 H2 => L2.wipe σ2 own = L2.wipe σ own ∧ tc σ2 H2 fun b H3 =>
    if b = true then ti1 σ2 H3 fun J1 H4 => ∃ W1 : Nat → Nat → Hp → Prop, (∃ m, W1 0 m H4) ∧ ∀ j k H, W1 j k H →
      (J1.stop j H ∧ Nx H) ∨ (J1.go j H ∧ ∃ Nx1 : Hp → Prop, (∀ H', Nx1 H' → ∃ k', k' < k ∧ W1 (j + 1) k' H') ∧ ∀ x H', J1.yld j H x H' → g1 x (L2.wipe σ2 own1) H' fun σ3 H5 => L2.wipe σ3 own1 = L2.wipe σ2 own1 ∧ tc1 σ3 H5 fun b H6 =>
        if b = true then te σ3 H6 fun y H7 => ∃ acc, H7 D = some (.lst acc) ∧ acc.length < sizeLine ∧ Nx1 (upd H7 D (.lst (acc ++ [y]))) else Nx1 H6)
    else Nx H3) ⟨_, kc, rm1.cell nD RepL.nil, h0⟩ (fun i H _ ⟨μ, k, rm, _⟩ => ⟨μ, k, rm⟩) ?_ ?_
  · rintro i x H2 H3 hi2 ⟨μ2, k2, rm2, iv⟩ y
    obtain ⟨d, e1, r1, k3, rm3⟩ := y μ2 k2 rm2
    have rsw : RepS K H3 μ2 (wiped δ own) (L2.wipe σ own) := (rs.mono (k1.trans (k2.trans k3))).wipe own
    refine sg x d _ H3 _ μ2 _ _ rm3 rsw r1 (hstep i d μ2 e1 iv) fun σ4 δ4 rs4 q4 w4 => ⟨(w4 own ho).trans wipe_wipe, ?_⟩
    refine hc σ4 H3 δ4 μ2 _ _ rm3 rs4 q4 fun b H5 μ5 k5 rm5 q5 => ?_
    have kk : Kp H1 μ1 H5 μ5 := k2.trans (k3.trans k5)
    cases b with
    | false => exact ⟨μ5, kk, rm5, q5⟩
    | true =>
      rw [if_pos rfl] at q5 ⊢
      refine hi1 σ4 H5 δ4 μ5 _ _ rm5 (rs4.mono k5) q5 fun J1 items1 H6 μ6 k6 rm6 wk1 q6 => ?_
      obtain ⟨Iv1, g0, gstep, gend⟩ := q6
      refine it_gen wk1 (fun j H => ∃ μ, Kp H6 μ6 H μ ∧ RM K H μ ∧ Iv1 j μ) (fun Nx1 x H' => g1 x (L2.wipe σ4 own1) H' fun σ3 H5 => L2.wipe σ3 own1 = L2.wipe σ4 own1 ∧ tc1 σ3 H5 fun b H6 =>
        if b = true then te σ3 H6 fun y H7 => ∃ acc, H7 D = some (.lst acc) ∧ acc.length < sizeLine ∧ Nx1 (upd H7 D (.lst (acc ++ [y]))) else Nx1 H6) ⟨_, Kp.refl _ _, rm6, g0⟩ (fun i H _ ⟨μ, k, rm, _⟩ => ⟨μ, k, rm⟩) ?_ ?_
      · rintro j x1 H7 H8 hj ⟨μ7, k7, rm7, iv1⟩ y1
        obtain ⟨d1, e2, r2, k8, rm8⟩ := y1 μ7 k7 rm7
        have rsw1 : RepS K H8 μ7 (wiped δ4 own1) (L2.wipe σ4 own1) := (rs4.mono (k5.trans (k6.trans (k7.trans k8)))).wipe own1
        refine sg1 x1 d1 _ H8 _ μ7 _ _ rm8 rsw1 r2 (gstep j d1 μ7 e2 iv1) fun σ9 δ9 rs9 q9 w9 => ⟨(w9 own1 ho1).trans wipe_wipe, ?_⟩
        refine hc1 σ9 H8 δ9 μ7 _ _ rm8 rs9 q9 fun b1 H10 μ10 k10 rm10 q10 => ?_
        cases b1 with
        | false => exact ⟨μ10, k7.trans (k8.trans k10), rm10, q10⟩
        | true =>
          rw [if_pos rfl] at q10 ⊢
          refine he σ9 H10 δ9 μ10 _ _ rm10 (rs9.mono k10) q10 fun v d11 H11 μ11 k11 rm11 r11 q11 => ?_
          obtain ⟨acc, ea, hl, iv11⟩ := q11
          obtain ⟨vs, h1, h2⟩ := rm11 D _ ea
          refine ⟨vs, h1, by rw [h2.length]; exact hl, _, k7.trans (k8.trans (k10.trans (k11.trans (Kp.write ea)))), ?_, iv11⟩
          refine rm11.put (Kp.write ea) (fun a o n _ => upd_ne n) ⟨_, upd_same, ?_⟩
          exact (h2.append (RepL.cons r11 RepL.nil)).mono (Kp.write ea) _ _
      · rintro H7 ⟨μ7, k7, rm7, iv1⟩
        exact ⟨μ7, kk.trans (k6.trans k7), rm7, gend μ7 iv1⟩
  · rintro H2 ⟨μ2, k2, rm2, iv⟩
    obtain ⟨acc, ea, q3⟩ := hend μ2 iv
    obtain ⟨vs, h1, h2⟩ := rm2 D _ ea
    refine f (.ref D) (.lst acc) H2 (del μ2 D) (k1.trans (k2.trans Kp.drop)) rm2.drop ?_ q3
    unfold Rep
    exact ⟨D, vs, rfl, h1, del_same, h2.mono Kp.drop _ _⟩
section
variable {X : Cx} {elt tg iter tg1 iter1 : Expr} {ifs ifs1 : List Expr} {scope : Scope} {own : List (Str × Nat)} {vs1 : List Nat} {pos spos : Pos} {gi gi1 : GI} {g g1 : TG} {gg gg1 : GG} {ow ow1 : List Nat} {gc gc1 : GT} {ge : GE}
theorem de_lc2 (hc : X.calm = true) (hN : X.N.Nodup) (hi : DI X tg iter gi) (ok : BlkOk X.N X.env.scope scope own)
    (hg : ∀ (s : Shared) (H : Hp) (C : Addr) (cl : List (Str × Addr)) (fp : List Addr), PG (X.blk s H scope (compEnvC scope cl C X.env) fp) tg g) (sg : SimG X.K g gg ow) (ht : ∀ (s : Shared) (H : Hp) (C : Addr) (cl : List (Str × Addr)) (fp : List Addr), DTs (X.blk s H scope (compEnvC scope cl C X.env) fp) ifs gc)
    (hi1 : ∀ (s : Shared) (H : Hp) (C : Addr) (cl : List (Str × Addr)) (fp : List Addr), DI (X.blk s H scope (compEnvC scope cl C X.env) fp) tg1 iter1 gi1)
    (hg1 : ∀ (s : Shared) (H : Hp) (C : Addr) (cl : List (Str × Addr)) (fp : List Addr), PG (X.blk s H scope (compEnvC scope cl C X.env) fp) tg1 g1) (sg1 : SimG X.K g1 gg1 ow1) (ht1 : ∀ (s : Shared) (H : Hp) (C : Addr) (cl : List (Str × Addr)) (fp : List Addr), DTs (X.blk s H scope (compEnvC scope cl C X.env) fp) ifs1 gc1)
    (he : ∀ (s : Shared) (H : Hp) (C : Addr) (cl : List (Str × Addr)) (fp : List Addr), DE (X.blk s H scope (compEnvC scope cl C X.env) fp) elt ge) (ho : ∀ i ∈ ow, i ∈ own.map (·.2) := by decide) (ho1 : ∀ i ∈ ow1, i ∈ vs1 := by decide) (hv : ∀ i ∈ vs1, i ∈ own.map (·.2) := by decide)
    (hs : ∀ x, foldedSetIterable iter X.env x = pure x := by intro _; rfl) (hs1 : ∀ env x, foldedSetIterable iter1 env x = pure x := by intro _ _; rfl) :
    DE X (.ListComp elt [⟨tg, iter, ifs, 0⟩, ⟨tg1, iter1, ifs1, 0⟩] scope pos) (gLc2 gi gg gc gi1 gg1 gc1 ge (own.map (·.2)) vs1) := by
  obtain ⟨ti, i1, i2⟩ := hi.ex
  exact ⟨_, pe_lc2 hc hN i1 ok hv hg (fun s H C cl fp => (ht s H C cl fp).pt) (fun s H C cl fp => (hi1 s H C cl fp).pi) hg1 (fun s H C cl fp => (ht1 s H C cl fp).pt) (fun s H C cl fp => (he s H C cl fp).pe) hs hs1, sim_lc2 i2 sg ho simT_of simI_of sg1 ho1 simT_of sim_of⟩
theorem ds_setLc2 {i : Nat} {y : Str} {py : Pos} (hc : X.calm = true) (hN : X.N.Nodup) (hy : X.N[i]? = some y) (hyl : X.env.scope.names.lookup y = some .local)
    (hsw : swapsWith (.ListComp elt [⟨tg, iter, ifs, 0⟩, ⟨tg1, iter1, ifs1, 0⟩] scope pos) (some (.Name y py)) spos.line X.env = pure true) (hi : DI X tg iter gi) (ok : BlkOk X.N X.env.scope scope own)
    (hg : ∀ (s : Shared) (H : Hp) (C : Addr) (cl : List (Str × Addr)) (fp : List Addr), PG (X.blk s H scope (compEnvC scope cl C X.env) fp) tg g) (sg : SimG X.K g gg ow) (ht : ∀ (s : Shared) (H : Hp) (C : Addr) (cl : List (Str × Addr)) (fp : List Addr), DTs (X.blk s H scope (compEnvC scope cl C X.env) fp) ifs gc)
    (hi1 : ∀ (s : Shared) (H : Hp) (C : Addr) (cl : List (Str × Addr)) (fp : List Addr), DI (X.blk s H scope (compEnvC scope cl C X.env) fp) tg1 iter1 gi1)
    (hg1 : ∀ (s : Shared) (H : Hp) (C : Addr) (cl : List (Str × Addr)) (fp : List Addr), PG (X.blk s H scope (compEnvC scope cl C X.env) fp) tg1 g1) (sg1 : SimG X.K g1 gg1 ow1) (ht1 : ∀ (s : Shared) (H : Hp) (C : Addr) (cl : List (Str × Addr)) (fp : List Addr), DTs (X.blk s H scope (compEnvC scope cl C X.env) fp) ifs1 gc1)
    (he : ∀ (s : Shared) (H : Hp) (C : Addr) (cl : List (Str × Addr)) (fp : List Addr), DE (X.blk s H scope (compEnvC scope cl C X.env) fp) elt ge) (ho : ∀ i ∈ ow, i ∈ own.map (·.2) := by decide) (ho1 : ∀ i ∈ ow1, i ∈ vs1 := by decide) (hv : ∀ i ∈ vs1, i ∈ own.map (·.2) := by decide)
    (hs : ∀ x, foldedSetIterable iter X.env x = pure x := by intro _; rfl) (hs1 : ∀ env x, foldedSetIterable iter1 env x = pure x := by intro _ _; rfl) :
    DSt X (.Assign [.Name y py] (.ListComp elt [⟨tg, iter, ifs, 0⟩, ⟨tg1, iter1, ifs1, 0⟩] scope pos) spos) (gAsg (gLc2 gi gg gc gi1 gg1 gc1 ge (own.map (·.2)) vs1) (gNm i)) := by
  obtain ⟨ti, i1, i2⟩ := hi.ex
  exact ⟨_, ps_setLc2 hc hN hy hyl hsw i1 ok hv hg (fun s H C cl fp => (ht s H C cl fp).pt) (fun s H C cl fp => (hi1 s H C cl fp).pi) hg1 (fun s H C cl fp => (ht1 s H C cl fp).pt) (fun s H C cl fp => (he s H C cl fp).pe) hs hs1, sim_asg (sim_lc2 i2 sg ho simT_of simI_of sg1 ho1 simT_of sim_of) sim_nm⟩
end
/-- what the inner source gives at each outer item: L; kept: p; made: f -/
theorem lcb2_pure {gt : GG} {gi1 : GI} {gt1 : GG} {gc1 : GT} {ge : GE} {own own1 : List Nat} {δ : DS} {R : KD} {items : List D} {μ1 : Mu} (L : D → List D) (p : D → D → Bool) (f : D → D → D) (hl : (items.map fun x => (L x).length).sum < sizeLine)
    (hx : ∀ x ∈ items, ∀ (μ' : Mu) (Kk : DS → List D → Mu → Prop), (∀ b o, μ1 b = some o → μ' b = some o) →
      (∀ δ2, (∀ x1 ∈ L x, ∀ (μ4 : Mu) (N : Mu → Prop) (Y : KD), (∀ b o, μ1 b = some o → μ4 b = some o) → (p x x1 = false → N μ4) → (p x x1 = true → Y (f x x1) μ4) → gt1 x1 (wiped δ2 own1) fun δ3 => gc1 δ3 μ4 fun b1 μ5 => if b1 = true then ge δ3 μ5 Y else N μ5) → Kk δ2 (L x) μ') →
      gt x (wiped δ own) fun δ2 => gi1 δ2 μ' (Kk δ2))
    (hr : R (.lst (items.flatMap fun x => ((L x).filter (p x)).map (f x))) μ1) : LcB2 gt gYes gi1 gt1 gc1 ge own own1 δ R items μ1 := by
  refine ⟨fun a na => ?_⟩
  have len : ∀ l : List D, (l.flatMap fun x => ((L x).filter (p x)).map (f x)).length ≤ (l.map fun x => (L x).length).sum := fun l => by
    induction l with
    | nil => exact Nat.le_refl _
    | cons x l ih =>
      rw [List.flatMap_cons, List.length_append, List.map_cons, List.sum_cons, List.length_map]
      have := List.length_filter_le (p x) (L x)
      omega
  have part : ∀ i, ((items.take i).map fun x => (L x).length).sum ≤ (items.map fun x => (L x).length).sum := fun i => by
    have : (items.map fun x => (L x).length).sum = ((items.take i).map fun x => (L x).length).sum + ((items.drop i).map fun x => (L x).length).sum := by
      rw [← List.sum_append_nat, ← List.map_append, List.take_append_drop]
    omega
  refine ⟨fun i μ' => μ' = put μ1 a (.lst ((items.take i).flatMap fun x => ((L x).filter (p x)).map (f x))), rfl, fun i x μ' hi e => ?_, fun μ' e => ?_⟩
  · subst e
    have hm : x ∈ items := List.mem_of_getElem? hi
    have ht := take_succ_get hi
    have kp : ∀ (l : List D) b o, μ1 b = some o → put μ1 a (.lst l) b = some o := fun l b o e => by
      rw [put_ne (fun z => by rw [z, na] at e; cases e)]
      exact e
    refine hx x hm (put μ1 a (.lst ((items.take i).flatMap fun x => ((L x).filter (p x)).map (f x)))) _ (kp _) fun δ2 hin => ?_
    refine ⟨fun j μ4 => μ4 = put μ1 a (.lst (((items.take i).flatMap fun x => ((L x).filter (p x)).map (f x)) ++ (((L x).take j).filter (p x)).map (f x))), by dsimp only; rw [List.take_zero, List.filter_nil, List.map_nil, List.append_nil], fun j x1 μ4 hj e4 => ?_, fun μ5 e5 => ?_⟩
    · subst e4
      have hm1 : x1 ∈ L x := List.mem_of_getElem? hj
      have ht1 := take_succ_get hj
      refine hin x1 hm1 _ _ _ (kp _) (fun hp => ?_) fun hp => ?_
      · dsimp only
        rw [ht1, List.filter_append, List.map_append]
        have : List.filter (p x) [x1] = [] := by rw [List.filter_cons, hp]; rfl
        rw [this, List.map_nil, List.append_nil]
      · refine ⟨_, put_same, ?_, ?_⟩
        · have h1 := len (items.take (i + 1))
          have h2 := part (i + 1)
          rw [ht, List.flatMap_append, List.length_append] at h1
          have h3 : (([x] : List D).flatMap fun x => ((L x).filter (p x)).map (f x)).length = ((L x).filter (p x)).length := by
            rw [List.flatMap_cons, List.flatMap_nil, List.append_nil, List.length_map]
          have h4 : (((L x).take j).filter (p x)).length ≤ ((L x).filter (p x)).length := (List.Sublist.filter (p x) (List.take_sublist j (L x))).length_le
          rw [List.length_append, List.length_map]
          rw [h3] at h1
          rw [ht] at h2
          omega
        · dsimp only
          rw [put_put, ht1, List.filter_append, List.map_append]
          have : List.filter (p x) [x1] = [x1] := by rw [List.filter_cons, hp]; rfl
          rw [this, ← List.append_assoc]
          rfl
    · subst e5
      rw [List.take_length, ht, List.flatMap_append, List.flatMap_cons, List.flatMap_nil, List.append_nil]
  · subst e
    refine ⟨_, put_same, ?_⟩
    rw [List.take_length, del_put na]
    exact hr
end DL

set_option Elab.async false
set_option linter.all false
set_option maxRecDepth 100000
namespace DL
open PySem PySem.Spec PyProof.Rows L2
/-! ### zip of two of any kinds: lists, tuples, texts -/
inductive Zk where
  | L (a : Addr) | T (a : Addr) | S (x : Str) (t : Tok)
def Zk.iter : Zk → Addr → Nat → Heap → Prop
  | .L a, it, i, h => h.IsListIter it a i
  | .T a, it, i, h => h.IsTupleIter it a i
  | .S x t, it, i, h => h.IsStrIter it (strIterType x) x t i
def Zk.fp : Zk → Addr → List Addr
  | .L a, it => [it, a]
  | .T a, it => [it, a]
  | .S _ _, it => [it]
def Zk.far : Zk → Addr → Prop
  | .L a, it => a ≠ it
  | .T a, it => a ≠ it
  | .S _ _, _ => True
def Zk.val : Zk → Value
  | .L a => .ref a
  | .T a => .ref a
  | .S x t => .str x t
def Zk.src (K : PySem.W.Frag) (H : Hp) : Zk → List V → Prop
  | .L a, p => SqL K H a p
  | .T a, p => SqT K H a p
  | .S x _, p => p = x.cps.toList.map fun c => V.str ⟨#[c]⟩
theorem Zk.iter_obj {k : Zk} {it : Addr} {i : Nat} {h : Heap} (x : k.iter it i h) : ∃ o vs, h.get? it = some o ∧ o.data = .fields vs := by
  cases k with
  | L a => obtain ⟨o, e, _, d⟩ := x; exact ⟨o, _, e, d⟩
  | T a => obtain ⟨o, e, _, d⟩ := x; exact ⟨o, _, e, d⟩
  | S y t => obtain ⟨o, e, _, d⟩ := x; exact ⟨o, _, e, d⟩
theorem Zk.iter_keep {k : Zk} {it : Addr} {i : Nat} {h h' : Heap} (e : ∀ o, h.get? it = some o → h'.get? it = some o) (x : k.iter it i h) : k.iter it i h' := by
  cases k with
  | L a => obtain ⟨o, g, r⟩ := x; exact ⟨o, e o g, r⟩
  | T a => obtain ⟨o, g, r⟩ := x; exact ⟨o, e o g, r⟩
  | S y t => obtain ⟨o, g, r⟩ := x; exact ⟨o, e o g, r⟩
section
variable {X : Cx} {pn : List (Addr × Obj)} {σ : L2.St} {H : Hp} {s : Shared}
theorem Zk.src_one {k : Zk} {p q : List V} (I : Inv X pn σ H s) (a : k.src X.K H p) (b : k.src X.K H q) : p = q := by
  cases k with
  | L c => exact I.list_inj a b
  | T c => exact I.tuple_inj a b
  | S x t => exact Eq.trans a (Eq.symm b)
theorem Zk.draws {k : Zk} {p : List V} {it : Addr} (I : Inv X pn σ H s) (hh : X.A.in1.handled = none) (far : k.far it) (hp : k.src X.K H p) :
    ∃ (n : Nat) (P : Nat → Value → Prop) (St : Nat → Heap → Prop), Draws X.prog X.w X.A.in1 it (k.fp it) n P St ∧ n = p.length ∧ (∀ i, k.iter it i s.heap → St i s.heap) ∧ (∀ i u, P i u → ∃ x, p[i]? = some x ∧ RelV x u) ∧ ∀ i h, St i h → k.iter it i h := by
  have back : ∀ {its : List Value}, Vals p its → ∀ (i : Nat) (u : Value), its.toArray[i]? = some u → ∃ x, p[i]? = some x ∧ RelV x u := fun {its} r i u hu => by
    rw [List.getElem?_toArray] at hu
    have hi : i < its.length := (List.getElem?_eq_some_iff.mp hu).1
    have hi' : i < p.length := by rw [r.length]; exact hi
    have hx : p[i]? = some (p[i]'hi') := List.getElem?_eq_getElem hi'
    obtain ⟨w, hw, rw'⟩ := r.get hx
    rw [hu] at hw
    cases hw
    exact ⟨_, hx, rw'⟩
  cases k with
  | L a =>
    obtain ⟨its, r, hl, _⟩ := I.list hp
    exact ⟨_, _, _, Draws.list hh it a far its.toArray, by rw [List.size_toArray, r.length], fun i x => ⟨x, hl.isList⟩, fun i u hu => back r i u hu, fun i h x => x.1⟩
  | T a =>
    obtain ⟨its, r, hl, _⟩ := I.tuple hp
    exact ⟨_, _, _, Draws.tuple hh it a far its.toArray, by rw [List.size_toArray, r.length], fun i x => ⟨x, hl⟩, fun i u hu => back r i u hu, fun i h x => x.1⟩
  | S x t =>
    have hp : p = x.cps.toList.map fun c => V.str ⟨#[c]⟩ := hp
    refine ⟨_, _, _, Draws.text hh it x t, by rw [hp, List.length_map, Array.length_toList], fun i y => y, fun i u ⟨c, v, hc, e⟩ => ?_, fun i h y => y⟩
    refine ⟨.str ⟨#[c]⟩, ?_, by rw [e]; exact ⟨v, rfl⟩⟩
    rw [hp, List.getElem?_map, Array.getElem?_toList, hc]
    rfl
theorem Zk.begins {k : Zk} {p : List V} (I : Inv X pn σ H s) (hp : k.src X.K H p) : ∃ (o : Obj) (G : Heap → Prop), Begins k.val o G ∧ G s.heap ∧ (∀ (h : Heap) (it : Addr), h.get? it = some o → k.iter it 0 h) ∧ ∀ b ∈ (k.fp 0).drop 1, b < s.heap.objs.size := by
  cases k with
  | L a =>
    obtain ⟨its, r, hl, _⟩ := I.list hp
    exact ⟨_, _, begins_list a its.toArray, hl.isList, fun h it e => ⟨_, e, rfl, rfl⟩, fun b hb => by rw [List.mem_singleton.mp hb]; exact hl.lt⟩
  | T a =>
    obtain ⟨its, r, hl, _⟩ := I.tuple hp
    obtain ⟨ob, ho, _⟩ := id hl
    exact ⟨_, _, begins_tuple a its.toArray, hl, fun h it e => ⟨_, e, rfl, rfl⟩, fun b hb => by rw [List.mem_singleton.mp hb]; exact Heap.lt_size ho⟩
  | S x t => exact ⟨_, _, begins_text x t, trivial, fun h it e => ⟨_, e, rfl, rfl⟩, fun b hb => by cases hb⟩
end
theorem Zk.fp_drop (k : Zk) (it : Addr) : k.fp it = it :: (k.fp 0).drop 1 := by cases k <;> rfl
theorem Zk.far_of {k : Zk} {n it : Addr} (h : ∀ b ∈ (k.fp 0).drop 1, b < n) (l : n ≤ it) : k.far it := by
  cases k with
  | L a => exact Nat.ne_of_lt (Nat.lt_of_lt_of_le (h a List.mem_cons_self) l)
  | T a => exact Nat.ne_of_lt (Nat.lt_of_lt_of_le (h a List.mem_cons_self) l)
  | S x t => exact True.intro
def ItZG (K : PySem.W.Frag) (k1 k2 : Zk) : It :=
  ⟨fun i H => ∃ (p : List V) (q : List V) (x y : V), k1.src K H p ∧ k2.src K H q ∧ p[i]? = some x ∧ q[i]? = some y,
    fun i H v H' => ∃ T x y, v = .ref T ∧ H T = none ∧ H' = upd H T (.tup [x, y]) ∧ (∀ p, k1.src K H p → p[i]? = some x) ∧ ∀ q, k2.src K H q → q[i]? = some y,
    fun i H => ∃ p q : List V, k1.src K H p ∧ k2.src K H q ∧ i ≤ p.length ∧ i ≤ q.length ∧ (i = p.length ∨ i = q.length)⟩
theorem turn_zipG {P : Program} {w : World} {K : PySem.W.Frag} {elts : List Expr} {kk : Nat} {tpos : Pos} {k1 k2 : Zk} {z ti tu i1 i2 : Addr} (D : ZipSep2 z ti tu i1 i2 (k1.fp i1) (k2.fp i2)) (n1 : k1.far i1) (n2 : k2.far i2) :
    Turn P w K (.Tuple elts kk tpos) (ItZG K k1 k2) [z, ti, tu, i1, i2] z (fun i h => IsZip h z ti tu .none ∧ IsTupOf2 h ti (.ref i1) (.ref i2) ∧ (∃ u v, IsTupOf2 h tu u v) ∧ k1.iter i1 i h ∧ k2.iter i2 i h) where
  mem := by simp
  obj := fun i h st c hc => by
    obtain ⟨gz, gti, ⟨x, y, gtu⟩, a1, a2⟩ := st
    obtain ⟨o1, v1, e1, d1⟩ := Zk.iter_obj a1
    obtain ⟨o2, v2, e2, d2⟩ := Zk.iter_obj a2
    have ce : c = z ∨ c = ti ∨ c = tu ∨ c = i1 ∨ c = i2 := by simpa using hc
    rcases ce with q | q | q | q | q
    · rw [q]; exact ⟨_, gz, fun v q => nomatch q⟩
    · rw [q]; exact ⟨_, gti, fun v q => nomatch q⟩
    · rw [q]; exact ⟨_, gtu, fun v q => nomatch q⟩
    · rw [q]; exact ⟨o1, e1, fun v q => by rw [d1] at q; cases q⟩
    · rw [q]; exact ⟨o2, e2, fun v q => by rw [d2] at q; cases q⟩
  keep := fun i h h' st k => by
    obtain ⟨gz, gti, ⟨x, y, gtu⟩, a1, a2⟩ := st
    exact ⟨k z (by simp) _ gz, k ti (by simp) _ gti, ⟨x, y, k tu (by simp) _ gtu⟩, Zk.iter_keep (fun o e => k i1 (by simp) o e) a1, Zk.iter_keep (fun o e => k i2 (by simp) o e) a2⟩
  item := by
    intro X eP ew eK hc i pn s σ H E I fr st hg
    subst eP ew eK
    obtain ⟨gz, gti, ⟨x0, y0, gtu⟩, a1, a2⟩ := st
    have zl : z < s.heap.objs.size := Heap.lt_size gz
    have hh : X.A.in1.handled = none := I.ok.hd hc
    obtain ⟨p, q, x, y, hp, hq, hx, hy⟩ := hg
    obtain ⟨m1, P1, S1, D1, l1, t1, b1, c1⟩ := Zk.draws (it := i1) I hh n1 hp
    obtain ⟨m2, P2, S2, D2, l2, t2, b2, c2⟩ := Zk.draws (it := i2) I hh n2 hq
    have ip : i < m1 := by have := (List.getElem?_eq_some_iff.mp hx).1; omega
    have iq : i < m2 := by have := (List.getElem?_eq_some_iff.mp hy).1; omega
    refine wpAny_pyNext_zipD2_item D D1 D2 gz gti gtu (t1 i a1) (t2 i a2) ip iq fun u1 u2 h' tk p1 p2 z' tu' a1' a2' hT sz hk => ?_
    have a1' := c1 _ _ a1'
    have a2' := c2 _ _ a2'
    obtain ⟨g1, e1, r1⟩ := b1 i u1 p1
    obtain ⟨g2, e2, r2⟩ := b2 i u2 p2
    rw [hx] at e1
    rw [hy] at e2
    cases e1
    cases e2
    refine ⟨_, rfl, wpAny_letOwnedTupleGo_zip (s := { s with heap := h', toks := tk }) z' fun h'' z'' so => ?_⟩
    have hT2 : h''.get? s.heap.objs.size = some { cls := .type "tuple", data := .seq #[u1, u2] } := (so.2 _ (Nat.ne_of_gt zl)).trans hT
    have nw : ObjOk X.prog X.w (upd H s.heap.objs.size (.tup [x, y])) h'' s.heap.objs.size (.tup [x, y]) :=
      ⟨by show 2 ≤ sizeLine; decide, [u1, u2], .cons r1 (.cons r2 .nil), ⟨_, hT2, rfl, _, rfl⟩⟩
    have I1 : Inv X pn σ (upd H s.heap.objs.size (.tup [x, y])) { s with heap := h'', toks := tk } :=
      I.turnedNew (t' := tk) (ch := [z, ti, tu, i1, i2]) (fun c o hb q => (so.2 c (fun q' => hb (by simp [q']))).trans (hk c o (fun q' => hb (by simp [q'])) (fun q' => hb (by simp [q'])) (fun q' => hb (by simp [q'])) (fun q' => hb (by simp [q'])) q)) fr (Nat.le_refl _) nw
    refine ⟨.ref s.heap.objs.size, _, I1, rfl, ⟨_, x, y, rfl, I.hok.fresh (Nat.le_refl _), rfl, fun l hl => by rw [Zk.src_one I hl hp]; exact hx, fun l hl => by rw [Zk.src_one I hl hq]; exact hy⟩, ⟨z'', ?_, ⟨u1, u2, ?_⟩, ?_, ?_⟩, fun c mc => ?_⟩
    · exact (so.2 _ D.TIz).trans (hk _ _ D.TIz D.TITO D.TIi1 D.TIi2 gti)
    · exact (so.2 _ D.TOz).trans tu'
    · exact Zk.iter_keep (fun o e => (so.2 _ (Ne.symm D.zi1)).trans e) a1'
    · exact Zk.iter_keep (fun o e => (so.2 _ (Ne.symm D.zi2)).trans e) a2'
    · have lz : c < s.heap.objs.size := by
        obtain ⟨o1, v1, e1, d1⟩ := Zk.iter_obj a1
        obtain ⟨o2, v2, e2, d2⟩ := Zk.iter_obj a2
        have ce : c = z ∨ c = ti ∨ c = tu ∨ c = i1 ∨ c = i2 := by simpa using mc
        rcases ce with q | q | q | q | q
        · rw [q]; exact zl
        · rw [q]; exact Heap.lt_size gti
        · rw [q]; exact Heap.lt_size gtu
        · rw [q]; exact Heap.lt_size e1
        · rw [q]; exact Heap.lt_size e2
      rw [upd_ne (Nat.ne_of_lt lz)]
      exact (fr c mc).1
  done := by
    intro X eP ew eK hc i pn s σ H E I fr st hg
    subst eP ew eK
    obtain ⟨gz, gti, ⟨x0, y0, gtu⟩, a1, a2⟩ := st
    have hh : X.A.in1.handled = none := I.ok.hd hc
    obtain ⟨p, q, hp, hq, le1, le2, en⟩ := hg
    obtain ⟨m1, P1, S1, D1, l1, t1, b1, c1⟩ := Zk.draws (it := i1) I hh n1 hp
    obtain ⟨m2, P2, S2, D2, l2, t2, b2, c2⟩ := Zk.draws (it := i2) I hh n2 hq
    exact wpAny_pyNext_zipD2_end D D1 D2 gz gti gtu (t1 i a1) (t2 i a2) (by omega) (by omega) (by omega) fun h' tk hk => ⟨rfl, I.turnedL (t' := tk) (ch := [z, ti, tu, i1, i2]) (fun c o hb q =>
      hk c o (fun q' => hb (by simp [q'])) (fun q' => hb (by simp [q'])) (fun q' => hb (by simp [q'])) (fun q' => hb (by simp [q'])) q) fr⟩
  self := fun A i s Q E st h => wpAny_pyIter_zip st.1 h
/-- v is what k tells -/
def ZkV : Zk → V → Prop
  | .L a, v => v = .ref a
  | .T a, v => v = .ref a
  | .S x _, v => v = .str x
def iZipG (K : PySem.W.Frag) (ta : TA) : TI := fun σ H R => ta σ H fun vs H1 => ∃ v1 v2, vs = [v1, v2] ∧ ∀ t1 t2 : Tok, ∃ (k1 k2 : Zk) (p q : List V), ZkV k1 v1 ∧ ZkV k2 v2 ∧ (∀ x t, k1 = .S x t → t = t1) ∧ (∀ x t, k2 = .S x t → t = t2) ∧ k1.src K H1 p ∧ k2.src K H1 q ∧ R (ItZG K k1 k2) H1
theorem zkv_val {k : Zk} {v : V} {u : Value} (h : ZkV k v) (r : RelV v u) : (∃ t, ∀ x t', k = .S x t' → t' = t → u = k.val) ∧ ((∀ x t', k ≠ .S x t') → u = k.val) := by
  cases k with
  | L a => subst h; exact ⟨⟨0, fun x t' e => by cases e⟩, fun _ => r⟩
  | T a => subst h; exact ⟨⟨0, fun x t' e => by cases e⟩, fun _ => r⟩
  | S x t =>
    subst h
    obtain ⟨t2, rfl⟩ := r
    exact ⟨⟨t2, fun x t' e q => by cases e; rw [q]; rfl⟩, fun n => absurd rfl (n x t)⟩
theorem zk_val {v : V} {u : Value} (r : RelV v u) : ∃ t1 : Tok, ∀ k : Zk, ZkV k v → (∀ x t, k = .S x t → t = t1) → u = k.val := by
  cases v with
  | str x =>
    obtain ⟨t, rfl⟩ := r
    refine ⟨t, fun k h e => ?_⟩
    cases k with
    | L a => cases h
    | T a => cases h
    | S y t' =>
      cases h
      rw [e _ _ rfl]
      rfl
  | ref a =>
    refine ⟨0, fun k h e => ?_⟩
    cases k with
    | L b => cases h; exact r
    | T b => cases h; exact r
    | S y t' => cases h
  | _ =>
    refine ⟨0, fun k h e => ?_⟩
    cases k <;> cases h
theorem pi_zipG {X : Cx} {e e2 : Expr} {ta : TA} {p pos tpos : Pos} {elts : List Expr} {kk : Nat} (hg : Gl X "zip") (hm : X.mg "zip" = none) (ha : PA X [e, e2] ta)
    (st1 : starEach [e, e2] X.env = (false, eval e X.env) :: starEach [e2] X.env := by rfl) (st2 : (backTo pos (starEach [e2] X.env)).any (·.1) = false := by rfl) :
    PI X (.Tuple elts kk tpos) (.Call (.Name "zip" p) [e, e2] [] pos) (iZipG X.K ta) := by
  refine ⟨fun pn s σ H R I h => ?_⟩
  refine Call_ (ld_blt I hg hm PyProof.Rows.boot_zip (PyProof.Rows.callWith_type1 (thn (ha.run pos pn s σ H _ I h) fun us s1 ⟨vs, H1, I1, r1, q1⟩ => ?_) st1 st2))
  obtain ⟨v1, v2, ex, q1⟩ := q1
  subst ex
  cases r1 with
  | cons r rr =>
    cases rr with
    | cons r' rr =>
      cases rr
      obtain ⟨t1, f1⟩ := zk_val r
      obtain ⟨t2, f2⟩ := zk_val r'
      obtain ⟨k1, k2, l1, l2, z1, z2, y1, y2, hp, hq, q1⟩ := q1 t1 t2
      have g1 := f1 k1 z1 y1
      have g2 := f2 k2 z2 y2
      subst g1 g2
      obtain ⟨o1, G1, B1, w1, s1', m1⟩ := Zk.begins I1 hp
      obtain ⟨o2, G2, B2, w2, s2', m2⟩ := Zk.begins I1 hq
      have all5 : ∀ c, c ∈ [s1.heap.objs.size + 4, s1.heap.objs.size + 2, s1.heap.objs.size + 3, s1.heap.objs.size, s1.heap.objs.size + 1] → FpOk X pn H1 c := fun c mc => by
        have ce : c = s1.heap.objs.size + 4 ∨ c = s1.heap.objs.size + 2 ∨ c = s1.heap.objs.size + 3 ∨ c = s1.heap.objs.size ∨ c = s1.heap.objs.size + 1 := by simpa using mc
        have ge : s1.heap.objs.size ≤ c := by
          rcases ce with z | z | z | z | z
          · rw [z]; exact Nat.le_add_right _ _
          · rw [z]; exact Nat.le_add_right _ _
          · rw [z]; exact Nat.le_add_right _ _
          · rw [z]; exact Nat.le_refl _
          · rw [z]; exact Nat.le_add_right _ _
        exact I1.fpOk ge (I1.hok.fresh ge)
      refine zip_begins2 B1 B2 w1 w2 fun h' gz gti gtu e1 e2 sz hk => wpAny_pyIter_zip gz ?_
      have J2 : Inv X pn σ H1 { s1 with heap := h' } := I1.kept (t' := s1.toks) hk
      have sp := zip_sep2 m1 m2
      rw [← Zk.fp_drop, ← Zk.fp_drop] at sp
      exact ⟨s1.heap.objs.size + 4, [s1.heap.objs.size + 4, s1.heap.objs.size + 2, s1.heap.objs.size + 3, s1.heap.objs.size, s1.heap.objs.size + 1], _, _, H1, rfl, J2,
        turn_zipG sp (Zk.far_of m1 (Nat.le_refl _)) (Zk.far_of m2 (Nat.le_succ _)), ⟨gz, gti, ⟨_, _, gtu⟩, s1' _ _ e1, s2' _ _ e2⟩, all5, q1⟩
/-- what d gives, item by item -/
def feedD : D → List D → Prop
  | .lst xs, l => l = xs
  | .seq xs, l => l = xs
  | .tup xs, l => l = xs
  | .str x, l => l = signs x
  | _, _ => False
def gZipG (ga : GA) : GI := fun δ μ R => ga δ μ fun ds μ1 => ∃ x y xs ys, ds = [x, y] ∧ feedD x xs ∧ feedD y ys ∧ R (pairsL xs ys) μ1
theorem signs_repV {K : PySem.W.Frag} {H : Hp} {μ : Mu} (x : Str) : RepL K H μ (signs x) (x.cps.toList.map fun c => V.str ⟨#[c]⟩) := by
  unfold signs
  generalize x.cps.toList = l
  induction l with
  | nil => exact RepL.nil
  | cons c l ih => exact RepL.cons to_str ih
theorem feed_zk {K : PySem.W.Frag} {H : Hp} {μ : Mu} {d : D} {l : List D} {v : V} (f : feedD d l) (r : Rep K H μ d v) (t : Tok) :
    ∃ (k : Zk) (p : List V), ZkV k v ∧ (∀ x t', k = .S x t' → t' = t) ∧ RepL K H μ l p ∧ ∀ H' μ', Kp H μ H' μ' → k.src K H' p := by
  cases d <;> try exact False.elim f
  · rename_i x
    have f : l = signs x := f
    subst f
    exact ⟨.S x t, _, rep_str r, (fun y t' e => by cases e; rfl), signs_repV x, fun H' μ' k => rfl⟩
  · rename_i xs
    have f : l = xs := f
    subst f
    obtain ⟨a, vs, rfl, im, rl⟩ := rep_tup r
    exact ⟨.T a, vs, rfl, (fun y t' e => by cases e), rl, fun H' μ' k => (im.mono k).sq⟩
  · rename_i xs
    have f : l = xs := f
    subst f
    obtain ⟨a, vs, rfl, e1, e2, rl⟩ := rep_lst r
    exact ⟨.L a, vs, rfl, (fun y t' e => by cases e), rl, fun H' μ' k => SqL.of (k.k1 _ _ e1 e2)⟩
  · rename_i xs
    have f : l = xs := f
    subst f
    unfold Rep at r
    obtain ⟨a, vs, rfl, im, rl⟩ := r
    exact ⟨.L a, vs, rfl, (fun y t' e => by cases e), rl, fun H' μ' k => (im.mono k).sq⟩
theorem di_zipG {X : Cx} {e e2 : Expr} {ga : GA} {p pos tpos : Pos} {elts : List Expr} {kk : Nat} (hg : Gl X "zip") (hm : X.mg "zip" = none) (h : DA X [e, e2] ga)
    (hs : starEach [e, e2] X.env = (false, eval e X.env) :: starEach [e2] X.env := by rfl) (hpl : (backTo pos (starEach [e2] X.env)).any (·.1) = false := by rfl) :
    DI X (.Tuple elts kk tpos) (.Call (.Name "zip" p) [e, e2] [] pos) (gZipG ga) := by
  obtain ⟨t, a1, a2⟩ := h.ex
  refine ⟨_, pi_zipG hg hm a1 hs hpl, fun σ H δ μ Q R rm rs q f => ?_⟩
  refine a2 σ H δ μ _ _ rm rs q fun vs ds H1 μ1 k1 rm1 r1 ⟨x, y, xs, ys, ed, fx, fy, q1⟩ => ?_
  subst ed
  obtain ⟨vx, vy, rfl, rx, ry⟩ := repL2 r1
  refine ⟨vx, vy, rfl, fun t1 t2 => ?_⟩
  obtain ⟨ka, pa, z1, y1, l1, s1⟩ := feed_zk fx rx t1
  obtain ⟨kb, pb, z2, y2, l2, s2⟩ := feed_zk fy ry t2
  refine ⟨ka, kb, pa, pb, z1, z2, y1, y2, s1 H1 μ1 (Kp.refl _ _), s2 H1 μ1 (Kp.refl _ _), f _ _ H1 μ1 k1 rm1 ?_ q1⟩
  have e1 := l1.length
  have e2 := l2.length
  have el : (pairsL xs ys).length = min xs.length ys.length := by unfold pairsL; rw [List.length_zipWith]
  refine ⟨fun i H' hi ⟨μ', k, rm'⟩ => ?_, fun H' ⟨μ', k, rm'⟩ => ?_, fun i H' v H2 hi _ yl μ' k rm' => ?_⟩
  · rw [el] at hi
    exact ⟨pa, pb, pa[i]'(by omega), pb[i]'(by omega), s1 H' μ' k, s2 H' μ' k, List.getElem?_eq_getElem _, List.getElem?_eq_getElem _⟩
  · exact ⟨pa, pb, s1 H' μ' k, s2 H' μ' k, by rw [el]; omega, by rw [el]; omega, by rw [el]; omega⟩
  · obtain ⟨T, u, w, ev, nT, eH, hu, hw⟩ := yl
    subst ev eH
    rw [el] at hi
    have g1 := hu pa (s1 H' μ' k)
    have g2 := hw pb (s2 H' μ' k)
    obtain ⟨dx, ex, rx'⟩ := (l1.mono k _ _).atV g1
    obtain ⟨dy, ey, ry'⟩ := (l2.mono k _ _).atV g2
    refine ⟨.tup [dx, dy], ?_, ?_, Kp.new nT, rm'.laid nT⟩
    · unfold pairsL
      rw [List.getElem?_zipWith, ex, ey]
    · unfold Rep
      exact ⟨T, _, rfl, .inl ⟨upd_same, rm'.free nT⟩, RepL.cons (rx'.mono (Kp.new nT)) (RepL.cons (ry'.mono (Kp.new nT)) RepL.nil)⟩
end DL

set_option Elab.async false
set_option linter.all false
set_option maxRecDepth 100000
namespace DL
open PySem PySem.Spec PyProof.Rows L2
/-! ### data that can be compared -/
structure Lay (d : D) (p : PyData) (n : Nat) : Prop where
  py : DL.py d = some p
  lay : p.canLay0 = true
  dep : p.depth ≤ n
structure LayL (ds : List D) (ps : List PyData) (n : Nat) : Prop where
  py : DL.pyL ds = some ps
  lay : PyData.canLayAll0 ps = true
  dep : PyData.depthAll ps ≤ n
theorem lay_int (i : Int) (n : Nat) : Lay (.int i) (.int i) n := ⟨by unfold DL.py; rfl, by unfold PyData.canLay0; rfl, by unfold PyData.depth; omega⟩
theorem lay_bl (b : Bool) (n : Nat) : Lay (.bl b) (.bool b) n := ⟨by unfold DL.py; rfl, by unfold PyData.canLay0; rfl, by unfold PyData.depth; omega⟩
theorem lay_non (n : Nat) : Lay .non .none n := ⟨by unfold DL.py; rfl, by unfold PyData.canLay0; rfl, by unfold PyData.depth; omega⟩
theorem lay_str {x : Str} (h : x.cps.all (· < 0x110000) = true) (n : Nat) : Lay (.str x) (.str x) n := ⟨by unfold DL.py; rfl, by unfold PyData.canLay0; exact h, by unfold PyData.depth; omega⟩
theorem layL_nil (n : Nat) : LayL [] [] n := ⟨by unfold DL.pyL; rfl, by unfold PyData.canLayAll0; rfl, by unfold PyData.depthAll; omega⟩
theorem layL_cons {d : D} {p : PyData} {ds : List D} {ps : List PyData} {n : Nat} (h : Lay d p n) (k : LayL ds ps n) : LayL (d :: ds) (p :: ps) n := by
  refine ⟨?_, ?_, ?_⟩
  · unfold DL.pyL
    rw [h.py, k.py]
  · unfold PyData.canLayAll0
    rw [h.lay, k.lay]
    rfl
  · unfold PyData.depthAll
    have := h.dep
    have := k.dep
    omega
theorem lay_tup {ds : List D} {ps : List PyData} {n : Nat} (k : LayL ds ps n) : Lay (.tup ds) (.tuple ps) (n + 1) := by
  refine ⟨?_, ?_, ?_⟩
  · unfold DL.py
    rw [k.py]
    rfl
  · unfold PyData.canLay0
    exact k.lay
  · unfold PyData.depth
    have := k.dep
    omega
theorem lay_lst {ds : List D} {ps : List PyData} {n : Nat} (k : LayL ds ps n) : Lay (.lst ds) (.list ps) (n + 1) := by
  refine ⟨?_, ?_, ?_⟩
  · unfold DL.py
    rw [k.py]
    rfl
  · unfold PyData.canLay0
    exact k.lay
  · unfold PyData.depth
    have := k.dep
    omega
theorem layL_map {α : Type} {f : α → D} {g : α → PyData} {n : Nat} : ∀ {l : List α}, (∀ x ∈ l, Lay (f x) (g x) n) → LayL (l.map f) (l.map g) n
  | [], _ => layL_nil n
  | a :: l, h => layL_cons (h a List.mem_cons_self) (layL_map fun x hx => h x (List.mem_cons_of_mem _ hx))
theorem Lay.shaped {d : D} {p : PyData} {n : Nat} (h : Lay d p n) (hn : n ≤ 64) : SeqAt.shaped p = true := by
  unfold SeqAt.shaped
  rw [h.lay, decide_eq_true (Nat.le_trans h.dep hn)]
  rfl
theorem Lay.cmp {d d' : D} {p p' : PyData} {n m : Nat} (h : Lay d p n) (h' : Lay d' p' m) (hn : n ≤ 64) (hm : m ≤ 64) {k : Bool → Bool} {μ : Mu} {R : KD} (q : R (.bl (k (PyData.eqv p p'))) μ) : gEqD k d d' μ R :=
  ⟨p, p', h.py, h'.py, h.shaped hn, h'.shaped hm, q⟩
/-- compared with itself -/
theorem Lay.same {d : D} {p : PyData} {n : Nat} (h : Lay d p n) (hn : n ≤ 64) {k : Bool → Bool} {μ : Mu} {R : KD} (q : R (.bl (k true)) μ) : gEqD k d d μ R :=
  h.cmp h hn hn (by rw [SeqAt.eqv_refl _ h.lay]; exact q)
theorem eqv_nil (ps : List PyData) : PyData.eqv (.list ps) (.list []) = decide (ps = []) := by
  cases ps with
  | nil => rw [decide_eq_true rfl]; unfold PyData.eqv PyData.eqvAll; rfl
  | cons p ps => rw [decide_eq_false (List.cons_ne_nil _ _)]; unfold PyData.eqv PyData.eqvAll; rfl
/-- a list compared with the empty one -/
theorem LayL.none {ds : List D} {ps : List PyData} {n : Nat} (h : LayL ds ps n) (hn : n + 1 ≤ 64) {k : Bool → Bool} {μ : Mu} {R : KD} (q : R (.bl (k (decide (ds = [])))) μ) : gEqD k (.lst ds) (.lst []) μ R := by
  refine (lay_lst h).cmp (lay_lst (layL_nil 0)) hn (by omega) ?_
  rw [eqv_nil]
  have e : (decide (ps = [])) = decide (ds = []) := by
    refine decide_eq_decide.mpr ?_
    have p := h.py
    cases ds with
    | nil =>
      unfold DL.pyL at p
      exact ⟨fun _ => rfl, fun _ => (Option.some.inj p).symm⟩
    | cons d ds =>
      constructor
      · intro e
        subst e
        unfold DL.pyL at p
        split at p <;> cases p
      · intro e
        cases e
  rw [e]
  exact q
/-- a lot -/
theorem layL_ints (l : List Int) (n : Nat) : LayL (l.map D.int) (l.map PyData.int) n := layL_map fun x _ => lay_int x n
theorem layL_bls (l : List Bool) (n : Nat) : LayL (l.map D.bl) (l.map PyData.bool) n := layL_map fun x _ => lay_bl x n
end DL

set_option Elab.async false
set_option linter.all false
set_option maxRecDepth 100000
namespace DL
open PySem PySem.Spec PyProof.Rows L2
/-! ### a tuple, a list as a test -/
def gTru (g : GE) : GT := fun δ μ R => g δ μ fun d μ1 => match d with
  | .tup ds => R (!ds.isEmpty) μ1
  | .lst ds => R (!ds.isEmpty) μ1
  | _ => False
theorem dt_tru {X : Cx} {a : Expr} {g : GE} (h : DE X a g) (he : ∀ whole, isTrue a X.env whole = (do let v ← whole; standAt a.pos; holding [v] (truthy v)) := by intro _; rfl) : DT X a (gTru g) := by
  obtain ⟨t, a1, a2⟩ := h.ex
  refine ⟨_, pt_truth a1 he, fun σ H δ μ Q R rm rs q f => ?_⟩
  refine a2 σ H δ μ _ _ rm rs q fun v d H1 μ1 k1 rm1 r1 q1 => ?_
  cases d <;> try exact False.elim q1
  · rename_i ds
    obtain ⟨p, vs, rfl, im, l⟩ := rep_tup r1
    have e : vs.isEmpty = ds.isEmpty := by
      have := l.length
      cases vs <;> cases ds <;> simp_all
    exact ⟨_, .inr (.inl ⟨vs, im.sq, rfl⟩), by rw [e]; exact f _ H1 μ1 k1 rm1 q1⟩
  · rename_i ds
    obtain ⟨p, vs, rfl, i, n, l⟩ := rep_lst r1
    have e : vs.isEmpty = ds.isEmpty := by
      have := l.length
      cases vs <;> cases ds <;> simp_all
    exact ⟨_, .inl ⟨vs, SqL.of i, rfl⟩, by rw [e]; exact f _ H1 μ1 k1 rm1 q1⟩
end DL

set_option Elab.async false
set_option linter.all false
set_option maxRecDepth 100000
namespace DL
open PySem PySem.Spec PyProof.Rows L2
/-! ### while -/
def gWhile (gc : GT) (gb : GS) : GS := fun F δ μ => ∃ Iv : Nat → DS → Mu → Prop, (∃ m, Iv m δ μ) ∧
  ∀ m δ' μ', Iv m δ' μ' → gc δ' μ' fun b μ2 => if b = true then gb { F with nx := fun δ2 μ3 => ∃ m', m' < m ∧ Iv m' δ2 μ3, ct := fun δ2 μ3 => ∃ m', m' < m ∧ Iv m' δ2 μ3, bk := F.nx } δ' μ2 else F.nx δ' μ2
theorem ds_while {X : Cx} {c : Expr} {body : List Stmt} {pos : Pos} {gc : GT} {gb : GS} (hp : PassesOwn (model X.prog X.w) X.A X.env X.xe) (hc : DT X c gc) (hb : DSs X body gb) : DSt X (.While c body [] pos) (gWhile gc gb) := by
  obtain ⟨tc, c1, c2⟩ := hc.ex
  obtain ⟨tb, b1, b2⟩ := hb.ex
  refine ⟨_, ps_while hp c1 b1, fun σ H δ μ E F rm rs e ⟨Iv, ⟨m0, h0⟩, turn⟩ => ?_⟩
  refine ⟨fun m σ2 H2 => ∃ δ2 μ2, Kp H μ H2 μ2 ∧ RM X.K H2 μ2 ∧ RepS X.K H2 μ2 δ2 σ2 ∧ Iv m δ2 μ2, ⟨m0, δ, μ, Kp.refl _ _, rm, rs, h0⟩, ?_⟩
  rintro m σ2 H2 ⟨δ2, μ2, k2, rm2, rs2, iv⟩
  refine c2 σ2 H2 δ2 μ2 _ _ rm2 rs2 (turn m δ2 μ2 iv) fun b H3 μ3 k3 rm3 q3 => ?_
  cases b with
  | false => exact e.nx σ2 H3 δ2 μ3 (k2.trans k3) rm3 (rs2.mono k3) q3
  | true =>
    rw [if_pos rfl] at q3 ⊢
    refine ⟨fun σ4 H4 => ∃ m', m' < m ∧ ∃ δ4 μ4, Kp H μ H4 μ4 ∧ RM X.K H4 μ4 ∧ RepS X.K H4 μ4 δ4 σ4 ∧ Iv m' δ4 μ4, fun σ' H' ⟨m', l, w⟩ => ⟨m', l, w⟩, ?_⟩
    refine b2 σ2 H3 δ2 μ3 _ _ rm3 (rs2.mono k3) ⟨?_, ?_, ?_, ?_⟩ q3
    · exact fun σ5 H5 δ5 μ5 k5 rm5 rs5 ⟨m', l, q5⟩ => ⟨m', l, δ5, μ5, k2.trans (k3.trans k5), rm5, rs5, q5⟩
    · exact e.rt.re (k2.trans k3)
    · exact fun σ5 H5 δ5 μ5 k5 rm5 rs5 q5 => e.nx σ5 H5 δ5 μ5 (k2.trans (k3.trans k5)) rm5 rs5 q5
    · exact fun σ5 H5 δ5 μ5 k5 rm5 rs5 ⟨m', l, q5⟩ => ⟨m', l, δ5, μ5, k2.trans (k3.trans k5), rm5, rs5, q5⟩
/-- {} with keys of texts and numbers -/
def gDNew : GE := fun _ μ R => ∀ a, μ a = none → R (.adr a) (put μ a (.dct []))
theorem de_dnew {X : Cx} {pos : Pos} : DE X (.Dict [] [] pos) gDNew := by
  refine ⟨_, pe_dnewK, fun σ H δ μ Q R rm rs q f => ?_⟩
  intro p n
  exact f (.ref p) (.adr p) _ _ (Kp.cell n) (rm.cellD n (by unfold RepK; rfl)) (by unfold Rep; rfl) (q p (rm.free n))
end DL

set_option Elab.async false
set_option linter.all false
set_option maxRecDepth 100000
namespace K10
open PySem PySem.Spec PyProof.Rows L2 DL
section
variable {P : Program} {w : World} {K : PySem.W.Frag} {mg : Str → Option Value} {base : Heap} {A : Ad}

/-! ### shared by the families of laws -/
theorem cutSL {p : List Nat} {e : Nat} (h : e ≤ p.length) : cutS (toS p) none (some (e : Int)) = toS (p.take e) := by
  unfold cutS
  rw [HT.sIx_nat, HT.sIx_none, toS_len, toS_list, List.drop_zero, Nat.min_eq_left h, Nat.sub_zero]
  rfl
theorem cutSR {p : List Nat} {e : Nat} (h : e ≤ p.length) : cutS (toS p) (some (e : Int)) none = toS (p.drop e) := by
  unfold cutS
  rw [HT.sIx_nat, HT.sIx_none, toS_len, toS_list, Nat.min_eq_left h, List.take_of_length_le (by rw [List.length_drop]; exact Nat.le_refl _)]
  rfl
theorem OkT.snoc {p : List Nat} {ts : List Str} (h : OkT p ts) {a b : Nat} (ha : a ∈ p) (hb : b ∈ p) (k : a ≤ b) : OkT p (ts ++ [yTie a b]) := ⟨fun y hy => by
  rcases List.mem_append.mp hy with q | q
  · exact h.ties y q
  · rw [List.mem_singleton.mp q]
    exact ⟨a, b, rfl, ha, hb, k⟩⟩
theorem mm_in {p : List Nat} {a b : Nat} (ha : a ∈ p) (hb : b ∈ p) : min a b ∈ p ∧ max a b ∈ p ∧ min a b ≤ max a b := by
  by_cases e : a ≤ b
  · rw [Nat.min_eq_left e, Nat.max_eq_right e]; exact ⟨ha, hb, e⟩
  · rw [Nat.min_eq_right (by omega), Nat.max_eq_left (by omega)]; exact ⟨hb, ha, by omega⟩
theorem Sa.del {μ μ1 : Mu} {a b : Addr} (s : Sa μ μ1 a) (n : μ b = none) (ne : b ≠ a) : Sa μ (del μ1 b) a := by
  obtain ⟨x, y, z, e⟩ := s.has
  refine ⟨fun c o hc e' => ?_, ⟨x, y, z, by rw [del_ne ne.symm]; exact e⟩⟩
  rw [del_ne (fun q => by rw [q, n] at e'; cases e')]
  exact s.keep c o hc e'
theorem cutR_any {ds : List D} {e : Nat} : DL.cutD ds (some (e : Int)) none = ds.drop e := by
  by_cases h : e ≤ ds.length
  · exact cutR h
  · unfold DL.cutD
    rw [HT.sIx_nat, HT.sIx_none, Nat.min_eq_right (by omega), List.drop_length, List.take_nil, List.drop_eq_nil_of_le (by omega)]
theorem cutL_any {ds : List D} {e : Nat} : DL.cutD ds none (some (e : Int)) = ds.take e := by
  by_cases h : e ≤ ds.length
  · exact cutL h
  · unfold DL.cutD
    rw [HT.sIx_nat, HT.sIx_none, List.drop_zero, Nat.min_eq_right (by omega), Nat.sub_zero, List.take_of_length_le (Nat.le_refl _), List.take_of_length_le (by omega)]
theorem toS_size (h : List Nat) : (toS h).length = h.length := by show h.toArray.size = _; rw [List.size_toArray]
/-- the store but for new cells and the bag at a, whose third number has grown to n at most -/
structure Sn (μ μ1 : Mu) (a : Addr) (n : Nat) : Prop where
  keep : ∀ c o, c ≠ a → μ c = some o → μ1 c = some o
  has : ∃ (x y : Int) (z : Nat), μ1 a = some (pot x y z) ∧ z ≤ n
theorem Sn.draw {μ μ1 : Mu} {a : Addr} {n m : Nat} (s : Sn μ μ1 a n) (x y : Int) {z : Nat} (h : z ≤ m) : Sn μ (put μ1 a (pot x y z)) a m :=
  ⟨fun c o hc e => by rw [put_ne hc]; exact s.keep c o hc e, ⟨x, y, z, put_same, h⟩⟩
theorem Sn.up {μ μ1 : Mu} {a : Addr} {n m : Nat} (s : Sn μ μ1 a n) (h : n ≤ m) : Sn μ μ1 a m := by
  obtain ⟨x, y, z, e, hz⟩ := s.has
  exact ⟨s.keep, ⟨x, y, z, e, by omega⟩⟩
theorem Sn.cell {μ μ1 : Mu} {a b : Addr} {n : Nat} (s : Sn μ μ1 a n) (nb : μ b = none) (ne : b ≠ a) (o : MO) : Sn μ (put μ1 b o) a n := by
  obtain ⟨x, y, z, e, hz⟩ := s.has
  refine ⟨fun c o' hc e' => ?_, ⟨x, y, z, by rw [put_ne ne.symm]; exact e, hz⟩⟩
  rw [put_ne (fun q => by rw [q, nb] at e'; cases e')]
  exact s.keep c o' hc e'
theorem Sn.new {μ μ1 : Mu} {a b : Addr} {n : Nat} (s : Sn μ μ1 a n) (nb : μ1 b = none) : μ b = none ∧ b ≠ a := by
  obtain ⟨x, y, z, e, hz⟩ := s.has
  have ne : b ≠ a := fun q => by rw [q, e] at nb; cases nb
  refine ⟨?_, ne⟩
  cases h : μ b with
  | none => rfl
  | some o =>
    have := s.keep b o ne h
    rw [nb] at this
    cases this
theorem Sn.del {μ μ1 : Mu} {a b : Addr} {n : Nat} (s : Sn μ μ1 a n) (nb : μ b = none) (ne : b ≠ a) : Sn μ (del μ1 b) a n := by
  obtain ⟨x, y, z, e, hz⟩ := s.has
  refine ⟨fun c o hc e' => ?_, ⟨x, y, z, by rw [del_ne ne.symm]; exact e, hz⟩⟩
  rw [del_ne (fun q => by rw [q, nb] at e'; cases e')]
  exact s.keep c o hc e'
theorem Sn.more {μ μ1 μ2 : Mu} {a : Addr} {n : Nat} (s : Sn μ μ1 a n) (h : ∀ c o, μ1 c = some o → μ2 c = some o) : Sn μ μ2 a n := by
  obtain ⟨x, y, z, e, hz⟩ := s.has
  exact ⟨fun c o k k2 => h c o (s.keep c o k k2), ⟨x, y, z, h _ _ e, hz⟩⟩
theorem Sn.into {μ μ1 : Mu} {a : Addr} {n : Nat} (s : Sn μ μ1 a n) : ∃ (x y : Int) (z : Nat), z ≤ n ∧ ∀ d, Into d μ1 d (put μ a (pot x y z)) := by
  obtain ⟨x, y, z, e, hz⟩ := s.has
  refine ⟨x, y, z, hz, fun d => .less fun c o hc => ?_⟩
  by_cases q : c = a
  · rw [q, put_same] at hc
    rw [q, e]
    exact hc
  · rw [put_ne q] at hc
    exact s.keep c o q hc
theorem Sn.back {μ μ1 : Mu} {a : Addr} {n : Nat} (s : Sn μ μ1 a n) {d : D} {R : KD} (h : ∀ (x y : Int) (z : Nat), z ≤ n → R d (put μ a (pot x y z))) : freed R d μ1 := by
  obtain ⟨x, y, z, hz, i⟩ := s.into
  exact ⟨d, _, i d, h x y z hz⟩
/-- what is left behind: only the list that is handed back matters -/
theorem Sn.out {μ μ1 : Mu} {a b : Addr} {n : Nat} {l : List D} (s : Sn μ μ1 a n) (c : Sc μ μ1 a b l) : ∃ μ2 : Mu, Into (.adr b) μ1 (.lst l) μ2 ∧ ∃ (x y : Int) (z : Nat), z ≤ n ∧ μ2 = put μ a (pot x y z) := by
  obtain ⟨x, y, z, e, hz⟩ := s.has
  refine ⟨put μ a (pot x y z), .trans (.frz c.at_) (.less fun d o hd => ?_), x, y, z, hz, rfl⟩
  by_cases q : d = a
  · rw [q, put_same] at hd
    rw [q, del_ne c.ne.symm, e]
    exact hd
  · rw [put_ne q] at hd
    have nb : d ≠ b := fun z => by rw [z, c.new] at hd; cases hd
    rw [del_ne nb]
    exact s.keep d o q hd
theorem chs_in {p : List Nat} {d : D} (h : d ∈ chs p) : ∃ c, c ∈ p ∧ d = .str (sg c) := by
  obtain ⟨c, hc, rfl⟩ := List.mem_map.mp h
  exact ⟨c, hc, rfl⟩
theorem chs_len (p : List Nat) : (chs p).length = p.length := List.length_map _
theorem signs_chs (p : List Nat) : DL.signs (toS p) = chs p := by
  unfold DL.signs chs
  rw [toS_list]
  rfl
theorem one_long (a b : Nat) : (lowS a b).length + (highS a b).length ≤ sizeLine := by
  have el : lowS a b = sg (min a b) := min_sg a b
  have eh : highS a b = sg (max a b) := max_sg a b
  rw [el, eh]
  show 1 + 1 ≤ sizeLine
  decide
theorem one_tie (a b : Nat) : lowS a b ++ highS a b = yTie (min a b) (max a b) := by
  have el : lowS a b = sg (min a b) := min_sg a b
  have eh : highS a b = sg (max a b) := max_sg a b
  rw [el, eh, sg_add]
theorem len_empty : ("" : Str).length = 0 := by decide +kernel
end
end K10

set_option Elab.async false
set_option linter.all false
set_option maxRecDepth 100000
namespace K10
open PySem PySem.Spec PyProof.Rows L2 DL
section
variable {P : Program} {w : World} {K : PySem.W.Frag} {mg : Str → Option Value} {base : Heap} {A : Ad}

/-! ### draws of the purses -/
theorem np1 : (2147483423 : Int) ≠ 0 := by decide
theorem np2 : (2147483399 : Int) ≠ 0 := by decide
theorem np3 : (39979 : Int) ≠ 0 := by decide
def g_L_purse : GC := fun ds μ R => ∃ (ns : List Int) (k : Nat), ds = [.seq (ns.map D.int), .int (k : Nat)] ∧ ns.length ≤ 1000 ∧ k ≤ 1000 ∧ ∀ (x y : Int) (a : Addr), μ a = none → R (.adr a) (put μ a (pot x y 0))
def N32 : List Str := ["_law_script", "_law_k", "_law_cell", "_law_more", "_law_figures"]
theorem sc32 : FnScope N32 ["_law_script", "_law_k"] (defScope (top 32)) := ⟨rfl, rfl, rfl, by decide +kernel, rfl, by decide +kernel, by decide +kernel⟩
theorem ok_L_purse (T : Tx K mg A) : FnOk P w K mg base CX0 1 A.L_purse A.fd_L_purse ["_law_script", "_law_k"] (toSp K (g_L_purse)) := by
  refine okD T.F_L_purse sc32 (fun ds μ R h => ?_) ⟨_, fun cdv A0 outer s H E hr =>
    (dss_cons (ds_set sc32.nd (i := 2) rfl (by first | exact Or.inl rfl | exact Or.inr rfl) (de_if (dt_cmp op_ltA sim_ord (dv 1) (de_callB cr_len sim_len (by rfl) T.z_len boot_len (da_cons (dv 0) da_nil)) (nomark _)) (de_ix ix_any sim_ix (dv 0) (dv 1) (fun _ _ => rfl)) (de_op op_plus sim_plus (de_op op_mul sim_mul de_int (dv 1)) de_int)))
      (dss_cons (ds_if (dt_cmp op_geA sim_ord (dv 1) (de_callB cr_len sim_len (by rfl) T.z_len boot_len (da_cons (dv 0) da_nil)) (nomark _)) (dss_one (ds_for PassesOwn.never rfl (di_both (de_slice (dv 0) dp_none (dp_some de_int))) (pg_name (i := 3) sc32.nd rfl (by first | exact Or.inl rfl | exact Or.inr rfl)) (sim_nm (i := 3))
      (dss_one (ds_set sc32.nd (i := 2) rfl (by first | exact Or.inl rfl | exact Or.inr rfl) (de_op op_modN sim_mod (de_callTy call_int1 sim_int (by rfl) T.z_int boot_int (da_cons (de_op op_plus sim_plus (de_op op_mul sim_mul (dv 2) de_int) (de_op op_mul sim_mul (dv 3) (de_op op_plus sim_plus (dv 1) de_int))) da_nil)) de_int))))) dss_nil)
      (dss_cons (ds_set sc32.nd (i := 4) rfl (by first | exact Or.inl rfl | exact Or.inr rfl) (de_if (dw_or (dt_cmp op_ltA sim_ord (dv 2) de_int (nomark _)) (dw_or1 (dt_cmp op_geA sim_ord (dv 2) (de_op op_pow sim_pow de_int de_int) (nomark _)))).dt (de_callB call_abs sim_abs (by rfl) T.z_abs boot_abs (da_cons (dv 2) da_nil)) de_int))
      (dss_one (ds_ret (de_cell (da_cons (de_op op_modN sim_mod (de_callTy call_int1 sim_int (by rfl) T.z_int boot_int (da_cons (dv 2) da_nil)) de_int) (da_cons (dv 4) (da_cons de_int da_nil))))))))), fun ds μ R h => ?_⟩
  · obtain ⟨ns, k, rfl, _⟩ := h
    rfl
  · obtain ⟨ns, k, rfl, ln, k3, h⟩ := h
    refine if_case (c := decide ((k : Int) < ((ns.map D.int).length : Int))) (fun e => ?_) (fun e => ?_)
    · have e := of_decide_eq_true e
      have hk : k < ns.length := by
        have : ((ns.map D.int).length : Int) = ns.length := by rw [List.length_map]
        omega
      obtain ⟨c, hn⟩ := ints_at hk
      apply atK_nat hn
      refine if_case (c := decide (((ns.map D.int).length : Int) ≤ (k : Int))) (fun e2 => ?_) (fun _ => ?_)
      · have := of_decide_eq_true e2
        omega
      refine if_case (c := decide (c < 0)) (fun e => ?_) (fun e => ?_)
      · refine ⟨np2, ?_⟩
        refine ⟨by show 3 ≤ sizeLine; decide, fun a na => ?_⟩
        exact h _ _ a na
      · refine ⟨⟨by decide, by decide, by decide⟩, ?_⟩
        refine if_case (c := decide ((10 : Int) ^ (18 : Int).toNat ≤ c)) (fun e => ?_) (fun e => ?_)
        · refine ⟨np2, ?_⟩
          refine ⟨by show 3 ≤ sizeLine; decide, fun a na => ?_⟩
          exact h _ _ a na
        · refine ⟨np2, ?_⟩
          refine ⟨by show 3 ≤ sizeLine; decide, fun a na => ?_⟩
          exact h _ _ a na
    · have e := of_decide_eq_false e
      refine ⟨Or.inl ⟨by decide, by decide⟩, ?_⟩
      refine if_case (c := decide (((ns.map D.int).length : Int) ≤ (k : Int))) (fun _ => ?_) (fun e2 => ?_)
      · refine ⟨fun i δ' μ' => μ' = μ ∧ ∃ (c : Int) (o3 : Option D), δ' = [some (.seq (ns.map D.int)), some (.int (k : Nat)), some (.int c), o3, none], ⟨rfl, _, none, rfl⟩, ?_, ?_⟩
        · rintro i x δ' μ' hx ⟨rfl, c, o3, rfl⟩
          obtain ⟨n, rfl⟩ := cut_ints hx
          refine ⟨Or.inr ⟨by decide, by decide⟩, ?_⟩
          refine ⟨Or.inr ⟨by omega, by omega⟩, ?_⟩
          refine ⟨np1, ?_⟩
          exact ⟨rfl, _, _, rfl⟩
        · rintro δ' μ' ⟨rfl, c, o3, rfl⟩
          refine if_case (c := decide (c < 0)) (fun e => ?_) (fun e => ?_)
          · refine ⟨np2, ?_⟩
            refine ⟨by show 3 ≤ sizeLine; decide, fun a na => ?_⟩
            exact h _ _ a na
          · refine ⟨⟨by decide, by decide, by decide⟩, ?_⟩
            refine if_case (c := decide ((10 : Int) ^ (18 : Int).toNat ≤ c)) (fun e => ?_) (fun e => ?_)
            · refine ⟨np2, ?_⟩
              refine ⟨by show 3 ≤ sizeLine; decide, fun a na => ?_⟩
              exact h _ _ a na
            · refine ⟨np2, ?_⟩
              refine ⟨by show 3 ≤ sizeLine; decide, fun a na => ?_⟩
              exact h _ _ a na
      · have := of_decide_eq_false e2
        omega

def g_L_take : GC := fun ds μ R => ∃ (a : Addr) (x y : Int) (z : Nat) (m : Int), ds = [.adr a, .int m] ∧ μ a = some (pot x y z) ∧ z ≤ 1000000 ∧ 0 < m ∧ m < 1073741824 ∧ ∀ (d : Nat) (x y : Int), (d : Int) < m → R (.int (d : Nat)) (put μ a (pot x y (z + 1 : Nat)))
def N33 : List Str := ["_law_purse_here", "_law_many", "_law_digit", "_law_seed", "_law_laps", "_law_factor"]
theorem sc33 : FnScope N33 ["_law_purse_here", "_law_many"] (defScope (top 33)) := ⟨rfl, rfl, rfl, by decide +kernel, rfl, by decide +kernel, by decide +kernel⟩
theorem ok_L_take (T : Tx K mg A) : FnOk P w K mg base CX0 1 A.L_take A.fd_L_take ["_law_purse_here", "_law_many"] (toSp K (g_L_take)) := by
  refine okD T.F_L_take sc33 (fun ds μ R h => ?_) ⟨_, fun cdv A0 outer s H E hr =>
    (dss_cons (ds_asgH (de_op op_plus sim_plus (de_ix ix_any sim_ix (dv 0) de_int (fun _ _ => rfl)) de_int) (pg_subD (dv 0) de_int) simH_subD)
      (dss_cons (ds_if (dt_cmp op_gtA sim_ord (de_ix ix_any sim_ix (dv 0) de_int (fun _ _ => rfl)) de_int (nomark _)) (dss_cons (ds_asgH (de_callB call_divmodW sim_divmodW2 (by rfl) T.z_divmod boot_divmod (da_cons (de_ix ix_any sim_ix (dv 0) de_int (fun _ _ => rfl)) (da_cons (dv 1) da_nil))) (pg_tup (n := 2) (by rfl) (pgs_cons (pg_subD (dv 0) de_int) (pgs_cons (pg_name (i := 2) sc33.nd rfl (by first | exact Or.inl rfl | exact Or.inr rfl)) pgs_nil))) (simH_tup (n := 2) (simH_cons simH_subD (simH_cons (simH_nm (i := 2)) simH_nil))))
      (dss_one (ds_ret (dv 2)))) dss_nil)
      (dss_cons (ds_par (i := 3) (j := 4) (by rfl) sc33.nd rfl rfl (by decide) rfl rfl (da_cons (de_callTy call_int1 sim_int (by rfl) T.z_int boot_int (da_cons (de_ix ix_any sim_ix (dv 0) de_int (fun _ _ => rfl)) da_nil)) (da_cons (de_ix ix_any sim_ix (dv 0) de_int (fun _ _ => rfl)) da_nil)) (by rfl))
      (dss_cons (ds_set sc33.nd (i := 5) rfl (by first | exact Or.inl rfl | exact Or.inr rfl) (de_op op_plus sim_plus (de_op op_modN sim_mod (de_callTy call_int1 sim_int (by rfl) T.z_int boot_int (da_cons (de_op op_fdivN sim_fdiv (dv 3) de_int) da_nil)) de_int) de_int))
      (dss_cons (ds_asgH (de_op op_modN sim_mod (de_callTy call_int1 sim_int (by rfl) T.z_int boot_int (da_cons (de_op op_plus sim_plus (de_op op_plus sim_plus (de_op op_mul sim_mul (dv 3) (dv 5)) (de_op op_mul sim_mul (de_op op_mul sim_mul de_int (dv 4)) (dv 4))) de_int) da_nil)) de_int) (pg_subD (dv 0) de_int) simH_subD)
      (dss_one (ds_ret (de_op op_modN sim_mod (de_callTy call_int1 sim_int (by rfl) T.z_int boot_int (da_cons (de_op op_fdivN sim_fdiv (de_ix ix_any sim_ix (dv 0) de_int (fun _ _ => rfl)) de_int) da_nil)) (dv 1))))))))), fun ds μ R h => ?_⟩
  · obtain ⟨a, x, y, z, m, rfl, _⟩ := h
    rfl
  · obtain ⟨a, x, y, z, m, rfl, ha, hz, m0, m1, h⟩ := h
    have mn : m ≠ 0 := by omega
    have ez : ((z : Int) + 1) = ((z + 1 : Nat) : Int) := by omega
    apply ix_cell 2 ha rfl
    apply set_cell (ds' := [.int x, .int y, .int ((z : Int) + 1)]) 2 ha (by show 2 < 3; omega) rfl
    rw [ez]
    have h1 : put μ a (.lst [.int x, .int y, .int ((z + 1 : Nat) : Int)]) a = some (.lst [.int x, .int y, .int ((z + 1 : Nat) : Int)]) := put_same
    generalize hμ : put μ a (.lst [.int x, .int y, .int ((z + 1 : Nat) : Int)]) = μ1 at h1 ⊢
    dsimp only
    apply ix_cell 1 h1 rfl
    refine if_case (c := decide (0 < y)) (fun e => ?_) (fun e => ?_)
    · apply ix_cell 1 h1 rfl
      refine ⟨⟨m0, by omega⟩, ?_⟩
      refine ⟨rfl, _, 1, h1, rfl, ?_⟩
      show R (.int (y % m)) (put μ1 a (pot x (y / m) (z + 1 : Nat)))
      have hn : 0 ≤ y % m := Int.emod_nonneg _ (by omega)
      have hl : y % m < m := Int.emod_lt_of_pos _ m0
      have := h (y % m).toNat x (y / m) (by omega)
      rw [Int.toNat_of_nonneg hn] at this
      rw [← hμ, put_put]
      exact this
    · apply ix_cell 0 h1 rfl
      apply ix_cell 2 h1 rfl
      refine ⟨⟨by decide, by decide⟩, ?_⟩
      refine ⟨np3, ?_⟩
      have f0 : 0 ≤ (x.fdiv 13).fmod 39979 := Int.fmod_nonneg_of_pos _ (by decide)
      have f1 : (x.fdiv 13).fmod 39979 < 39979 := Int.fmod_lt_of_pos _ (by decide)
      refine ⟨Or.inr ⟨by omega, by omega⟩, ?_⟩
      refine ⟨Or.inl ⟨by decide, by decide⟩, Or.inr ⟨by omega, by omega⟩, np2, ?_⟩
      obtain ⟨x1, hx⟩ : ∃ x1, (x * ((x.fdiv 13).fmod 39979 + 30071) + 50021 * ((z + 1 : Nat) : Int) * ((z + 1 : Nat) : Int) + 37).fmod 2147483399 = x1 := ⟨_, rfl⟩
      apply set_cell (ds' := [.int x1, .int y, .int ((z + 1 : Nat) : Int)]) 0 h1 (by show 0 < 3; omega) (by rw [← hx]; rfl)
      rw [← hμ, put_put]
      have h2 : put μ a (.lst [.int x1, .int y, .int ((z + 1 : Nat) : Int)]) a = some (.lst [.int x1, .int y, .int ((z + 1 : Nat) : Int)]) := put_same
      generalize hμ2 : put μ a (.lst [.int x1, .int y, .int ((z + 1 : Nat) : Int)]) = μ2 at h2 ⊢
      dsimp only
      apply ix_cell 0 h2 rfl
      refine ⟨⟨by decide, by decide⟩, ?_⟩
      refine ⟨mn, ?_⟩
      show R (.int ((x1.fdiv 128).fmod m)) μ2
      rw [← hμ2]
      have hn : 0 ≤ (x1.fdiv 128).fmod m := Int.fmod_nonneg_of_pos _ m0
      have hl : (x1.fdiv 128).fmod m < m := Int.fmod_lt_of_pos _ m0
      have := h ((x1.fdiv 128).fmod m).toNat x1 y (by omega)
      rw [Int.toNat_of_nonneg hn] at this
      exact this

/-- one of the things of a list; one sign of a text -/
def g_L_oneL : GC := fun ds μ R => ∃ (a : Addr) (x y : Int) (z : Nat) (l : List D), ds = [.adr a, .lst l] ∧ μ a = some (pot x y z) ∧ z ≤ 1000000 ∧ 1 ≤ l.length ∧ l.length ≤ 5000 ∧ ∀ (d : D) (x y : Int), d ∈ l → R d (put μ a (pot x y (z + 1 : Nat)))
def g_L_one : GC := fun ds μ R => ∃ (a : Addr) (x y : Int) (z : Nat) (p : List Nat), ds = [.adr a, .str (toS p)] ∧ μ a = some (pot x y z) ∧ z ≤ 1000000 ∧ 1 ≤ p.length ∧ p.length ≤ 5000 ∧ ∀ (c : Nat) (x y : Int), c ∈ p → R (.str (sg c)) (put μ a (pot x y (z + 1 : Nat)))
def N34 : List Str := ["_law_purse_here", "_law_things"]
theorem sc34 : FnScope N34 ["_law_purse_here", "_law_things"] (defScope (top 34)) := ⟨rfl, rfl, rfl, by decide +kernel, rfl, by decide +kernel, by decide +kernel⟩
theorem ok_L_one (T : Tx K mg A) : FnOk P w K mg base CX0 2 A.L_one A.fd_L_one ["_law_purse_here", "_law_things"] (toSp K (g_L_one)) := by
  refine okD T.F_L_one sc34 (fun ds μ R h => ?_) ⟨_, fun cdv A0 outer s H E hr =>
    (dss_one (ds_ret (de_ix ix_any sim_ix (dv 1) (de_call ((ok_L_take T).mono (by decide)) hr (by rfl) T.g_L_take T.F_L_take.kp T.b_L_take (da_cons (dv 0) (da_cons (de_callB cr_len sim_len (by rfl) T.z_len boot_len (da_cons (dv 1) da_nil)) da_nil))) (fun _ _ => rfl)))), fun ds μ R h => ?_⟩
  · obtain ⟨a, x, y, z, p, rfl, _⟩ := h
    rfl
  · obtain ⟨a, x, y, z, p, rfl, ha, hz, l1, l2, h⟩ := h
    have zp : (toS p).length ≤ sizeLine := by rw [toS_size, sizeLine_eq]; omega
    refine ⟨zp, ?_⟩
    rw [toS_size]
    refine ⟨a, x, y, z, _, rfl, ha, hz, by omega, by omega, fun v x y hv => ?_⟩
    have hv : v < p.length := by omega
    refine ⟨zp, ?_⟩
    rw [toS_list, atI_nat (List.getElem?_eq_getElem hv)]
    exact h _ _ _ (List.getElem_mem hv)
theorem ok_L_oneL (T : Tx K mg A) : FnOk P w K mg base CX0 2 A.L_one A.fd_L_one ["_law_purse_here", "_law_things"] (toSp K (g_L_oneL)) := by
  refine okD T.F_L_one sc34 (fun ds μ R h => ?_) ⟨_, fun cdv A0 outer s H E hr =>
    (dss_one (ds_ret (de_ix ix_any sim_ix (dv 1) (de_call ((ok_L_take T).mono (by decide)) hr (by rfl) T.g_L_take T.F_L_take.kp T.b_L_take (da_cons (dv 0) (da_cons (de_callB cr_len sim_len (by rfl) T.z_len boot_len (da_cons (dv 1) da_nil)) da_nil))) (fun _ _ => rfl)))), fun ds μ R h => ?_⟩
  · obtain ⟨a, x, y, z, l, rfl, _⟩ := h
    rfl
  · obtain ⟨a, x, y, z, l, rfl, ha, hz, l1, l2, h⟩ := h
    refine ⟨a, x, y, z, _, rfl, ha, hz, by omega, by omega, fun v x y hv => ?_⟩
    have hv : v < l.length := by omega
    exact atK_nat (List.getElem?_eq_getElem hv) (h _ _ _ (List.getElem_mem hv))
end
end K10

set_option Elab.async false
set_option linter.all false
set_option maxRecDepth 100000
namespace K10
open PySem PySem.Spec PyProof.Rows L2 DL
section
variable {P : Program} {w : World} {K : PySem.W.Frag} {mg : Str → Option Value} {base : Heap} {A : Ad}

/-! ### webs drawn; leanings -/
theorem ltCps_lt : ∀ a b : List Nat, ltCps a b = decide (a < b)
  | [], [] => by simp [ltCps]
  | [], _ :: _ => by simp [ltCps]
  | _ :: _, [] => by simp [ltCps]
  | a :: r, b :: t => by
    unfold ltCps
    rw [ltCps_lt r t, Bool.eq_iff_iff]
    simp [List.cons_lt_cons_iff]
theorem rising_le : ∀ (hs : List (List Nat)) (a : List Nat), risingS (toS a) (hs.map toS) = true → (a :: hs).Pairwise fun a b => ¬ b < a
  | [], a, _ => by simp
  | b :: hs, a, h => by
    have h : (!ltCps (toS b).cps.toList (toS a).cps.toList && risingS (toS b) (hs.map toS)) = true := h
    rw [Bool.and_eq_true, toS_list, toS_list, ltCps_lt] at h
    have ih := rising_le hs b h.2
    have h1 : ¬ b < a := by simpa using h.1
    refine List.pairwise_cons.mpr ⟨fun c hc => ?_, ih⟩
    rcases List.mem_cons.mp hc with e | hc
    · rw [e]; exact h1
    · have h2 := (List.pairwise_cons.mp ih).1 c hc
      exact List.not_lt.mpr (List.le_trans (List.not_lt.mp h1) (List.not_lt.mp h2))

def dPair (p : List Nat) (ts : List Str) : D := .tup [.str (toS p), .tup (ts.map D.str)]
def g_L_web : GC := fun ds μ R => ∃ (a : Addr) (x y : Int) (z most many : Nat), ds = [.adr a, .int (most : Nat), .int (many : Nat)] ∧ μ a = some (pot x y z) ∧ z ≤ 10000 ∧ 1 ≤ most ∧ most ≤ 7 ∧ many ≤ 11 ∧
  ∀ (p : List Nat) (ts : List Str) (x y : Int) (z' : Nat), OkPlaces p → OkT p ts → p.length ≤ most → ts.length ≤ many → z' ≤ z + 100 → R (dPair p ts) (put μ a (pot x y z'))
def N35 : List Str := ["_law_purse_here", "_law_most_places", "_law_most_ties", "_law_left", "_law_found", "_law_k", "_law_places_here", "_law_ties_here", "_law_one_here", "_law_two"]
theorem sc35 : FnScope N35 ["_law_purse_here", "_law_most_places", "_law_most_ties"] (defScope (top 35)) := ⟨rfl, rfl, rfl, by decide +kernel, rfl, by decide +kernel, by decide +kernel⟩
theorem ok_L_web (T : Tx K mg A) : FnOk P w K mg base CX0 3 A.L_web A.fd_L_web ["_law_purse_here", "_law_most_places", "_law_most_ties"] (toSp K (g_L_web)) := by
  refine okDF T.F_L_web sc35 (fun ds μ R h => ?_) ⟨_, fun cdv A0 outer s H E hr =>
    (dss_cons (ds_par (i := 3) (j := 4) (by rfl) sc35.nd rfl rfl (by decide) rfl rfl (da_cons (de_callTy (call_listS (by rfl)) sim_listSC (by rfl) T.z_list boot_list (da_cons de_str da_nil)) (da_cons (de_cell da_nil) da_nil)) (by rfl))
      (dss_cons (ds_for PassesOwn.never rfl (di_range (by rfl) T.z_range (da_cons (de_op op_plus sim_plus de_int (de_call ((ok_L_take T).mono (by decide)) hr (by rfl) T.g_L_take T.F_L_take.kp T.b_L_take (da_cons (dv 0) (da_cons (dv 1) da_nil)))) da_nil)) (pg_name (i := 5) sc35.nd rfl (by first | exact Or.inl rfl | exact Or.inr rfl)) (sim_nm (i := 5))
      (dss_one (ds_expr (de_bm PySem.F.plainAttrs_list PySem.F.slot_list_append PySem.F.type_list_append mt_append sim_append ok_cell (dv 4) (da_cons (de_bm PySem.F.plainAttrs_list PySem.F.slot_list_pop PySem.F.type_list_pop mt_popAt sim_popAt ok_cell (dv 3) (da_cons (de_call ((ok_L_take T).mono (by decide)) hr (by rfl) T.g_L_take T.F_L_take.kp T.b_L_take (da_cons (dv 0) (da_cons (de_callB cr_len sim_lenC (by rfl) T.z_len boot_len (da_cons (dv 3) da_nil)) da_nil))) da_nil)) da_nil)))))
      (dss_cons (ds_par (i := 6) (j := 7) (by rfl) sc35.nd rfl rfl (by decide) rfl rfl (da_cons (de_bm PySem.F.plainAttrs_str PySem.F.slot_str_join PySem.F.type_str_join mt_join sim_join ok_str de_str (da_cons (de_callB cr_sortedS sim_srtC (by rfl) T.z_sorted boot_sorted (da_cons (dv 4) da_nil)) da_nil)) (da_cons (de_cell da_nil) da_nil)) (by rfl))
      (dss_cons (ds_for PassesOwn.never rfl (di_range (by rfl) T.z_range (da_cons (de_call ((ok_L_take T).mono (by decide)) hr (by rfl) T.g_L_take T.F_L_take.kp T.b_L_take (da_cons (dv 0) (da_cons (de_op op_plus sim_plus (dv 2) de_int) da_nil))) da_nil)) (pg_name (i := 5) sc35.nd rfl (by first | exact Or.inl rfl | exact Or.inr rfl)) (sim_nm (i := 5))
      (dss_cons (ds_par (i := 8) (j := 9) (by rfl) sc35.nd rfl rfl (by decide) rfl rfl (da_cons (de_call ((ok_L_one T).mono (by decide)) hr (by rfl) T.g_L_one T.F_L_one.kp T.b_L_one (da_cons (dv 0) (da_cons (dv 6) da_nil))) (da_cons (de_call ((ok_L_one T).mono (by decide)) hr (by rfl) T.g_L_one T.F_L_one.kp T.b_L_one (da_cons (dv 0) (da_cons (dv 6) da_nil))) da_nil)) (by rfl))
      (dss_cons (ds_set sc35.nd (i := 9) rfl (by first | exact Or.inl rfl | exact Or.inr rfl) (de_if (dw_and (dt_cmp (op_eqA hr.units) sim_eq (dv 8) (dv 9) (nomark _)) (dw_and1 (dt_cmp op_gtA sim_ord (de_call ((ok_L_take T).mono (by decide)) hr (by rfl) T.g_L_take T.F_L_take.kp T.b_L_take (da_cons (dv 0) (da_cons de_int da_nil))) de_int (nomark _)))).dt (de_call ((ok_L_one T).mono (by decide)) hr (by rfl) T.g_L_one T.F_L_one.kp T.b_L_one (da_cons (dv 0) (da_cons (dv 6) da_nil))) (dv 9)))
      (dss_one (ds_expr (de_bm PySem.F.plainAttrs_list PySem.F.slot_list_append PySem.F.type_list_append mt_append sim_append ok_cell (dv 7) (da_cons (de_op op_plus sim_plus (de_callB (cr_minS (by rfl)) sim_minS (by rfl) T.z_min boot_min (da_cons (dv 8) (da_cons (dv 9) da_nil))) (de_callB (cr_maxS (by rfl)) sim_maxS (by rfl) T.z_max boot_max (da_cons (dv 8) (da_cons (dv 9) da_nil)))) da_nil)))))))
      (dss_one (ds_ret (de_tup (da_cons (dv 6) (da_cons (de_callTy call_tuple_of sim_tupC (by rfl) T.z_tuple boot_tuple (da_cons (dv 7) da_nil)) da_nil))))))))), fun ds μ R h => ?_⟩
  · obtain ⟨a, x, y, z, most, many, rfl, _⟩ := h
    rfl
  · obtain ⟨a, x, y, z, most, many, rfl, ha, hz, o1, o7, o11, h⟩ := h
    have z0 : 0 ≤ sizeLine := by decide
    have z2 : 2 ≤ sizeLine := by decide
    have sl8 : ("abcdefgh" : Str).length ≤ sizeLine := by
      have e : ("abcdefgh" : Str).length = 8 := by decide +kernel
      rw [e, sizeLine_eq]
      omega
    have s0 : Sn μ μ a z := ⟨fun c o _ e => e, ⟨x, y, z, ha, Nat.le_refl _⟩⟩
    refine ⟨sl8, fun b1 m1' => ?_⟩
    obtain ⟨m1, e1⟩ := s0.new m1'
    have s1 := s0.cell m1 e1 (.lst (DL.signs ("abcdefgh" : Str)))
    have c1 : Sc μ (put μ b1 (.lst (DL.signs ("abcdefgh" : Str)))) a b1 (chs eight) := ⟨by rw [put_same, eight_signs], m1, e1⟩
    generalize put μ b1 (.lst (DL.signs ("abcdefgh" : Str))) = μ1 at s1 c1 ⊢
    refine ⟨z0, fun b2 n2 => ?_⟩
    obtain ⟨m2, e2⟩ := s1.new n2
    have d12 : b1 ≠ b2 := c1.apart (l' := []) n2
    have s2 := s1.cell m2 e2 (.lst [])
    have c1 := c1.other (o := .lst []) d12
    have c2 : Sc μ (put μ1 b2 (.lst [])) a b2 (chs []) := ⟨put_same, m2, e2⟩
    generalize put μ1 b2 (.lst []) = μ2 at s2 c1 c2 ⊢
    obtain ⟨px, py, pz, hpot, hpz⟩ := s2.has
    refine ⟨a, px, py, pz, _, rfl, hpot, by omega, by omega, by omega, fun n x y hn => ?_⟩
    have s2 := s2.draw (m := z + 1) x y (z := pz + 1) (by omega)
    have c1 := c1.draw x y ((pz + 1 : Nat) : Int)
    have c2 := c2.draw x y ((pz + 1 : Nat) : Int)
    generalize put μ2 a (pot x y (pz + 1 : Nat)) = μ3 at s2 c1 c2 ⊢
    refine ⟨⟨by omega, by omega⟩, ?_⟩
    have en : ((List.range ((1 : Int) + (n : Nat)).toNat).map fun i => D.int (i : Nat)).length = n + 1 := by
      rw [List.length_map, List.length_range]
      omega
    refine ⟨fun i δ' μ' => i ≤ n + 1 ∧ ∃ (pl fo : List Nat) (o5 : Option D), Sn μ μ' a (z + 1 + i) ∧ Sc μ μ' a b1 (chs pl) ∧ Sc μ μ' a b2 (chs fo) ∧ (pl ++ fo).Perm eight ∧ fo.length = i ∧
      δ' = [some (.adr a), some (.int (most : Nat)), some (.int (many : Nat)), some (.adr b1), some (.adr b2), o5, none, none, none, none], ⟨by omega, eight, [], none, s2, c1, c2, by rw [List.append_nil], rfl, rfl⟩, ?_, ?_⟩
    · rintro i it δ' μ' hi ⟨_, pl, fo, o5, s, k1, k2, hp, hl, rfl⟩
      obtain ⟨hi, rfl⟩ := range_at hi
      have hi : i < n + 1 := by omega
      have hpl : pl.length + fo.length = 8 := by
        have := hp.length_eq
        rw [List.length_append] at this
        exact this
      refine ⟨cell_ok k2.at_, ?_⟩
      refine ⟨cell_ok k1.at_, ?_⟩
      refine ⟨_, _, rfl, k1.at_, ?_⟩
      rw [chs_len]
      obtain ⟨px, py, pz, hpot, hpz⟩ := s.has
      refine ⟨a, px, py, pz, _, rfl, hpot, by omega, by omega, by omega, fun v x y hv => ?_⟩
      have hv : v < pl.length := by omega
      have s := s.draw (m := z + 1 + (i + 1)) x y (z := pz + 1) (by omega)
      have k1 := k1.draw x y ((pz + 1 : Nat) : Int)
      have k2 := k2.draw x y ((pz + 1 : Nat) : Int)
      generalize put μ' a (pot x y (pz + 1 : Nat)) = μ5 at s k1 k2 ⊢
      refine ⟨_, k1.at_, by omega, by omega, .str (sg pl[v]), ?_, ?_⟩
      · show (chs pl)[v]? = _
        unfold chs
        rw [List.getElem?_map, List.getElem?_eq_getElem hv]
        rfl
      · have ee : (chs pl).eraseIdx ((v : Int)).toNat = chs (pl.eraseIdx v) := by
          unfold chs
          rw [erase_map]
          rfl
        rw [ee]
        have s := s.cell k1.new k1.ne (.lst (chs (pl.eraseIdx v)))
        have k2 := k2.other (o := .lst (chs (pl.eraseIdx v))) d12.symm
        have k1 := k1.same (m := chs (pl.eraseIdx v))
        generalize put μ5 b1 (.lst (chs (pl.eraseIdx v))) = μ6 at s k1 k2 ⊢
        refine ⟨_, k2.at_, by rw [chs_len, sizeLine_eq]; omega, ?_⟩
        have ef : chs fo ++ [.str (sg pl[v])] = chs (fo ++ [pl[v]]) := by
          unfold chs
          rw [List.map_append]
          rfl
        rw [ef]
        refine ⟨by omega, pl.eraseIdx v, fo ++ [pl[v]], _, s.cell k2.new k2.ne _, k1.other d12, k2.same, ?_, by rw [List.length_append, hl]; rfl, rfl⟩
        refine .trans ?_ hp
        have p1 : (pl[v] :: pl.eraseIdx v).Perm pl := erase_perm pl v hv
        refine .trans ?_ (p1.append_right fo)
        rw [← List.append_assoc]
        exact List.perm_append_comm.trans (by simp)
    · rintro δ' μ' ⟨_, pl, fo, o5, s, k1, k2, hp, hl, rfl⟩
      rw [en] at hl s
      refine ⟨trivial, ?_⟩
      refine ⟨_, fo.map sg, rfl, by rw [k2.at_]; unfold chs; rw [List.map_map]; rfl, by rw [List.length_map]; omega, fun ys hy hs => ?_⟩
      obtain ⟨p, q1, q2, rfl⟩ := sorted_signs hy hs
      have hpl : p.length = n + 1 := by rw [q1.length_eq, hl]
      have nod : (pl ++ fo).Nodup := hp.nodup_iff.mpr (by decide)
      have nf : fo.Nodup := (List.nodup_append.mp nod).2.1
      have np : p.Nodup := q1.nodup_iff.mpr nf
      have asc : p.Pairwise (· < ·) := by
        have := List.Pairwise.and q2 np
        exact this.imp fun h => Nat.lt_of_le_of_ne h.1 h.2
      have op : OkPlaces p := by
        refine ⟨by omega, by omega, asc, fun c hc => ?_⟩
        have : c ∈ eight := hp.subset (List.mem_append_right _ (q1.subset hc))
        simp [eight] at this
        omega
      refine ⟨_, rfl, by rw [sum_sg, len_empty]; omega, ?_⟩
      rw [join_sg]
      refine ⟨z0, fun b3 n3 => ?_⟩
      obtain ⟨m3, e3⟩ := s.new n3
      have s3 := s.cell m3 e3 (.lst [])
      have c3 : Sc μ (put μ' b3 (.lst [])) a b3 (([] : List Str).map D.str) := ⟨put_same, m3, e3⟩
      generalize put μ' b3 (.lst []) = μ4 at s3 c3 ⊢
      obtain ⟨px, py, pz, hpot, hpz⟩ := s3.has
      refine ⟨a, px, py, pz, _, rfl, hpot, by omega, by omega, by omega, fun m x y hm => ?_⟩
      have s3 := s3.draw (m := z + 10) x y (z := pz + 1) (by omega)
      have c3 := c3.draw x y ((pz + 1 : Nat) : Int)
      generalize put μ4 a (pot x y (pz + 1 : Nat)) = μ5 at s3 c3 ⊢
      have hm : m ≤ many := by omega
      refine ⟨⟨by omega, by omega⟩, ?_⟩
      rw [Int.toNat_natCast]
      refine ⟨fun i δ' μ' => i ≤ m ∧ ∃ (ts : List Str) (o5 o8 o9 : Option D), Sn μ μ' a (z + 10 + 4 * i) ∧ Sc μ μ' a b3 (ts.map D.str) ∧ OkT p ts ∧ ts.length = i ∧
        δ' = [some (.adr a), some (.int (most : Nat)), some (.int (many : Nat)), some (.adr b1), some (.adr b2), o5, some (.str (toS p)), some (.adr b3), o8, o9], ⟨by omega, [], _, none, none, s3, c3, ⟨fun y hy => by cases hy⟩, rfl, rfl⟩, ?_, ?_⟩
      · rintro i it δ' μ' hi ⟨_, ts, o5, o8, o9, s, k3, ot, ht, rfl⟩
        obtain ⟨hi, rfl⟩ := range_at hi
        obtain ⟨px, py, pz, hpot, hpz⟩ := s.has
        refine ⟨a, px, py, pz, p, rfl, hpot, by omega, by omega, by omega, fun c1 x y hc1 => ?_⟩
        have s := s.draw (m := z + 10 + 4 * i + 1) x y (z := pz + 1) (by omega)
        have k3 := k3.draw x y ((pz + 1 : Nat) : Int)
        generalize put μ' a (pot x y (pz + 1 : Nat)) = μ7 at s k3 ⊢
        obtain ⟨px, py, pz, hpot, hpz⟩ := s.has
        refine ⟨a, px, py, pz, p, rfl, hpot, by omega, by omega, by omega, fun c2 x y hc2 => ?_⟩
        have s := s.draw (m := z + 10 + 4 * i + 2) x y (z := pz + 1) (by omega)
        have k3 := k3.draw x y ((pz + 1 : Nat) : Int)
        generalize put μ7 a (pot x y (pz + 1 : Nat)) = μ8 at s k3 ⊢
        have fin : ∀ (c3 : Nat) (μ9 : Mu), c3 ∈ p → Sn μ μ9 a (z + 10 + 4 * i + 4) → Sc μ μ9 a b3 (ts.map D.str) → ts.map D.str ++ [.str (yTie (min c1 c3) (max c1 c3))] = (ts ++ [yTie (min c1 c3) (max c1 c3)]).map D.str ∧ Sn μ (put μ9 b3 (.lst ((ts ++ [yTie (min c1 c3) (max c1 c3)]).map D.str))) a (z + 10 + 4 * (i + 1)) ∧ Sc μ (put μ9 b3 (.lst ((ts ++ [yTie (min c1 c3) (max c1 c3)]).map D.str))) a b3 ((ts ++ [yTie (min c1 c3) (max c1 c3)]).map D.str) ∧ OkT p (ts ++ [yTie (min c1 c3) (max c1 c3)]) ∧ (ts ++ [yTie (min c1 c3) (max c1 c3)]).length = i + 1 := fun c3 μ9 hc3 s9 k9 => by
          obtain ⟨q1, q2, q3⟩ := mm_in hc1 hc3
          exact ⟨by rw [List.map_append]; rfl, (s9.cell k9.new k9.ne _).up (by omega), k9.same, ot.snoc q1 q2 q3, by rw [List.length_append, ht]; rfl⟩
        have lts : (ts.map D.str).length < sizeLine := by rw [List.length_map, sizeLine_eq]; omega
        refine if_case (c := decide (sg c1 = sg c2)) (fun _ => ?_) (fun _ => ?_)
        · obtain ⟨px, py, pz, hpot, hpz⟩ := s.has
          refine ⟨a, px, py, pz, _, rfl, hpot, by omega, by omega, by omega, fun w x y hw => ?_⟩
          have s := s.draw (m := z + 10 + 4 * i + 3) x y (z := pz + 1) (by omega)
          have k3 := k3.draw x y ((pz + 1 : Nat) : Int)
          generalize put μ8 a (pot x y (pz + 1 : Nat)) = μ9 at s k3 ⊢
          refine if_case (c := decide ((0 : Int) < (w : Int))) (fun _ => ?_) (fun _ => ?_)
          · obtain ⟨px, py, pz, hpot, hpz⟩ := s.has
            refine ⟨a, px, py, pz, p, rfl, hpot, by omega, by omega, by omega, fun c3 x y hc3 => ?_⟩
            have s := s.draw (m := z + 10 + 4 * i + 4) x y (z := pz + 1) (by omega)
            have k3 := k3.draw x y ((pz + 1 : Nat) : Int)
            generalize put μ9 a (pot x y (pz + 1 : Nat)) = μ10 at s k3 ⊢
            obtain ⟨f0, f1, f2, f3, f4⟩ := fin c3 μ10 hc3 s k3
            refine ⟨cell_ok k3.at_, ?_⟩
            refine ⟨one_long c1 c3, ?_⟩
            refine ⟨_, k3.at_, lts, ?_⟩
            have eo : lowS c1 c3 ++ highS c1 c3 = yTie (min c1 c3) (max c1 c3) := one_tie c1 c3
            refine ⟨by omega, ts ++ [yTie (min c1 c3) (max c1 c3)], _, _, _, ?_, ?_, f3, f4, rfl⟩
            · rw [← f0, ← eo] at f1
              exact f1
            · rw [← f0, ← eo] at f2 ⊢
              exact f2
          · obtain ⟨f0, f1, f2, f3, f4⟩ := fin c2 μ9 hc2 (s.up (by omega)) k3
            refine ⟨cell_ok k3.at_, ?_⟩
            refine ⟨one_long c1 c2, ?_⟩
            refine ⟨_, k3.at_, lts, ?_⟩
            have eo : lowS c1 c2 ++ highS c1 c2 = yTie (min c1 c2) (max c1 c2) := one_tie c1 c2
            refine ⟨by omega, ts ++ [yTie (min c1 c2) (max c1 c2)], _, _, _, ?_, ?_, f3, f4, rfl⟩
            · rw [← f0, ← eo] at f1
              exact f1
            · rw [← f0, ← eo] at f2 ⊢
              exact f2
        · obtain ⟨f0, f1, f2, f3, f4⟩ := fin c2 μ8 hc2 (s.up (by omega)) k3
          refine ⟨cell_ok k3.at_, ?_⟩
          refine ⟨one_long c1 c2, ?_⟩
          refine ⟨_, k3.at_, lts, ?_⟩
          have eo : lowS c1 c2 ++ highS c1 c2 = yTie (min c1 c2) (max c1 c2) := one_tie c1 c2
          refine ⟨by omega, ts ++ [yTie (min c1 c2) (max c1 c2)], _, _, _, ?_, ?_, f3, f4, rfl⟩
          · rw [← f0, ← eo] at f1
            exact f1
          · rw [← f0, ← eo] at f2 ⊢
            exact f2
      · rintro δ' μ' ⟨_, ts, o5, o8, o9, s, k3, ot, ht, rfl⟩
        rw [List.length_map, List.length_range] at ht s
        refine ⟨_, _, rfl, k3.at_, ?_⟩
        refine ⟨z2, ?_⟩
        exact s.back fun x y z' hz' => h p ts x y z' op ot (by omega) (by omega) (by omega)
end
end K10

set_option Elab.async false
set_option linter.all false
set_option maxRecDepth 100000
namespace K10
open PySem PySem.Spec PyProof.Rows L2 DL
section
variable {P : Program} {w : World} {K : PySem.W.Frag} {mg : Str → Option Value} {base : Heap} {A : Ad}

/-! ### leanings: strings of signs, one for each tie -/
def sgn (b : Bool) : Nat := if b then 43 else 45
def lnC (l : List Bool) : List Nat := l.map sgn
def lnS (l : List Bool) : Str := toS (lnC l)
theorem lnC_len (l : List Bool) : (lnC l).length = l.length := List.length_map _
theorem plus_sg : ("+" : Str) = sg 43 := by decide +kernel
theorem two_signs_text : ("+-" : Str) = toS [43, 45] := by decide +kernel
theorem plus_is (b : Bool) : decide (sg (sgn b) = ("+" : Str)) = b := by
  rw [plus_sg]
  cases b with
  | true => exact decide_eq_true rfl
  | false => exact decide_eq_false (by decide +kernel)
theorem lnC_in {c : Nat} (h : c ∈ ([43, 45] : List Nat)) : ∃ b, c = sgn b := by
  rcases List.mem_cons.mp h with q | q
  · exact ⟨true, q⟩
  · exact ⟨false, List.mem_singleton.mp q⟩
/-- where the arrow starts -/
def tailC (y : Str) (b : Bool) : Nat := if b then (ends y).1 else (ends y).2
def wayS (y : Str) (b : Bool) : Str := if b then y else revS y
def tailsL (ts : List Str) (l : List Bool) : List Nat := List.zipWith tailC ts l
def waysL (ts : List Str) (l : List Bool) : List Str := List.zipWith wayS ts l
def cntI (c : Nat) (l : List Nat) : Int := ((l.filter fun x => decide (x = c)).length : Nat)
def rowL (p : List Nat) (ts : List Str) (l : List Bool) : List Int := p.map fun c => cntI c (tailsL ts l)
theorem rev_tie (a b : Nat) : revS (yTie a b) = yTie b a := rfl
theorem way_tie (a b : Nat) (s : Bool) : ∃ c d, wayS (yTie a b) s = yTie c d ∧ c = tailC (yTie a b) s := by
  cases s with
  | true => exact ⟨a, b, rfl, rfl⟩
  | false => exact ⟨b, a, rfl, rfl⟩
theorem ways_first {p : List Nat} : ∀ {ts : List Str} {l : List Bool}, OkT p ts → (waysL ts l).map (fun y => (ends y).1) = tailsL ts l
  | [], _, _ => rfl
  | _ :: _, [], _ => rfl
  | y :: ts, b :: l, ot => by
    obtain ⟨c, d, rfl, _⟩ := ot.ties y List.mem_cons_self
    have ih := ways_first (ts := ts) (l := l) ⟨fun z hz => ot.ties z (List.mem_cons_of_mem _ hz)⟩
    show (ends (wayS (yTie c d) b)).1 :: _ = tailC (yTie c d) b :: _
    obtain ⟨e, f, e1, e2⟩ := way_tie c d b
    rw [e1, ← e2]
    exact congrArg _ ih
/-- two letters -/
def IsWay (w : Str) : Prop := ∃ a b : Nat, w = yTie a b
theorem ways_are {p : List Nat} : ∀ {ts : List Str} {l : List Bool}, OkT p ts → ∀ w ∈ waysL ts l, IsWay w
  | [], _, _, _, h => by cases h
  | _ :: _, [], _, _, h => by cases h
  | y :: ts, b :: l, ot, w, h => by
    obtain ⟨c, d, rfl, _⟩ := ot.ties y List.mem_cons_self
    rcases List.mem_cons.mp h with q | q
    · obtain ⟨e, f, e1, _⟩ := way_tie c d b
      exact ⟨e, f, q.trans e1⟩
    · exact ways_are (ts := ts) (l := l) ⟨fun z hz => ot.ties z (List.mem_cons_of_mem _ hz)⟩ w q
/-- all leanings of n ties, in the order of their strings -/
def boolsL : Nat → List (List Bool)
  | 0 => [[]]
  | n + 1 => (boolsL n).map (true :: ·) ++ (boolsL n).map (false :: ·)
theorem bools_mem : ∀ {n : Nat} {l : List Bool}, l ∈ boolsL n ↔ l.length = n
  | 0, l => by
    show l ∈ [[]] ↔ _
    rw [List.mem_singleton]
    exact List.length_eq_zero_iff.symm
  | n + 1, l => by
    show l ∈ (boolsL n).map (true :: ·) ++ (boolsL n).map (false :: ·) ↔ _
    rw [List.mem_append, List.mem_map, List.mem_map]
    constructor
    · rintro (⟨m, hm, rfl⟩ | ⟨m, hm, rfl⟩) <;> rw [List.length_cons, bools_mem.mp hm]
    · intro h
      match l, h with
      | true :: m, h => exact .inl ⟨m, bools_mem.mpr (by simpa using h), rfl⟩
      | false :: m, h => exact .inr ⟨m, bools_mem.mpr (by simpa using h), rfl⟩
theorem bools_len : ∀ n : Nat, (boolsL n).length = 2 ^ n
  | 0 => rfl
  | n + 1 => by
    show ((boolsL n).map (true :: ·) ++ (boolsL n).map (false :: ·)).length = _
    rw [List.length_append, List.length_map, List.length_map, bools_len n, Nat.pow_succ]
    omega
theorem bools_asc : ∀ n : Nat, ((boolsL n).map lnC).Pairwise (· < ·)
  | 0 => by simp [boolsL]
  | n + 1 => by
    have ih := bools_asc n
    show (((boolsL n).map (true :: ·) ++ (boolsL n).map (false :: ·)).map lnC).Pairwise (· < ·)
    rw [List.map_append, List.map_map, List.map_map]
    have part : ∀ b : Bool, ((boolsL n).map (lnC ∘ (b :: ·))).Pairwise (· < ·) := fun b => by
      rw [List.pairwise_map] at ih ⊢
      refine ih.imp fun {l m} h => ?_
      show sgn b :: lnC l < sgn b :: lnC m
      exact List.cons_lt_cons_iff.mpr (.inr ⟨rfl, h⟩)
    refine List.pairwise_append.mpr ⟨part true, part false, fun x hx y hy => ?_⟩
    obtain ⟨l, _, rfl⟩ := List.mem_map.mp hx
    obtain ⟨m, _, rfl⟩ := List.mem_map.mp hy
    show sgn true :: lnC l < sgn false :: lnC m
    exact List.cons_lt_cons_iff.mpr (.inl (by decide))
theorem bools_nodup (n : Nat) : (boolsL n).Nodup := by
  have h := bools_asc n
  rw [List.pairwise_map] at h
  exact h.imp fun {l m} lt e => by
    rw [e] at lt
    exact List.lt_irrefl _ lt
theorem lnC_inj : ∀ {l m : List Bool}, lnC l = lnC m → l = m
  | [], [], _ => rfl
  | [], _ :: _, h => by cases h
  | _ :: _, [], h => by cases h
  | a :: l, b :: m, h => by
    have h : sgn a :: lnC l = sgn b :: lnC m := h
    injection h with h1 h2
    rw [lnC_inj h2]
    congr 1
    cases a <;> cases b <;> first | rfl | cases h1
theorem lnS_inj {l m : List Bool} (h : lnS l = lnS m) : l = m := lnC_inj (toS_inj h)
theorem perm_back {α β : Type} {f : α → β} : ∀ {l : List α} {zs : List β}, zs.Perm (l.map f) → ∃ ms : List α, ms.Perm l ∧ zs = ms.map f := fun {l zs} h => by
  obtain ⟨m, h1, h2⟩ : ∃ m : List α, m.Perm l ∧ zs = m.map f := by
    generalize e : l.map f = ws at h
    induction h generalizing l with
    | nil => exact ⟨[], by rw [List.map_eq_nil_iff.mp e], rfl⟩
    | cons x p ih =>
      obtain ⟨a, r, rfl, rfl, rfl⟩ : ∃ a r, l = a :: r ∧ f a = x ∧ r.map f = _ := by
        cases l with
        | nil => cases e
        | cons a r =>
          rw [List.map_cons] at e
          injection e with e1 e2
          exact ⟨a, r, rfl, e1, e2⟩
      obtain ⟨m, m1, rfl⟩ := ih rfl
      exact ⟨a :: m, m1.cons a, rfl⟩
    | swap x y p =>
      match l, e with
      | a :: b :: r, e =>
        rw [List.map_cons, List.map_cons] at e
        injection e with e1 e2
        injection e2 with e2 e3
        exact ⟨b :: a :: r, List.Perm.swap _ _ _, by rw [List.map_cons, List.map_cons, e1, e2, e3]⟩
    | trans p1 p2 ih1 ih2 =>
      obtain ⟨m2, q2, r2⟩ := ih2 e
      obtain ⟨m1, q1, r1⟩ := ih1 r2.symm
      exact ⟨m1, q1.trans q2, r1⟩
  exact ⟨m, h1, h2⟩
theorem sorted_texts {hs ls : List (List Nat)} (asc : ls.Pairwise (· < ·)) (pm : hs.Perm ls) {zs : List Str} (hz : zs.Perm (hs.map toS)) (ss : sortedS zs = true) : zs = ls.map toS := by
  obtain ⟨ms, h1, rfl⟩ := perm_back hz
  have le : ms.Pairwise fun a b => ¬ b < a := by
    cases ms with
    | nil => exact .nil
    | cons a ms => exact rising_le ms a ss
  have : ms = ls := (h1.trans pm).eq_of_pairwise (fun a b _ _ h1 h2 => List.le_antisymm (List.not_lt.mp h1) (List.not_lt.mp h2)) le (asc.imp fun h => List.lt_asymm h)
  rw [this]
/-! ### the law's own leanings -/
def g_L_lean : GC := fun ds μ R => ∃ (a : Addr) (x y : Int) (z : Nat) (ts : List Str), ds = [.adr a, .tup (ts.map D.str)] ∧ μ a = some (pot x y z) ∧ z ≤ 100000 ∧ ts.length ≤ 11 ∧
  ∀ (l : List Bool) (x y : Int) (z' : Nat), l.length = ts.length → z' ≤ z + ts.length → R (.str (lnS l)) (put μ a (pot x y z'))
def g_L_ways : GC := fun ds μ R => ∃ (p : List Nat) (ts : List Str) (l : List Bool), ds = [.tup (ts.map D.str), .str (lnS l)] ∧ OkT p ts ∧ l.length = ts.length ∧ ts.length ≤ 11 ∧ R (.lst ((waysL ts l).map D.str)) μ
def g_L_leanings : GC := fun ds μ R => ∃ n : Nat, ds = [.int (n : Nat)] ∧ n ≤ 5 ∧ R (.lst ((boolsL n).map fun l => .str (lnS l))) μ
def g_L_row : GC := fun ds μ R => ∃ (p : List Nat) (ws : List Str), ds = [.str (toS p), .lst (ws.map D.str)] ∧ p.length ≤ 8 ∧ ws.length ≤ 11 ∧ (∀ w ∈ ws, IsWay w) ∧ R (.tup ((p.map fun c => cntI c (ws.map fun y => (ends y).1)).map D.int)) μ
def N36 : List Str := ["_law_purse_here", "_law_ties_here", "_law_tie"]
theorem sc36 : FnScope N36 ["_law_purse_here", "_law_ties_here"] (defScope (top 36)) := ⟨rfl, rfl, rfl, by decide +kernel, rfl, by decide +kernel, by decide +kernel⟩
theorem ok_L_lean (T : Tx K mg A) : FnOk P w K mg base CX0 3 A.L_lean A.fd_L_lean ["_law_purse_here", "_law_ties_here"] (toSp K (g_L_lean)) := by
  refine okDF T.F_L_lean sc36 (fun ds μ R h => ?_) ⟨_, fun cdv A0 outer s H E hr =>
    (dss_one (ds_ret (de_bm PySem.F.plainAttrs_str PySem.F.slot_str_join PySem.F.type_str_join mt_join sim_join ok_str de_str (da_cons (de_lc (own := [("_law_tie", 2)]) (by rfl) sc36.nd (di_both (dv 1)) (blkOk_by (N := N36) (own := [("_law_tie", 2)]) (sc := defScope (top 36)) (by decide +kernel)) (fun _ _ _ _ _ => (pg_name (i := 2) sc36.nd rfl (by first | exact Or.inl rfl | exact Or.inr rfl))) (sim_nm (i := 2)) (fun _ _ _ _ _ => dts_nil) (fun _ _ _ _ _ => (de_call ((ok_L_one T).mono (by decide)) hr (by rfl) T.g_L_one T.F_L_one.kp T.b_L_one (da_cons (dv 0) (da_cons de_str da_nil))))) da_nil)))), fun ds μ R h => ?_⟩
  · obtain ⟨a, x, y, z, ts, rfl, _⟩ := h
    rfl
  · obtain ⟨a, x, y, z, ts, rfl, ha, hz, few, h⟩ := h
    refine ⟨True.intro, ?_⟩
    show LcB _ _ _ _ _ _ _ _
    refine lcb_eff (fun i ys ν => i ≤ ts.length ∧ ∃ l : List Bool, l.length = i ∧ ys = chs (lnC l) ∧ Sn μ ν a (z + i)) ?_ ⟨Nat.zero_le _, [], rfl, rfl, ⟨fun c o _ e => e, ⟨x, y, z, ha, Nat.le_refl _⟩⟩⟩ ?_ ?_ ?_
    · rw [List.length_map, sizeLine_eq]
      omega
    · rintro i ys ν ⟨_, l, hl, rfl, _⟩
      rw [chs_len, lnC_len, hl]
      exact Nat.le_refl _
    · rintro i it hi b ys ν N Y nb ⟨_, l, hl, rfl, s⟩ hN hY
      have hi : i < ts.length := by
        have := (List.getElem?_eq_some_iff.mp hi).1
        rwa [List.length_map] at this
      obtain ⟨px, py, pz, hpot, hpz⟩ := s.has
      have ne : b ≠ a := fun e => by rw [e, hpot] at nb; cases nb
      refine ⟨a, px, py, pz, [43, 45], congrArg (fun q => [D.adr a, D.str q]) two_signs_text, by rw [put_ne ne.symm]; exact hpot, by omega, by decide, by decide, fun c x y hc => ?_⟩
      obtain ⟨w, rfl⟩ := lnC_in hc
      rw [put_comm ne]
      refine hY (.str (sg (sgn w))) _ (by rw [put_ne ne]; exact nb) ⟨hi, l ++ [w], by rw [List.length_append, hl]; rfl, ?_, s.draw x y (by omega)⟩
      unfold chs lnC
      rw [List.map_append, List.map_append]
      rfl
    · rintro ys ν ⟨_, l, hl, rfl, s⟩
      rw [List.length_map] at hl s
      refine ⟨(lnC l).map sg, by unfold chs; rw [List.map_map]; rfl, by rw [sum_sg, len_empty, lnC_len]; omega, ?_⟩
      rw [join_sg]
      exact s.back fun x y z' hz' => h l x y z' hl hz' 
def N37 : List Str := ["_law_ties_here", "_law_leaning_here", "_law_k"]
theorem sc37 : FnScope N37 ["_law_ties_here", "_law_leaning_here"] (defScope (top 37)) := ⟨rfl, rfl, rfl, by decide +kernel, rfl, by decide +kernel, by decide +kernel⟩
theorem ok_L_ways (T : Tx K mg A) : FnOk P w K mg base CX0 1 A.L_ways A.fd_L_ways ["_law_ties_here", "_law_leaning_here"] (toSp K (g_L_ways)) := by
  refine okD T.F_L_ways sc37 (fun ds μ R h => ?_) ⟨_, fun cdv A0 outer s H E hr =>
    (dss_one (ds_ret (de_lc (own := [("_law_k", 2)]) (by rfl) sc37.nd (di_range (by rfl) T.z_range (da_cons (de_callB cr_len sim_len (by rfl) T.z_len boot_len (da_cons (dv 0) da_nil)) da_nil)) (blkOk_by (N := N37) (own := [("_law_k", 2)]) (sc := defScope (top 37)) (by decide +kernel)) (fun _ _ _ _ _ => (pg_name (i := 2) sc37.nd rfl (by first | exact Or.inl rfl | exact Or.inr rfl))) (sim_nm (i := 2)) (fun _ _ _ _ _ => dts_nil) (fun _ _ _ _ _ => (de_if (dt_cmp (op_eqA hr.units) sim_eq (de_ix ix_any sim_ix (dv 1) (dv 2) (fun _ _ => rfl)) de_str (nomark _)) (de_ix ix_any sim_ix (dv 0) (dv 2) (fun _ _ => rfl)) (de_revS (de_ix ix_any sim_ix (dv 0) (dv 2) (fun _ _ => rfl)))))))), fun ds μ R h => ?_⟩
  · obtain ⟨p, ts, l, rfl, _⟩ := h
    rfl
  · obtain ⟨p, ts, l, rfl, ot, hl, few, h⟩ := h
    have lt : (ts.map D.str).length = ts.length := List.length_map _
    refine ⟨⟨by omega, by omega⟩, ?_⟩
    show LcB _ _ _ _ _ _ _ _
    refine lcb_map (fun d => match d with | .int k => .str (wayS (ts.getD k.toNat Str.empty) (l.getD k.toNat true)) | d => d) ?_ ?_ ?_
    · rw [List.length_map, List.length_range, sizeLine_eq]
      omega
    · intro d hd ν Y _ hY
      obtain ⟨k, hk, rfl⟩ := List.mem_map.mp hd
      have hk : k < ts.length := by
        have := List.mem_range.mp hk
        omega
      have hk2 : k < l.length := by omega
      have at_ : (ts.map D.str)[k]? = some (.str (ts.getD k Str.empty)) := by
        rw [List.getElem?_map, List.getD_eq_getElem?_getD, List.getElem?_eq_getElem hk]
        rfl
      have as : L2.atI (lnC l) (k : Int) = some (sgn (l.getD k true)) := atI_nat (by
        unfold lnC
        rw [List.getElem?_map, List.getD_eq_getElem?_getD, List.getElem?_eq_getElem hk2]
        rfl)
      have hY : Y (.str (wayS (ts.getD k Str.empty) (l.getD k true))) ν := hY
      have zl : (lnS l).length ≤ sizeLine := by show (toS (lnC l)).length ≤ _; rw [toS_size, lnC_len, sizeLine_eq]; omega
      refine ⟨zl, ?_⟩
      unfold lnS
      rw [toS_list, as]
      refine if_case (c := decide (sg (sgn (l.getD k true)) = ("+" : Str))) (fun e => ?_) (fun e => ?_)
      · rw [plus_is] at e
        rw [e] at hY
        exact atK_nat at_ hY
      · rw [plus_is] at e
        rw [e] at hY
        refine atK_nat at_ ⟨_, rfl, ?_, hY⟩
        obtain ⟨c, d, e2, _⟩ := ot.ties _ (by rw [List.getD_eq_getElem?_getD, List.getElem?_eq_getElem hk]; exact List.getElem_mem _ : ts.getD k Str.empty ∈ ts)
        rw [e2]
        show 2 ≤ sizeLine
        decide
    have e : (((List.range ((ts.map D.str).length : Int).toNat).map fun i => D.int (i : Nat)).map fun d => match d with | .int k => .str (wayS (ts.getD k.toNat Str.empty) (l.getD k.toNat true)) | d => d) = (waysL ts l).map D.str := by
      rw [List.map_map, Int.toNat_natCast, lt]
      apply List.ext_getElem?
      intro k
      rw [List.getElem?_map, List.getElem?_map]
      unfold waysL
      rw [List.getElem?_zipWith]
      by_cases hk : k < ts.length
      · have hk2 : k < l.length := by omega
        rw [List.getElem?_range hk, List.getElem?_eq_getElem hk, List.getElem?_eq_getElem hk2]
        show some (D.str (wayS (ts.getD k Str.empty) (l.getD k true))) = some (D.str (wayS ts[k] l[k]))
        rw [List.getD_eq_getElem?_getD, List.getD_eq_getElem?_getD, List.getElem?_eq_getElem hk, List.getElem?_eq_getElem hk2]
        rfl
      · rw [List.getElem?_eq_none (by rw [List.length_range]; omega), List.getElem?_eq_none (by omega)]
        rfl
    rw [e]
    exact h
def N40 : List Str := ["_law_places_here", "_law_ways_here", "_law_place", "_law_way"]
theorem sc40 : FnScope N40 ["_law_places_here", "_law_ways_here"] (defScope (top 40)) := ⟨rfl, rfl, rfl, by decide +kernel, rfl, by decide +kernel, by decide +kernel⟩
theorem ok_L_row (T : Tx K mg A) : FnOk P w K mg base CX0 1 A.L_row A.fd_L_row ["_law_places_here", "_law_ways_here"] (toSp K (g_L_row)) := by
  refine okD T.F_L_row sc40 (fun ds μ R h => ?_) ⟨_, fun cdv A0 outer s H E hr =>
    (dss_one (ds_ret (de_callTy call_tuple_of sim_tuple (by rfl) T.z_tuple boot_tuple (da_cons (de_lc (own := [("_law_place", 2)]) (by rfl) sc40.nd (di_str (dv 0)) (blkOk_by (N := N40) (own := [("_law_place", 2)]) (sc := defScope (top 40)) (by decide +kernel)) (fun _ _ _ _ _ => (pg_name (i := 2) sc40.nd rfl (by first | exact Or.inl rfl | exact Or.inr rfl))) (sim_nm (i := 2)) (fun _ _ _ _ _ => dts_nil) (fun _ _ _ _ _ => (de_callB cr_len sim_len (by rfl) T.z_len boot_len (da_cons (de_lc (own := [("_law_way", 3)]) (by rfl) sc40.nd (di_both (dv 1)) (blkOk_by (by kernel_rfl)) (fun _ _ _ _ _ => (pg_name (i := 3) sc40.nd rfl (by first | exact Or.inl rfl | exact Or.inr rfl))) (sim_nm (i := 3)) (fun _ _ _ _ _ => (dts_one (dt_cmp (op_eqA hr.units) sim_eq (de_ix ix_any sim_ix (dv 3) de_int (fun _ _ => rfl)) (dv 2) (nomark _)))) (fun _ _ _ _ _ => (dv 3))) da_nil)))) da_nil)))), fun ds μ R h => ?_⟩
  · obtain ⟨p, ws, rfl, _⟩ := h
    rfl
  · obtain ⟨p, ws, rfl, p8, w11, hw, h⟩ := h
    show LcB _ _ _ _ _ _ (DL.signs (toS p)) _
    rw [signs_chs]
    refine lcb_map (fun d => match d with | .str y => .int (cntI (y.cps.toList.getD 0 0) (ws.map fun y => (ends y).1)) | d => d) ?_ ?_ ?_
    · rw [chs_len, sizeLine_eq]
      omega
    · intro d hd ν Y _ hY
      obtain ⟨c, hc, rfl⟩ := chs_in hd
      have hY : Y (.int (cntI c (ws.map fun y => (ends y).1))) ν := hY
      show LcB _ _ _ _ _ _ _ _
      refine lcb_pure (fun d => match d with | .str y => decide ((ends y).1 = c) | _ => false) id ?_ ?_ ?_
      · rw [List.length_map, sizeLine_eq]
        omega
      · intro x hx μ2 N Y2 _ hN hY2
        obtain ⟨y, hy, rfl⟩ := List.mem_map.mp hx
        obtain ⟨a, b, rfl⟩ := hw y hy
        refine ⟨by show 2 ≤ sizeLine; decide, ?_⟩
        have e1 : decide (sg a = sg c) = decide (a = c) := decide_eq_decide.mpr ⟨fun e => by
          injection e with e
          injection e with e
          injection e, fun e => by rw [e]⟩
        refine if_case (c := decide (sg a = sg c)) (fun e => hY2 ?_) (fun e => hN ?_)
        · rw [e1] at e
          exact e
        · rw [e1] at e
          exact e
      · have e2 : ((((ws.map D.str).filter fun d => match d with | .str y => decide ((ends y).1 = c) | _ => false).map id).length : Int) = cntI c (ws.map fun y => (ends y).1) := by
          unfold cntI
          rw [List.map_id, List.filter_map, List.filter_map, List.length_map, List.length_map]
          rfl
        rw [← e2] at hY
        exact hY
    · have e : (chs p).map (fun d => match d with | .str y => D.int (cntI (y.cps.toList.getD 0 0) (ws.map fun y => (ends y).1)) | d => d) = (p.map fun c => cntI c (ws.map fun y => (ends y).1)).map D.int := by
        unfold chs
        rw [List.map_map, List.map_map]
        rfl
      rw [e]
      exact h
end
end K10

set_option Elab.async false
set_option linter.all false
set_option maxRecDepth 100000
namespace K10
open PySem PySem.W PySem.Spec PyProof.Rows L2 DL
/-! mathematics of rows compared -/
theorem ltI_lt : ∀ a b : List Int, ltI a b = decide (a < b)
  | [], [] => by simp [ltI]
  | [], _ :: _ => by simp [ltI]
  | _ :: _, [] => by simp [ltI]
  | x :: xs, y :: ys => by
    unfold ltI
    by_cases e : x = y
    · subst e
      rw [if_pos rfl, ltI_lt xs ys]
      refine decide_eq_decide.mpr ⟨fun h => List.cons_lt_cons_iff.mpr (.inr ⟨rfl, h⟩), fun h => ?_⟩
      rcases List.cons_lt_cons_iff.mp h with q | q
      · omega
      · exact q.2
    · rw [if_neg e]
      refine decide_eq_decide.mpr ⟨fun h => List.cons_lt_cons_iff.mpr (.inl h), fun h => ?_⟩
      rcases List.cons_lt_cons_iff.mp h with q | q
      · exact q
      · exact absurd q.1 e
/-- a number and a row, as data -/
def pR (d : Int) (r : List Int) : PyData := .tuple [.int d, .tuple (r.map .int)]
theorem alikeAll_ints : ∀ r s : List Int, alikeAll (r.map .int) (s.map .int) = true
  | [], _ => by unfold alikeAll; rfl
  | _ :: _, [] => by unfold alikeAll; rfl
  | x :: r, y :: s => by
    rw [List.map_cons, List.map_cons]
    unfold alikeAll
    rw [alikeAll_ints r s]
    unfold alike
    rfl
theorem alike_ints (r s : List Int) : alike (.tuple (r.map .int)) (.tuple (s.map .int)) = true := by
  unfold alike
  exact alikeAll_ints r s
theorem alike_int (a b : Int) : alike (.int a) (.int b) = true := by unfold alike; rfl
theorem alike_pR (d e : Int) (r s : List Int) : alike (pR d r) (pR e s) = true := by
  unfold pR alike alikeAll
  rw [alike_int, Bool.true_and]
  unfold alikeAll
  rw [alike_ints, Bool.true_and]
  unfold alikeAll
  rfl
theorem eqvAll_ints : ∀ r s : List Int, PyData.eqvAll (r.map .int) (s.map .int) = decide (r = s)
  | [], [] => by unfold PyData.eqvAll; rfl
  | [], _ :: _ => by unfold PyData.eqvAll; rfl
  | _ :: _, [] => by unfold PyData.eqvAll; rfl
  | x :: r, y :: s => by
    rw [List.map_cons, List.map_cons]
    unfold PyData.eqvAll
    rw [eqvAll_ints r s]
    unfold PyData.eqv
    by_cases h1 : x = y
    · by_cases h2 : r = s
      · simp [h1, h2]
      · simp [h1, h2]
    · simp [h1]
theorem eqv_ints (r s : List Int) : PyData.eqv (.tuple (r.map .int)) (.tuple (s.map .int)) = decide (r = s) := by
  unfold PyData.eqv
  exact eqvAll_ints r s
theorem lt_ints (r s : List Int) : dataLt (.tuple (r.map .int)) (.tuple (s.map .int)) = decide (r < s) := by
  rw [dataLt_tuple]
  exact dataLt_ints r s
theorem lt_pR (d e : Int) (r s : List Int) : dataLt (pR d r) (pR e s) = decide (d < e ∨ d = e ∧ r < s) := by
  unfold pR
  rw [dataLt_pair (alike_int d e) (alike_ints r s), eqv_ints, lt_ints, dataLt_int]
  have : PyData.eqv (.int d) (.int e) = decide (d = e) := by unfold PyData.eqv; rfl
  rw [this]
  by_cases h : d = e
  · subst h
    rw [decide_eq_true rfl, if_pos rfl]
    by_cases h2 : r = s
    · subst h2
      rw [decide_eq_true rfl, if_pos rfl]
      symm
      exact decide_eq_false fun z => z.elim (fun z => by omega) fun z => List.lt_irrefl _ z.2
    · rw [decide_eq_false h2, if_neg Bool.false_ne_true]
      exact decide_eq_decide.mpr ⟨fun z => .inr ⟨rfl, z⟩, fun z => z.elim (fun z => absurd z (by omega)) fun z => z.2⟩
  · rw [decide_eq_false h, if_neg Bool.false_ne_true]
    exact decide_eq_decide.mpr ⟨fun z => .inl z, fun z => z.elim id fun z => absurd z.1 h⟩
/-- the first nearest of rows in order is the least of the nearest -/
theorem nearest_one {K ks : List (List Int)} {f : List Int → Int} (pm : K.Perm ks) (asc : K.Pairwise (· < ·)) {r0 : List Int} (h0 : r0 ∈ ks) (least : ∀ r ∈ ks, ¬ (f r < f r0 ∨ f r = f r0 ∧ r < r0)) {m : Int} (hm : m ∈ K.map f) (hl : ∀ y ∈ K.map f, m ≤ y) :
    m = f r0 ∧ K[(K.map f).idxOf m]? = some r0 := by
  have e1 : m = f r0 := by
    obtain ⟨r, hr, rfl⟩ := List.mem_map.mp hm
    have h1 := hl (f r0) (List.mem_map.mpr ⟨r0, pm.symm.subset h0, rfl⟩)
    have h2 := least r (pm.subset hr)
    rcases Int.lt_or_eq_of_le h1 with q | q
    · exact absurd (.inl q) h2
    · exact q
  refine ⟨e1, ?_⟩
  have hi : (K.map f).idxOf m < (K.map f).length := List.idxOf_lt_length_of_mem hm
  have hi2 : (K.map f).idxOf m < K.length := by rwa [List.length_map] at hi
  obtain ⟨i, hiK, ei⟩ := List.getElem_of_mem (pm.symm.subset h0)
  have fj : f K[(K.map f).idxOf m] = m := by
    have := List.getElem_idxOf hi
    rwa [List.getElem_map] at this
  rw [List.getElem?_eq_getElem hi2]
  congr 1
  rcases Nat.lt_trichotomy ((K.map f).idxOf m) i with q | q | q
  · have lt := List.pairwise_iff_getElem.mp asc _ i hi2 hiK q
    rw [ei] at lt
    exact absurd (.inr ⟨fj.trans e1, lt⟩) (least _ (pm.subset (List.getElem_mem hi2)))
  · subst q
    exact ei
  · have hx : (K.map f)[i]'(by rw [List.length_map]; exact hiK) = m := by rw [List.getElem_map, ei, e1]
    have h := List.not_of_lt_findIdx (p := (· == m)) (show i < (K.map f).findIdx (· == m) from q)
    rw [hx, beq_self_eq_true] at h
    cases h
end K10

set_option Elab.async false
set_option linter.all false
set_option maxRecDepth 100000
namespace K10
open PySem PySem.Spec PyProof.Rows L2 DL
section
variable {P : Program} {w : World} {K : PySem.W.Frag} {mg : Str → Option Value} {base : Heap} {A : Ad}

/-! ### the program's score rows -/
theorem count_cntI (c : Nat) (l : List Nat) : PyProof.Rows.cnt c l = cntI c l := by
  induction l with
  | nil => rfl
  | cons n l ih =>
    rw [PyProof.Rows.cnt_cons, ih]
    unfold cntI
    rw [List.filter_cons]
    by_cases e : n = c
    · rw [if_pos e, if_pos (decide_eq_true e), List.length_cons]
      omega
    · rw [if_neg e, if_neg (by rw [decide_eq_false e]; exact Bool.false_ne_true)]
      omega
theorem count_sign (l : List Nat) (c : Nat) : Txt.count (toS l) (sg c) = cntI c l := by
  unfold sg
  rw [count_cnt, toS_list, count_cntI]
def dInt (r : List Int) : D := .tup (r.map D.int)
def okRow (p : List Nat) (r : List Int) : Prop := r.length = p.length ∧ ∀ v ∈ r, 0 ≤ v ∧ v ≤ 1000000
def g_is_score : GC := fun ds μ R => ∃ v : Int, ds = [.int v] ∧ 0 ≤ v ∧ v ≤ 1000000 ∧ R (.bl true) μ
def g_where_wrongS (f : Addr) : GC := fun ds μ R => ∃ (ns : List Int) (n : Nat), ds = [.tup (ns.map D.int), .int (n : Nat), .adr f] ∧ ns.length = n ∧ n ≤ 1000 ∧ (∀ v ∈ ns, 0 ≤ v ∧ v ≤ 1000000) ∧ R (.int (-1)) μ
def g_check_row (C : Addr) : GC := fun ds μ R => ∃ (p : List Nat) (ts : List Str) (r : List Int), ds = [dWeb C p ts, dInt r] ∧ p.length ≤ 8 ∧ okRow p r ∧ R .non μ
theorem ints_get2 {ns : List Int} {i : Nat} {x : D} (h : (ns.map D.int)[i]? = some x) : ∃ v, ns[i]? = some v ∧ x = .int v := by
  rw [List.getElem?_map] at h
  cases e : ns[i]? with
  | none => rw [e] at h; cases h
  | some v => rw [e] at h; exact ⟨v, rfl, (Option.some.inj h).symm⟩

def g_arrow_of : GC := fun ds μ R => ∃ (a b : Nat) (s : Bool), ds = [.str (yTie a b), .str (sg (sgn s))] ∧ R (.str (wayS (yTie a b) s)) μ
def g_arrows_of (C : Addr) : GC := fun ds μ R => ∃ (p : List Nat) (ts : List Str) (l : List Bool), ds = [dWeb C p ts, .str (lnS l)] ∧ OkT p ts ∧ l.length = ts.length ∧ ts.length ≤ 11 ∧ R (.tup ((waysL ts l).map D.str)) μ
def g_leanings_of (C : Addr) : GC := fun ds μ R => ∃ (p : List Nat) (ts : List Str), ds = [dWeb C p ts] ∧ ts.length ≤ 11 ∧ R (.lst ((boolsL ts.length).map fun l => .str (lnS l))) μ
def g_score_of (C : Addr) : GC := fun ds μ R => ∃ (p : List Nat) (ts : List Str) (l : List Bool), ds = [dWeb C p ts, .str (lnS l)] ∧ p.length ≤ 8 ∧ OkT p ts ∧ l.length = ts.length ∧ ts.length ≤ 11 ∧ R (dInt (rowL p ts l)) μ
def N24 : List Str := ["tie", "sign"]
theorem sc24 : FnScope N24 ["tie", "sign"] (defScope (top 24)) := ⟨rfl, rfl, rfl, by decide +kernel, rfl, by decide +kernel, by decide +kernel⟩
theorem ok_arrow_of (T : Tx K mg A) : FnOk P w K mg base CX0 1 A.arrow_of A.fd_arrow_of ["tie", "sign"] (toSp K (g_arrow_of)) := by
  refine okD T.F_arrow_of sc24 (fun ds μ R h => ?_) ⟨_, fun cdv A0 outer s H E hr =>
    (dss_one (ds_ret (de_if (dt_cmp (op_eqA hr.units) sim_eq (dv 1) de_str (nomark _)) (dv 0) (de_op op_plus sim_plus (de_ix ix_any sim_ix (dv 0) de_int (fun _ _ => rfl)) (de_ix ix_any sim_ix (dv 0) de_int (fun _ _ => rfl)))))), fun ds μ R h => ?_⟩
  · obtain ⟨a, b, s, rfl, _⟩ := h
    rfl
  · obtain ⟨a, b, s, rfl, h⟩ := h
    refine if_case (c := decide (sg (sgn s) = ("+" : Str))) (fun e => ?_) (fun e => ?_)
    · rw [plus_is] at e
      rw [e] at h
      exact h
    · rw [plus_is] at e
      rw [e] at h
      have z2 : (yTie a b).length ≤ sizeLine := by show 2 ≤ sizeLine; decide
      refine ⟨z2, ?_⟩
      refine ⟨z2, ?_⟩
      exact ⟨by show 1 + 1 ≤ sizeLine; decide, h⟩

theorem pairs_signs (ts : List Str) (l : List Bool) : DL.pairsL (ts.map D.str) (DL.signs (lnS l)) = List.zipWith (fun y b => D.tup [.str y, .str (sg (sgn b))]) ts l := by
  unfold lnS
  rw [signs_chs]
  unfold DL.pairsL chs lnC
  rw [List.map_map, List.zipWith_map]
  rfl
theorem zip_mem {α β γ : Type} {f : α → β → γ} : ∀ {xs : List α} {ys : List β} {z : γ}, z ∈ List.zipWith f xs ys → ∃ x ∈ xs, ∃ y ∈ ys, z = f x y
  | [], _, _, h => by simp at h
  | _ :: _, [], _, h => by simp at h
  | x :: xs, y :: ys, z, h => by
    rw [List.zipWith_cons_cons] at h
    rcases List.mem_cons.mp h with q | q
    · exact ⟨x, List.mem_cons_self, y, List.mem_cons_self, q⟩
    · obtain ⟨x', hx, y', hy, e⟩ := zip_mem q
      exact ⟨x', List.mem_cons_of_mem _ hx, y', List.mem_cons_of_mem _ hy, e⟩
def wayD : D → D
  | .tup [.str y, .str s] => .str (wayS y (decide (s = ("+" : Str))))
  | d => d
theorem way_pairs (ts : List Str) (l : List Bool) : (List.zipWith (fun y b => D.tup [.str y, .str (sg (sgn b))]) ts l).map wayD = (waysL ts l).map D.str := by
  unfold waysL
  rw [List.map_zipWith, List.map_zipWith]
  congr 1
  funext y b
  show D.str (wayS y (decide (sg (sgn b) = ("+" : Str)))) = _
  rw [plus_is]
def N25 : List Str := ["web", "leaning", "tie", "sign"]
theorem sc25 : FnScope N25 ["web", "leaning"] (defScope (top 25)) := ⟨rfl, rfl, rfl, by decide +kernel, rfl, by decide +kernel, by decide +kernel⟩
theorem ok_arrows_of (T : Tx K mg A) : FnOk P w K mg base CX0 2 A.arrows_of A.fd_arrows_of ["web", "leaning"] (toSp K (g_arrows_of A.Web)) := by
  refine okD T.F_arrows_of sc25 (fun ds μ R h => ?_) ⟨_, fun cdv A0 outer s H E hr =>
    (dss_one (ds_ret (de_callTy call_tuple_of sim_tuple (by rfl) T.z_tuple boot_tuple (da_cons (de_lc (own := [("tie", 2), ("sign", 3)]) (by rfl) sc25.nd (di_zipG (by rfl) T.z_zip (da_cons (de_fld T.k_Web T.n_ties (dv 0)) (da_cons (dv 1) da_nil))) (blkOk_by (N := N25) (own := [("tie", 2), ("sign", 3)]) (sc := defScope (top 25)) (by decide +kernel)) (fun _ _ _ _ _ => (pg_tup (n := 2) (by rfl) (pgs_cons (pg_name (i := 2) sc25.nd rfl (by first | exact Or.inl rfl | exact Or.inr rfl)) (pgs_cons (pg_name (i := 3) sc25.nd rfl (by first | exact Or.inl rfl | exact Or.inr rfl)) pgs_nil)))) (sim_tupT (n := 2) (sim_consT (sim_nm (i := 2)) (sim_consT (sim_nm (i := 3)) sim_nilT))) (fun _ _ _ _ _ => dts_nil) (fun _ _ _ _ _ => (de_call ((ok_arrow_of T).mono (by decide)) hr (by rfl) T.g_arrow_of T.F_arrow_of.kp T.b_arrow_of (da_cons (dv 2) (da_cons (dv 3) da_nil))))) da_nil)))), fun ds μ R h => ?_⟩
  · obtain ⟨p, ts, l, rfl, _⟩ := h
    rfl
  · obtain ⟨p, ts, l, rfl, ot, hl, few, h⟩ := h
    refine ⟨rfl, _, rfl, ?_⟩
    refine ⟨_, _, ts.map D.str, DL.signs (lnS l), rfl, rfl, rfl, ?_⟩
    rw [pairs_signs]
    show LcB _ _ _ _ _ _ _ _
    refine lcb_map wayD ?_ ?_ ?_
    · rw [List.length_zipWith, sizeLine_eq]
      omega
    · intro d hd ν Y _ hY
      obtain ⟨y, hy, b, _, rfl⟩ := zip_mem hd
      obtain ⟨c, e, rfl, _⟩ := ot.ties y hy
      have hY : Y (.str (wayS (yTie c e) (decide (sg (sgn b) = ("+" : Str))))) ν := hY
      rw [plus_is] at hY
      exact ⟨rfl, c, e, b, rfl, hY⟩
    rw [way_pairs]
    exact h

theorem bools_snoc : ∀ n : Nat, boolsL (n + 1) = (boolsL n).flatMap fun l => [l ++ [true], l ++ [false]]
  | 0 => rfl
  | n + 1 => by
    have ih := bools_snoc n
    show (boolsL (n + 1)).map (true :: ·) ++ (boolsL (n + 1)).map (false :: ·) = ((boolsL n).map (true :: ·) ++ (boolsL n).map (false :: ·)).flatMap _
    rw [ih, List.flatMap_append, List.map_flatMap, List.map_flatMap, List.flatMap_map, List.flatMap_map]
    rfl
def addS : D → D → D
  | .str x, .str y => .str (x ++ y)
  | d, _ => d
theorem lnS_snoc (l : List Bool) (b : Bool) : lnS l ++ sg (sgn b) = lnS (l ++ [b]) := by
  have e : lnC (l ++ [b]) = lnC l ++ [sgn b] := List.map_append
  unfold lnS
  rw [e]
  exact toS_add (lnC l) (sgn b)
theorem plus_minus : DL.signs ("+-" : Str) = [.str (sg (sgn true)), .str (sg (sgn false))] := by
  rw [two_signs_text, signs_chs]
  rfl
def N28 : List Str := ["web", "leaning", "tails", "arrow", "place"]
theorem sc28 : FnScope N28 ["web", "leaning"] (defScope (top 28)) := ⟨rfl, rfl, rfl, by decide +kernel, rfl, by decide +kernel, by decide +kernel⟩
theorem ok_score_of (T : Tx K mg A) : FnOk P w K mg base CX0 3 A.score_of A.fd_score_of ["web", "leaning"] (toSp K (g_score_of A.Web)) := by
  refine okD T.F_score_of sc28 (fun ds μ R h => ?_) ⟨_, fun cdv A0 outer s H E hr =>
    (dss_cons (ds_set sc28.nd (i := 2) rfl (by first | exact Or.inl rfl | exact Or.inr rfl) (de_bm PySem.F.plainAttrs_str PySem.F.slot_str_join PySem.F.type_str_join mt_join sim_join ok_str de_str (da_cons (de_lc (own := [("arrow", 3)]) (by rfl) sc28.nd (di_both (de_call ((ok_arrows_of T).mono (by decide)) hr (by rfl) T.g_arrows_of T.F_arrows_of.kp T.b_arrows_of (da_cons (dv 0) (da_cons (dv 1) da_nil)))) (blkOk_by (N := N28) (own := [("arrow", 3)]) (sc := defScope (top 28)) (by decide +kernel)) (fun _ _ _ _ _ => (pg_name (i := 3) sc28.nd rfl (by first | exact Or.inl rfl | exact Or.inr rfl))) (sim_nm (i := 3)) (fun _ _ _ _ _ => dts_nil) (fun _ _ _ _ _ => (de_ix ix_any sim_ix (dv 3) de_int (fun _ _ => rfl)))) da_nil)))
      (dss_one (ds_ret (de_callTy call_tuple_of sim_tuple (by rfl) T.z_tuple boot_tuple (da_cons (de_lc (own := [("place", 4)]) (by rfl) sc28.nd (di_str (de_fld T.k_Web T.n_places (dv 0))) (blkOk_by (N := N28) (own := [("place", 4)]) (sc := defScope (top 28)) (by decide +kernel)) (fun _ _ _ _ _ => (pg_name (i := 4) sc28.nd rfl (by first | exact Or.inl rfl | exact Or.inr rfl))) (sim_nm (i := 4)) (fun _ _ _ _ _ => dts_nil) (fun _ _ _ _ _ => (de_bm PySem.F.plainAttrs_str PySem.F.slot_str_count PySem.F.type_str_count mt_count sim_count ok_str (dv 2) (da_cons (dv 4) da_nil)))) da_nil))))), fun ds μ R h => ?_⟩
  · obtain ⟨p, ts, l, rfl, _⟩ := h
    rfl
  · obtain ⟨p, ts, l, rfl, p8, ot, hl, few, h⟩ := h
    have lw : (waysL ts l).length = ts.length := by
      unfold waysL
      rw [List.length_zipWith]
      omega
    refine ⟨True.intro, ?_⟩
    refine ⟨p, ts, l, rfl, ot, hl, few, ?_⟩
    show LcB _ _ _ _ _ _ _ _
    refine lcb_map (fun d => match d with | .str y => .str (sg (ends y).1) | d => d) ?_ ?_ ?_
    · rw [List.length_map, sizeLine_eq]
      omega
    · intro d hd ν Y _ hY
      obtain ⟨w, hw, rfl⟩ := List.mem_map.mp hd
      obtain ⟨a, b, rfl⟩ := ways_are ot w hw
      exact ⟨by show 2 ≤ sizeLine; decide, hY⟩
    have e1 : ((waysL ts l).map D.str).map (fun d => match d with | .str y => D.str (sg (ends y).1) | d => d) = ((tailsL ts l).map sg).map D.str := by
      rw [← ways_first ot, List.map_map, List.map_map, List.map_map]
      rfl
    rw [e1]
    have ltl : (tailsL ts l).length ≤ 11 := by
      unfold tailsL
      rw [List.length_zipWith]
      omega
    refine ⟨_, rfl, by rw [sum_sg, len_empty]; omega, ?_⟩
    rw [join_sg]
    refine ⟨rfl, _, rfl, ?_⟩
    show LcB _ _ _ _ _ _ (DL.signs (toS p)) _
    rw [signs_chs]
    refine lcb_map (fun d => match d with | .str y => .int (cntI (y.cps.toList.getD 0 0) (tailsL ts l)) | d => d) ?_ ?_ ?_
    · rw [chs_len, sizeLine_eq]
      omega
    · intro d hd ν Y _ hY
      obtain ⟨c, hc, rfl⟩ := chs_in hd
      have hY : Y (.int (cntI c (tailsL ts l))) ν := hY
      rw [← count_sign] at hY
      exact ⟨True.intro, hY⟩
    have e2 : (chs p).map (fun d => match d with | .str y => D.int (cntI (y.cps.toList.getD 0 0) (tailsL ts l)) | d => d) = (rowL p ts l).map D.int := by
      unfold chs rowL
      rw [List.map_map, List.map_map]
      rfl
    rw [e2]
    exact h
end
end K10

set_option Elab.async false
set_option linter.all false
set_option maxRecDepth 100000
namespace K10
/-! mathematics of arrows that turn: E i is the tail and the head of the i-th arrow -/
section
variable {E : Nat → Nat × Nat}
/-- the arrows c lead from a to b, one after another -/
def Run (E : Nat → Nat × Nat) (a : Nat) : List Nat → Nat → Prop
  | [], b => a = b
  | i :: c, b => (E i).1 = a ∧ Run E (E i).2 c b
theorem Run.append : ∀ {x y : List Nat} {a b : Nat}, Run E a (x ++ y) b ↔ ∃ m, Run E a x m ∧ Run E m y b
  | [], y, a, b => ⟨fun h => ⟨a, rfl, h⟩, fun ⟨m, h1, h2⟩ => by
    have h1 : a = m := h1
    subst h1
    exact h2⟩
  | i :: x, y, a, b => by
    show (E i).1 = a ∧ Run E (E i).2 (x ++ y) b ↔ _
    rw [Run.append]
    exact ⟨fun ⟨h1, m, h2, h3⟩ => ⟨m, ⟨h1, h2⟩, h3⟩, fun ⟨m, ⟨h1, h2⟩, h3⟩ => ⟨h1, m, h2, h3⟩⟩
theorem Run.one : ∀ {c : List Nat} {a b d : Nat}, Run E a c b → Run E a c d → b = d
  | [], _, _, _, h, k => Eq.trans (Eq.symm h) k
  | _ :: _, _, _, _, h, k => Run.one h.2 k.2
theorem Run.tails : ∀ {c : List Nat} {a b : Nat}, Run E a c b → c.map (fun i => (E i).1) ++ [b] = a :: c.map fun i => (E i).2
  | [], a, b, h => by
    have h : a = b := h
    subst h
    rfl
  | i :: c, a, b, h => by
    rw [List.map_cons, List.map_cons, List.cons_append, Run.tails h.2, h.1]
theorem Run.perm {c : List Nat} {a : Nat} (h : Run E a c a) : (c.map fun i => (E i).1).Perm (c.map fun i => (E i).2) := by
  have e := h.tails
  have p : (a :: c.map fun i => (E i).1).Perm (a :: c.map fun i => (E i).2) := by
    rw [← e]
    exact (List.perm_append_singleton a _).symm
  exact p.cons_inv
/-- a round of arrows -/
structure Cyc (E : Nat → Nat × Nat) (c : List Nat) : Prop where
  ne : c ≠ []
  nod : (c.map fun i => (E i).1).Nodup
  run : ∃ a, Run E a c a
theorem Cyc.from_ {c : List Nat} (h : Cyc E c) {i : Nat} (m : i ∈ c) : ∃ r, (i :: r).Perm c ∧ Run E (E i).1 (i :: r) (E i).1 := by
  obtain ⟨x, y, rfl⟩ := List.append_of_mem m
  obtain ⟨a, ha⟩ := h.run
  obtain ⟨u, h1, h2⟩ := Run.append.mp ha
  have hu : (E i).1 = u := h2.1
  subst hu
  refine ⟨y ++ x, ?_, ?_⟩
  · show ((i :: y) ++ x).Perm _
    exact List.perm_append_comm
  · show Run E (E i).1 ((i :: y) ++ x) (E i).1
    exact Run.append.mpr ⟨a, h2, h1⟩
theorem nodup_of_tails {c : List Nat} (h : (c.map fun i => (E i).1).Nodup) : c.Nodup := List.Pairwise.of_map (fun i => (E i).1) (fun {a b} ne e => ne (by rw [e])) h
theorem filter_just {l : List Nat} {p : Nat → Bool} {x : Nat} (nod : l.Nodup) (hx : x ∈ l) (h : ∀ y ∈ l, p y = true ↔ y = x) : l.filter p = [x] := by
  induction l with
  | nil => cases hx
  | cons a l ih =>
    have nd := List.nodup_cons.mp nod
    rw [List.filter_cons]
    by_cases e : a = x
    · subst e
      rw [if_pos ((h a List.mem_cons_self).mpr rfl)]
      have : l.filter p = [] := List.filter_eq_nil_iff.mpr fun y hy z => nd.1 (by rw [← (h y (List.mem_cons_of_mem _ hy)).mp z]; exact hy)
      rw [this]
    · rw [if_neg (fun z => e ((h a List.mem_cons_self).mp z))]
      refine ih nd.2 ((List.mem_cons.mp hx).resolve_left fun z => e z.symm) fun y hy => h y (List.mem_cons_of_mem _ hy)
/-- going round from the first of the lot -/
theorem Cyc.walk {c : List Nat} (h : Cyc E c) {o : Nat} {rest : List Nat} (hp : (o :: rest).Perm c) : ∃ d : List Nat, d.Perm (o :: rest) ∧
    (∀ j here, j < d.length → Run E (E o).1 (d.take j) here → ∃ k, d[j]? = some k ∧ k ∈ o :: rest ∧ ((o :: rest).filter fun x => decide ((E x).1 = here) && !decide (x ∈ d.take j)) = [k] ∧ here ∉ (d.take j).map (fun i => (E i).1) ∧ Run E (E o).1 (d.take (j + 1)) (E k).2) ∧
    ∀ here, Run E (E o).1 d here → here = (E o).1 := by
  obtain ⟨r, p1, r1⟩ := h.from_ (hp.subset List.mem_cons_self)
  have pd : (o :: r).Perm (o :: rest) := p1.trans hp.symm
  have nt : ((o :: r).map fun i => (E i).1).Nodup := (p1.map _).nodup_iff.mpr h.nod
  have nd := nodup_of_tails nt
  have nrest : (o :: rest).Nodup := pd.nodup_iff.mp nd
  refine ⟨o :: r, pd, fun j here hj hr => ?_, fun here hr => Run.one hr r1⟩
  have hd : (o :: r)[j]? = some ((o :: r)[j]) := List.getElem?_eq_getElem hj
  have split : (o :: r) = (o :: r).take j ++ (o :: r)[j] :: (o :: r).drop (j + 1) := by
    rw [← List.drop_eq_getElem_cons hj, List.take_append_drop]
  have r2 := r1
  rw [split] at r2
  obtain ⟨m, q1, q2⟩ := Run.append.mp r2
  have em := Run.one q1 hr
  subst em
  have tk : (E (o :: r)[j]).1 = m := q2.1
  have tak : (o :: r).take (j + 1) = (o :: r).take j ++ [(o :: r)[j]] := by
    rw [List.take_succ, hd]
    rfl
  have nt2 := nt
  rw [split, List.map_append, List.map_cons] at nt2
  obtain ⟨_, _, apart⟩ := List.nodup_append.mp nt2
  have notin : m ∉ ((o :: r).take j).map fun i => (E i).1 := fun z => apart m z (E (o :: r)[j]).1 List.mem_cons_self tk.symm
  have kin : (o :: r)[j] ∈ o :: rest := pd.subset (List.getElem_mem hj)
  refine ⟨(o :: r)[j], hd, kin, ?_, notin, ?_⟩
  · refine filter_just nrest kin fun y hy => ?_
    rw [Bool.and_eq_true, decide_eq_true_iff, Bool.not_eq_true', decide_eq_false_iff_not]
    constructor
    · rintro ⟨e1, e2⟩
      have hy2 := pd.symm.subset hy
      obtain ⟨i, hi, ei⟩ := List.getElem_of_mem hy2
      have t1 : ((o :: r).map fun i => (E i).1)[i]'(by rw [List.length_map]; exact hi) = ((o :: r).map fun i => (E i).1)[j]'(by rw [List.length_map]; exact hj) := by
        rw [List.getElem_map, List.getElem_map, ei, e1, tk]
      have ij := (List.getElem_inj nt).mp t1
      subst ij
      exact ei.symm
    · rintro rfl
      refine ⟨tk, fun z => notin ?_⟩
      rw [← tk]
      exact List.mem_map.mpr ⟨_, z, rfl⟩
  · rw [tak]
    exact Run.append.mpr ⟨m, hr, tk, rfl⟩
/-- as many arrows start at each place as end there -/
def Bal (E : Nat → Nat × Nat) (l : List Nat) : Prop := (l.map fun i => (E i).1).Perm (l.map fun i => (E i).2)
theorem filter_back {α : Type} {p q : α → Bool} : ∀ {l : List α}, (∀ x ∈ l, p x = true → q x = true) → (l.filter p).length = (l.filter q).length → ∀ x ∈ l, q x = true → p x = true
  | [], _, _, x, h, _ => by cases h
  | a :: l, hi, hl, x, hx, hq => by
    have le : (l.filter p).length ≤ (l.filter q).length := by
      have : ∀ l : List α, (∀ x ∈ l, p x = true → q x = true) → (l.filter p).length ≤ (l.filter q).length := fun l => by
        induction l with
        | nil => intro _; exact Nat.le_refl _
        | cons b l ih =>
          intro h
          have ih := ih fun x hx => h x (List.mem_cons_of_mem _ hx)
          rw [List.filter_cons, List.filter_cons]
          by_cases e : p b = true
          · rw [if_pos e, if_pos (h b List.mem_cons_self e), List.length_cons, List.length_cons]
            omega
          · rw [if_neg e]
            split
            · rw [List.length_cons]
              omega
            · exact ih
      exact this l fun x hx => hi x (List.mem_cons_of_mem _ hx)
    rw [List.filter_cons, List.filter_cons] at hl
    by_cases ep : p a = true
    · rw [if_pos ep, if_pos (hi a List.mem_cons_self ep), List.length_cons, List.length_cons] at hl
      rcases List.mem_cons.mp hx with e | e
      · rw [e]; exact ep
      · exact filter_back (fun x hx => hi x (List.mem_cons_of_mem _ hx)) (by omega) x e hq
    · rw [if_neg ep] at hl
      by_cases eq : q a = true
      · rw [if_pos eq, List.length_cons] at hl
        omega
      · rw [if_neg eq] at hl
        rcases List.mem_cons.mp hx with e | e
        · rw [e] at hq
          exact absurd hq eq
        · exact filter_back (fun x hx => hi x (List.mem_cons_of_mem _ hx)) hl x e hq
theorem Bal.back {l K : List Nat} (h : Bal E l) (cl : ∀ i ∈ l, (E i).1 ∈ K → (E i).2 ∈ K) : ∀ i ∈ l, (E i).2 ∈ K → (E i).1 ∈ K := by
  have p := (h.filter fun c => decide (c ∈ K)).length_eq
  rw [List.filter_map, List.filter_map, List.length_map, List.length_map] at p
  have := filter_back (p := (fun c => decide (c ∈ K)) ∘ fun i => (E i).1) (q := (fun c => decide (c ∈ K)) ∘ fun i => (E i).2) (l := l) (fun x hx e => decide_eq_true (cl x hx (of_decide_eq_true e))) p
  exact fun i hi e => of_decide_eq_true (this i hi (decide_eq_true e))
theorem perm_split {l r : List Nat} (nl : l.Nodup) (nr : r.Nodup) (sub : ∀ x ∈ r, x ∈ l) : l.Perm (r ++ l.filter fun x => !decide (x ∈ r)) := by
  refine (List.perm_ext_iff_of_nodup nl (List.nodup_append.mpr ⟨nr, List.Pairwise.filter _ nl, fun a ha b hb e => ?_⟩)).mpr fun x => ?_
  · have := (List.mem_filter.mp hb).2
    rw [Bool.not_eq_true', decide_eq_false_iff_not] at this
    exact this (by rw [← e]; exact ha)
  · rw [List.mem_append, List.mem_filter, Bool.not_eq_true', decide_eq_false_iff_not]
    constructor
    · intro h
      by_cases e : x ∈ r
      · exact .inl e
      · exact .inr ⟨h, e⟩
    · rintro (h | h)
      · exact sub x h
      · exact h.1
theorem Bal.drop {l r c : List Nat} (h : Bal E l) (nl : l.Nodup) (hc : Cyc E c) (hp : r.Perm c) (sub : ∀ x ∈ r, x ∈ l) : Bal E (l.filter fun x => !decide (x ∈ r)) := by
  have nr : r.Nodup := hp.nodup_iff.mpr (nodup_of_tails hc.nod)
  have sp := perm_split nl nr sub
  obtain ⟨a, ha⟩ := hc.run
  have br : (r.map fun i => (E i).1).Perm (r.map fun i => (E i).2) := ((hp.map _).trans ha.perm).trans (hp.map _).symm
  have q : ((r ++ l.filter fun x => !decide (x ∈ r)).map fun i => (E i).1).Perm ((r ++ l.filter fun x => !decide (x ∈ r)).map fun i => (E i).2) := ((sp.map _).symm.trans h).trans (sp.map _)
  rw [List.map_append, List.map_append] at q
  exact (List.perm_append_left_iff _).mp (q.trans (br.symm.append_right _))
/-- ways found so far: from h, to the places that stand first -/
structure Found (F : Nat → Nat × Nat) (n h : Nat) (kvs : List (Nat × List Nat)) : Prop where
  nod : (kvs.map (·.1)).Nodup
  has : h ∈ kvs.map (·.1)
  way : ∀ v w, (v, w) ∈ kvs → Run F h w v ∧ (∀ i ∈ w, i < n) ∧ (h :: w.map fun i => (F i).2).Nodup ∧ ∀ u ∈ h :: w.map (fun i => (F i).2), u ∈ kvs.map (·.1)
theorem Found.start {F : Nat → Nat × Nat} {n h : Nat} : Found F n h [(h, [])] := by
  refine ⟨by simp, by simp, fun v w m => ?_⟩
  obtain ⟨rfl, rfl⟩ : v = h ∧ w = [] := by simpa using m
  exact ⟨rfl, (fun i hi => by cases hi), (by simp), fun u hu => by simpa using hu⟩
theorem Found.add {F : Nat → Nat × Nat} {n h : Nat} {kvs : List (Nat × List Nat)} (f : Found F n h kvs) {w : List Nat} {i : Nat} (hi : i < n) (hw : ((F i).1, w) ∈ kvs) (new : (F i).2 ∉ kvs.map (·.1)) : Found F n h (kvs ++ [((F i).2, w ++ [i])]) := by
  obtain ⟨r1, r2, r3, r4⟩ := f.way _ _ hw
  have keys : (kvs ++ [((F i).2, w ++ [i])]).map (·.1) = kvs.map (·.1) ++ [(F i).2] := by rw [List.map_append]; rfl
  refine ⟨?_, ?_, fun v x m => ?_⟩
  · rw [keys]
    exact List.nodup_append.mpr ⟨f.nod, by simp, fun a ha b hb e => new (by rw [← List.mem_singleton.mp hb, ← e]; exact ha)⟩
  · rw [keys]
    exact List.mem_append_left _ f.has
  · rw [keys]
    rcases List.mem_append.mp m with q | q
    · obtain ⟨s1, s2, s3, s4⟩ := f.way v x q
      exact ⟨s1, s2, s3, fun u hu => List.mem_append_left _ (s4 u hu)⟩
    · obtain ⟨rfl, rfl⟩ : v = (F i).2 ∧ x = w ++ [i] := by simpa using q
      have em : (h :: (w ++ [i]).map fun i => (F i).2) = (h :: w.map fun i => (F i).2) ++ [(F i).2] := by rw [List.map_append]; rfl
      refine ⟨Run.append.mpr ⟨_, r1, rfl, rfl⟩, fun j hj => ?_, ?_, fun u hu => ?_⟩
      · rcases List.mem_append.mp hj with z | z
        · exact r2 j z
        · rw [List.mem_singleton.mp z]; exact hi
      · rw [em]
        exact List.nodup_append.mpr ⟨r3, by simp, fun a ha b hb e => new (by rw [← List.mem_singleton.mp hb, ← e]; exact r4 a ha)⟩
      · rw [em] at hu
        rcases List.mem_append.mp hu with z | z
        · exact List.mem_append_left _ (r4 u z)
        · exact List.mem_append_right _ z
theorem run_map {F : Nat → Nat × Nat} {g : Nat → Nat} {n : Nat} (hF : ∀ i, i < n → F i = E (g i)) : ∀ {w : List Nat} {a b : Nat}, (∀ i ∈ w, i < n) → Run F a w b → Run E a (w.map g) b
  | [], _, _, _, h => h
  | i :: w, a, b, hn, h => by
    have e := hF i (hn i List.mem_cons_self)
    refine ⟨by rw [← e]; exact h.1, ?_⟩
    rw [← e]
    exact run_map hF (fun j hj => hn j (List.mem_cons_of_mem _ hj)) h.2
/-- the way back makes a round -/
theorem Found.cyc {F : Nat → Nat × Nat} {left : List Nat} {g : Nat → Nat} {kvs : List (Nat × List Nat)} {i0 : Nat} {w : List Nat} (f : Found F left.length (E i0).2 kvs) (hg : ∀ i, i < left.length → left[i]? = some (g i)) (hF : ∀ i, i < left.length → F i = E (g i))
    (hw : ((E i0).1, w) ∈ kvs) : Cyc E (i0 :: w.map g) ∧ ∀ x ∈ w.map g, x ∈ left := by
  obtain ⟨r1, r2, r3, _⟩ := f.way _ _ hw
  have rE := run_map hF r2 r1
  have et := r1.tails
  refine ⟨⟨List.cons_ne_nil _ _, ?_, (E i0).1, rfl, rE⟩, fun x hx => ?_⟩
  · have e1 : (w.map g).map (fun i => (E i).1) = w.map fun i => (F i).1 := by
      rw [List.map_map]
      refine List.map_congr_left fun i hi => ?_
      show (E (g i)).1 = (F i).1
      rw [hF i (r2 i hi)]
    rw [List.map_cons, e1]
    rw [← et] at r3
    have := (List.perm_append_singleton (E i0).1 (w.map fun i => (F i).1)).nodup_iff.mp r3
    exact this
  · obtain ⟨i, hi, rfl⟩ := List.mem_map.mp hx
    exact List.mem_of_getElem? (hg i (r2 i hi))
end
end K10

set_option Elab.async false
set_option linter.all false
set_option maxRecDepth 100000
namespace DL
open PySem PySem.Spec PyProof.Rows L2
/-! ### sorted(set(tuple of ints)) -/
def tSortSetI (K : PySem.W.Frag) (ta : TE) : TE := fun σ H Q => ta σ H fun x H1 => ∃ (l : Addr) (ns : List Int), x = .ref l ∧ SqT K H1 l (ns.map V.int) ∧ ns.length < 64 ∧
  ∀ (out : List Int) (p : Addr), out.Pairwise (· < ·) → (∀ k, k ∈ out ↔ k ∈ ns) → H1 p = none → Q (.ref p) (upd H1 p (.lst (out.map V.int)))
theorem pe_sortSetI {X : Cx} {a : Expr} {ta : TE} {p p2 q pos : Pos} (hc : X.calm = true) (hg : Gl X "sorted") (hm : X.mg "sorted" = none) (hg2 : Gl X "set") (hm2 : X.mg "set" = none) (ha : PE X a ta)
    (na : starEach [a] X.env = (false, eval a X.env) :: starEach [] X.env := by rfl) : PE X (.Call (.Name "sorted" p) [.Call (.Name "set" p2) [a] [] q] [] pos) (tSortSetI X.K ta) := by
  refine ⟨fun pins s σ H Q I h => ?_⟩
  refine Call_ (ld_blt I hg hm boot_sorted ?_)
  refine PyProof.Rows.callWith_builtin1 (PyProof.Rows.args_cons ?_ rfl) rfl rfl
  refine Call_ (ld_blt I hg2 hm2 boot_set ?_)
  refine PyProof.Rows.callWith_type1 (PyProof.Rows.args_cons (thn (ha.run pins s σ H _ I h) fun v s1 ⟨x, H1, I1, r1, q1⟩ => PyProof.Rows.args_nil ?_) na) na rfl
  obtain ⟨l, ns, rfl, hq, hl, q1⟩ := q1
  cases r1
  obtain ⟨its, rv, pt, hz⟩ := I1.tuple hq
  have hi : IntsAre its.toArray.toList ns := ints_of_vals rv
  refine call_set_tupI ns (I1.ok.hd hc) (show s1.heap.IsTuple l its.toArray from pt) hi (by unfold scanBound; omega) fun h' tk c R1 hcn k => ?_
  refine PyProof.Rows.args_nil ?_
  have I2 : Inv X pins σ H1 { s1 with heap := h', toks := tk } := I1.kept fun b o e => k b o e
  have key : ∀ (s2 : Shared) (a : Addr), Inv X pins σ H1 s2 → SetR X.w s2.heap a (fun j => decide (j ∈ ns)) c → wpAny (model X.prog X.w) X.A (call (.builtin "sorted") [.ref a]) (EP X pins σ Q) X.xe s2 := fun s2 a I2 R1 => by
    refine sorted_set R1 (I2.ok.hd hc) (by omega) fun s' p out c ns' k g o hp hg hi hs hm hl => ?_
    have hlen : (ns'.map V.int).length ≤ sizeLine := by rw [List.length_map, hl, sizeLine_eq]; omega
    have hn : H1 p = none := I2.hok.fresh hp
    have J : Inv X pins σ (upd H1 p (.lst (ns'.map V.int))) { s2 with heap := s'.heap, gens := s'.gens, drawn := s'.drawn, toks := s'.toks } :=
      I2.call (ch := []) (Un.laid k hp hn) (I2.hok.laid k hp ⟨hlen, out.toList, c, vals_of_ints hi, hg⟩) (by rw [g]; exact I2.bare) (fun _ z => nomatch z)
    have e : s' = { s2 with heap := s'.heap, gens := s'.gens, drawn := s'.drawn, toks := s'.toks } := by
      cases s'
      cases s2
      cases o
      rfl
    rw [e]
    exact ⟨.ref p, _, J, rfl, q1 ns' p hs (fun j => by rw [hm j, decide_eq_true_eq]) hn⟩
  exact key _ _ I2 R1
def gSortSetI (g : GE) : GE := fun δ μ R => g δ μ fun d μ1 => match d with
  | .tup ds => ∃ ns : List Int, ds = ns.map D.int ∧ ns.length < 64 ∧ ∀ out : List Int, out.Pairwise (· < ·) → (∀ k, k ∈ out ↔ k ∈ ns) → R (.lst (out.map D.int)) μ1
  | _ => False
theorem de_sortSetI {X : Cx} {a : Expr} {ga : GE} {p p2 q pos : Pos} (hc : X.calm = true) (hg : Gl X "sorted") (hm : X.mg "sorted" = none) (hg2 : Gl X "set") (hm2 : X.mg "set" = none) (ha : DE X a ga)
    (na : starEach [a] X.env = (false, eval a X.env) :: starEach [] X.env := by rfl) : DE X (.Call (.Name "sorted" p) [.Call (.Name "set" p2) [a] [] q] [] pos) (gSortSetI ga) := by
  obtain ⟨t, a1, a2⟩ := ha.ex
  refine ⟨_, pe_sortSetI hc hg hm hg2 hm2 a1 na, fun σ H δ μ Q R rm rs q f => ?_⟩
  refine a2 σ H δ μ _ _ rm rs q fun v d H1 μ1 k1 rm1 r1 q1 => ?_
  cases d <;> try exact False.elim q1
  obtain ⟨ns, rfl, hl, q1⟩ := q1
  obtain ⟨l, vs, rfl, i, rl⟩ := rep_tup r1
  refine ⟨l, ns, rfl, by rw [← rl.ints]; exact i.sq, hl, fun out p h1 h2 n => ?_⟩
  have ro : RepL X.K H1 μ1 (out.map D.int) (out.map V.int) := repL_ints out
  exact fw_lst rm1 n ro (q1 out h1 h2) (f.re k1)
end DL

set_option Elab.async false
set_option linter.all false
set_option maxRecDepth 100000
namespace DL
open PySem PySem.Spec PyProof.Rows L2
/-! ### enumerate of a text -/
def IteS (x : Str) : It :=
  ⟨fun i _ => i < x.cps.size, fun i H v H' => ∃ T c, v = .ref T ∧ H T = none ∧ H' = upd H T (.tup [.int (i : Nat), .str ⟨#[c]⟩]) ∧ x.cps[i]? = some c, fun i _ => i = x.cps.size⟩
theorem turn_enumS {P : Program} {w : World} {K : PySem.W.Frag} {elts : List Expr} {kk : Nat} {tpos : Pos} (x : Str) (t : Tok) (e it : Addr) :
    Turn P w K (.Tuple elts kk tpos) (IteS x) [e, it] e (fun i h => (∃ old, IsEnum h e it ((i : Nat) : Int) old) ∧ h.IsStrIter it (strIterType x) x t i ∧ e ≠ it) where
  mem := by simp
  obj := fun i h st b hb => by
    obtain ⟨⟨old, he⟩, ⟨o, ho, hc, hd⟩, _⟩ := st
    have e' : b = e ∨ b = it := by simpa using hb
    rcases e' with z | z
    · rw [z]; exact ⟨_, he, fun v q => nomatch q⟩
    · rw [z]; exact ⟨o, ho, fun v q => by rw [hd] at q; cases q⟩
  keep := fun i h h' st k => let ⟨⟨old, he⟩, ⟨o, g, r⟩, hne⟩ := st; ⟨⟨old, k e (by simp) _ he⟩, ⟨o, k it (by simp) _ g, r⟩, hne⟩
  item := by
    intro X hP hw hK hc i pins s σ H E I hf st hl
    subst hP hw hK
    obtain ⟨⟨old, he⟩, hit, hne⟩ := st
    have hel : e < s.heap.objs.size := Heap.lt_size he
    have hil : it < s.heap.objs.size := by obtain ⟨_, q, _⟩ := hit; exact Heap.lt_size q
    have hh : X.A.in1.handled = none := I.ok.hd hc
    refine wpAny_pyNext_enum_itemD (Draws.text hh it x t) he hit hl hne (by simp [hne]) fun u2 h' tk pu ho hit' hT hsz hk => ?_
    obtain ⟨c, tc, hcx, eu⟩ := pu
    refine ⟨_, rfl, wpAny_letOwnedTupleGo_enum (s := { s with heap := h', toks := tk + 1 }) ho fun h'' he' sb => ?_⟩
    have hT2 : h''.get? s.heap.objs.size = some { cls := .type "tuple", data := .seq #[.int i tk, u2] } := (sb.2 _ (Nat.ne_of_gt hel)).trans hT
    have ru : RelV (.str ⟨#[c]⟩) u2 := ⟨tc, eu⟩
    have new : ObjOk X.prog X.w (upd H s.heap.objs.size (.tup [.int (i : Nat), .str ⟨#[c]⟩])) h'' s.heap.objs.size (.tup [.int (i : Nat), .str ⟨#[c]⟩]) :=
      ⟨by show 2 ≤ sizeLine; decide, [.int i tk, u2], .cons ⟨_, rfl⟩ (.cons ru .nil), ⟨_, hT2, rfl, _, rfl⟩⟩
    have I1 : Inv X pins σ (upd H s.heap.objs.size (.tup [.int (i : Nat), .str ⟨#[c]⟩])) { s with heap := h'', toks := tk + 1 } :=
      I.turnedNew (ch := [e, it]) (fun b ob hb q => (sb.2 b (fun z => hb (by simp [z]))).trans (hk b ob (fun z => hb (by simp [z])) (fun z => hb (by simp [z])) q)) hf (Nat.le_refl _) new
    refine ⟨.ref s.heap.objs.size, _, I1, rfl, ⟨_, c, rfl, I.hok.fresh (Nat.le_refl _), rfl, hcx⟩, ⟨⟨u2, ?_⟩, ?_, hne⟩, fun b hb => ?_⟩
    · have e1 : ((i + 1 : Nat) : Int) = (i : Int) + 1 := by omega
      rw [e1]; exact he'
    · obtain ⟨o, g, r⟩ := hit'
      exact ⟨o, (sb.2 it (Ne.symm hne)).trans g, r⟩
    · have hb' : b < s.heap.objs.size := by
        have e' : b = e ∨ b = it := by simpa using hb
        rcases e' with z | z
        · rw [z]; exact hel
        · rw [z]; exact hil
      rw [upd_ne (Nat.ne_of_lt hb')]
      exact (hf b hb).1
  done := by
    intro X hP hw hK hc i pins s σ H E I hf st hl
    subst hP hw hK
    obtain ⟨⟨old, he⟩, hit, hne⟩ := st
    obtain ⟨f0, f1, f2, f3, f4, f5⟩ := hf it (by simp)
    have hl : i = x.cps.size := hl
    subst hl
    have hh : X.A.in1.handled = none := I.ok.hd hc
    exact wpAny_pyNext_enum_endD (Draws.text hh it x t) he hit fun h' eb => ⟨rfl, I.turned (t' := s.toks) (fun b o hb q => eb b o hb q) f0 f1 f3 f4 f5⟩
  self := fun A i s Q E st h => let ⟨⟨_, he⟩, _⟩ := st; wpAny_pyIter_enum he h
def iEnumS (ta : TA) : TI := fun σ H R => ta σ H fun vs H1 => ∃ x, vs = [.str x] ∧ R (IteS x) H1
theorem pi_enumS {X : Cx} {e : Expr} {ta : TA} {p pos tpos : Pos} {elts : List Expr} {kk : Nat} (hg : Gl X "enumerate") (hm : X.mg "enumerate" = none) (ha : PA X [e] ta) (hs : starEach [e] X.env = [(false, eval e X.env)] := by rfl) :
    PI X (.Tuple elts kk tpos) (.Call (.Name "enumerate" p) [e] [] pos) (iEnumS ta) := by
  refine ⟨fun pins s σ H R I h => ?_⟩
  refine Call_ (ld_blt I hg hm boot_enumerate (PyProof.Rows.callWith_type1 (thn (ha.run pos pins s σ H _ I h) fun us s1 ⟨vs, H1, I1, r1, q1⟩ => ?_) hs rfl))
  obtain ⟨x, ex, q⟩ := q1
  subst ex
  cases r1 with
  | cons r rr =>
    cases rr
    obtain ⟨t, rfl⟩ := r
    refine enum_begins1 (begins_text x t) trivial fun h' he hit hsz hk => wpAny_pyIter_enum he ?_
    have I2 : Inv X pins σ H1 { s1 with heap := h' } := I1.kept (t' := s1.toks) hk
    refine ⟨s1.heap.objs.size + 1, [s1.heap.objs.size + 1, s1.heap.objs.size], _, _, H1, rfl, I2, turn_enumS x t (s1.heap.objs.size + 1) s1.heap.objs.size, ⟨⟨.none, he⟩, ⟨_, hit, rfl, rfl⟩, Nat.succ_ne_self _⟩, fun b hb => ?_, q⟩
    have e' : b = s1.heap.objs.size + 1 ∨ b = s1.heap.objs.size := by simpa using hb
    have hle : s1.heap.objs.size ≤ b := by
      rcases e' with z | z
      · rw [z]; exact Nat.le_add_right _ _
      · rw [z]; exact Nat.le_refl _
    exact I1.fpOk hle (I1.hok.fresh hle)
def gEnumS (ga : GA) : GI := fun δ μ R => ga δ μ fun ds μ1 => match ds with
  | [.str x] => R (numbered (signs x)) μ1
  | _ => False
theorem di_enumS {X : Cx} {p pos tpos : Pos} {elts : List Expr} {kk : Nat} {ga : GA} {e : Expr} (hg : Gl X "enumerate") (hm : X.mg "enumerate" = none) (h : DA X [e] ga) (hs : starEach [e] X.env = [(false, eval e X.env)] := by rfl) :
    DI X (.Tuple elts kk tpos) (.Call (.Name "enumerate" p) [e] [] pos) (gEnumS ga) := by
  obtain ⟨t, a1, a2⟩ := h.ex
  refine ⟨_, pi_enumS hg hm a1 hs, fun σ H δ μ Q R rm rs q f => ?_⟩
  refine a2 σ H δ μ _ _ rm rs q fun vs ds H1 μ1 k1 rm1 r1 q1 => ?_
  match ds, q1, r1 with
  | [.str x], q1, r1 =>
    obtain ⟨v, rfl, r2⟩ := repL1 r1
    unfold Rep at r2
    subst r2
    have hl : (numbered (signs x)).length = x.cps.size := by simp [numbered, signs]
    refine ⟨x, rfl, f _ (numbered (signs x)) H1 μ1 k1 rm1 ?_ q1⟩
    refine ⟨fun i H' hi _ => by rw [hl] at hi; exact hi, fun H' _ => hl, fun i H' v H2 hi _ y => ?_⟩
    intro μ' k rm
    obtain ⟨T, c, rfl, nT, rfl, e4⟩ := y
    refine ⟨.tup [.int (i : Nat), .str ⟨#[c]⟩], ?_, ?_, Kp.new nT, rm.laid nT⟩
    · unfold numbered signs
      rw [List.getElem?_mapIdx, List.getElem?_map, Array.getElem?_toList, e4]
      rfl
    · unfold Rep
      exact ⟨T, _, rfl, .inl ⟨upd_same, rm.free nT⟩, RepL.cons to_int (RepL.cons to_str RepL.nil)⟩
/-! ### in a cell; in a dict of texts and numbers -/
def gInC (k : Bool → Bool) : G2 := fun x y μ R => match y with
  | .adr a => ∃ ds, μ a = some (.lst ds) ∧ inDs x ds fun b => R (.bl (k b)) μ
  | _ => False
theorem sim_inC {K : PySem.W.Frag} : SimO K (rInA K) (gInC id) := by
  intro x y dx dy H μ Q R rm rx ry q f
  cases dy <;> try exact False.elim q
  obtain ⟨ds, ea, q⟩ := q
  obtain ⟨vs, h1, l1⟩ := rm _ _ ea
  obtain ⟨a, b, q⟩ := inDs_seq (R := fun b => R (.bl b) μ) rx l1 q
  exact .inr ⟨_, vs, rep_adr ry, .inl (SqL.of h1), a, b, fw_now rm to_bl q f⟩
theorem sim_notInC {K : PySem.W.Frag} : SimO K (rNotInA K) (gInC not) := by
  intro x y dx dy H μ Q R rm rx ry q f
  cases dy <;> try exact False.elim q
  obtain ⟨ds, ea, q⟩ := q
  obtain ⟨vs, h1, l1⟩ := rm _ _ ea
  obtain ⟨a, b, q⟩ := inDs_seq (R := fun b => R (.bl (!b)) μ) rx l1 q
  exact .inr ⟨_, vs, rep_adr ry, .inl (SqL.of h1), a, b, fw_now rm to_bl q f⟩
def gDIn (k : Bool → Bool) (gi go : GE) : GE := fun δ μ R => gi δ μ fun y μ1 => go δ μ1 fun x μ2 => match x with
  | .adr a => ∃ kvs kk, μ2 a = some (.dct kvs) ∧ keyOf y = some kk ∧ R (.bl (k (valD kvs kk).isSome)) μ2
  | _ => False
theorem look_some {κ : Type} [DecidableEq κ] {K : PySem.W.Frag} {H : Hp} {μ : Mu} {kvs : List (κ × D)} {kv : List (κ × V)} {k : κ} (l : RepK K H μ kvs kv) : (valV kv k).isSome = (valD kvs k).isSome := by
  cases e : valD kvs k with
  | none =>
    rw [l.lookN e]
    rfl
  | some d =>
    obtain ⟨w, g1, _⟩ := l.look e
    rw [g1]
    rfl
section
variable {X : Cx} {o i : Expr} {pos : Pos} {go gi : GE}
theorem sim_din {K : PySem.W.Frag} {ti to : TE} (hi : SimE K ti gi) (ho : SimE K to go) : SimE K (tDIn ti to) (gDIn id gi go) := by
  intro σ H δ μ Q R rm rs q f
  refine hi σ H δ μ _ _ rm rs q fun y dy H1 μ1 k1 rm1 r1 q1 => ?_
  refine ho σ H1 δ μ1 _ _ rm1 (rs.mono k1) q1 fun v d H2 μ2 k2 rm2 r2 q2 => ?_
  cases d <;> try exact False.elim q2
  rename_i a
  obtain ⟨kvs, kk, e0, ek, q2⟩ := q2
  obtain ⟨kv, h1, l⟩ := rm2 a _ e0
  have ey := key_rep ek (r1.mono k2)
  refine ⟨a, valV kv kk, rep_adr r2, by rw [ey]; exact DGet.k h1, ?_⟩
  rw [look_some l]
  exact f _ _ H2 μ2 (k1.trans k2) rm2 to_bl q2
theorem sim_dnotin {K : PySem.W.Frag} {ti to : TE} (hi : SimE K ti gi) (ho : SimE K to go) : SimE K (tDNotIn ti to) (gDIn not gi go) := by
  intro σ H δ μ Q R rm rs q f
  refine hi σ H δ μ _ _ rm rs q fun y dy H1 μ1 k1 rm1 r1 q1 => ?_
  refine ho σ H1 δ μ1 _ _ rm1 (rs.mono k1) q1 fun v d H2 μ2 k2 rm2 r2 q2 => ?_
  cases d <;> try exact False.elim q2
  rename_i a
  obtain ⟨kvs, kk, e0, ek, q2⟩ := q2
  obtain ⟨kv, h1, l⟩ := rm2 a _ e0
  have ey := key_rep ek (r1.mono k2)
  refine ⟨a, valV kv kk, rep_adr r2, by rw [ey]; exact DGet.k h1, ?_⟩
  rw [look_some l]
  exact f _ _ H2 μ2 (k1.trans k2) rm2 to_bl q2
theorem dt_din (hu : X.A.units + 1 < cLine) (hi : DE X i gi) (ho : DE X o go) (hm : behindInMarks .In o = false := by rfl) : DT X (.Compare i [.In] [o] pos) (gB (gDIn id gi go)) :=
  let ⟨_, a1, a2⟩ := hi.ex; let ⟨_, b1, b2⟩ := ho.ex; ⟨_, pt_cmp (pc_din hu a1 b1) hm, sim_b (sim_din a2 b2)⟩
theorem dt_dnotin (hu : X.A.units + 1 < cLine) (hi : DE X i gi) (ho : DE X o go) (hm : behindInMarks .NotIn o = false := by rfl) : DT X (.Compare i [.NotIn] [o] pos) (gB (gDIn not gi go)) :=
  let ⟨_, a1, a2⟩ := hi.ex; let ⟨_, b1, b2⟩ := ho.ex; ⟨_, pt_cmp (pc_dnotin hu a1 b1) hm, sim_b (sim_dnotin a2 b2)⟩
theorem de_din (hu : X.A.units + 1 < cLine) (hi : DE X i gi) (ho : DE X o go) (hm : behindInMarks .In o = false := by rfl) : DE X (.Compare i [.In] [o] pos) (gDIn id gi go) :=
  let ⟨_, a1, a2⟩ := hi.ex; let ⟨_, b1, b2⟩ := ho.ex; ⟨_, pe_cmp (pc_din hu a1 b1) hm, sim_din a2 b2⟩
theorem de_dnotin (hu : X.A.units + 1 < cLine) (hi : DE X i gi) (ho : DE X o go) (hm : behindInMarks .NotIn o = false := by rfl) : DE X (.Compare i [.NotIn] [o] pos) (gDIn not gi go) :=
  let ⟨_, a1, a2⟩ := hi.ex; let ⟨_, b1, b2⟩ := ho.ex; ⟨_, pe_cmp (pc_dnotin hu a1 b1) hm, sim_dnotin a2 b2⟩
/-- {k: v}, the key a value without effect -/
def gDOne (gk gv : GE) : GE := fun δ μ R => ∀ a, μ a = none → gk δ (put μ a (.dct [])) fun y μ1 => gv δ μ1 fun d μ2 => ∃ kk, keyOf y = some kk ∧ μ2 a = some (.dct []) ∧ R (.adr a) (put μ2 a (.dct [(kk, d)]))
theorem de_done {k v : Expr} {gk gv : GE} (hk : DE X k gk) (hv : DE X v gv) : DE X (.Dict [some k] [v] pos) (gDOne gk gv) := by
  obtain ⟨tk, a1, a2⟩ := hk.ex
  obtain ⟨tv, b1, b2⟩ := hv.ex
  refine ⟨_, pe_disp (pps_cons a1 b1 pps_nil) rfl rfl (List.cons_ne_nil _ _) (by show 1 ≤ 15; decide), fun σ H δ μ Q R rm rs q f => ?_⟩
  intro p n
  have kc : Kp H μ (upd H p (.dK [])) (put μ p (.dct [])) := Kp.cell n
  refine a2 σ _ δ _ _ _ (rm.cellD n (by unfold RepK; rfl)) (rs.mono kc) (q p (rm.free n)) fun y dy H1 μ1 k1 rm1 r1 q1 => ?_
  refine b2 σ H1 δ μ1 _ _ rm1 (rs.mono (kc.trans k1)) q1 fun v d H2 μ2 k2 rm2 r2 q2 => ?_
  obtain ⟨kk, ek, e0, q2⟩ := q2
  obtain ⟨kv, h1, l⟩ := rm2 p _ e0
  unfold RepK at l
  subst l
  have ey := key_rep ek (r1.mono k2)
  refine ⟨h1, [(kk, v)], by rw [ey]; rfl, by show 1 ≤ 15; decide, ?_⟩
  have kw : Kp H2 μ2 (upd H2 p (.dK (mergeK [] [(kk, v)]))) (put μ2 p (.dct [(kk, d)])) := Kp.write e0
  refine f (.ref p) (.adr p) _ _ (kc.trans (k1.trans (k2.trans kw))) ?_ to_adr q2
  exact rm2.put (m := .dct [(kk, d)]) kw (fun b o n _ => upd_ne n) ⟨_, upd_same, by
    show RepK _ _ _ [(kk, d)] [(kk, v)]
    unfold RepK
    exact ⟨v, [], rfl, r2.mono kw, by unfold RepK; rfl⟩⟩
end
/-! ### a comprehension over a cell that stays as it is -/
structure LcW (gt : GG) (gc : GT) (ge : GE) (own : List Nat) (δ : DS) (R : KD) (c : Addr) (items : List D) (μ1 : Mu) : Prop where
  ex : ∀ a, μ1 a = none → ∃ Iv : Nat → Mu → Prop, Iv 0 (put μ1 a (.lst [])) ∧ (∀ i μ', Iv i μ' → μ' c = some (.lst items)) ∧
  (∀ i x μ', items[i]? = some x → Iv i μ' → gt x (wiped δ own) fun δ2 => gc δ2 μ' fun b μ2 => if b = true then ge δ2 μ2 fun y μ3 => ∃ acc, μ3 a = some (.lst acc) ∧ acc.length < sizeLine ∧ Iv (i + 1) (put μ3 a (.lst (acc ++ [y]))) else Iv (i + 1) μ2) ∧
  ∀ μ', Iv items.length μ' → ∃ acc, μ' a = some (.lst acc) ∧ R (.lst acc) (del μ' a)
def gLcW (g : GE) (gt : GG) (gc : GT) (ge : GE) (own : List Nat) : GE := fun δ μ R => g δ μ fun d μ1 => match d with
  | .adr c => ∃ ds, μ1 c = some (.lst ds) ∧ LcW gt gc ge own δ R c ds μ1
  | _ => False
theorem sim_lcW {K : PySem.W.Frag} {tl : TE} {gl : GE} {g : TG} {gg : GG} {ow : List Nat} {tc : TT} {gc : GT} {te : TE} {ge : GE} {own : List Nat} (hi : SimE K tl gl) (sg : SimG K g gg ow) (ho : ∀ i ∈ ow, i ∈ own) (hc : SimT K tc gc) (he : SimE K te ge) :
    SimE K (tLc (iList K tl) g tc te own) (gLcW gl gg gc ge own) := by
  intro σ H δ μ Q R rm rs q f
  refine hi σ H δ μ _ _ rm rs q fun v d H1 μ1 k1 rm1 r1 q1 => ?_
  cases d <;> try exact False.elim q1
  rename_i c
  obtain ⟨items, ec, q1⟩ := q1
  obtain ⟨vs0, hc0, l0⟩ := rm1 c _ ec
  refine ⟨c, rep_adr r1, ⟨vs0, SqL.of hc0⟩, ?_⟩
  intro D nD
  obtain ⟨Iv, h0, hold, hstep, hend⟩ := q1.ex D (rm1.free nD)
  have kc : Kp H1 μ1 (upd H1 D (.lst [])) (put μ1 D (.lst [])) := Kp.cell nD
  have wk : Walk (Itl K c) items.length (fun H => ∃ μ, Kp H1 μ1 H μ ∧ RM K H μ ∧ μ c = some (.lst items)) (fun i H x H' => H' = H ∧ ∀ μ, RM K H μ → μ c = some (.lst items) → ∃ d, items[i]? = some d ∧ Rep K H μ d x) := by
    refine ⟨fun i H hi ⟨μ, _, rm, e⟩ => ?_, fun H ⟨μ, _, rm, e⟩ => ?_, fun i H x H' hi ⟨μ, _, rm, e⟩ ⟨y1, y2⟩ => ⟨y1, fun μ' rm' e' => ?_⟩⟩
    · obtain ⟨vs, h1, l⟩ := rm c _ e
      have hl := l.length
      exact ⟨vs, vs[i]'(by omega), SqL.of h1, List.getElem?_eq_getElem _⟩
    · obtain ⟨vs, h1, l⟩ := rm c _ e
      exact ⟨vs, SqL.of h1, by rw [l.length]; exact Nat.le_refl _⟩
    · obtain ⟨vs, h1, l⟩ := rm' c _ e'
      obtain ⟨d, e3, r3⟩ := l.atV (y2 vs (SqL.of h1))
      exact ⟨d, e3, r3⟩
  refine lc_it wk (fun i H => ∃ μ, Kp H1 μ1 H μ ∧ RM K H μ ∧ Iv i μ) ⟨_, kc, rm1.cell nD RepL.nil, h0⟩ (fun i H _ ⟨μ, k, rm, iv⟩ => ⟨μ, k, rm, hold i μ iv⟩) ?_ ?_
  · rintro i x H2 H3 hi2 ⟨μ2, k2, rm2, iv⟩ ⟨y1, y2⟩
    subst y1
    obtain ⟨d, e1, r1⟩ := y2 μ2 rm2 (hold i μ2 iv)
    have rsw : RepS K H3 μ2 (wiped δ own) (L2.wipe σ own) := (rs.mono (k1.trans k2)).wipe own
    refine sg x d _ H3 _ μ2 _ _ rm2 rsw r1 (hstep i d μ2 e1 iv) fun σ4 δ4 rs4 q4 w4 => ⟨(w4 own ho).trans wipe_wipe, ?_⟩
    refine hc σ4 H3 δ4 μ2 _ _ rm2 rs4 q4 fun b H5 μ5 k5 rm5 q5 => ?_
    cases b with
    | false => exact ⟨μ5, k2.trans k5, rm5, q5⟩
    | true =>
      rw [if_pos rfl] at q5 ⊢
      refine he σ4 H5 δ4 μ5 _ _ rm5 (rs4.mono k5) q5 fun v d6 H6 μ6 k6 rm6 r6 q6 => ?_
      obtain ⟨acc, ea, hl, iv6⟩ := q6
      obtain ⟨vs, h1, h2⟩ := rm6 D _ ea
      refine ⟨vs, h1, by rw [h2.length]; exact hl, _, k2.trans (k5.trans (k6.trans (Kp.write ea))), ?_, iv6⟩
      refine rm6.put (Kp.write ea) (fun a o n _ => upd_ne n) ⟨_, upd_same, ?_⟩
      exact (h2.append (RepL.cons r6 RepL.nil)).mono (Kp.write ea) _ _
  · rintro H2 ⟨μ2, k2, rm2, iv⟩
    obtain ⟨acc, ea, q3⟩ := hend μ2 iv
    obtain ⟨vs, h1, h2⟩ := rm2 D _ ea
    refine f (.ref D) (.lst acc) H2 (del μ2 D) (k1.trans (k2.trans Kp.drop)) rm2.drop ?_ q3
    unfold Rep
    exact ⟨D, vs, rfl, h1, del_same, h2.mono Kp.drop _ _⟩
theorem de_lcW {X : Cx} {elt tg iter : Expr} {ifs : List Expr} {scope : Scope} {own : List (Str × Nat)} {pos : Pos} {gl : GE} {g : TG} {gg : GG} {ow : List Nat} {gc : GT} {ge : GE} (hc : X.calm = true) (hN : X.N.Nodup) (hi : DE X iter gl) (ok : BlkOk X.N X.env.scope scope own)
    (hg : ∀ (s : Shared) (H : Hp) (C : Addr) (cl : List (Str × Addr)) (fp : List Addr), PG (X.blk s H scope (compEnvC scope cl C X.env) fp) tg g) (sg : SimG X.K g gg ow) (ht : ∀ (s : Shared) (H : Hp) (C : Addr) (cl : List (Str × Addr)) (fp : List Addr), DTs (X.blk s H scope (compEnvC scope cl C X.env) fp) ifs gc)
    (he : ∀ (s : Shared) (H : Hp) (C : Addr) (cl : List (Str × Addr)) (fp : List Addr), DE (X.blk s H scope (compEnvC scope cl C X.env) fp) elt ge) (ho : ∀ i ∈ ow, i ∈ own.map (·.2) := by decide) (hs : ∀ x, foldedSetIterable iter X.env x = pure x := by intro _; rfl) :
    DE X (.ListComp elt [⟨tg, iter, ifs, 0⟩] scope pos) (gLcW gl gg gc ge (own.map (·.2))) := by
  obtain ⟨ti, i1, i2⟩ := hi.ex
  exact ⟨_, pe_lc hc hN (pi_list i1) ok hg (fun s H C cl fp => (ht s H C cl fp).pt) (fun s H C cl fp => (he s H C cl fp).pe) hs, sim_lcW i2 sg ho simT_of sim_of⟩
theorem lcw_map {gt : GG} {ge : GE} {own : List Nat} {δ : DS} {R : KD} {c : Addr} {items : List D} {μ1 : Mu} (f : D → D) (ec : μ1 c = some (.lst items)) (hl : items.length < sizeLine)
    (hx : ∀ x ∈ items, ∀ (μ' : Mu) (Y : KD), (∀ b o, μ1 b = some o → μ' b = some o) → Y (f x) μ' → gt x (wiped δ own) fun δ2 => ge δ2 μ' Y) (hr : R (.lst (items.map f)) μ1) : LcW gt gYes ge own δ R c items μ1 := by
  refine ⟨fun a na => ?_⟩
  have ne : c ≠ a := fun z => by rw [z, na] at ec; cases ec
  refine ⟨fun i μ' => μ' = put μ1 a (.lst ((items.take i).map f)), rfl, fun i μ' e => by rw [e, put_ne ne]; exact ec, fun i x μ' hi e => ?_, fun μ' e => ?_⟩
  · subst e
    have ht := take_succ_get hi
    have hm : x ∈ items := List.mem_of_getElem? hi
    refine hx x hm _ _ (fun b o e => ?_) ?_
    · rw [put_ne (fun z => by rw [z, na] at e; cases e)]
      exact e
    · refine ⟨_, put_same, ?_, ?_⟩
      · have : ((items.take i).map f).length ≤ items.length := by
          rw [List.length_map, List.length_take]
          omega
        omega
      · show put (put μ1 a _) a _ = put μ1 a _
        rw [put_put, ht, List.map_append]
        rfl
  · subst e
    refine ⟨_, put_same, ?_⟩
    rw [del_put na, List.take_length]
    exact hr
end DL

set_option Elab.async false
set_option linter.all false
set_option maxRecDepth 100000
namespace K10
open PySem PySem.Spec PyProof.Rows L2 DL
section
variable {P : Program} {w : World} {K : PySem.W.Frag} {mg : Str → Option Value} {base : Heap} {A : Ad}

/-! ### rings between leanings -/
def g_check_leaning (C : Addr) : GC := fun ds μ R => ∃ (p : List Nat) (ts : List Str) (l : List Bool), ds = [dWeb C p ts, .str (lnS l)] ∧ l.length = ts.length ∧ ts.length ≤ 11 ∧ R .non μ
def kvW (kvs : List (Nat × List Nat)) : List (Key × D) := kvs.map fun p => (Sum.inr (sg p.1), .tup ((p.2.map Int.ofNat).map D.int))
def g_ways_along : GC := fun ds μ R => ∃ (ws : List Str) (h : Nat), ds = [.lst (ws.map D.str), .str (sg h)] ∧ (∀ w ∈ ws, IsWay w) ∧ ws.length ≤ 11 ∧
  ∀ (f : Addr) (kvs : List (Nat × List Nat)), μ f = none → Found (fun i => ends (ws.getD i Str.empty)) ws.length h kvs → (∀ w ∈ ws, (ends w).1 ∈ kvs.map (·.1) → (ends w).2 ∈ kvs.map (·.1)) → R (.adr f) (put μ f (.dct (kvW kvs)))

theorem kvW_val {v : Nat} : ∀ {kvs : List (Nat × List Nat)} {w : List Nat}, (kvs.map (·.1)).Nodup → (v, w) ∈ kvs → DL.valD (kvW kvs) (.inr (sg v)) = some (.tup ((w.map Int.ofNat).map D.int))
  | [], _, _, h => by cases h
  | (u, x) :: kvs, w, nd, h => by
    have nd := List.nodup_cons.mp nd
    unfold DL.valD
    show (List.find? _ ((Sum.inr (sg u), _) :: kvW kvs)).map _ = _
    rw [List.find?_cons]
    by_cases e : u = v
    · subst e
      rcases List.mem_cons.mp h with q | q
      · cases q
        simp
      · exact absurd (List.mem_map.mpr ⟨_, q, rfl⟩) nd.1
    · have ne : ¬ ((Sum.inr (sg u) : Key) = Sum.inr (sg v)) := fun z => e (sg_inj (Sum.inr.inj z))
      simp only [ne, decide_false]
      rcases List.mem_cons.mp h with q | q
      · cases q
        exact absurd rfl e
      · exact kvW_val nd.2 q
theorem kvW_none {v : Nat} : ∀ {kvs : List (Nat × List Nat)}, v ∉ kvs.map (·.1) → DL.valD (kvW kvs) (.inr (sg v)) = none
  | [], _ => rfl
  | (u, x) :: kvs, h => by
    rw [List.map_cons] at h
    have ne : ¬ ((Sum.inr (sg u) : Key) = Sum.inr (sg v)) := fun z => h (by rw [← sg_inj (Sum.inr.inj z)]; exact List.mem_cons_self)
    unfold DL.valD
    show (List.find? _ ((Sum.inr (sg u), _) :: kvW kvs)).map _ = _
    rw [List.find?_cons]
    simp only [ne, decide_false]
    exact kvW_none fun z => h (List.mem_cons_of_mem _ z)
theorem kvW_some {v : Nat} {kvs : List (Nat × List Nat)} (nd : (kvs.map (·.1)).Nodup) : (DL.valD (kvW kvs) (.inr (sg v))).isSome = decide (v ∈ kvs.map (·.1)) := by
  by_cases h : v ∈ kvs.map (·.1)
  · obtain ⟨⟨u, w⟩, hw, rfl⟩ := List.mem_map.mp h
    rw [kvW_val nd hw, decide_eq_true h]
    rfl
  · rw [kvW_none h, decide_eq_false h]
    rfl
theorem kvW_put {v : Nat} {w : List Nat} {kvs : List (Nat × List Nat)} (h : v ∉ kvs.map (·.1)) : DL.putD (kvW kvs) (.inr (sg v)) (.tup ((w.map Int.ofNat).map D.int)) = kvW (kvs ++ [(v, w)]) := by
  have e : ((kvW kvs).any fun kv => decide (kv.1 = Sum.inr (sg v))) = false := by
    rw [List.any_eq_false]
    intro x hx
    obtain ⟨y, hy, rfl⟩ := List.mem_map.mp hx
    rw [decide_eq_true_iff]
    exact fun z => h (by rw [← sg_inj (Sum.inr.inj z)]; exact List.mem_map.mpr ⟨y, hy, rfl⟩)
  unfold DL.putD
  rw [e, if_neg Bool.false_ne_true]
  unfold kvW
  rw [List.map_append]
  rfl
theorem Found.few {F : Nat → Nat × Nat} {n h : Nat} {kvs : List (Nat × List Nat)} (f : Found F n h kvs) : kvs.length ≤ n + 1 := by
  have l : (kvs.map (·.1)).length ≤ (h :: (List.range n).map fun i => (F i).2).length := f.nod.length_le_of_subset fun v hv => by
    obtain ⟨⟨u, w⟩, hw, rfl⟩ := List.mem_map.mp hv
    obtain ⟨r1, r2, _, _⟩ := f.way _ _ hw
    have : u ∈ h :: w.map fun i => (F i).2 := by
      rw [← r1.tails]
      exact List.mem_append_right _ (List.mem_singleton.mpr rfl)
    rcases List.mem_cons.mp this with e | e
    · rw [e]
      exact List.mem_cons_self
    · obtain ⟨i, hi, rfl⟩ := List.mem_map.mp e
      exact List.mem_cons_of_mem _ (List.mem_map.mpr ⟨i, List.mem_range.mpr (r2 i hi), rfl⟩)
  rw [List.length_map, List.length_cons, List.length_map, List.length_range] at l
  exact l
def N19 : List Str := ["web", "leaning", "sign"]
theorem sc19 : FnScope N19 ["web", "leaning"] (defScope (top 19)) := ⟨rfl, rfl, rfl, by decide +kernel, rfl, by decide +kernel, by decide +kernel⟩
theorem ok_check_leaning (T : Tx K mg A) : FnOk P w K mg base CX0 1 A.check_leaning A.fd_check_leaning ["web", "leaning"] (toSp K (g_check_leaning A.Web)) := by
  refine okD T.F_check_leaning sc19 (fun ds μ R h => ?_) ⟨_, fun cdv A0 outer s H E hr =>
    (dss_cons (ds_if (dw_or (dt_not (dt_val (de_isi (T := "str") (by rfl) T.z_isinstance (by rfl) T.z_str (by decide +kernel) (dv 1)))) (dw_or1 (dt_cmp (op_neA hr.units) sim_ne (de_callB cr_len sim_len (by rfl) T.z_len boot_len (da_cons (dv 1) da_nil)) (de_callB cr_len sim_len (by rfl) T.z_len boot_len (da_cons (de_fld T.k_Web T.n_ties (dv 0)) da_nil)) (nomark _)))).dt (dss_one ds_never) dss_nil)
      (dss_one (ds_if (dt_not (dt_val (de_callB (cr_all (by rfl)) sim_all (by rfl) T.z_all boot_all (da_cons (de_lc (own := [("sign", 2)]) (by rfl) sc19.nd (di_str (dv 1)) (blkOk_by (N := N19) (own := [("sign", 2)]) (sc := defScope (top 19)) (by decide +kernel)) (fun _ _ _ _ _ => (pg_name (i := 2) sc19.nd rfl (by first | exact Or.inl rfl | exact Or.inr rfl))) (sim_nm (i := 2)) (fun _ _ _ _ _ => dts_nil) (fun _ _ _ _ _ => (de_cmp op_inA sim_in (dv 2) (de_globS (by rfl) T.c_SIGNS.choose_spec) rfl))) da_nil)))) (dss_one ds_never) dss_nil))), fun ds μ R h => ?_⟩
  · obtain ⟨p, ts, l, rfl, _⟩ := h
    rfl
  · obtain ⟨p, ts, l, rfl, hl, few, h⟩ := h
    have zl : (lnS l).length = l.length := by show (toS (lnC l)).length = _; rw [toS_size, lnC_len]
    refine ⟨_, true, rfl, by decide +kernel, ?_⟩
    refine ⟨by rw [zl, sizeLine_eq]; omega, ?_⟩
    refine ⟨rfl, _, rfl, ?_⟩
    show if (!decide (((lnS l).length : Int) = ((ts.map D.str).length : Int))) = true then _ else _
    rw [decide_eq_true (show ((lnS l).length : Int) = ((ts.map D.str).length : Int) by rw [zl, List.length_map, hl])]
    show LcB _ _ _ _ _ _ (DL.signs (lnS l)) _
    unfold lnS
    rw [signs_chs]
    refine lcb_map (fun _ => .bl true) ?_ ?_ ?_
    · rw [chs_len, lnC_len, sizeLine_eq]
      omega
    · intro d hd ν Y _ hY
      obtain ⟨c, hc, rfl⟩ := chs_in hd
      obtain ⟨b, _, rfl⟩ := List.mem_map.mp hc
      refine ⟨_, rfl, ?_⟩
      have e : decide (sgn b ∈ ("+-" : Str).cps.toList) = true := by
        rw [two_signs_text, toS_list]
        cases b <;> decide
      show Y (.bl (decide (sgn b ∈ ("+-" : Str).cps.toList))) ν
      rw [e]
      exact hY
    · refine ⟨List.replicate (lnC l).length true, ?_, ?_⟩
      · rw [List.map_const', chs_len, List.map_replicate]
      · have e : (List.replicate (lnC l).length true).all id = true := by
          rw [List.all_eq_true]
          intro c hc
          rw [List.eq_of_mem_replicate hc]
          rfl
        show if (!(List.replicate (lnC l).length true).all id) = true then _ else _
        rw [e]
        exact h
def N26 : List Str := ["row", "start", "ways", "grown", "index", "arrow"]
theorem sc26 : FnScope N26 ["row", "start"] (defScope (top 26)) := ⟨rfl, rfl, rfl, by decide +kernel, rfl, by decide +kernel, by decide +kernel⟩
theorem ok_ways_along (T : Tx K mg A) : FnOk P w K mg base CX0 1 A.ways_along A.fd_ways_along ["row", "start"] (toSp K (g_ways_along)) := by
  refine okDF T.F_ways_along sc26 (fun ds μ R h => ?_) ⟨_, fun cdv A0 outer s H E hr =>
    (dss_cons (ds_set sc26.nd (i := 2) rfl (by first | exact Or.inl rfl | exact Or.inr rfl) (de_done (dv 1) (de_tup da_nil)))
      (dss_cons (ds_set sc26.nd (i := 3) rfl (by first | exact Or.inl rfl | exact Or.inr rfl) de_bl)
      (dss_cons (ds_while PassesOwn.never (dt_val (dv 3))
      (dss_cons (ds_set sc26.nd (i := 3) rfl (by first | exact Or.inl rfl | exact Or.inr rfl) de_bl)
      (dss_one (ds_for PassesOwn.never rfl (di_enumL (by rfl) T.z_enumerate (da_cons (dv 0) da_nil)) (pg_tup (n := 2) (by rfl) (pgs_cons (pg_name (i := 4) sc26.nd rfl (by first | exact Or.inl rfl | exact Or.inr rfl)) (pgs_cons (pg_name (i := 5) sc26.nd rfl (by first | exact Or.inl rfl | exact Or.inr rfl)) pgs_nil))) (sim_tupT (n := 2) (sim_consT (sim_nm (i := 4)) (sim_consT (sim_nm (i := 5)) sim_nilT)))
      (dss_one (ds_if (dw_and (dt_din (hu_of hr) (de_ix ix_any sim_ix (dv 5) de_int (fun _ _ => rfl)) (dv 2)) (dw_and1 (dt_dnotin (hu_of hr) (de_ix ix_any sim_ix (dv 5) de_int (fun _ _ => rfl)) (dv 2)))).dt (dss_cons (ds_asgH (de_op op_plus sim_plus (de_dget (hu_of hr) (dv 2) (de_ix ix_any sim_ix (dv 5) de_int (fun _ _ => rfl)) (fun _ _ => rfl)) (de_tup (da_cons (dv 4) da_nil))) (pg_subDD (hu_of hr) (dv 2) (de_ix ix_any sim_ix (dv 5) de_int (fun _ _ => rfl))) simH_subDD)
      (dss_one (ds_set sc26.nd (i := 3) rfl (by first | exact Or.inl rfl | exact Or.inr rfl) de_bl))) dss_nil))))))
      (dss_one (ds_ret (dv 2)))))), fun ds μ R h => ?_⟩
  · obtain ⟨ws, h0, rfl, _⟩ := h
    rfl
  · obtain ⟨ws, h0, rfl, hw, few, h⟩ := h
    have z0 : 0 ≤ sizeLine := by decide
    have two : ∀ a b : Nat, (yTie a b).length ≤ sizeLine := fun a b => by show 2 ≤ sizeLine; decide
    have lw : (ws.map D.str).length = ws.length := List.length_map _
    refine fun f nf => ?_
    refine ⟨z0, .inr (sg h0), rfl, put_same, ?_⟩
    rw [put_put]
    have sf := Found.start (F := fun i => ends (ws.getD i Str.empty)) (n := ws.length) (h := h0)
    refine ⟨fun m δ' μ' => ∃ (kvs : List (Nat × List Nat)) (g : Bool) (o4 o5 : Option D), Found (fun i => ends (ws.getD i Str.empty)) ws.length h0 kvs ∧ (g = false → ∀ w ∈ ws, (ends w).1 ∈ kvs.map (·.1) → (ends w).2 ∈ kvs.map (·.1)) ∧ μ' = put μ f (.dct (kvW kvs)) ∧
      m = 2 * (ws.length + 2 - kvs.length) + (if g then 1 else 0) ∧ δ' = [some (.lst (ws.map D.str)), some (.str (sg h0)), some (.adr f), some (.bl g), o4, o5], ⟨_, [(h0, [])], true, none, none, sf, (fun e => by cases e), rfl, rfl, rfl⟩, ?_⟩
    rintro m δ' μ' ⟨kvs, g, o4, o5, fd, cl, rfl, rfl, rfl⟩
    refine if_case (c := g) (fun eg => ?_) (fun eg => ?_)
    · subst eg
      refine ⟨fun i δ' μ' => ∃ (kvs' : List (Nat × List Nat)) (g : Bool) (o4 o5 : Option D), Found (fun i => ends (ws.getD i Str.empty)) ws.length h0 kvs' ∧ kvs.length ≤ kvs'.length ∧ (g = true → kvs.length < kvs'.length) ∧ (g = false → ∀ (j : Nat) (w : Str), j < i → ws[j]? = some w → (ends w).1 ∈ kvs'.map (·.1) → (ends w).2 ∈ kvs'.map (·.1)) ∧
        μ' = put μ f (.dct (kvW kvs')) ∧ δ' = [some (.lst (ws.map D.str)), some (.str (sg h0)), some (.adr f), some (.bl g), o4, o5], ⟨kvs, false, o4, o5, fd, Nat.le_refl _, (fun e => by cases e), (fun _ j w hj => absurd hj (Nat.not_lt_zero _)), rfl, rfl⟩, ?_, ?_⟩
      · rintro i x δ' μ' hx ⟨kvs', g, o4, o5, fd, le, gr, cl, rfl, rfl⟩
        obtain ⟨d, hd, rfl⟩ := numbered_at hx
        rw [List.getElem?_map] at hd
        obtain ⟨w, hi, rfl⟩ : ∃ w, ws[i]? = some w ∧ d = .str w := by
          cases q : ws[i]? with
          | none => rw [q] at hd; cases hd
          | some w => rw [q] at hd; exact ⟨w, rfl, (Option.some.inj hd).symm⟩
        have il := (List.getElem?_eq_some_iff.mp hi).1
        obtain ⟨a, b, rfl⟩ := hw w (List.mem_of_getElem? hi)
        have eF : ends (ws.getD i Str.empty) = (a, b) := by
          rw [List.getD_eq_getElem?_getD, hi]
          rfl
        refine ⟨rfl, two a b, kvW kvs', .inr (sg a), put_same, rfl, ?_⟩
        show if (DL.valD (kvW kvs') (.inr (sg a))).isSome = true then _ else _
        rw [kvW_some fd.nod]
        refine if_case (c := decide (a ∈ kvs'.map (·.1))) (fun ea => ?_) (fun ea => ?_)
        · have ea := of_decide_eq_true ea
          refine ⟨two a b, kvW kvs', .inr (sg b), put_same, rfl, ?_⟩
          show if (!(DL.valD (kvW kvs') (.inr (sg b))).isSome) = true then _ else _
          rw [kvW_some fd.nod]
          refine if_case (c := !decide (b ∈ kvs'.map (·.1))) (fun eb => ?_) (fun eb => ?_)
          · have eb : b ∉ kvs'.map (·.1) := fun z => by rw [decide_eq_true z] at eb; cases eb
            obtain ⟨⟨u, wy⟩, hwy, rfl⟩ := List.mem_map.mp ea
            have fw := fd.few
            have lwy : wy.length ≤ 20 := by
              obtain ⟨r1, r2, r3, _⟩ := fd.way _ _ hwy
              have := (List.nodup_cons.mp r3).2
              have l : (wy.map fun i => (ends (ws.getD i Str.empty)).2).length ≤ (kvs'.map (·.1)).length := this.length_le_of_subset fun z hz => (fd.way _ _ hwy).2.2.2 z (List.mem_cons_of_mem _ hz)
              rw [List.length_map, List.length_map] at l
              omega
            refine ⟨two u b, kvW kvs', .inr (sg u), _, put_same, rfl, kvW_val fd.nod hwy, ?_⟩
            refine ⟨by show 1 ≤ sizeLine; decide, ?_⟩
            refine ⟨by show ((wy.map Int.ofNat).map D.int).length + 1 ≤ sizeLine; rw [List.length_map, List.length_map, sizeLine_eq]; omega, ?_⟩
            refine ⟨two u b, kvW kvs', .inr (sg b), put_same, rfl, by unfold kvW; rw [List.length_map, sizeLine_eq]; omega, ?_⟩
            have ew : D.tup ((wy.map Int.ofNat).map D.int ++ [.int (i : Nat)]) = .tup (((wy ++ [i]).map Int.ofNat).map D.int) := by rw [List.map_append, List.map_append]; rfl
            have kp := kvW_put (w := wy ++ [i]) eb
            rw [← ew] at kp
            rw [put_put, kp]
            have fd2 := fd.add (i := i) (w := wy) il (by rw [eF]; exact hwy) (by rw [eF]; exact eb)
            rw [eF] at fd2
            refine ⟨kvs' ++ [(b, wy ++ [i])], true, _, _, fd2, by rw [List.length_append]; omega, fun _ => by rw [List.length_append]; show _ < _ + 1; omega, (fun e => by cases e), rfl, rfl⟩
          · have eb : b ∈ kvs'.map (·.1) := Decidable.by_contra fun z => by rw [decide_eq_false z] at eb; cases eb
            refine ⟨kvs', g, _, _, fd, le, gr, fun eg j w hj hw' => ?_, rfl, rfl⟩
            rcases Nat.lt_or_eq_of_le (Nat.le_of_lt_succ hj) with q | q
            · exact cl eg j w q hw'
            · subst q
              rw [hi] at hw'
              cases hw'
              exact fun _ => eb
        · have ea := of_decide_eq_false ea
          refine ⟨kvs', g, _, _, fd, le, gr, fun eg j w hj hw' => ?_, rfl, rfl⟩
          rcases Nat.lt_or_eq_of_le (Nat.le_of_lt_succ hj) with q | q
          · exact cl eg j w q hw'
          · subst q
            rw [hi] at hw'
            cases hw'
            exact fun z => absurd z ea
      · rintro δ' μ' ⟨kvs', g, o4, o5, fd', le, gr, cl, rfl, rfl⟩
        have nl : (DL.numbered (ws.map D.str)).length = ws.length := by simp [DL.numbered]
        rw [nl] at cl
        have fw := fd.few
        have fw' := fd'.few
        refine ⟨2 * (ws.length + 2 - kvs'.length) + (if g then 1 else 0), ?_, kvs', g, o4, o5, fd', fun eg w hw' => ?_, rfl, rfl, rfl⟩
        · cases g with
          | false =>
            show 2 * (ws.length + 2 - kvs'.length) + 0 < 2 * (ws.length + 2 - kvs.length) + 1
            omega
          | true =>
            have := gr rfl
            show 2 * (ws.length + 2 - kvs'.length) + 1 < 2 * (ws.length + 2 - kvs.length) + 1
            omega
        · obtain ⟨j, hj, e⟩ := List.getElem_of_mem hw'
          exact cl eg j w hj (by rw [List.getElem?_eq_getElem hj, e])
    · subst eg
      exact ⟨_, _, .refl, h f kvs nf fd (cl rfl)⟩
end
end K10

set_option Elab.async false
set_option linter.all false
set_option maxRecDepth 100000
namespace K10
open PySem PySem.Spec PyProof.Rows L2 DL
section
variable {P : Program} {w : World} {K : PySem.W.Frag} {mg : Str → Option Value} {base : Heap} {A : Ad}

/-- the arrows of a leaning, by their ties -/
def arrE (ts : List Str) (l : List Bool) (i : Nat) : Nat × Nat := ends ((waysL ts l).getD i Str.empty)
def dIdx (r : List Nat) : List D := (r.map Int.ofNat).map D.int
def g_ring_among : GC := fun ds μ R => ∃ (p : List Nat) (ts : List Str) (l : List Bool) (left : List Nat), ds = [.tup ((waysL ts l).map D.str), .lst (dIdx left)] ∧ OkPlaces p ∧ OkT p ts ∧ l.length = ts.length ∧ ts.length ≤ 11 ∧ left ≠ [] ∧ left.Nodup ∧ (∀ i ∈ left, i < ts.length) ∧ Bal (arrE ts l) left ∧
  ∀ (r c : List Nat), r.Pairwise (· < ·) → Cyc (arrE ts l) c → r.Perm c → (∀ x ∈ r, x ∈ left) → R (.tup (dIdx r)) μ
/-- lots of a leaning's rounds, apart, all of D -/
structure Rings (E : Nat → Nat × Nat) (lots : List (List Nat)) : Prop where
  each : ∀ r ∈ lots, r.Pairwise (· < ·) ∧ ∃ c, Cyc E c ∧ r.Perm c
  nod : lots.flatten.Nodup
/-- where two leanings differ -/
def diffL (n : Nat) (l m : List Bool) : List Nat := (List.range n).filter fun i => decide (l.getD i true ≠ m.getD i true)
def g_turning_rings (C : Addr) : GC := fun ds μ R => ∃ (p : List Nat) (ts : List Str) (l m : List Bool), ds = [dWeb C p ts, .str (lnS l), .str (lnS m)] ∧ OkPlaces p ∧ OkT p ts ∧ l.length = ts.length ∧ m.length = ts.length ∧ ts.length ≤ 11 ∧
  (rowL p ts l ≠ rowL p ts m → R .non μ) ∧ (rowL p ts l = rowL p ts m → ∀ lots : List (List Nat), Rings (arrE ts l) lots → lots.flatten.Perm (diffL ts.length l m) → R (.tup (lots.map fun r => .tup (dIdx r))) μ)

theorem way_at {p : List Nat} {ts : List Str} {l : List Bool} (ot : OkT p ts) (hl : l.length = ts.length) {i : Nat} (hi : i < ts.length) : ∃ a b, (waysL ts l)[i]? = some (yTie a b) ∧ a ∈ p ∧ b ∈ p ∧ arrE ts l i = (a, b) ∧ ts[i]? = some (yTie (if l.getD i true then a else b) (if l.getD i true then b else a)) := by
  have h1 : ts[i]? = some ts[i] := List.getElem?_eq_getElem hi
  have h2 : l[i]? = some l[i] := List.getElem?_eq_getElem (by omega)
  obtain ⟨a, b, e, ha, hb, _⟩ := ot.ties ts[i] (List.getElem_mem hi)
  have hw : (waysL ts l)[i]? = some (wayS (yTie a b) l[i]) := by
    unfold waysL
    rw [List.getElem?_zipWith, h1, h2, e]
  have gl : l.getD i true = l[i] := by rw [List.getD_eq_getElem?_getD, h2]; rfl
  have eE : arrE ts l i = ends (wayS (yTie a b) l[i]) := by
    unfold arrE
    rw [List.getD_eq_getElem?_getD, hw]
    rfl
  rw [eE, hw, gl, h1, e]
  cases l[i] with
  | true => exact ⟨a, b, rfl, ha, hb, rfl, rfl⟩
  | false => exact ⟨b, a, rfl, hb, ha, rfl, rfl⟩
theorem low_tie {p : List Nat} (op : OkPlaces p) {a b : Nat} (ha : a ∈ p) (hb : b ∈ p) : (yTie a b).cps.all (· < 128) = true := by
  have h1 := (op.sign a ha).2
  have h2 := (op.sign b hb).2
  show (#[a, b] : Array Nat).all (fun x => decide (x < 128)) = true
  simp
  omega
theorem dIdx_len (r : List Nat) : (dIdx r).length = r.length := by unfold dIdx; rw [List.length_map, List.length_map]
theorem dIdx_at {r : List Nat} {i k : Nat} (h : r[i]? = some k) : (dIdx r)[i]? = some (.int (k : Nat)) := by
  unfold dIdx
  rw [List.getElem?_map, List.getElem?_map, h]
  rfl
theorem dIdx_mem {r : List Nat} {d : D} (h : d ∈ dIdx r) : ∃ k ∈ r, d = .int (k : Nat) := by
  obtain ⟨i, hi, rfl⟩ := List.mem_map.mp h
  obtain ⟨k, hk, rfl⟩ := List.mem_map.mp hi
  exact ⟨k, hk, rfl⟩
theorem flat_len {lots : List (List Nat)} (h : ∀ r ∈ lots, r ≠ []) : lots.length ≤ lots.flatten.length := by
  induction lots with
  | nil => exact Nat.le_refl _
  | cons r lots ih =>
    have ih := ih fun x hx => h x (List.mem_cons_of_mem _ hx)
    have : 0 < r.length := List.length_pos_iff.mpr (h r List.mem_cons_self)
    rw [List.flatten_cons, List.length_append, List.length_cons]
    omega
/-- as many arrows start as end, where two leanings with one row differ -/
theorem diff_bal {p : List Nat} {ts : List Str} {l m : List Bool} (ot : OkT p ts) (hl : l.length = ts.length) (hm : m.length = ts.length) (e : rowL p ts l = rowL p ts m) : Bal (arrE ts l) (diffL ts.length l m) := by
  have tl : ∀ {l : List Bool}, l.length = ts.length → tailsL ts l = (List.range ts.length).map fun i => (arrE ts l i).1 := fun {l} hl => by
    rw [← ways_first ot]
    apply List.ext_getElem?
    intro i
    rw [List.getElem?_map, List.getElem?_map]
    by_cases hi : i < ts.length
    · obtain ⟨a, b, hw, _, _, eE, _⟩ := way_at ot hl hi
      rw [hw, List.getElem?_range hi]
      show some (ends (yTie a b)).1 = some (arrE ts l i).1
      rw [eE]
      rfl
    · have lw : (waysL ts l).length = ts.length := by
        unfold waysL
        rw [List.length_zipWith]
        omega
      rw [List.getElem?_eq_none (by omega), List.getElem?_eq_none (by rw [List.length_range]; omega)]
      rfl
  have cnt : ∀ (c : Nat) (l : List Nat), cntI c l = (l.count c : Nat) := fun c l => by
    unfold cntI
    rw [List.count_eq_length_filter]
    congr 2
  have inp : ∀ {l : List Bool}, l.length = ts.length → ∀ c ∈ tailsL ts l, c ∈ p := fun {l} hl c hc => by
    rw [tl hl] at hc
    obtain ⟨i, hi, rfl⟩ := List.mem_map.mp hc
    obtain ⟨a, b, _, ha, _, eE, _⟩ := way_at ot hl (List.mem_range.mp hi)
    rw [eE]
    exact ha
  have pm : (tailsL ts l).Perm (tailsL ts m) := List.perm_iff_count.mpr fun c => by
    by_cases hc : c ∈ p
    · unfold rowL at e
      have := List.map_inj_left.mp e c hc
      rw [cnt, cnt] at this
      omega
    · rw [List.count_eq_zero.mpr fun z => hc (inp hl c z), List.count_eq_zero.mpr fun z => hc (inp hm c z)]
  rw [tl hl, tl hm] at pm
  have sp : (List.range ts.length).Perm (diffL ts.length l m ++ (List.range ts.length).filter fun i => !decide (l.getD i true ≠ m.getD i true)) := (List.filter_append_perm _ _).symm
  have q := ((sp.map _).symm.trans pm).trans (sp.map _)
  rw [List.map_append, List.map_append] at q
  have s1 : ((List.range ts.length).filter fun i => !decide (l.getD i true ≠ m.getD i true)).map (fun i => (arrE ts l i).1) = ((List.range ts.length).filter fun i => !decide (l.getD i true ≠ m.getD i true)).map (fun i => (arrE ts m i).1) := by
    refine List.map_congr_left fun i hi => ?_
    have := (List.mem_filter.mp hi).2
    have e2 : l.getD i true = m.getD i true := Decidable.by_contra fun z => by rw [decide_eq_true z] at this; cases this
    have lt := List.mem_range.mp (List.mem_filter.mp hi).1
    obtain ⟨a, b, _, _, _, e3, e4⟩ := way_at ot hl lt
    obtain ⟨c, d, _, _, _, e5, e6⟩ := way_at ot hm lt
    rw [e4, e2] at e6
    have e6 := Option.some.inj e6
    have e7 := congrArg ends e6
    rw [e3, e5]
    revert e7
    cases m.getD i true
    · exact fun e7 => congrArg Prod.snd e7
    · exact fun e7 => congrArg Prod.fst e7
  have s2 : (diffL ts.length l m).map (fun i => (arrE ts m i).1) = (diffL ts.length l m).map (fun i => (arrE ts l i).2) := by
    refine List.map_congr_left fun i hi => ?_
    have ne := of_decide_eq_true (List.mem_filter.mp hi).2
    have lt := List.mem_range.mp (List.mem_filter.mp hi).1
    obtain ⟨a, b, _, _, _, e3, e4⟩ := way_at ot hl lt
    obtain ⟨c, d, _, _, _, e5, e6⟩ := way_at ot hm lt
    rw [e4] at e6
    have e6 := Option.some.inj e6
    have e7 := congrArg ends e6
    rw [e3, e5]
    revert e7 ne
    cases l.getD i true <;> cases m.getD i true
    · exact fun ne => absurd rfl ne
    · exact fun _ e7 => (congrArg Prod.fst e7).symm
    · exact fun _ e7 => (congrArg Prod.snd e7).symm
    · exact fun ne => absurd rfl ne
  rw [s1, s2] at q
  exact (List.perm_append_right_iff _).mp q
def N29 : List Str := ["arrows", "indexes", "first", "tail", "head", "way", "index", "at"]
theorem sc29 : FnScope N29 ["arrows", "indexes"] (defScope (top 29)) := ⟨rfl, rfl, rfl, by decide +kernel, rfl, by decide +kernel, by decide +kernel⟩
theorem ok_ring_among (T : Tx K mg A) : FnOk P w K mg base CX0 2 A.ring_among A.fd_ring_among ["arrows", "indexes"] (toSp K (g_ring_among)) := by
  refine okDF T.F_ring_among sc29 (fun ds μ R h => ?_) ⟨_, fun cdv A0 outer s H E hr =>
    (dss_cons (ds_set sc29.nd (i := 2) rfl (by first | exact Or.inl rfl | exact Or.inr rfl) (de_ix ix_any sim_ix (dv 1) de_int (fun _ _ => rfl)))
      (dss_cons (ds_asg (de_ix ix_any sim_ix (dv 0) (dv 2) (fun _ _ => rfl)) (pg_unp (i := 3) (j := 4) (by rfl) sc29.nd rfl rfl rfl rfl) sim_unp)
      (dss_cons (ds_set sc29.nd (i := 5) rfl (by first | exact Or.inl rfl | exact Or.inr rfl) (de_dget (hu_of hr) (de_call ((ok_ways_along T).mono (by decide)) hr (by rfl) T.g_ways_along T.F_ways_along.kp T.b_ways_along (da_cons (de_lc (own := [("index", 6)]) (by rfl) sc29.nd (di_both (dv 1)) (blkOk_by (N := N29) (own := [("index", 6)]) (sc := defScope (top 29)) (by decide +kernel)) (fun _ _ _ _ _ => (pg_name (i := 6) sc29.nd rfl (by first | exact Or.inl rfl | exact Or.inr rfl))) (sim_nm (i := 6)) (fun _ _ _ _ _ => dts_nil) (fun _ _ _ _ _ => (de_ix ix_any sim_ix (dv 0) (dv 6) (fun _ _ => rfl)))) (da_cons (dv 4) da_nil))) (dv 3) (fun _ _ => rfl)))
      (dss_one (ds_ret (de_callTy call_tuple_of sim_tuple (by rfl) T.z_tuple boot_tuple (da_cons (de_callB cr_sorted sim_sortedI (by rfl) T.z_sorted boot_sorted (da_cons (de_op op_plus sim_plus (de_lst (da_cons (dv 2) da_nil)) (de_lc (own := [("at", 7)]) (by rfl) sc29.nd (di_both (dv 5)) (blkOk_by (N := N29) (own := [("at", 7)]) (sc := defScope (top 29)) (by decide +kernel)) (fun _ _ _ _ _ => (pg_name (i := 7) sc29.nd rfl (by first | exact Or.inl rfl | exact Or.inr rfl))) (sim_nm (i := 7)) (fun _ _ _ _ _ => dts_nil) (fun _ _ _ _ _ => (de_ix ix_any sim_ix (dv 1) (dv 7) (fun _ _ => rfl))))) da_nil)) da_nil))))))), fun ds μ R h => ?_⟩
  · obtain ⟨p, ts, l, left, rfl, _⟩ := h
    rfl
  · obtain ⟨p, ts, l, left, rfl, op, ot, hl, few, ne, nod, lt, bal, h⟩ := h
    obtain ⟨i0, rest, rfl⟩ : ∃ i0 rest, left = i0 :: rest := by
      cases left with
      | nil => exact absurd rfl ne
      | cons a r => exact ⟨a, r, rfl⟩
    have lw : (waysL ts l).length = ts.length := by
      unfold waysL
      rw [List.length_zipWith]
      omega
    have ll : (i0 :: rest).length ≤ 11 := by
      have : (i0 :: rest).length ≤ (List.range ts.length).length := nod.length_le_of_subset fun x hx => List.mem_range.mpr (lt x hx)
      rw [List.length_range] at this
      omega
    have wat : ∀ {i : Nat} {w : Str}, (waysL ts l)[i]? = some w → ((waysL ts l).map D.str)[i]? = some (.str w) := fun {i w} h => by rw [List.getElem?_map, h]; rfl
    obtain ⟨a, b, hw0, ha, hb, eE, _⟩ := way_at ot hl (lt i0 List.mem_cons_self)
    refine atK_nat (dIdx_at (r := i0 :: rest) (i := 0) rfl) ?_
    refine atK_nat (wat hw0) ?_
    refine ⟨a, b, rfl, low_tie op ha hb, ?_⟩
    show LcB _ _ _ _ _ _ _ _
    refine lcb_map (fun d => match d with | .int i => .str ((waysL ts l).getD i.toNat Str.empty) | d => d) ?_ ?_ ?_
    · rw [dIdx_len, sizeLine_eq]
      omega
    · intro d hd ν Y _ hY
      obtain ⟨k, hk, rfl⟩ := dIdx_mem hd
      obtain ⟨c, e, hwk, _⟩ := way_at ot hl (lt k hk)
      have hY : Y (.str ((waysL ts l).getD k Str.empty)) ν := hY
      rw [List.getD_eq_getElem?_getD, hwk] at hY
      exact atK_nat (wat hwk) hY
    have e1 : (dIdx (i0 :: rest)).map (fun d => match d with | .int i => D.str ((waysL ts l).getD i.toNat Str.empty) | d => d) = ((i0 :: rest).map fun i => (waysL ts l).getD i Str.empty).map D.str := by
      unfold dIdx
      rw [List.map_map, List.map_map, List.map_map]
      rfl
    rw [e1]
    have isw : ∀ w ∈ (i0 :: rest).map fun i => (waysL ts l).getD i Str.empty, IsWay w := fun w hw => by
      obtain ⟨i, hi, rfl⟩ := List.mem_map.mp hw
      obtain ⟨c, e, hwk, _⟩ := way_at ot hl (lt i hi)
      rw [List.getD_eq_getElem?_getD, hwk]
      exact ⟨c, e, rfl⟩
    refine ⟨_, b, rfl, isw, by rw [List.length_map]; omega, fun f kvs nf fd cl => ?_⟩
    have hF : ∀ i, i < (i0 :: rest).length → ends (((i0 :: rest).map fun i => (waysL ts l).getD i Str.empty).getD i Str.empty) = arrE ts l ((i0 :: rest).getD i 0) := fun i hi => by
      rw [List.getD_eq_getElem?_getD, List.getElem?_map, List.getD_eq_getElem?_getD (l := i0 :: rest), List.getElem?_eq_getElem hi]
      rfl
    rw [List.length_map] at fd
    have back := bal.back (K := kvs.map (·.1)) fun i hi h1 => cl _ (List.mem_map.mpr ⟨i, hi, rfl⟩) h1
    have hin : a ∈ kvs.map (·.1) := by
      have := back i0 List.mem_cons_self (by rw [eE]; exact fd.has)
      rw [eE] at this
      exact this
    obtain ⟨⟨u, w⟩, huw, rfl⟩ := List.mem_map.mp hin
    refine ⟨kvW kvs, .inr (sg u), _, put_same, rfl, kvW_val fd.nod huw, ?_⟩
    have fd' : Found (fun i => ends (((i0 :: rest).map fun i => (waysL ts l).getD i Str.empty).getD i Str.empty)) (i0 :: rest).length (arrE ts l i0).2 kvs := by rw [eE]; exact fd
    obtain ⟨cyc, sub⟩ := fd'.cyc (E := arrE ts l) (i0 := i0) (w := w) (g := fun i => (i0 :: rest).getD i 0) (fun i hi => by
      rw [List.getD_eq_getElem?_getD, List.getElem?_eq_getElem hi]
      rfl) hF (by rw [eE]; exact huw)
    have wn := (fd.way _ _ huw).2.1
    have cl11 : (i0 :: w.map fun i => (i0 :: rest).getD i 0).length ≤ 11 := by
      have : (i0 :: w.map fun i => (i0 :: rest).getD i 0).length ≤ (i0 :: rest).length := (nodup_of_tails cyc.nod).length_le_of_subset fun x hx => by
        rcases List.mem_cons.mp hx with e | e
        · rw [e]; exact List.mem_cons_self
        · exact sub x e
      omega
    have lwm : (w.map fun i => (i0 :: rest).getD i 0).length = w.length := List.length_map _
    rw [List.length_cons, lwm] at cl11
    refine ⟨by show 1 ≤ sizeLine; decide, ?_⟩
    show LcB _ _ _ _ _ _ (dIdx w) _
    refine lcb_map (fun d => match d with | .int i => .int (((i0 :: rest).getD i.toNat 0 : Nat) : Int) | d => d) ?_ ?_ ?_
    · rw [dIdx_len, sizeLine_eq]
      omega
    · intro d hd ν Y _ hY
      obtain ⟨k, hk, rfl⟩ := dIdx_mem hd
      have hY : Y (.int (((i0 :: rest).getD k 0 : Nat) : Int)) ν := hY
      have hk := wn k hk
      have hat : (i0 :: rest)[k]? = some ((i0 :: rest).getD k 0) := by rw [List.getD_eq_getElem?_getD, List.getElem?_eq_getElem hk]; rfl
      exact atK_nat (dIdx_at hat) hY
    have e2 : (dIdx w).map (fun d => match d with | .int i => D.int (((i0 :: rest).getD i.toNat 0 : Nat) : Int) | d => d) = dIdx (w.map fun i => (i0 :: rest).getD i 0) := by
      unfold dIdx
      rw [List.map_map, List.map_map, List.map_map, List.map_map]
      rfl
    rw [e2]
    refine ⟨by rw [dIdx_len, lwm, sizeLine_eq]; show 1 + _ ≤ _; omega, ?_⟩
    refine ⟨((i0 :: w.map fun i => (i0 :: rest).getD i 0)).map Int.ofNat, rfl, by rw [List.length_map, List.length_cons, lwm]; omega, fun ns' pm asc => ?_⟩
    obtain ⟨r, pr, rfl⟩ := perm_back pm
    have rn : r.Nodup := pr.nodup_iff.mpr (nodup_of_tails cyc.nod)
    have asc2 : r.Pairwise (· < ·) := by
      rw [List.pairwise_map] at asc
      refine (asc.and rn).imp fun {x y} ⟨h1, h2⟩ => ?_
      have h1 : (x : Int) ≤ (y : Int) := h1
      omega
    refine ⟨_, μ, .less fun c o e => ?_, h r _ asc2 cyc pr fun x hx => ?_⟩
    · rw [put_ne (fun z => by rw [z, nf] at e; cases e)]
      exact e
    · rcases List.mem_cons.mp (pr.subset hx) with e | e
      · rw [e]; exact List.mem_cons_self
      · exact sub x e
def N30 : List Str := ["web", "leaning", "other_leaning", "arrows", "left", "lots", "ring", "index"]
theorem sc30 : FnScope N30 ["web", "leaning", "other_leaning"] (defScope (top 30)) := ⟨rfl, rfl, rfl, by decide +kernel, rfl, by decide +kernel, by decide +kernel⟩
theorem ok_turning_rings (T : Tx K mg A) : FnOk P w K mg base CX0 7 A.turning_rings A.fd_turning_rings ["web", "leaning", "other_leaning"] (toSp K (g_turning_rings A.Web)) := by
  refine okDF T.F_turning_rings sc30 (fun ds μ R h => ?_) ⟨_, fun cdv A0 outer s H E hr =>
    (dss_cons (ds_expr (de_call ((ok_check_web T).mono (by decide)) hr (by rfl) T.g_check_web T.F_check_web.kp T.b_check_web (da_cons (dv 0) da_nil)))
      (dss_cons (ds_expr (de_call ((ok_check_leaning T).mono (by decide)) hr (by rfl) T.g_check_leaning T.F_check_leaning.kp T.b_check_leaning (da_cons (dv 0) (da_cons (dv 1) da_nil))))
      (dss_cons (ds_expr (de_call ((ok_check_leaning T).mono (by decide)) hr (by rfl) T.g_check_leaning T.F_check_leaning.kp T.b_check_leaning (da_cons (dv 0) (da_cons (dv 2) da_nil))))
      (dss_cons (ds_if (dt_cmp (op_neA hr.units) sim_ne (de_call ((ok_score_of T).mono (by decide)) hr (by rfl) T.g_score_of T.F_score_of.kp T.b_score_of (da_cons (dv 0) (da_cons (dv 1) da_nil))) (de_call ((ok_score_of T).mono (by decide)) hr (by rfl) T.g_score_of T.F_score_of.kp T.b_score_of (da_cons (dv 0) (da_cons (dv 2) da_nil))) (nomark _)) (dss_one (ds_ret de_non)) dss_nil)
      (dss_cons (ds_set sc30.nd (i := 3) rfl (by first | exact Or.inl rfl | exact Or.inr rfl) (de_call ((ok_arrows_of T).mono (by decide)) hr (by rfl) T.g_arrows_of T.F_arrows_of.kp T.b_arrows_of (da_cons (dv 0) (da_cons (dv 1) da_nil))))
      (dss_cons (ds_setLc (i := 4) (own := [("index", 7)]) (by rfl) sc30.nd rfl rfl (sw_true rfl rfl rfl (by decide +kernel)) (di_range (by rfl) T.z_range (da_cons (de_callB cr_len sim_len (by rfl) T.z_len boot_len (da_cons (de_fld T.k_Web T.n_ties (dv 0)) da_nil)) da_nil)) (blkOk_by (N := N30) (own := [("index", 7)]) (sc := defScope (top 30)) (by decide +kernel)) (fun _ _ _ _ _ => (pg_name (i := 7) sc30.nd rfl (by first | exact Or.inl rfl | exact Or.inr rfl))) (sim_nm (i := 7)) (fun _ _ _ _ _ => (dts_one (dt_cmp (op_neA hr.units) sim_ne (de_ix ix_any sim_ix (dv 1) (dv 7) (fun _ _ => rfl)) (de_ix ix_any sim_ix (dv 2) (dv 7) (fun _ _ => rfl)) (nomark _)))) (fun _ _ _ _ _ => (dv 7)))
      (dss_cons (ds_set sc30.nd (i := 5) rfl (by first | exact Or.inl rfl | exact Or.inr rfl) (de_cell da_nil))
      (dss_cons (ds_while PassesOwn.never (dt_tru (dv 4))
      (dss_cons (ds_set sc30.nd (i := 6) rfl (by first | exact Or.inl rfl | exact Or.inr rfl) (de_call ((ok_ring_among T).mono (by decide)) hr (by rfl) T.g_ring_among T.F_ring_among.kp T.b_ring_among (da_cons (dv 3) (da_cons (dv 4) da_nil))))
      (dss_cons (ds_expr (de_bm PySem.F.plainAttrs_list PySem.F.slot_list_append PySem.F.type_list_append mt_append sim_append ok_cell (dv 5) (da_cons (dv 6) da_nil)))
      (dss_one (ds_setLc (i := 4) (own := [("index", 7)]) (by rfl) sc30.nd rfl rfl (sw_true rfl rfl rfl (by decide +kernel)) (di_both (dv 4)) (blkOk_by (N := N30) (own := [("index", 7)]) (sc := defScope (top 30)) (by decide +kernel)) (fun _ _ _ _ _ => (pg_name (i := 7) sc30.nd rfl (by first | exact Or.inl rfl | exact Or.inr rfl))) (sim_nm (i := 7)) (fun _ _ _ _ _ => (dts_one (dt_cmp op_notInA sim_notIn (dv 7) (dv 6) rfl))) (fun _ _ _ _ _ => (dv 7)))))))
      (dss_one (ds_ret (de_callTy call_tuple_of sim_tupC (by rfl) T.z_tuple boot_tuple (da_cons (dv 5) da_nil)))))))))))), fun ds μ R h => ?_⟩
  · obtain ⟨p, ts, l, m, rfl, _⟩ := h
    rfl
  · obtain ⟨p, ts, l, m, rfl, op, ot, hl, hm, few, h1, h2⟩ := h
    have p8 : p.length ≤ 8 := by have := op.few; omega
    have z0 : 0 ≤ sizeLine := by decide
    have zl : ∀ {l : List Bool}, l.length = ts.length → (lnS l).length ≤ sizeLine := fun {l} hl => by show (toS (lnC l)).length ≤ _; rw [toS_size, lnC_len, sizeLine_eq]; omega
    refine ⟨p, ts, rfl, ?_⟩
    refine ⟨p, ts, l, rfl, hl, few, ?_⟩
    refine ⟨p, ts, m, rfl, hm, few, ?_⟩
    refine ⟨p, ts, l, rfl, p8, ot, hl, few, ?_⟩
    refine ⟨p, ts, m, rfl, p8, ot, hm, few, ?_⟩
    refine (lay_tup (layL_ints (rowL p ts l) 0)).cmp (lay_tup (layL_ints (rowL p ts m) 0)) (by decide) (by decide) ?_
    rw [eqv_ints]
    refine if_case (c := !decide (rowL p ts l = rowL p ts m)) (fun e => ?_) (fun e => ?_)
    · exact ⟨_, _, .refl, h1 fun z => by rw [decide_eq_true z] at e; cases e⟩
    have er : rowL p ts l = rowL p ts m := Decidable.by_contra fun z => by rw [decide_eq_false z] at e; cases e
    have h := h2 er
    refine ⟨p, ts, l, rfl, ot, hl, few, ?_⟩
    refine ⟨rfl, _, rfl, ?_⟩
    have lt : (ts.map D.str).length = ts.length := List.length_map _
    refine ⟨⟨by omega, by omega⟩, ?_⟩
    rw [lt, Int.toNat_natCast]
    show LcB _ _ _ _ _ _ _ _
    refine lcb_pure (fun d => match d with | .int i => decide (l.getD i.toNat true ≠ m.getD i.toNat true) | _ => false) id ?_ ?_ ?_
    · rw [List.length_map, List.length_range, sizeLine_eq]
      omega
    · intro d hd ν N Y _ hN hY
      obtain ⟨i, hi, rfl⟩ := List.mem_map.mp hd
      have hi := List.mem_range.mp hi
      have as : ∀ {l : List Bool}, l.length = ts.length → L2.atI (lnC l) (i : Int) = some (sgn (l.getD i true)) := fun {l} hl => atI_nat (by
        unfold lnC
        rw [List.getElem?_map, List.getD_eq_getElem?_getD, List.getElem?_eq_getElem (by omega)]
        rfl)
      refine ⟨zl hl, ?_⟩
      unfold lnS
      rw [toS_list, as hl]
      refine ⟨zl hm, ?_⟩
      rw [toS_list, as hm]
      have hN : decide (l.getD i true ≠ m.getD i true) = false → N ν := hN
      have hY : decide (l.getD i true ≠ m.getD i true) = true → Y (.int (i : Nat)) ν := hY
      have es : (!decide (sg (sgn (l.getD i true)) = sg (sgn (m.getD i true)))) = decide (l.getD i true ≠ m.getD i true) := by
        cases l.getD i true <;> cases m.getD i true <;> decide +kernel
      show if (!decide (sg (sgn (l.getD i true)) = sg (sgn (m.getD i true)))) = true then _ else _
      rw [es]
      exact if_case (fun e => hY e) (fun e => hN e)
    have ed : (((List.range ts.length).map fun i => D.int (i : Nat)).filter fun d => match d with | .int i => decide (l.getD i.toNat true ≠ m.getD i.toNat true) | _ => false).map id = dIdx (diffL ts.length l m) := by
      unfold dIdx diffL
      rw [List.map_id, List.filter_map, List.map_map]
      rfl
    rw [ed]
    refine ⟨z0, fun b nb => ?_⟩
    have dn : (diffL ts.length l m).Nodup := List.Pairwise.filter _ List.nodup_range
    have dl : (diffL ts.length l m).length ≤ 11 := by
      have := List.length_filter_le (fun i => decide (l.getD i true ≠ m.getD i true)) (List.range ts.length)
      rw [List.length_range] at this
      unfold diffL
      omega
    refine ⟨fun k δ' μ' => ∃ (lots : List (List Nat)) (left : List Nat) (o6 : Option D), k = left.length ∧ (∀ r ∈ lots, r.Pairwise (· < ·) ∧ ∃ c, Cyc (arrE ts l) c ∧ r.Perm c) ∧ (lots.flatten ++ left).Perm (diffL ts.length l m) ∧ Bal (arrE ts l) left ∧ μ' = put μ b (.lst (lots.map fun r => .tup (dIdx r))) ∧
      δ' = [some (dWeb A.Web p ts), some (.str (lnS l)), some (.str (lnS m)), some (.tup ((waysL ts l).map D.str)), some (.lst (dIdx left)), some (.adr b), o6, none], ⟨_, [], _, none, rfl, (fun r hr => by cases hr), .refl _, diff_bal ot hl hm er, rfl, rfl⟩, ?_⟩
    rintro k δ' μ' ⟨lots, left, o6, rfl, each, pm, bal, rfl, rfl⟩
    have nodall := pm.nodup_iff.mpr dn
    have nod : left.Nodup := (List.nodup_append.mp nodall).2.1
    show if (!(dIdx left).isEmpty) = true then _ else _
    cases hlf : left with
    | nil =>
      subst hlf
      refine ⟨_, _, rfl, put_same, ?_⟩
      rw [List.append_nil] at pm
      refine ⟨_, μ, .less fun c o e => ?_, h lots ⟨each, pm.nodup_iff.mpr dn⟩ pm⟩
      rw [put_ne (fun z => by rw [z, nb] at e; cases e)]
      exact e
    | cons i0 rest =>
      rw [← hlf]
      have ee : (!(dIdx left).isEmpty) = true := by rw [hlf]; rfl
      rw [if_pos ee]
      have inr : ∀ i ∈ left, i < ts.length := fun i hi => List.mem_range.mp (List.mem_filter.mp (pm.subset (List.mem_append_right _ hi))).1
      refine ⟨p, ts, l, left, rfl, op, ot, hl, few, by rw [hlf]; exact List.cons_ne_nil _ _, nod, inr, bal, fun r c asc cyc pr sub => ?_⟩
      refine ⟨cell_ok put_same, ?_⟩
      have rne : ∀ r ∈ lots, r ≠ [] := fun r hr e => by
        obtain ⟨_, c, hc, hp⟩ := each r hr
        rw [e] at hp
        exact hc.ne hp.nil_eq.symm
      have lf := flat_len rne
      have lall := pm.length_eq
      rw [List.length_append] at lall
      refine ⟨_, put_same, by rw [List.length_map, sizeLine_eq]; omega, ?_⟩
      rw [put_put]
      show LcB _ _ _ _ _ _ (dIdx left) _
      refine lcb_pure (fun d => match d with | .int i => !decide (i.toNat ∈ r) | _ => false) id ?_ ?_ ?_
      · rw [dIdx_len, sizeLine_eq]
        omega
      · intro d hd ν N Y _ hN hY
        obtain ⟨i, hi, rfl⟩ := dIdx_mem hd
        have hN : (!decide (i ∈ r)) = false → N ν := hN
        have hY : (!decide (i ∈ r)) = true → Y (.int (i : Nat)) ν := hY
        show DL.inDs (.int (i : Nat)) ((r.map Int.ofNat).map D.int) fun b => DL.bK _ (.bl (!b)) ν
        refine in_lot ?_
        exact if_case (c := !decide (i ∈ r)) (fun e => hY e) (fun e => hN e)
      have el : ((dIdx left).filter fun d => match d with | .int i => !decide (i.toNat ∈ r) | _ => false).map id = dIdx (left.filter fun x => !decide (x ∈ r)) := by
        unfold dIdx
        rw [List.map_id, List.filter_map, List.filter_map]
        rfl
      rw [el]
      have rn : r.Nodup := asc.imp fun h => Nat.ne_of_lt h
      have sp := perm_split nod rn sub
      have lsp := sp.length_eq
      rw [List.length_append] at lsp
      have rpos : 0 < r.length := by
        rw [pr.length_eq]
        exact List.length_pos_iff.mpr cyc.ne
      refine ⟨_, by omega, lots ++ [r], left.filter fun x => !decide (x ∈ r), _, rfl, fun x hx => ?_, ?_, bal.drop nod cyc pr sub, by rw [List.map_append]; rfl, rfl⟩
      · rcases List.mem_append.mp hx with q | q
        · exact each x q
        · rw [List.mem_singleton.mp q]
          exact ⟨asc, c, cyc, pr⟩
      · refine .trans ?_ pm
        rw [List.flatten_append, List.append_assoc]
        refine List.Perm.append_left _ ?_
        show ([r].flatten ++ _).Perm left
        rw [List.flatten_cons, List.flatten_nil, List.append_nil]
        exact sp.symm
end
end K10

set_option Elab.async false
set_option linter.all false
set_option maxRecDepth 100000
namespace K10
open PySem PySem.Spec PyProof.Rows L2 DL
section
variable {P : Program} {w : World} {K : PySem.W.Frag} {mg : Str → Option Value} {base : Heap} {A : Ad}

/-! ### the law's own walks -/
theorem lst_sameN {ds : List D} {ps : List PyData} {n : Nat} {μ : Mu} {R : KD} (h : LayL ds ps n) (hn : n + 1 ≤ 64) (q : R (.bl false) μ) : gNe (.lst ds) (.lst ds) μ R := (lay_lst h).same (k := not) hn q
def g_L_round : GC := fun ds μ R => ∃ (p : List Nat) (ts : List Str) (l : List Bool) (lot : List Nat), ds = [.lst ((waysL ts l).map D.str), .tup (dIdx lot)] ∧ OkT p ts ∧ l.length = ts.length ∧ ts.length ≤ 11 ∧ lot.length ≤ 11 ∧ (∀ i ∈ lot, i < ts.length) ∧
  ∀ b : Bool, ((∃ c, Cyc (arrE ts l) c ∧ lot.Perm c) → b = true) → R (.bl b) μ
def flipL (l : List Bool) (lot : List Nat) : List Bool := l.mapIdx fun i b => if i ∈ lot then !b else b
def g_L_flip : GC := fun ds μ R => ∃ (l : List Bool) (lot : List Nat), (ds = [.str (lnS l), .tup (dIdx lot)] ∨ ds = [.str (lnS l), .lst (dIdx lot)]) ∧ l.length ≤ 11 ∧ R (.str (lnS (flipL l lot))) μ
def g_L_shown (C : Addr) : GC := fun ds μ R => ∃ (p : List Nat) (ts : List Str) (l m : List Bool) (lots : List (List Nat)), ds = [dWeb C p ts, .str (lnS l), .str (lnS m), .tup (lots.map fun r => .tup (dIdx r))] ∧ OkT p ts ∧ l.length = ts.length ∧ m.length = ts.length ∧ ts.length ≤ 11 ∧ Rings (arrE ts l) lots ∧ lots.flatten.Perm (diffL ts.length l m) ∧ R (.bl true) μ
def g_L_near : GC := fun ds μ R => ∃ (a : Addr) (x y : Int) (z : Nat) (p : List Nat) (ts : List Str) (l : List Bool), ds = [.adr a, .tup (ts.map D.str), .str (lnS l)] ∧ μ a = some (pot x y z) ∧ z ≤ 10000 ∧ OkT p ts ∧ l.length = ts.length ∧ ts.length ≤ 11 ∧
  ∀ (l' : List Bool) (x y : Int) (z' : Nat), l'.length = ts.length → z' ≤ z + 100 → R (.str (lnS l')) (put μ a (pot x y z'))
def N38 : List Str := ["_law_ways_here", "_law_lot", "_law_first", "_law_seen", "_law_here", "_law_turn", "_law_some", "_law_k"]
theorem sc38 : FnScope N38 ["_law_ways_here", "_law_lot"] (defScope (top 38)) := ⟨rfl, rfl, rfl, by decide +kernel, rfl, by decide +kernel, by decide +kernel⟩
theorem ok_L_goes_round (T : Tx K mg A) : FnOk P w K mg base CX0 1 A.L_goes_round A.fd_L_goes_round ["_law_ways_here", "_law_lot"] (toSp K (g_L_round)) := by
  refine okDF T.F_L_goes_round sc38 (fun ds μ R h => ?_) ⟨_, fun cdv A0 outer s H E hr =>
    (dss_cons (ds_if (dt_cmp (op_eqA hr.units) sim_eq (dv 1) (de_tup da_nil) (nomark _)) (dss_one (ds_ret de_bl)) dss_nil)
      (dss_cons (ds_asg (de_tup (da_cons (de_ix ix_any sim_ix (de_ix ix_any sim_ix (dv 0) (de_ix ix_any sim_ix (dv 1) de_int (fun _ _ => rfl)) (fun _ _ => rfl)) de_int (fun _ _ => rfl)) (da_cons (de_cell da_nil) da_nil))) (pg_tup (n := 2) (by rfl) (pgs_cons (pg_name (i := 2) sc38.nd rfl (by first | exact Or.inl rfl | exact Or.inr rfl)) (pgs_cons (pg_name (i := 3) sc38.nd rfl (by first | exact Or.inl rfl | exact Or.inr rfl)) pgs_nil))) (sim_tupT (n := 2) (sim_consT (sim_nm (i := 2)) (sim_consT (sim_nm (i := 3)) sim_nilT))))
      (dss_cons (ds_set sc38.nd (i := 4) rfl (by first | exact Or.inl rfl | exact Or.inr rfl) (dv 2))
      (dss_cons (ds_for PassesOwn.never rfl (di_both (dv 1)) (pg_name (i := 5) sc38.nd rfl (by first | exact Or.inl rfl | exact Or.inr rfl)) (sim_nm (i := 5))
      (dss_cons (ds_setLc (i := 6) (own := [("_law_k", 7)]) (by rfl) sc38.nd rfl rfl (sw_true rfl rfl rfl (by decide +kernel)) (di_both (dv 1)) (blkOk_by (N := N38) (own := [("_law_k", 7)]) (sc := defScope (top 38)) (by decide +kernel)) (fun _ _ _ _ _ => (pg_name (i := 7) sc38.nd rfl (by first | exact Or.inl rfl | exact Or.inr rfl))) (sim_nm (i := 7)) (fun _ _ _ _ _ => (dts_one (dw_and (dt_cmp (op_eqA hr.units) sim_eq (de_ix ix_any sim_ix (de_ix ix_any sim_ix (dv 0) (dv 7) (fun _ _ => rfl)) de_int (fun _ _ => rfl)) (dv 4) (nomark _)) (dw_and1 (dt_cmp op_notInA sim_notInC (dv 7) (dv 3) rfl))).dt)) (fun _ _ _ _ _ => (dv 7)))
      (dss_cons (ds_if (dw_or (dt_cmp (op_neA hr.units) sim_ne (de_callB cr_len sim_len (by rfl) T.z_len boot_len (da_cons (dv 6) da_nil)) de_int (nomark _)) (dw_or1 (dt_cmp op_inA sim_in (dv 4) (de_lcW (own := [("_law_k", 7)]) (by rfl) sc38.nd (dv 3) (blkOk_by (N := N38) (own := [("_law_k", 7)]) (sc := defScope (top 38)) (by decide +kernel)) (fun _ _ _ _ _ => (pg_name (i := 7) sc38.nd rfl (by first | exact Or.inl rfl | exact Or.inr rfl))) (sim_nm (i := 7)) (fun _ _ _ _ _ => dts_nil) (fun _ _ _ _ _ => (de_ix ix_any sim_ix (de_ix ix_any sim_ix (dv 0) (dv 7) (fun _ _ => rfl)) de_int (fun _ _ => rfl)))) rfl))).dt (dss_one (ds_ret de_bl)) dss_nil)
      (dss_cons (ds_expr (de_bm PySem.F.plainAttrs_list PySem.F.slot_list_append PySem.F.type_list_append mt_append sim_append ok_cell (dv 3) (da_cons (de_ix ix_any sim_ix (dv 6) de_int (fun _ _ => rfl)) da_nil)))
      (dss_one (ds_set sc38.nd (i := 4) rfl (by first | exact Or.inl rfl | exact Or.inr rfl) (de_ix ix_any sim_ix (de_ix ix_any sim_ix (dv 0) (de_ix ix_any sim_ix (dv 6) de_int (fun _ _ => rfl)) (fun _ _ => rfl)) de_int (fun _ _ => rfl))))))))
      (dss_one (ds_ret (de_and (de_cmp (op_eqA hr.units) sim_eq (dv 4) (dv 2) (nomark _)) (de_one (de_cmp (op_eqA hr.units) sim_eq (de_callB cr_len sim_lenC (by rfl) T.z_len boot_len (da_cons (dv 3) da_nil)) (de_callB cr_len sim_len (by rfl) T.z_len boot_len (da_cons (dv 1) da_nil)) (nomark _)))))))))), fun ds μ R h => ?_⟩
  · obtain ⟨p, ts, l, lot, rfl, _⟩ := h
    rfl
  · obtain ⟨p, ts, l, lot, rfl, ot, hl, few, l11, lt, h⟩ := h
    have z0 : 0 ≤ sizeLine := by decide
    have sz2 : 2 ≤ sizeLine := by decide
    have two : ∀ a b : Nat, (yTie a b).length ≤ sizeLine := fun a b => by show 2 ≤ sizeLine; decide
    have wat : ∀ {i : Nat} {w : Str}, (waysL ts l)[i]? = some w → ((waysL ts l).map D.str)[i]? = some (.str w) := fun {i w} h => by rw [List.getElem?_map, h]; rfl
    refine ⟨z0, ?_⟩
    refine (lay_tup (layL_ints (lot.map Int.ofNat) 0)).cmp (lay_tup (layL_ints [] 0)) (by decide) (by decide) ?_
    rw [eqv_ints]
    refine if_case (c := decide (lot.map Int.ofNat = [])) (fun e => ?_) (fun e => ?_)
    · refine ⟨_, _, .refl, h false fun ⟨c, hc, hp⟩ => ?_⟩
      rw [List.map_eq_nil_iff.mp (of_decide_eq_true e)] at hp
      exact absurd hp.nil_eq.symm hc.ne
    obtain ⟨o, rest, rfl⟩ : ∃ o rest, lot = o :: rest := by
      cases lot with
      | nil => exact absurd rfl (of_decide_eq_false e)
      | cons a r => exact ⟨a, r, rfl⟩
    obtain ⟨a, a2, hwo, _, _, eO, _⟩ := way_at ot hl (lt o List.mem_cons_self)
    have key : ∃ d : List Nat, (∃ c, Cyc (arrE ts l) c ∧ (o :: rest).Perm c) → d.Perm (o :: rest) ∧
        (∀ j here, j < d.length → Run (arrE ts l) (arrE ts l o).1 (d.take j) here → ∃ k, d[j]? = some k ∧ k ∈ o :: rest ∧ ((o :: rest).filter fun x => decide ((arrE ts l x).1 = here) && !decide (x ∈ d.take j)) = [k] ∧ here ∉ (d.take j).map (fun i => (arrE ts l i).1) ∧ Run (arrE ts l) (arrE ts l o).1 (d.take (j + 1)) (arrE ts l k).2) ∧
        ∀ here, Run (arrE ts l) (arrE ts l o).1 d here → here = (arrE ts l o).1 := by
      by_cases q : ∃ c, Cyc (arrE ts l) c ∧ (o :: rest).Perm c
      · obtain ⟨c, hc, hp⟩ := q
        obtain ⟨d, hd⟩ := hc.walk hp
        exact ⟨d, fun _ => hd⟩
      · exact ⟨[], fun z => absurd z q⟩
    obtain ⟨d, key⟩ := key
    refine atK_nat (dIdx_at (r := o :: rest) (i := 0) rfl) ?_
    refine atK_nat (wat hwo) ?_
    refine ⟨two a a2, ?_⟩
    refine ⟨z0, fun b nb => ?_⟩
    refine ⟨sz2, rfl, ?_⟩
    have a1 : (arrE ts l o).1 = a := by rw [eO]
    rw [a1] at key
    have lol : (dIdx (o :: rest)).length = (o :: rest).length := dIdx_len _
    refine ⟨fun i δ' μ' => i ≤ (o :: rest).length ∧ ∃ (here : Nat) (seen : List Nat) (o5 o6 : Option D), μ' = put μ b (.lst (dIdx seen)) ∧ seen.length ≤ i ∧ (∀ x ∈ seen, x < ts.length) ∧ ((∃ c, Cyc (arrE ts l) c ∧ (o :: rest).Perm c) → seen = d.take i ∧ i ≤ d.length ∧ Run (arrE ts l) a (d.take i) here) ∧
      δ' = [some (.lst ((waysL ts l).map D.str)), some (.tup (dIdx (o :: rest))), some (.str (sg a)), some (.adr b), some (.str (sg here)), o5, o6, none],
      ⟨Nat.zero_le _, a, [], none, none, rfl, Nat.le_refl _, (fun x hx => by cases hx), (fun _ => ⟨rfl, Nat.zero_le _, rfl⟩), rfl⟩, ?_, ?_⟩
    · rintro i it δ' μ' hi ⟨_, here, seen, o5, o6, rfl, ls, sl, ring, rfl⟩
      have hi : i < (o :: rest).length := by
        have := (List.getElem?_eq_some_iff.mp hi).1
        omega
      show LcB _ _ _ _ _ _ (dIdx (o :: rest)) _
      refine lcb_pure (fun d => match d with | .int k => decide ((arrE ts l k.toNat).1 = here) && !decide (k.toNat ∈ seen) | _ => false) id ?_ ?_ ?_
      · rw [dIdx_len, sizeLine_eq]
        omega
      · intro x hx ν N Y kp hN hY
        obtain ⟨k, hk, rfl⟩ := dIdx_mem hx
        have hN : (decide ((arrE ts l k).1 = here) && !decide (k ∈ seen)) = false → N ν := hN
        have hY : (decide ((arrE ts l k).1 = here) && !decide (k ∈ seen)) = true → Y (.int (k : Nat)) ν := hY
        obtain ⟨u, v, hwk, _, _, eK, _⟩ := way_at ot hl (lt k hk)
        rw [eK] at hN hY
        refine atK_nat (wat hwk) ?_
        refine ⟨two u v, ?_⟩
        have es : decide (sg u = sg here) = decide (u = here) := decide_eq_decide.mpr ⟨fun e => sg_inj e, fun e => by rw [e]⟩
        refine if_case (c := decide (sg u = sg here)) (fun e => ?_) (fun e => ?_)
        · rw [es] at e
          rw [e, Bool.true_and] at hN hY
          refine ⟨dIdx seen, kp _ _ put_same, ?_⟩
          refine in_lot ?_
          exact if_case (c := !decide (k ∈ seen)) (fun e => hY e) (fun e => hN e)
        · rw [es] at e
          rw [e, Bool.false_and] at hN
          exact hN rfl
      have el : ((dIdx (o :: rest)).filter fun d => match d with | .int k => decide ((arrE ts l k.toNat).1 = here) && !decide (k.toNat ∈ seen) | _ => false).map id = dIdx ((o :: rest).filter fun x => decide ((arrE ts l x).1 = here) && !decide (x ∈ seen)) := by
        unfold dIdx
        rw [List.map_id, List.filter_map, List.filter_map]
        rfl
      rw [el]
      have step : (∃ c, Cyc (arrE ts l) c ∧ (o :: rest).Perm c) → ∃ k, d[i]? = some k ∧ ((o :: rest).filter fun x => decide ((arrE ts l x).1 = here) && !decide (x ∈ seen)) = [k] ∧ here ∉ seen.map (fun i => (arrE ts l i).1) ∧ i + 1 ≤ d.length ∧ Run (arrE ts l) a (d.take (i + 1)) (arrE ts l k).2 := fun rg => by
        obtain ⟨r1, r2, r3⟩ := ring rg
        obtain ⟨k1, k2, _⟩ := key rg
        have id : i < d.length := by rw [k1.length_eq]; exact hi
        obtain ⟨k, q1, _, q3, q4, q5⟩ := k2 i here id r3
        exact ⟨k, q1, by rw [r1]; exact q3, by rw [r1]; exact q4, id, q5⟩
      have sub : ∀ k ∈ (o :: rest).filter fun x => decide ((arrE ts l x).1 = here) && !decide (x ∈ seen), k < ts.length := fun k hk => lt k (List.mem_filter.mp hk).1
      generalize ((o :: rest).filter fun x => decide ((arrE ts l x).1 = here) && !decide (x ∈ seen)) = some_ at step sub ⊢
      show if (!decide (((dIdx some_).length : Int) = 1)) = true then _ else _
      refine if_case (c := !decide (((dIdx some_).length : Int) = 1)) (fun e => ?_) (fun e => ?_)
      · refine ⟨_, μ, .less fun c o e => ?_, h false fun rg => ?_⟩
        · rw [put_ne (fun z => by rw [z, nb] at e; cases e)]
          exact e
        · obtain ⟨k, _, e1, _⟩ := step rg
          rw [e1] at e
          cases e
      · have e : ((dIdx some_).length : Int) = 1 := Decidable.by_contra fun z => by rw [decide_eq_false z] at e; cases e
        rw [dIdx_len] at e
        obtain ⟨k, rfl⟩ : ∃ k, some_ = [k] := List.length_eq_one_iff.mp (by omega)
        refine ⟨dIdx seen, put_same, ?_⟩
        refine lcw_map (fun d => match d with | .int k => .str (sg (arrE ts l k.toNat).1) | d => d) put_same (by rw [dIdx_len, sizeLine_eq]; omega) ?_ ?_
        · intro x hx ν Y kp hY
          obtain ⟨j, hj, rfl⟩ := dIdx_mem hx
          have hY : Y (.str (sg (arrE ts l j).1)) ν := hY
          obtain ⟨u, v, hwj, _, _, eJ, _⟩ := way_at ot hl (sl j hj)
          rw [eJ] at hY
          refine atK_nat (wat hwj) ?_
          exact ⟨two u v, hY⟩
        have es : (dIdx seen).map (fun d => match d with | .int k => D.str (sg (arrE ts l k.toNat).1) | d => d) = (seen.map fun j => sg (arrE ts l j).1).map D.str := by
          unfold dIdx
          rw [List.map_map, List.map_map, List.map_map]
          rfl
        rw [es]
        refine .inr ⟨sg here, _, rfl, rfl, ?_⟩
        have em : decide (sg here ∈ seen.map fun j => sg (arrE ts l j).1) = decide (here ∈ seen.map fun j => (arrE ts l j).1) := decide_eq_decide.mpr ⟨fun z => by
          obtain ⟨j, hj, e⟩ := List.mem_map.mp z
          exact List.mem_map.mpr ⟨j, hj, sg_inj e⟩, fun z => by
          obtain ⟨j, hj, e⟩ := List.mem_map.mp z
          exact List.mem_map.mpr ⟨j, hj, by rw [e]⟩⟩
        refine if_case (c := decide (sg here ∈ seen.map fun j => sg (arrE ts l j).1)) (fun e => ?_) (fun _ => ?_)
        · rw [em] at e
          refine ⟨_, μ, .less fun c o e => ?_, h false fun rg => ?_⟩
          · rw [put_ne (fun z => by rw [z, nb] at e; cases e)]
            exact e
          · obtain ⟨_, _, _, e2, _⟩ := step rg
            exact absurd (of_decide_eq_true e) e2
        · have hk := sub k List.mem_cons_self
          obtain ⟨u, v, hwk, _, _, eK, _⟩ := way_at ot hl hk
          refine ⟨cell_ok put_same, ?_⟩
          refine ⟨_, put_same, by rw [dIdx_len, sizeLine_eq]; omega, ?_⟩
          rw [put_put]
          refine atK_nat (wat hwk) ?_
          refine ⟨two u v, ?_⟩
          have ea : dIdx seen ++ [.int (Int.ofNat k)] = dIdx (seen ++ [k]) := by
            unfold dIdx
            rw [List.map_append, List.map_append]
            rfl
          refine ⟨hi, v, seen ++ [k], _, _, by rw [ea], by rw [List.length_append]; show _ + 1 ≤ _; omega, fun x hx => ?_, fun rg => ?_, rfl⟩
          · rcases List.mem_append.mp hx with q | q
            · exact sl x q
            · rw [List.mem_singleton.mp q]
              exact hk
          · obtain ⟨k', q1, q2, _, q4, q5⟩ := step rg
            have ek : k = k' := by simpa using q2
            subst ek
            rw [eK] at q5
            refine ⟨?_, q4, q5⟩
            rw [(ring rg).1, List.take_succ, q1]
            rfl
    · rintro δ' μ' ⟨_, here, seen, o5, o6, rfl, ls, sl, ring, rfl⟩
      rw [lol] at ring
      have fin : ∀ c : Bool, ((∃ c, Cyc (arrE ts l) c ∧ (o :: rest).Perm c) → c = true) → freed R (.bl c) (put μ b (.lst (dIdx seen))) := fun c hc => by
        refine ⟨_, μ, .less fun x o e => ?_, h c hc⟩
        rw [put_ne (fun z => by rw [z, nb] at e; cases e)]
        exact e
      have rr : (∃ c, Cyc (arrE ts l) c ∧ (o :: rest).Perm c) → here = a ∧ seen.length = (o :: rest).length := fun rg => by
        obtain ⟨q1, q2, q3⟩ := ring rg
        obtain ⟨k1, _, k3⟩ := key rg
        have ld := k1.length_eq
        rw [← ld, List.take_length] at q1 q3
        exact ⟨k3 here q3, by rw [q1, ld]⟩
      refine if_case (c := decide (sg here = sg a)) (fun e => ?_) (fun e => ?_)
      · refine ⟨b, _, rfl, put_same, ?_⟩
        refine fin (decide (((dIdx seen).length : Int) = ((dIdx (o :: rest)).length : Int))) fun rg => ?_
        refine decide_eq_true ?_
        rw [dIdx_len, dIdx_len, (rr rg).2]
      · refine fin _ fun rg => ?_
        rw [(rr rg).1] at e
        exact absurd rfl (of_decide_eq_false e)
def N39 : List Str := ["_law_leaning_here", "_law_lot", "_law_k", "_law_sign"]
theorem sc39 : FnScope N39 ["_law_leaning_here", "_law_lot"] (defScope (top 39)) := ⟨rfl, rfl, rfl, by decide +kernel, rfl, by decide +kernel, by decide +kernel⟩
theorem ok_L_flip (T : Tx K mg A) : FnOk P w K mg base CX0 1 A.L_flip A.fd_L_flip ["_law_leaning_here", "_law_lot"] (toSp K (g_L_flip)) := by
  refine okD T.F_L_flip sc39 (fun ds μ R h => ?_) ⟨_, fun cdv A0 outer s H E hr =>
    (dss_one (ds_ret (de_bm PySem.F.plainAttrs_str PySem.F.slot_str_join PySem.F.type_str_join mt_join sim_join ok_str de_str (da_cons (de_lc (own := [("_law_k", 2), ("_law_sign", 3)]) (by rfl) sc39.nd (di_enumS (by rfl) T.z_enumerate (da_cons (dv 0) da_nil)) (blkOk_by (N := N39) (own := [("_law_k", 2), ("_law_sign", 3)]) (sc := defScope (top 39)) (by decide +kernel)) (fun _ _ _ _ _ => (pg_tup (n := 2) (by rfl) (pgs_cons (pg_name (i := 2) sc39.nd rfl (by first | exact Or.inl rfl | exact Or.inr rfl)) (pgs_cons (pg_name (i := 3) sc39.nd rfl (by first | exact Or.inl rfl | exact Or.inr rfl)) pgs_nil)))) (sim_tupT (n := 2) (sim_consT (sim_nm (i := 2)) (sim_consT (sim_nm (i := 3)) sim_nilT))) (fun _ _ _ _ _ => dts_nil) (fun _ _ _ _ _ => (de_if (dt_cmp op_inA sim_in (dv 2) (dv 1) rfl) (de_if (dt_cmp (op_eqA hr.units) sim_eq (dv 3) de_str (nomark _)) de_str de_str) (dv 3)))) da_nil)))), fun ds μ R h => ?_⟩
  · obtain ⟨l, lot, rfl | rfl, _⟩ := h <;> rfl
  · obtain ⟨l, lot, hd, few, h⟩ := h
    have lnl : (lnC (flipL l lot)).length = l.length := by unfold flipL; rw [lnC_len, List.length_mapIdx]
    have body : ∀ (dl : D) (inl : ∀ (k : Nat) (ν : Mu) (F : D → Mu → Prop), F (.bl (decide (k ∈ lot))) ν → DL.gIn id (.int (k : Nat)) dl ν F), DL.gRet (DL.gBM okStr (gM1 gJoin2) (gC (D.str (Str.ofString ""))) (DL.gCons (gLc (gEnumS (DL.gCons (gVar 0) DL.gNil)) (gTupT 2 (gConsT (gNm 2) (gConsT (gNm 3) gNilT))) gYes
        (DL.gIf (gB (gOp (DL.gIn id) (gVar 2) (gVar 1))) (DL.gIf (gB (gOp DL.gEq (gVar 3) (gC (D.str (Str.ofString "+"))))) (gC (D.str (Str.ofString "-"))) (gC (D.str (Str.ofString "+")))) (gVar 3)) (List.map (fun x => x.snd) [(Str.ofString "_law_k", 2), (Str.ofString "_law_sign", 3)])) DL.gNil))
        { nx := fun x μ' => R D.non μ', rt := R } (begin_ N39 [.str (lnS l), dl]) μ := fun dl inl => by
      refine ⟨True.intro, ?_⟩
      show LcB _ _ _ _ _ _ (DL.numbered (DL.signs (lnS l))) _
      unfold lnS
      rw [signs_chs]
      refine lcb_map (fun d => match d with | .tup [.int i, .str y] => .str (sg (if i.toNat ∈ lot then (if y = ("+" : Str) then 45 else 43) else y.cps.toList.getD 0 0)) | d => d) ?_ ?_ ?_
      · have : (DL.numbered (chs (lnC l))).length = l.length := by unfold DL.numbered; rw [List.length_mapIdx, chs_len, lnC_len]
        rw [this, sizeLine_eq]
        omega
      · intro x hx ν Y kp hY
        obtain ⟨i, hi, e⟩ := List.getElem_of_mem hx
        obtain ⟨dd, hd, rfl⟩ := numbered_at (show (DL.numbered (chs (lnC l)))[i]? = some x by rw [List.getElem?_eq_getElem hi, e])
        obtain ⟨c, _, rfl⟩ := chs_in (List.mem_of_getElem? hd)
        have hY : Y (.str (sg (if i ∈ lot then (if sg c = ("+" : Str) then 45 else 43) else c))) ν := hY
        refine ⟨rfl, inl i ν _ ?_⟩
        refine if_case (c := decide (i ∈ lot)) (fun e => ?_) (fun e => ?_)
        · rw [if_pos (of_decide_eq_true e)] at hY
          refine if_case (c := decide (sg c = ("+" : Str))) (fun e2 => ?_) (fun e2 => ?_)
          · rw [if_pos (of_decide_eq_true e2)] at hY
            have : ("-" : Str) = sg 45 := by decide +kernel
            show Y (.str ("-" : Str)) ν
            rw [this]
            exact hY
          · rw [if_neg (of_decide_eq_false e2)] at hY
            show Y (.str ("+" : Str)) ν
            rw [plus_sg]
            exact hY
        · rw [if_neg (of_decide_eq_false e)] at hY
          exact hY
      have e : (DL.numbered (chs (lnC l))).map (fun d => match d with | .tup [.int i, .str y] => D.str (sg (if i.toNat ∈ lot then (if y = ("+" : Str) then 45 else 43) else y.cps.toList.getD 0 0)) | d => d) = ((lnC (flipL l lot)).map sg).map D.str := by
        apply List.ext_getElem?
        intro i
        unfold DL.numbered chs lnC flipL
        rw [List.getElem?_map, List.getElem?_mapIdx, List.getElem?_map, List.getElem?_map, List.getElem?_map, List.getElem?_map, List.getElem?_map, List.getElem?_mapIdx]
        cases l[i]? with
        | none => rfl
        | some b =>
          show some (D.str (sg (if i ∈ lot then (if sg (sgn b) = ("+" : Str) then 45 else 43) else sgn b))) = some (D.str (sg (sgn (if i ∈ lot then !b else b))))
          have hp : (sg (sgn b) = ("+" : Str)) ↔ b = true := by
            have := plus_is b
            exact ⟨fun z => by rw [decide_eq_true z] at this; exact this.symm, fun z => of_decide_eq_true (by rw [this, z])⟩
          by_cases m : i ∈ lot
          · rw [if_pos m, if_pos m]
            cases b with
            | true => rw [if_pos (hp.mpr rfl)]; rfl
            | false => rw [if_neg (fun z => by have := hp.mp z; cases this)]; rfl
          · rw [if_neg m, if_neg m]
      rw [e]
      refine ⟨_, rfl, by rw [sum_sg, len_empty, lnl]; omega, ?_⟩
      rw [join_sg]
      exact h
    rcases hd with rfl | rfl
    · exact body _ fun k ν F hF => in_lot (R := fun b => F (.bl b) ν) hF
    · exact body _ fun k ν F hF => in_lot (R := fun b => F (.bl b) ν) hF
def N41 : List Str := ["_law_mine", "_law_leaning_here", "_law_other", "_law_told", "_law_ways_here", "_law_seen", "_law_lot", "_law_k"]
theorem sc41 : FnScope N41 ["_law_mine", "_law_leaning_here", "_law_other", "_law_told"] (defScope (top 41)) := ⟨rfl, rfl, rfl, by decide +kernel, rfl, by decide +kernel, by decide +kernel⟩
theorem ok_L_shown (T : Tx K mg A) : FnOk P w K mg base CX0 3 A.L_shown A.fd_L_shown ["_law_mine", "_law_leaning_here", "_law_other", "_law_told"] (toSp K (g_L_shown A.Web)) := by
  refine okDF T.F_L_shown sc41 (fun ds μ R h => ?_) ⟨_, fun cdv A0 outer s H E hr =>
    (dss_cons (ds_if (dt_not (dt_val (de_isi (T := "tuple") (by rfl) T.z_isinstance (by rfl) T.z_tuple (by decide +kernel) (dv 3)))) (dss_one (ds_ret de_bl)) dss_nil)
      (dss_cons (ds_asg (de_tup (da_cons (de_call ((ok_L_ways T).mono (by decide)) hr (by rfl) T.g_L_ways T.F_L_ways.kp T.b_L_ways (da_cons (de_fld T.k_Web T.n_ties (dv 0)) (da_cons (dv 1) da_nil))) (da_cons (de_lst da_nil) da_nil))) (pg_tup (n := 2) (by rfl) (pgs_cons (pg_name (i := 4) sc41.nd rfl (by first | exact Or.inl rfl | exact Or.inr rfl)) (pgs_cons (pg_name (i := 5) sc41.nd rfl (by first | exact Or.inl rfl | exact Or.inr rfl)) pgs_nil))) (sim_tupT (n := 2) (sim_consT (sim_nm (i := 4)) (sim_consT (sim_nm (i := 5)) sim_nilT))))
      (dss_cons (ds_for PassesOwn.never rfl (di_both (dv 3)) (pg_name (i := 6) sc41.nd rfl (by first | exact Or.inl rfl | exact Or.inr rfl)) (sim_nm (i := 6))
      (dss_cons (ds_if (dw_or (dt_not (dt_val (de_isi (T := "tuple") (by rfl) T.z_isinstance (by rfl) T.z_tuple (by decide +kernel) (dv 6)))) (dw_or (dt_cmp (op_neA hr.units) sim_ne (de_callTy call_list_of sim_list (by rfl) T.z_list boot_list (da_cons (dv 6) da_nil)) (de_sortSetI (by rfl) (by rfl) T.z_sorted (by rfl) T.z_set (dv 6)) (nomark _)) (dw_or1 (dt_not (dt_val (de_call ((ok_L_goes_round T).mono (by decide)) hr (by rfl) T.g_L_goes_round T.F_L_goes_round.kp T.b_L_goes_round (da_cons (dv 4) (da_cons (dv 6) da_nil)))))))).dt (dss_one (ds_ret de_bl)) dss_nil)
      (dss_cons (ds_if (dt_cmp (op_neA hr.units) sim_ne (de_lc (own := [("_law_k", 7)]) (by rfl) sc41.nd (di_both (dv 6)) (blkOk_by (N := N41) (own := [("_law_k", 7)]) (sc := defScope (top 41)) (by decide +kernel)) (fun _ _ _ _ _ => (pg_name (i := 7) sc41.nd rfl (by first | exact Or.inl rfl | exact Or.inr rfl))) (sim_nm (i := 7)) (fun _ _ _ _ _ => (dts_one (dt_cmp op_inA sim_in (dv 7) (dv 5) rfl))) (fun _ _ _ _ _ => (dv 7))) (de_lst da_nil) (nomark _)) (dss_one (ds_ret de_bl)) dss_nil)
      (dss_one (ds_set sc41.nd (i := 5) rfl (by first | exact Or.inl rfl | exact Or.inr rfl) (de_op op_plus sim_plus (dv 5) (de_callTy call_list_of sim_list (by rfl) T.z_list boot_list (da_cons (dv 6) da_nil))))))))
      (dss_one (ds_ret (de_cmp (op_eqA hr.units) sim_eq (de_call ((ok_L_flip T).mono (by decide)) hr (by rfl) T.g_L_flip T.F_L_flip.kp T.b_L_flip (da_cons (dv 1) (da_cons (dv 5) da_nil))) (dv 2) (nomark _))))))), fun ds μ R h => ?_⟩
  · obtain ⟨p, ts, l, m, lots, rfl, _⟩ := h
    rfl
  · obtain ⟨p, ts, l, m, lots, rfl, ot, hl, hm, few, rg, pm, h⟩ := h
    have z0 : 0 ≤ sizeLine := by decide
    have sz2 : 2 ≤ sizeLine := by decide
    refine ⟨_, true, rfl, by decide +kernel, ?_⟩
    refine ⟨rfl, _, rfl, ?_⟩
    refine ⟨p, ts, l, rfl, ot, hl, few, ?_⟩
    refine ⟨z0, sz2, rfl, ?_⟩
    have dl : (diffL ts.length l m).length ≤ 11 := by
      have := List.length_filter_le (fun i => decide (l.getD i true ≠ m.getD i true)) (List.range ts.length)
      rw [List.length_range] at this
      unfold diffL
      omega
    have fl := pm.length_eq
    have lm : (lots.map fun r => D.tup (dIdx r)).length = lots.length := List.length_map _
    have inD : ∀ x ∈ lots.flatten, x < ts.length := fun x hx => List.mem_range.mp (List.mem_filter.mp (pm.subset hx)).1
    refine ⟨fun i δ' μ' => μ' = μ ∧ i ≤ lots.length ∧ ∃ o6 : Option D, δ' = [some (dWeb A.Web p ts), some (.str (lnS l)), some (.str (lnS m)), some (.tup (lots.map fun r => .tup (dIdx r))), some (.lst ((waysL ts l).map D.str)), some (.lst (dIdx (lots.take i).flatten)), o6, none], ⟨rfl, Nat.zero_le _, none, rfl⟩, ?_, ?_⟩
    · rintro i it δ' μ' hi ⟨rfl, _, o6, rfl⟩
      rw [List.getElem?_map] at hi
      obtain ⟨r, hr, rfl⟩ : ∃ r, lots[i]? = some r ∧ it = .tup (dIdx r) := by
        cases q : lots[i]? with
        | none => rw [q] at hi; cases hi
        | some r => rw [q] at hi; exact ⟨r, rfl, (Option.some.inj hi).symm⟩
      have hlt := (List.getElem?_eq_some_iff.mp hr).1
      have rin := List.mem_of_getElem? hr
      obtain ⟨asc, c, hc, hp⟩ := rg.each r rin
      have inF : ∀ x ∈ r, x ∈ lots.flatten := fun x hx => List.mem_flatten.mpr ⟨r, rin, hx⟩
      have rn : r.Nodup := asc.imp fun h => Nat.ne_of_lt h
      have lr : r.length ≤ 11 := by
        have := rn.length_le_of_subset inF
        omega
      have split : lots.flatten = (lots.take i).flatten ++ (r ++ (lots.drop (i + 1)).flatten) := by
        have e : lots = lots.take i ++ r :: lots.drop (i + 1) := by
          have := List.drop_eq_getElem_cons hlt
          rw [(List.getElem?_eq_some_iff.mp hr).2] at this
          rw [← this, List.take_append_drop]
        conv => lhs; rw [e, List.flatten_append, List.flatten_cons]
      have nod := rg.nod
      rw [split] at nod
      obtain ⟨_, _, apart⟩ := List.nodup_append.mp nod
      have lt : (lots.take i).flatten.length ≤ 11 := by
        have := congrArg List.length split
        rw [List.length_append] at this
        omega
      refine ⟨_, true, rfl, by decide +kernel, ?_⟩
      refine ⟨r.map Int.ofNat, rfl, by rw [List.length_map]; omega, fun out as mem => ?_⟩
      have eo : out = r.map Int.ofNat := by
        have ri : (r.map Int.ofNat).Pairwise (· < ·) := List.pairwise_map.mpr (asc.imp fun {x y} h => by show (x : Int) < (y : Int); omega)
        have pe : out.Perm (r.map Int.ofNat) := (List.perm_ext_iff_of_nodup (as.imp fun h => Int.ne_of_lt h) (ri.imp fun h => Int.ne_of_lt h)).mpr mem
        exact pe.eq_of_pairwise (fun a b _ _ h1 h2 => by omega) as ri
      subst eo
      refine lst_sameN (layL_ints (r.map Int.ofNat) 0) (by decide) ?_
      refine ⟨p, ts, l, r, rfl, ot, hl, few, lr, fun x hx => inD x (inF x hx), fun b hb => ?_⟩
      rw [hb ⟨c, hc, hp⟩]
      show LcB _ _ _ _ _ _ (dIdx r) _
      refine lcb_pure (fun _ => false) id ?_ ?_ ?_
      · rw [dIdx_len, sizeLine_eq]
        omega
      · intro x hx ν N Y kp hN _
        obtain ⟨k, hk, rfl⟩ := dIdx_mem hx
        show DL.inDs (.int (k : Nat)) (((lots.take i).flatten.map Int.ofNat).map D.int) fun b => DL.bK _ (.bl b) ν
        refine in_lot ?_
        refine if_case (c := decide (k ∈ (lots.take i).flatten)) (fun e => ?_) (fun _ => hN rfl)
        exact absurd rfl (apart k (of_decide_eq_true e) k (List.mem_append_left _ hk))
      have en : ((dIdx r).filter fun _ => false).map id = [] := by
        rw [List.filter_eq_nil_iff.mpr fun x _ => Bool.false_ne_true]
        rfl
      rw [en]
      refine ⟨z0, ?_⟩
      refine lst_sameN (layL_nil 0) (by decide) ?_
      refine ⟨by rw [dIdx_len, dIdx_len, sizeLine_eq]; omega, ?_⟩
      have es : dIdx (lots.take i).flatten ++ dIdx r = dIdx (lots.take (i + 1)).flatten := by
        rw [List.take_succ, hr, List.flatten_append]
        unfold dIdx
        rw [List.map_append, List.map_append]
        show _ = _ ++ ([r].flatten.map Int.ofNat).map D.int
        rw [List.flatten_cons, List.flatten_nil, List.append_nil]
      exact ⟨rfl, hlt, some (.tup (dIdx r)), by rw [← es]; rfl⟩
    · rintro δ' μ' ⟨rfl, _, o6, rfl⟩
      rw [lm, List.take_length]
      refine ⟨l, lots.flatten, .inr rfl, by omega, ?_⟩
      have ef : flipL l lots.flatten = m := by
        apply List.ext_getElem?
        intro i
        unfold flipL
        rw [List.getElem?_mapIdx]
        by_cases hi : i < ts.length
        · have i1 : i < l.length := by omega
          have i2 : i < m.length := by omega
          rw [List.getElem?_eq_getElem i1, List.getElem?_eq_getElem i2]
          have hd : i ∈ lots.flatten ↔ l[i] ≠ m[i] := by
            rw [pm.mem_iff]
            unfold diffL
            rw [List.mem_filter, List.mem_range, decide_eq_true_iff, List.getD_eq_getElem?_getD, List.getD_eq_getElem?_getD, List.getElem?_eq_getElem i1, List.getElem?_eq_getElem i2]
            exact ⟨fun z => z.2, fun z => ⟨hi, z⟩⟩
          show some (if i ∈ lots.flatten then !l[i] else l[i]) = some m[i]
          by_cases q : i ∈ lots.flatten
          · have := hd.mp q
            rw [if_pos q]
            revert this
            cases l[i] <;> cases m[i] <;> simp
          · rw [if_neg q]
            have : l[i] = m[i] := Decidable.by_contra fun z => q (hd.mpr z)
            rw [this]
        · rw [List.getElem?_eq_none (by omega), List.getElem?_eq_none (by omega)]
          rfl
      rw [ef]
      show freed R (.bl (decide (lnS m = lnS m))) μ'
      rw [decide_eq_true rfl]
      exact ⟨_, _, .refl, h⟩
def N42 : List Str := ["_law_purse_here", "_law_ties_here", "_law_leaning_here", "_law_turn", "_law_ways_here", "_law_lot", "_law_k"]
theorem sc42 : FnScope N42 ["_law_purse_here", "_law_ties_here", "_law_leaning_here"] (defScope (top 42)) := ⟨rfl, rfl, rfl, by decide +kernel, rfl, by decide +kernel, by decide +kernel⟩
theorem ok_L_near (T : Tx K mg A) : FnOk P w K mg base CX0 5 A.L_near A.fd_L_near ["_law_purse_here", "_law_ties_here", "_law_leaning_here"] (toSp K (g_L_near)) := by
  refine okDF T.F_L_near sc42 (fun ds μ R h => ?_) ⟨_, fun cdv A0 outer s H E hr =>
    (dss_cons (ds_for PassesOwn.never rfl (di_range (by rfl) T.z_range (da_cons de_int da_nil)) (pg_name (i := 3) sc42.nd rfl (by first | exact Or.inl rfl | exact Or.inr rfl)) (sim_nm (i := 3))
      (dss_cons (ds_set sc42.nd (i := 4) rfl (by first | exact Or.inl rfl | exact Or.inr rfl) (de_call ((ok_L_ways T).mono (by decide)) hr (by rfl) T.g_L_ways T.F_L_ways.kp T.b_L_ways (da_cons (dv 1) (da_cons (dv 2) da_nil))))
      (dss_cons (ds_set sc42.nd (i := 5) rfl (by first | exact Or.inl rfl | exact Or.inr rfl) (de_callTy call_tuple_of sim_tuple (by rfl) T.z_tuple boot_tuple (da_cons (de_lc (own := [("_law_k", 6)]) (by rfl) sc42.nd (di_range (by rfl) T.z_range (da_cons (de_callB cr_len sim_len (by rfl) T.z_len boot_len (da_cons (dv 1) da_nil)) da_nil)) (blkOk_by (N := N42) (own := [("_law_k", 6)]) (sc := defScope (top 42)) (by decide +kernel)) (fun _ _ _ _ _ => (pg_name (i := 6) sc42.nd rfl (by first | exact Or.inl rfl | exact Or.inr rfl))) (sim_nm (i := 6)) (fun _ _ _ _ _ => (dts_one (dt_cmp (op_eqA hr.units) sim_eq (de_call ((ok_L_take T).mono (by decide)) hr (by rfl) T.g_L_take T.F_L_take.kp T.b_L_take (da_cons (dv 0) (da_cons de_int da_nil))) de_int (nomark _)))) (fun _ _ _ _ _ => (dv 6))) da_nil)))
      (dss_one (ds_set sc42.nd (i := 2) rfl (by first | exact Or.inl rfl | exact Or.inr rfl) (de_if (dt_val (de_call ((ok_L_goes_round T).mono (by decide)) hr (by rfl) T.g_L_goes_round T.F_L_goes_round.kp T.b_L_goes_round (da_cons (dv 4) (da_cons (dv 5) da_nil)))) (de_call ((ok_L_flip T).mono (by decide)) hr (by rfl) T.g_L_flip T.F_L_flip.kp T.b_L_flip (da_cons (dv 2) (da_cons (dv 5) da_nil))) (dv 2)))))))
      (dss_one (ds_ret (dv 2)))), fun ds μ R h => ?_⟩
  · obtain ⟨a, x, y, z, p, ts, l, rfl, _⟩ := h
    rfl
  · obtain ⟨a, x, y, z, p, ts, l, rfl, ha, hz, ot, hl, few, h⟩ := h
    have lt : (ts.map D.str).length = ts.length := List.length_map _
    have s0 : Sn μ μ a z := ⟨fun c o _ e => e, ⟨x, y, z, ha, Nat.le_refl _⟩⟩
    refine ⟨⟨by omega, by omega⟩, ?_⟩
    refine ⟨fun i δ' μ' => i ≤ 6 ∧ ∃ (l' : List Bool) (o3 o4 o5 : Option D), l'.length = ts.length ∧ Sn μ μ' a (z + 11 * i) ∧ δ' = [some (.adr a), some (.tup (ts.map D.str)), some (.str (lnS l')), o3, o4, o5, none], ⟨by omega, l, none, none, none, hl, s0, rfl⟩, ?_, ?_⟩
    · rintro i it δ' μ' hi ⟨_, l', o3, o4, o5, hl', s, rfl⟩
      obtain ⟨hi2, rfl⟩ := range_at hi
      have hi : i < 6 := hi2
      refine ⟨p, ts, l', rfl, ot, hl', few, ?_⟩
      refine ⟨⟨by omega, by omega⟩, ?_⟩
      rw [lt, Int.toNat_natCast]
      show LcB _ _ _ _ _ _ _ _
      refine lcb_eff (fun j ys ν => j ≤ ts.length ∧ ∃ q : List Nat, ys = dIdx q ∧ q.length ≤ j ∧ (∀ k ∈ q, k < ts.length) ∧ Sn μ ν a (z + 11 * i + j)) ?_ ⟨Nat.zero_le _, [], rfl, Nat.le_refl _, (fun k hk => by cases hk), s⟩ ?_ ?_ ?_
      · rw [List.length_map, List.length_range, sizeLine_eq]
        omega
      · rintro j ys ν ⟨_, q, rfl, lq, _⟩
        rw [dIdx_len]
        exact lq
      · rintro j it2 hj b ys ν N Y nb ⟨_, q, rfl, lq, inq, s⟩ hN hY
        obtain ⟨hj2, rfl⟩ := range_at hj
        have hj : j < ts.length := hj2
        obtain ⟨px, py, pz, hpot, hpz⟩ := s.has
        have ne : b ≠ a := fun e => by rw [e, hpot] at nb; cases nb
        refine ⟨a, px, py, pz, _, rfl, by rw [put_ne ne.symm]; exact hpot, by omega, by omega, by omega, fun w x y hw => ?_⟩
        have s2 := s.draw (m := z + 11 * i + (j + 1)) x y (z := pz + 1) (by omega)
        rw [put_comm ne]
        have nb2 : put ν a (pot x y (pz + 1 : Nat)) b = none := by rw [put_ne ne]; exact nb
        refine if_case (c := decide ((w : Int) = 0)) (fun _ => ?_) (fun _ => ?_)
        · refine hY (.int (j : Nat)) _ nb2 ⟨hj, q ++ [j], ?_, by rw [List.length_append]; show _ + 1 ≤ _; omega, fun k hk => ?_, s2⟩
          · unfold dIdx
            rw [List.map_append, List.map_append]
            rfl
          · rcases List.mem_append.mp hk with z | z
            · exact inq k z
            · rw [List.mem_singleton.mp z]; exact hj
        · exact hN _ nb2 ⟨hj, q, rfl, by omega, inq, s2⟩
      · rintro ys ν ⟨_, q, rfl, lq, inq, s⟩
        rw [List.length_map, List.length_range] at lq s
        refine ⟨p, ts, l', q, rfl, ot, hl', few, by omega, inq, fun b _ => ?_⟩
        have lf : (flipL l' q).length = ts.length := by unfold flipL; rw [List.length_mapIdx, hl']
        refine if_case (c := b) (fun _ => ?_) (fun _ => ?_)
        · refine ⟨l', q, .inl rfl, by omega, ?_⟩
          exact ⟨hi, flipL l' q, _, _, _, lf, s.up (by omega), rfl⟩
        · exact ⟨hi, l', _, _, _, hl', s.up (by omega), rfl⟩
    · rintro δ' μ' ⟨_, l', o3, o4, o5, hl', s, rfl⟩
      rw [show ((List.range (6 : Int).toNat).map fun i => D.int (i : Nat)).length = 6 from rfl] at s
      exact s.back fun x y z' hz' => h l' x y z' hl' (by omega)
end
end K10

set_option Elab.async false
set_option linter.all false
set_option maxRecDepth 100000
namespace K10
open PySem PySem.Spec PyProof.Rows L2 DL
section
variable {P : Program} {w : World} {K : PySem.W.Frag} {mg : Str → Option Value} {base : Heap} {A : Ad}

/-! ### the law -/
def unS (y : Str) : List Bool := y.cps.toList.map fun c => decide (c = 43)
theorem un_ln (l : List Bool) : unS (lnS l) = l := by
  unfold unS lnS
  rw [toS_list]
  unfold lnC
  rw [List.map_map]
  have : (fun c => decide (c = 43)) ∘ sgn = id := by
    funext b
    cases b <;> rfl
  rw [this, List.map_id]
def g_L_right23 : GC := fun ds μ R => ∃ (a : Addr) (x y : Int), ds = [.adr a] ∧ μ a = some (pot x y 0) ∧ ∀ (x y : Int) (z' : Nat), R (.bl true) (put μ a (pot x y z'))
def N43 : List Str := ["_law_purse_here", "_law_places_here", "_law_ties_here", "_law_mine", "_law_turn", "_law_one_here", "_law_two", "_law_rows_here", "_law_told", "_law_each"]
theorem sc43 : FnScope N43 ["_law_purse_here"] (defScope (top 43)) := ⟨rfl, rfl, rfl, by decide +kernel, rfl, by decide +kernel, by decide +kernel⟩
set_option maxHeartbeats 4000000 in
theorem ok_L_right (T : Tx K mg A) : FnOk P w K mg base CX0 9 A.L_right A.fd_L_right ["_law_purse_here"] (toSp K (g_L_right23)) := by
  refine okDF T.F_L_right sc43 (fun ds μ R h => ?_) ⟨_, fun cdv A0 outer s H E hr =>
    (dss_cons (ds_asg (de_call ((ok_L_web T).mono (by decide)) hr (by rfl) T.g_L_web T.F_L_web.kp T.b_L_web (da_cons (dv 0) (da_cons de_int (da_cons de_int da_nil)))) (pg_tup (n := 2) (by rfl) (pgs_cons (pg_name (i := 1) sc43.nd rfl (by first | exact Or.inl rfl | exact Or.inr rfl)) (pgs_cons (pg_name (i := 2) sc43.nd rfl (by first | exact Or.inl rfl | exact Or.inr rfl)) pgs_nil))) (sim_tupT (n := 2) (sim_consT (sim_nm (i := 1)) (sim_consT (sim_nm (i := 2)) sim_nilT))))
      (dss_cons (ds_set sc43.nd (i := 3) rfl (by first | exact Or.inl rfl | exact Or.inr rfl) (de_make T.m_Web ((ok_Web_init T).mono (by decide)) hr (by rfl) T.g_Web T.b_Web_init (da_cons (dv 1) (da_cons (dv 2) da_nil))))
      (dss_cons (ds_for PassesOwn.never rfl (di_range (by rfl) T.z_range (da_cons de_int da_nil)) (pg_name (i := 4) sc43.nd rfl (by first | exact Or.inl rfl | exact Or.inr rfl)) (sim_nm (i := 4))
      (dss_cons (ds_set sc43.nd (i := 5) rfl (by first | exact Or.inl rfl | exact Or.inr rfl) (de_call ((ok_L_lean T).mono (by decide)) hr (by rfl) T.g_L_lean T.F_L_lean.kp T.b_L_lean (da_cons (dv 0) (da_cons (dv 2) da_nil))))
      (dss_one (ds_for PassesOwn.never rfl (di_both (de_lst (da_cons (de_call ((ok_L_near T).mono (by decide)) hr (by rfl) T.g_L_near T.F_L_near.kp T.b_L_near (da_cons (dv 0) (da_cons (dv 2) (da_cons (dv 5) da_nil)))) (da_cons (de_call ((ok_L_lean T).mono (by decide)) hr (by rfl) T.g_L_lean T.F_L_lean.kp T.b_L_lean (da_cons (dv 0) (da_cons (dv 2) da_nil))) (da_cons (dv 5) da_nil))))) (pg_name (i := 6) sc43.nd rfl (by first | exact Or.inl rfl | exact Or.inr rfl)) (sim_nm (i := 6))
      (dss_cons (ds_setLc (i := 7) (own := [("_law_each", 9)]) (by rfl) sc43.nd rfl rfl (sw_true rfl rfl rfl (by decide +kernel)) (di_both (de_lst (da_cons (dv 5) (da_cons (dv 6) da_nil)))) (blkOk_by (N := N43) (own := [("_law_each", 9)]) (sc := defScope (top 43)) (by decide +kernel)) (fun _ _ _ _ _ => (pg_name (i := 9) sc43.nd rfl (by first | exact Or.inl rfl | exact Or.inr rfl))) (sim_nm (i := 9)) (fun _ _ _ _ _ => dts_nil) (fun _ _ _ _ _ => (de_call ((ok_L_row T).mono (by decide)) hr (by rfl) T.g_L_row T.F_L_row.kp T.b_L_row (da_cons (dv 1) (da_cons (de_call ((ok_L_ways T).mono (by decide)) hr (by rfl) T.g_L_ways T.F_L_ways.kp T.b_L_ways (da_cons (dv 2) (da_cons (dv 9) da_nil))) da_nil)))))
      (dss_cons (ds_set sc43.nd (i := 8) rfl (by first | exact Or.inl rfl | exact Or.inr rfl) (de_lst (da_cons (de_call ((ok_turning_rings T).mono (by decide)) hr (by rfl) T.g_turning_rings T.F_turning_rings.kp T.b_turning_rings (da_cons (dv 3) (da_cons (dv 5) (da_cons (dv 6) da_nil)))) (da_cons (de_callK0 (gD := rev3) ((ok_turning_rings T).mono (by decide)) hr (by rfl) T.g_turning_rings T.F_turning_rings.kp T.kb_turning_rings (fun H μ ds vs h l => by exact rev3_rep h l) (dk_cons (dv 6) (dk_cons (dv 5) (dk_cons (dv 3) dk_nil)))) da_nil))))
      (dss_one (ds_if (dt_cmp (op_neA hr.units) sim_ne (de_ix ix_any sim_ix (dv 7) de_int (fun _ _ => rfl)) (de_ix ix_any sim_ix (dv 7) de_int (fun _ _ => rfl)) (nomark _)) (dss_one (ds_if (dt_cmp (op_neA hr.units) sim_ne (dv 8) (de_lst (da_cons de_non (da_cons de_non da_nil))) (nomark _)) (dss_one (ds_ret de_bl)) dss_nil)) (dss_one (ds_if (dw_or (dt_not (dt_val (de_call ((ok_L_shown T).mono (by decide)) hr (by rfl) T.g_L_shown T.F_L_shown.kp T.b_L_shown (da_cons (dv 3) (da_cons (dv 5) (da_cons (dv 6) (da_cons (de_ix ix_any sim_ix (dv 8) de_int (fun _ _ => rfl)) da_nil))))))) (dw_or1 (dt_not (dt_val (de_call ((ok_L_shown T).mono (by decide)) hr (by rfl) T.g_L_shown T.F_L_shown.kp T.b_L_shown (da_cons (dv 3) (da_cons (dv 5) (da_cons (dv 6) (da_cons (de_ix ix_any sim_ix (dv 8) de_int (fun _ _ => rfl)) da_nil))))))))).dt (dss_one (ds_ret de_bl)) dss_nil))))))))))
      (dss_one (ds_ret de_bl))))), fun ds μ R h => ?_⟩
  · obtain ⟨a, x, y, rfl, _⟩ := h
    rfl
  · obtain ⟨a, x, y, rfl, ha, h⟩ := h
    have s0 : Sn μ μ a 0 := ⟨fun c o _ e => e, ⟨x, y, 0, ha, Nat.le_refl _⟩⟩
    have sz2 : 2 ≤ sizeLine := by decide
    refine ⟨a, x, y, 0, 4, 6, rfl, ha, by omega, by omega, by omega, by omega, fun p ts x y z1 op ot p4 t6 hz1 => ?_⟩
    have s := s0.draw (m := 100) x y (z := z1) (by omega)
    generalize put μ a (pot x y z1) = μ1 at s ⊢
    have p8 : p.length ≤ 8 := by omega
    have few : ts.length ≤ 11 := by omega
    refine ⟨rfl, fun b nb => ?_⟩
    refine ⟨b, p, ts, rfl, op, ot.ok few, put_same, ?_⟩
    refine ⟨_, put_same, ?_⟩
    rw [put_put, del_put nb]
    refine ⟨⟨by omega, by omega⟩, ?_⟩
    refine ⟨fun i δ' μ' => i ≤ 3 ∧ Sn μ μ' a (100 + 120 * i) ∧ ∃ o4 o5 o6 o7 o8, δ' = [some (.adr a), some (.str (toS p)), some (.tup (ts.map D.str)), some (dWeb A.Web p ts), o4, o5, o6, o7, o8, none], ⟨by omega, s, none, none, none, none, none, rfl⟩, ?_, ?_⟩
    · rintro i it δ' μ' hi ⟨_, s, o4, o5, o6, o7, o8, rfl⟩
      obtain ⟨hi2, rfl⟩ := range_at hi
      have hi : i < 3 := hi2
      obtain ⟨px, py, pz, hpot, hpz⟩ := s.has
      refine ⟨a, px, py, pz, ts, rfl, hpot, by omega, few, fun l x y z2 hl hz2 => ?_⟩
      have s := s.draw (m := 100 + 120 * i + 6) x y (z := z2) (by omega)
      generalize put μ' a (pot x y z2) = μ2 at s ⊢
      obtain ⟨px, py, pz, hpot, hpz⟩ := s.has
      refine ⟨a, px, py, pz, p, ts, l, rfl, hpot, by omega, ot, hl, few, fun l2 x y z3 hl2 hz3 => ?_⟩
      have s := s.draw (m := 100 + 120 * i + 106) x y (z := z3) (by omega)
      generalize put μ2 a (pot x y z3) = μ3 at s ⊢
      obtain ⟨px, py, pz, hpot, hpz⟩ := s.has
      refine ⟨a, px, py, pz, ts, rfl, hpot, by omega, few, fun l3 x y z4 hl3 hz4 => ?_⟩
      have s := s.draw (m := 100 + 120 * (i + 1)) x y (z := z4) (by omega)
      generalize put μ3 a (pot x y z4) = μ4 at s ⊢
      refine ⟨by show 3 ≤ sizeLine; decide, ?_⟩
      refine ⟨fun j δ' μ' => μ' = μ4 ∧ ∃ o6 o7 o8, δ' = [some (.adr a), some (.str (toS p)), some (.tup (ts.map D.str)), some (dWeb A.Web p ts), some (.int (i : Nat)), some (.str (lnS l)), o6, o7, o8, none], ⟨rfl, o6, o7, o8, rfl⟩, ?_, ?_⟩
      · rintro j it δ' μ' hj ⟨rfl, o6, o7, o8, rfl⟩
        obtain ⟨m, hm, rfl⟩ : ∃ m : List Bool, m.length = ts.length ∧ it = .str (lnS m) := by
          rcases List.mem_cons.mp (List.mem_of_getElem? hj) with k | k
          · exact ⟨l2, hl2, k⟩
          · rcases List.mem_cons.mp k with k | k
            · exact ⟨l3, hl3, k⟩
            · exact ⟨l, hl, List.mem_singleton.mp k⟩
        refine ⟨sz2, ?_⟩
        show LcB _ _ _ _ _ _ _ _
        refine lcb_map (fun d => match d with | .str y => dInt (rowL p ts (unS y)) | d => d) (by show 2 < sizeLine; decide) ?_ ?_
        · intro d hd ν Y kp hY
          obtain ⟨u, hu, rfl⟩ : ∃ u : List Bool, u.length = ts.length ∧ d = .str (lnS u) := by
            rcases List.mem_cons.mp hd with k | k
            · exact ⟨l, hl, k⟩
            · exact ⟨m, hm, List.mem_singleton.mp k⟩
          have hY : Y (dInt (rowL p ts (unS (lnS u)))) ν := hY
          rw [un_ln] at hY
          have lw : (waysL ts u).length = ts.length := by
            unfold waysL
            rw [List.length_zipWith]
            omega
          refine ⟨p, ts, u, rfl, ot, hu, few, ?_⟩
          refine ⟨p, waysL ts u, rfl, p8, by omega, ways_are ot, ?_⟩
          rw [ways_first ot]
          exact hY
        have er : [D.str (lnS l), D.str (lnS m)].map (fun d => match d with | .str y => dInt (rowL p ts (unS y)) | d => d) = [dInt (rowL p ts l), dInt (rowL p ts m)] := by
          show [dInt (rowL p ts (unS (lnS l))), dInt (rowL p ts (unS (lnS m)))] = _
          rw [un_ln, un_ln]
        rw [er]
        have cmpR : ∀ {ν : Mu} {F : D → Mu → Prop}, F (.bl (!decide (rowL p ts l = rowL p ts m))) ν → DL.gNe (dInt (rowL p ts l)) (dInt (rowL p ts m)) ν F := fun {ν F} hF => by
          refine (lay_tup (layL_ints (rowL p ts l) 0)).cmp (lay_tup (layL_ints (rowL p ts m) 0)) (by decide) (by decide) ?_
          rw [eqv_ints]
          exact hF
        by_cases e : rowL p ts l = rowL p ts m
        · refine ⟨p, ts, l, m, rfl, op, ot, hl, hm, few, (fun z => absurd e z), fun _ lots rg pm => ?_⟩
          refine ⟨rfl, p, ts, l, m, rfl, op, ot, hl, hm, few, (fun z => absurd e z), fun _ lots2 rg2 pm2 => ?_⟩
          refine ⟨sz2, ?_⟩
          refine cmpR ?_
          rw [decide_eq_true e]
          refine ⟨p, ts, l, m, lots, rfl, ot, hl, hm, few, rg, pm, ?_⟩
          refine ⟨p, ts, l, m, lots2, rfl, ot, hl, hm, few, rg2, pm2, ?_⟩
          exact ⟨rfl, _, _, _, rfl⟩
        · refine ⟨p, ts, l, m, rfl, op, ot, hl, hm, few, (fun _ => ?_), fun z => absurd z e⟩
          refine ⟨rfl, p, ts, l, m, rfl, op, ot, hl, hm, few, (fun _ => ?_), fun z => absurd z e⟩
          refine ⟨sz2, ?_⟩
          refine cmpR ?_
          rw [decide_eq_false e]
          refine ⟨sz2, ?_⟩
          refine lst_sameN (layL_cons (lay_non 0) (layL_cons (lay_non 0) (layL_nil 0))) (by decide) ?_
          exact ⟨rfl, _, _, _, rfl⟩
      · rintro δ' μ' ⟨rfl, o6, o7, o8, rfl⟩
        exact ⟨hi, s, _, _, _, _, _, rfl⟩
    · rintro δ' μ' ⟨_, s, o4, o5, o6, o7, o8, rfl⟩
      exact s.back fun x y z' _ => h x y z' 

def g_law : GC := fun ds μ R => ∃ ns : List Int, ds = [.seq (ns.map D.int)] ∧ ns.length ≤ 63 ∧ ∀ μ', R (.bl true) μ'
def N44 : List Str := ["_law_script", "_law_k"]
theorem sc44 : FnScope N44 ["_law_script"] (defScope (top 44)) := ⟨rfl, rfl, rfl, by decide +kernel, rfl, by decide +kernel, by decide +kernel⟩
set_option maxHeartbeats 4000000 in
theorem okG_law (T : Tx K mg A) : FnG P w K mg base 10 A.law A.fd_law ["_law_script"] (toSp K (g_law)) := by
  refine okDG T.F_law sc44 (fun ds μ R h => ?_) ⟨_, fun cdv A0 outer s H hr hG =>
    (dss_one (ds_ret (de_callB (cr_all (by rfl)) sim_all (by rfl) T.z_all boot_all (da_cons (de_lc (own := [("_law_k", 1)]) (by rfl) sc44.nd (di_range (by rfl) T.z_range (da_cons (de_callB (call_max2 (by rfl)) sim_max2 (by rfl) T.z_max boot_max (da_cons de_int (da_cons (de_callB (call_min2 (by rfl)) sim_min2 (by rfl) T.z_min boot_min (da_cons (de_callB cr_len sim_len (by rfl) T.z_len boot_len (da_cons (dv 0) da_nil)) (da_cons de_int da_nil))) da_nil))) da_nil)) (blkOk_by (N := N44) (own := [("_law_k", 1)]) (sc := defScope (top 44)) (by decide +kernel)) (fun _ _ _ _ _ => (pg_name (i := 1) sc44.nd rfl (by first | exact Or.inl rfl | exact Or.inr rfl))) (sim_nm (i := 1)) (fun _ _ _ _ _ => dts_nil) (fun _ _ _ _ _ => (de_call ((ok_L_right T).mono (by decide)) hr (by rfl) T.g_L_right T.F_L_right.kp T.b_L_right (da_cons (de_call ((ok_L_purse T).mono (by decide)) hr (by rfl) T.g_L_purse T.F_L_purse.kp T.b_L_purse (da_cons (dv 0) (da_cons (dv 1) da_nil))) da_nil)))) da_nil)))), fun ds μ R h => ?_⟩
  · obtain ⟨ns, rfl, _⟩ := h
    rfl
  · obtain ⟨ns, rfl, ln, h⟩ := h
    have lm : (ns.map D.int).length = ns.length := List.length_map _
    refine ⟨⟨?_, ?_⟩, ?_⟩
    · split <;> (try split) <;> omega
    · split <;> (try split) <;> omega
    · show LcB _ _ _ _ _ _ _ _
      refine lcb_eff (fun i ys ν => ys = List.replicate i (.bl true)) ?_ rfl ?_ ?_ ?_
      · rw [List.length_map, List.length_range, sizeLine_eq]
        split <;> (try split) <;> omega
      · rintro i ys ν rfl
        rw [List.length_replicate]
        exact Nat.le_refl _
      · rintro i it hi b ys ν N Y nb rfl hN hY
        obtain ⟨hi, rfl⟩ := range_at hi
        refine ⟨ns, i, rfl, by omega, by omega, fun x y a na => ?_⟩
        have ne : b ≠ a := fun e => by
          rw [← e, put_same] at na
          cases na
        refine ⟨a, x, y, rfl, put_same, fun x' y' z' => ?_⟩
        rw [put_put, put_comm ne]
        refine hY (.bl true) _ (by rw [put_ne ne]; exact nb) ?_
        rw [List.replicate_succ']
      · rintro ys ν rfl
        refine ⟨List.replicate _ true, (List.map_replicate).symm, ?_⟩
        show R (.bl ((List.replicate _ true).all id)) ν
        have e : ∀ k, (List.replicate k true).all id = true := fun k => by
          rw [List.all_eq_true]
          intro c hc
          rw [List.eq_of_mem_replicate hc]
          rfl
        rw [e]
        exact h ν
end
end K10

set_option Elab.async false
set_option linter.all false
set_option maxRecDepth 100000
namespace K10
open PySem L2 DL
/-- a def of the module as the top has written it -/
structure DefAt (K : PySem.W.Frag) (x : Str) (st : Stmt) (f : Addr) : Prop where
  ns : PySem.W.nsIn K mainGlobals x = some (some (.ref f))
  fn : ∃ fd, Fun K x x st f fd
theorem def_mk {K : PySem.W.Frag} {x : Str} {st : Stmt} {f : Addr} {oc : Value} {od an : Option Addr} {osl : Array (Option Value)} {kV doc pm cdv ct : Value} (a : PySem.W.nsIn K mainGlobals x = some (some (.ref f)))
    (l : K.lookup f = some ⟨oc, od, .func (PySem.W.fnOf x x (defArgs st) (defBody st) (defScope st) .none kV doc pm an cdv ct), osl⟩) (c : PySem.W.codeIn K cdv x = true) (k : PySem.W.keepIn K (.ref f) = true) : DefAt K x st f := ⟨a, _, fun_mk l c k⟩
theorem init_mk {K : PySem.W.Frag} {st : Stmt} {f : Addr} {oc : Value} {od an : Option Addr} {osl : Array (Option Value)} {kV doc pm cdv ct : Value}
    (l : K.lookup f = some ⟨oc, od, .func (PySem.W.fnOf "__init__" "Web.__init__" (defArgs st) (defBody st) (defScope st) .none kV doc pm an cdv ct), osl⟩) (c : PySem.W.codeIn K cdv "Web.__init__" = true) (k : PySem.W.keepIn K (.ref f) = true) : ∃ fd, Fun K "__init__" "Web.__init__" st f fd := ⟨_, fun_mk l c k⟩
theorem int_mk {K : PySem.W.Frag} {x : Str} {i : Int} {t : Tok} (e : PySem.W.nsIn K mainGlobals x = some (some (.int i t))) : ∃ t, PySem.W.nsIn K mainGlobals x = some (some (.int i t)) := ⟨t, e⟩
theorem str_mk {K : PySem.W.Frag} {x i : Str} {t : Tok} (e : PySem.W.nsIn K mainGlobals x = some (some (.str i t))) : ∃ t, PySem.W.nsIn K mainGlobals x = some (some (.str i t)) := ⟨t, e⟩
theorem rot_vals {zs : List V} {ws : List Value} (h : Vals zs ws) : Vals (rot zs) (rot ws) := by
  cases h with
  | nil => exact .nil
  | cons a h =>
    cases h with
    | nil => exact .cons a .nil
    | cons b h =>
      cases h with
      | nil => exact .cons a (.cons b .nil)
      | cons c h =>
        cases h with
        | nil => exact .cons b (.cons c (.cons a .nil))
        | cons d h => exact .cons a (.cons b (.cons c (.cons d h)))
structure Facts (K : PySem.W.Frag) (C I f_are_letters f_are_places f_is_tie f_first_wrong_tie f_check_places f_check_ties f_check_leaning f_check_web f_arrow_of f_arrows_of f_ways_along f_score_of f_ring_among f_turning_rings f_L_purse f_L_take f_L_one f_L_web f_L_lean f_L_ways f_L_goes_round f_L_flip f_L_row f_L_shown f_L_near f_L_right f_law : Addr) : Prop where
  d_are_letters : DefAt K "are_letters" (top 12) f_are_letters
  d_are_places : DefAt K "are_places" (top 13) f_are_places
  d_is_tie : DefAt K "is_tie" (top 14) f_is_tie
  d_first_wrong_tie : DefAt K "first_wrong_tie" (top 15) f_first_wrong_tie
  d_check_places : DefAt K "check_places" (top 17) f_check_places
  d_check_ties : DefAt K "check_ties" (top 18) f_check_ties
  d_check_leaning : DefAt K "check_leaning" (top 19) f_check_leaning
  d_check_web : DefAt K "check_web" (top 22) f_check_web
  d_arrow_of : DefAt K "arrow_of" (top 24) f_arrow_of
  d_arrows_of : DefAt K "arrows_of" (top 25) f_arrows_of
  d_ways_along : DefAt K "ways_along" (top 26) f_ways_along
  d_score_of : DefAt K "score_of" (top 28) f_score_of
  d_ring_among : DefAt K "ring_among" (top 29) f_ring_among
  d_turning_rings : DefAt K "turning_rings" (top 30) f_turning_rings
  d_L_purse : DefAt K "_law_purse" (top 32) f_L_purse
  d_L_take : DefAt K "_law_take" (top 33) f_L_take
  d_L_one : DefAt K "_law_one" (top 34) f_L_one
  d_L_web : DefAt K "_law_web" (top 35) f_L_web
  d_L_lean : DefAt K "_law_lean" (top 36) f_L_lean
  d_L_ways : DefAt K "_law_ways" (top 37) f_L_ways
  d_L_goes_round : DefAt K "_law_goes_round" (top 38) f_L_goes_round
  d_L_flip : DefAt K "_law_flip" (top 39) f_L_flip
  d_L_row : DefAt K "_law_row" (top 40) f_L_row
  d_L_shown : DefAt K "_law_shown" (top 41) f_L_shown
  d_L_near : DefAt K "_law_near" (top 42) f_L_near
  d_L_right : DefAt K "_law_right" (top 43) f_L_right
  d_law : DefAt K "law" (top 44) f_law
  i_d : ∃ fd, Fun K "__init__" "Web.__init__" (inClass (top 21) 0) I fd
  c_ns : PySem.W.nsIn K mainGlobals "Web" = some (some (.ref C))
  c_init : PySem.W.findIn K (.ref C) "__init__" = some (some (.ref I))
  c_fn : PySem.W.isFn K (.ref I) = true
  c_pg : PySem.W.plainGet K C Str.empty = true
  c_hd : PySem.W.hasDictIn K C = true
  c_po : PySem.W.plainOver K C = true
  c_sa : PySem.W.findIn K (.ref C) "__setattr__" = some (some (.builtin "object.__setattr__"))
  c_mk : PySem.W.makesIn K C = true
  c_kc : PySem.W.keepIn K (.ref C) = true
  c_pl : PySem.W.findIn K (.ref C) "places" = some none
  c_ti : PySem.W.findIn K (.ref C) "ties" = some none
  c_ha : PySem.W.findIn K (.ref C) "__class__" = some (some (.builtin "object.__class__"))
  c_hn : PySem.W.specialIn K (.builtin "object.__class__") "__get__" = some (some (.builtin "getset_descriptor.__get__"))
  c_ht : PySem.W.takesIn K (.builtin "object.__class__") = some true
  c_hm : PySem.W.mroIn K C (.type "object") = some true
  z_abs : PySem.W.nsIn K mainGlobals "abs" = some none
  z_all : PySem.W.nsIn K mainGlobals "all" = some none
  z_divmod : PySem.W.nsIn K mainGlobals "divmod" = some none
  z_enumerate : PySem.W.nsIn K mainGlobals "enumerate" = some none
  z_int : PySem.W.nsIn K mainGlobals "int" = some none
  z_isinstance : PySem.W.nsIn K mainGlobals "isinstance" = some none
  z_len : PySem.W.nsIn K mainGlobals "len" = some none
  z_list : PySem.W.nsIn K mainGlobals "list" = some none
  z_max : PySem.W.nsIn K mainGlobals "max" = some none
  z_min : PySem.W.nsIn K mainGlobals "min" = some none
  z_range : PySem.W.nsIn K mainGlobals "range" = some none
  z_set : PySem.W.nsIn K mainGlobals "set" = some none
  z_sorted : PySem.W.nsIn K mainGlobals "sorted" = some none
  z_str : PySem.W.nsIn K mainGlobals "str" = some none
  z_tuple : PySem.W.nsIn K mainGlobals "tuple" = some none
  z_zip : PySem.W.nsIn K mainGlobals "zip" = some none
  k_MOST_PLACES : ∃ t, PySem.W.nsIn K mainGlobals "MOST_PLACES" = some (some (.int (7) t))
  k_MOST_TIES : ∃ t, PySem.W.nsIn K mainGlobals "MOST_TIES" = some (some (.int (11) t))
  k_LETTERS : ∃ t, PySem.W.nsIn K mainGlobals "LETTERS" = some (some (.str "abcdefgh" t))
  k_SIGNS : ∃ t, PySem.W.nsIn K mainGlobals "SIGNS" = some (some (.str "+-" t))
set_option maxHeartbeats 4000000 in
theorem all_mk {K : PySem.W.Frag} {h : Heap} {mg : Str → Option Value} {fa C I f_are_letters f_are_places f_is_tie f_first_wrong_tie f_check_places f_check_ties f_check_leaning f_check_web f_arrow_of f_arrows_of f_ways_along f_score_of f_ring_among f_turning_rings f_L_purse f_L_take f_L_one f_L_web f_L_lean f_L_ways f_L_goes_round f_L_flip f_L_row f_L_shown f_L_near f_L_right f_law : Addr} (X : K.In h) (G : h.Ns mainGlobals mg) (hfa : mg "law" = some (.ref fa)) (F : Facts K C I f_are_letters f_are_places f_is_tie f_first_wrong_tie f_check_places f_check_ties f_check_leaning f_check_web f_arrow_of f_arrows_of f_ways_along f_score_of f_ring_among f_turning_rings f_L_purse f_L_take f_L_one f_L_web f_L_lean f_L_ways f_L_goes_round f_L_flip f_L_row f_L_shown f_L_near f_L_right f_law) :
    ∃ A : Ad, A.law = fa ∧ Tx K mg A := by
  have e := hfa.symm.trans (PySem.W.mg_of X G F.d_law.ns)
  cases e
  obtain ⟨fd_are_letters, F_are_letters⟩ := F.d_are_letters.fn
  obtain ⟨fd_are_places, F_are_places⟩ := F.d_are_places.fn
  obtain ⟨fd_is_tie, F_is_tie⟩ := F.d_is_tie.fn
  obtain ⟨fd_first_wrong_tie, F_first_wrong_tie⟩ := F.d_first_wrong_tie.fn
  obtain ⟨fd_check_places, F_check_places⟩ := F.d_check_places.fn
  obtain ⟨fd_check_ties, F_check_ties⟩ := F.d_check_ties.fn
  obtain ⟨fd_check_leaning, F_check_leaning⟩ := F.d_check_leaning.fn
  obtain ⟨fd_check_web, F_check_web⟩ := F.d_check_web.fn
  obtain ⟨fd_arrow_of, F_arrow_of⟩ := F.d_arrow_of.fn
  obtain ⟨fd_arrows_of, F_arrows_of⟩ := F.d_arrows_of.fn
  obtain ⟨fd_ways_along, F_ways_along⟩ := F.d_ways_along.fn
  obtain ⟨fd_score_of, F_score_of⟩ := F.d_score_of.fn
  obtain ⟨fd_ring_among, F_ring_among⟩ := F.d_ring_among.fn
  obtain ⟨fd_turning_rings, F_turning_rings⟩ := F.d_turning_rings.fn
  obtain ⟨fd_L_purse, F_L_purse⟩ := F.d_L_purse.fn
  obtain ⟨fd_L_take, F_L_take⟩ := F.d_L_take.fn
  obtain ⟨fd_L_one, F_L_one⟩ := F.d_L_one.fn
  obtain ⟨fd_L_web, F_L_web⟩ := F.d_L_web.fn
  obtain ⟨fd_L_lean, F_L_lean⟩ := F.d_L_lean.fn
  obtain ⟨fd_L_ways, F_L_ways⟩ := F.d_L_ways.fn
  obtain ⟨fd_L_goes_round, F_L_goes_round⟩ := F.d_L_goes_round.fn
  obtain ⟨fd_L_flip, F_L_flip⟩ := F.d_L_flip.fn
  obtain ⟨fd_L_row, F_L_row⟩ := F.d_L_row.fn
  obtain ⟨fd_L_shown, F_L_shown⟩ := F.d_L_shown.fn
  obtain ⟨fd_L_near, F_L_near⟩ := F.d_L_near.fn
  obtain ⟨fd_L_right, F_L_right⟩ := F.d_L_right.fn
  obtain ⟨fd_law, F_law⟩ := F.d_law.fn
  obtain ⟨fd_i, F_i⟩ := F.i_d
  have b_are_letters := F_are_letters.binds (ps := ["value"]) fun _ _ _ _ _ _ us hl => match us, hl with | [_], _ => rfl
  have b_are_places := F_are_places.binds (ps := ["value"]) fun _ _ _ _ _ _ us hl => match us, hl with | [_], _ => rfl
  have b_is_tie := F_is_tie.binds (ps := ["places", "value"]) fun _ _ _ _ _ _ us hl => match us, hl with | [_, _], _ => rfl
  have b_first_wrong_tie := F_first_wrong_tie.binds (ps := ["places", "ties"]) fun _ _ _ _ _ _ us hl => match us, hl with | [_, _], _ => rfl
  have b_check_places := F_check_places.binds (ps := ["places"]) fun _ _ _ _ _ _ us hl => match us, hl with | [_], _ => rfl
  have b_check_ties := F_check_ties.binds (ps := ["places", "ties"]) fun _ _ _ _ _ _ us hl => match us, hl with | [_, _], _ => rfl
  have b_check_leaning := F_check_leaning.binds (ps := ["web", "leaning"]) fun _ _ _ _ _ _ us hl => match us, hl with | [_, _], _ => rfl
  have b_check_web := F_check_web.binds (ps := ["web"]) fun _ _ _ _ _ _ us hl => match us, hl with | [_], _ => rfl
  have b_arrow_of := F_arrow_of.binds (ps := ["tie", "sign"]) fun _ _ _ _ _ _ us hl => match us, hl with | [_, _], _ => rfl
  have b_arrows_of := F_arrows_of.binds (ps := ["web", "leaning"]) fun _ _ _ _ _ _ us hl => match us, hl with | [_, _], _ => rfl
  have b_ways_along := F_ways_along.binds (ps := ["row", "start"]) fun _ _ _ _ _ _ us hl => match us, hl with | [_, _], _ => rfl
  have b_score_of := F_score_of.binds (ps := ["web", "leaning"]) fun _ _ _ _ _ _ us hl => match us, hl with | [_, _], _ => rfl
  have b_ring_among := F_ring_among.binds (ps := ["arrows", "indexes"]) fun _ _ _ _ _ _ us hl => match us, hl with | [_, _], _ => rfl
  have b_turning_rings := F_turning_rings.binds (ps := ["web", "leaning", "other_leaning"]) fun _ _ _ _ _ _ us hl => match us, hl with | [_, _, _], _ => rfl
  have b_L_purse := F_L_purse.binds (ps := ["_law_script", "_law_k"]) fun _ _ _ _ _ _ us hl => match us, hl with | [_, _], _ => rfl
  have b_L_take := F_L_take.binds (ps := ["_law_purse_here", "_law_many"]) fun _ _ _ _ _ _ us hl => match us, hl with | [_, _], _ => rfl
  have b_L_one := F_L_one.binds (ps := ["_law_purse_here", "_law_things"]) fun _ _ _ _ _ _ us hl => match us, hl with | [_, _], _ => rfl
  have b_L_web := F_L_web.binds (ps := ["_law_purse_here", "_law_most_places", "_law_most_ties"]) fun _ _ _ _ _ _ us hl => match us, hl with | [_, _, _], _ => rfl
  have b_L_lean := F_L_lean.binds (ps := ["_law_purse_here", "_law_ties_here"]) fun _ _ _ _ _ _ us hl => match us, hl with | [_, _], _ => rfl
  have b_L_ways := F_L_ways.binds (ps := ["_law_ties_here", "_law_leaning_here"]) fun _ _ _ _ _ _ us hl => match us, hl with | [_, _], _ => rfl
  have b_L_goes_round := F_L_goes_round.binds (ps := ["_law_ways_here", "_law_lot"]) fun _ _ _ _ _ _ us hl => match us, hl with | [_, _], _ => rfl
  have b_L_flip := F_L_flip.binds (ps := ["_law_leaning_here", "_law_lot"]) fun _ _ _ _ _ _ us hl => match us, hl with | [_, _], _ => rfl
  have b_L_row := F_L_row.binds (ps := ["_law_places_here", "_law_ways_here"]) fun _ _ _ _ _ _ us hl => match us, hl with | [_, _], _ => rfl
  have b_L_shown := F_L_shown.binds (ps := ["_law_mine", "_law_leaning_here", "_law_other", "_law_told"]) fun _ _ _ _ _ _ us hl => match us, hl with | [_, _, _, _], _ => rfl
  have b_L_near := F_L_near.binds (ps := ["_law_purse_here", "_law_ties_here", "_law_leaning_here"]) fun _ _ _ _ _ _ us hl => match us, hl with | [_, _, _], _ => rfl
  have b_L_right := F_L_right.binds (ps := ["_law_purse_here"]) fun _ _ _ _ _ _ us hl => match us, hl with | [_], _ => rfl
  have b_law := F_law.binds (ps := ["_law_script"]) fun _ _ _ _ _ _ us hl => match us, hl with | [_], _ => rfl
  have b_i := F_i.binds (ps := ["self", "places", "ties"]) fun _ _ _ _ _ _ us hl => match us, hl with | [_, _, _], _ => rfl
  have kb_turning_rings : KBn K fd_turning_rings ["web", "leaning", "other_leaning"] 0 ["other_leaning", "leaning", "web"] (fun _ ws => rev3 ws) (fun _ zs => rev3 zs) := by
    obtain ⟨oc, od, kV, doc, pm, an, cdv, ct, osl, rfl, lk, hcd⟩ := F_turning_rings.ex
    exact ⟨fun s us ws _ h1 h2 => match us, ws, h1, h2 with | [], [_, _, _], _, _ => .of_eq (by first | kernel_rfl | rfl), fun _ r => rev3_vals r⟩
  have kc : Cls K C := ⟨F.c_pg, F.c_hd, F.c_po, F.c_sa⟩
  refine ⟨{ are_letters := f_are_letters, fd_are_letters := fd_are_letters, are_places := f_are_places, fd_are_places := fd_are_places, is_tie := f_is_tie, fd_is_tie := fd_is_tie, first_wrong_tie := f_first_wrong_tie, fd_first_wrong_tie := fd_first_wrong_tie, check_places := f_check_places, fd_check_places := fd_check_places, check_ties := f_check_ties, fd_check_ties := fd_check_ties, check_leaning := f_check_leaning, fd_check_leaning := fd_check_leaning, check_web := f_check_web, fd_check_web := fd_check_web, arrow_of := f_arrow_of, fd_arrow_of := fd_arrow_of, arrows_of := f_arrows_of, fd_arrows_of := fd_arrows_of, ways_along := f_ways_along, fd_ways_along := fd_ways_along, score_of := f_score_of, fd_score_of := fd_score_of, ring_among := f_ring_among, fd_ring_among := fd_ring_among, turning_rings := f_turning_rings, fd_turning_rings := fd_turning_rings, L_purse := f_L_purse, fd_L_purse := fd_L_purse, L_take := f_L_take, fd_L_take := fd_L_take, L_one := f_L_one, fd_L_one := fd_L_one, L_web := f_L_web, fd_L_web := fd_L_web, L_lean := f_L_lean, fd_L_lean := fd_L_lean, L_ways := f_L_ways, fd_L_ways := fd_L_ways, L_goes_round := f_L_goes_round, fd_L_goes_round := fd_L_goes_round, L_flip := f_L_flip, fd_L_flip := fd_L_flip, L_row := f_L_row, fd_L_row := fd_L_row, L_shown := f_L_shown, fd_L_shown := fd_L_shown, L_near := f_L_near, fd_L_near := fd_L_near, L_right := f_L_right, fd_L_right := fd_L_right, law := fa, fd_law := fd_law, Web := C, Web_init := I, fd_Web_init := fd_i }, rfl, ?_⟩
  exact {
    F_are_letters := F_are_letters,
    b_are_letters := b_are_letters,
    g_are_letters := PySem.W.mg_of X G F.d_are_letters.ns,
    F_are_places := F_are_places,
    b_are_places := b_are_places,
    g_are_places := PySem.W.mg_of X G F.d_are_places.ns,
    F_is_tie := F_is_tie,
    b_is_tie := b_is_tie,
    g_is_tie := PySem.W.mg_of X G F.d_is_tie.ns,
    F_first_wrong_tie := F_first_wrong_tie,
    b_first_wrong_tie := b_first_wrong_tie,
    g_first_wrong_tie := PySem.W.mg_of X G F.d_first_wrong_tie.ns,
    F_check_places := F_check_places,
    b_check_places := b_check_places,
    g_check_places := PySem.W.mg_of X G F.d_check_places.ns,
    F_check_ties := F_check_ties,
    b_check_ties := b_check_ties,
    g_check_ties := PySem.W.mg_of X G F.d_check_ties.ns,
    F_check_leaning := F_check_leaning,
    b_check_leaning := b_check_leaning,
    g_check_leaning := PySem.W.mg_of X G F.d_check_leaning.ns,
    F_check_web := F_check_web,
    b_check_web := b_check_web,
    g_check_web := PySem.W.mg_of X G F.d_check_web.ns,
    F_arrow_of := F_arrow_of,
    b_arrow_of := b_arrow_of,
    g_arrow_of := PySem.W.mg_of X G F.d_arrow_of.ns,
    F_arrows_of := F_arrows_of,
    b_arrows_of := b_arrows_of,
    g_arrows_of := PySem.W.mg_of X G F.d_arrows_of.ns,
    F_ways_along := F_ways_along,
    b_ways_along := b_ways_along,
    g_ways_along := PySem.W.mg_of X G F.d_ways_along.ns,
    F_score_of := F_score_of,
    b_score_of := b_score_of,
    g_score_of := PySem.W.mg_of X G F.d_score_of.ns,
    F_ring_among := F_ring_among,
    b_ring_among := b_ring_among,
    g_ring_among := PySem.W.mg_of X G F.d_ring_among.ns,
    F_turning_rings := F_turning_rings,
    b_turning_rings := b_turning_rings,
    g_turning_rings := PySem.W.mg_of X G F.d_turning_rings.ns,
    F_L_purse := F_L_purse,
    b_L_purse := b_L_purse,
    g_L_purse := PySem.W.mg_of X G F.d_L_purse.ns,
    F_L_take := F_L_take,
    b_L_take := b_L_take,
    g_L_take := PySem.W.mg_of X G F.d_L_take.ns,
    F_L_one := F_L_one,
    b_L_one := b_L_one,
    g_L_one := PySem.W.mg_of X G F.d_L_one.ns,
    F_L_web := F_L_web,
    b_L_web := b_L_web,
    g_L_web := PySem.W.mg_of X G F.d_L_web.ns,
    F_L_lean := F_L_lean,
    b_L_lean := b_L_lean,
    g_L_lean := PySem.W.mg_of X G F.d_L_lean.ns,
    F_L_ways := F_L_ways,
    b_L_ways := b_L_ways,
    g_L_ways := PySem.W.mg_of X G F.d_L_ways.ns,
    F_L_goes_round := F_L_goes_round,
    b_L_goes_round := b_L_goes_round,
    g_L_goes_round := PySem.W.mg_of X G F.d_L_goes_round.ns,
    F_L_flip := F_L_flip,
    b_L_flip := b_L_flip,
    g_L_flip := PySem.W.mg_of X G F.d_L_flip.ns,
    F_L_row := F_L_row,
    b_L_row := b_L_row,
    g_L_row := PySem.W.mg_of X G F.d_L_row.ns,
    F_L_shown := F_L_shown,
    b_L_shown := b_L_shown,
    g_L_shown := PySem.W.mg_of X G F.d_L_shown.ns,
    F_L_near := F_L_near,
    b_L_near := b_L_near,
    g_L_near := PySem.W.mg_of X G F.d_L_near.ns,
    F_L_right := F_L_right,
    b_L_right := b_L_right,
    g_L_right := PySem.W.mg_of X G F.d_L_right.ns,
    F_law := F_law,
    b_law := b_law,
    g_law := PySem.W.mg_of X G F.d_law.ns,
    z_abs := PySem.W.mg_none_of X G F.z_abs,
    z_all := PySem.W.mg_none_of X G F.z_all,
    z_divmod := PySem.W.mg_none_of X G F.z_divmod,
    z_enumerate := PySem.W.mg_none_of X G F.z_enumerate,
    z_int := PySem.W.mg_none_of X G F.z_int,
    z_isinstance := PySem.W.mg_none_of X G F.z_isinstance,
    z_len := PySem.W.mg_none_of X G F.z_len,
    z_list := PySem.W.mg_none_of X G F.z_list,
    z_max := PySem.W.mg_none_of X G F.z_max,
    z_min := PySem.W.mg_none_of X G F.z_min,
    z_range := PySem.W.mg_none_of X G F.z_range,
    z_set := PySem.W.mg_none_of X G F.z_set,
    z_sorted := PySem.W.mg_none_of X G F.z_sorted,
    z_str := PySem.W.mg_none_of X G F.z_str,
    z_tuple := PySem.W.mg_none_of X G F.z_tuple,
    z_zip := PySem.W.mg_none_of X G F.z_zip,
    c_MOST_PLACES := F.k_MOST_PLACES.elim fun t e => ⟨t, PySem.W.mg_of X G e⟩,
    c_MOST_TIES := F.k_MOST_TIES.elim fun t e => ⟨t, PySem.W.mg_of X G e⟩,
    c_LETTERS := F.k_LETTERS.elim fun t e => ⟨t, PySem.W.mg_of X G e⟩,
    c_SIGNS := F.k_SIGNS.elim fun t e => ⟨t, PySem.W.mg_of X G e⟩,
    g_Web := PySem.W.mg_of X G F.c_ns,
    k_Web := kc,
    i_Web := ⟨kc, F.c_ha, F.c_hn, F.c_ht, F.c_hm⟩,
    n_places := F.c_pl,
    n_ties := F.c_ti,
    m_Web := ⟨F.c_mk, F.c_init, F.c_fn, F.c_kc⟩,
    F_Web_init := F_i,
    b_Web_init := b_i,
    kb_turning_rings := kb_turning_rings }
theorem law_fn {P : Program} {w : World} {K : PySem.W.Frag} {mg : Str → Option Value} {fa : Addr} {h : Heap} (X : K.In h) (G : h.Ns mainGlobals mg) (H : ∃ A : Ad, A.law = fa ∧ Tx K mg A) :
    ∃ fd : FuncData, (∀ (s : Shared) (u : Value), BindsTo s fd ⟨[u], []⟩ [("_law_script", u)]) ∧ ∀ base : Heap, K.In base → base.Ns mainGlobals mg → FnG P w K mg base 10 fa fd ["_law_script"] (toSp K g_law) := by
  obtain ⟨A, rfl, T⟩ := H
  refine ⟨A.fd_law, fun s u => ?_, fun base _ _ => okG_law T⟩
  obtain ⟨oc, od, kV, doc, pm, an, cdv, ct, osl, e, lk, hcd⟩ := T.F_law.ex
  rw [e]
  exact .of_eq rfl
end K10

set_option Elab.async false
set_option linter.all false
open PySem PySem.W PyProof.Rows
set_option maxRecDepth 100000 in
set_option maxHeartbeats 0 in
theorem PySem.Challenge.cw_webreckon_k23_whole_rings_between_leanin_holds : PySem.Challenge.rw_webreckon_k23_whole_rings_between_leanin.Holds := by
  w_on; o_law; k_head; (case hw => w_witness2)
  k_fill
  refine DL.walk_ofD (l := PySem.Challenge.rw_webreckon_k23_whole_rings_between_leanin) (n := 63) (k := 10) (x := "_law_script") (g := K10.g_law) rfl (by decide) rfl ⟨rfl, by decide, by decide⟩ (fun w h Y => PySem.W.kIn_of Y) ?F ?hsp
  case hsp => exact fun ns hl _ => ⟨ns, rfl, hl, fun _ => rfl⟩
  case F =>
    intro w mg fa h KX G hmg
    refine' K10.law_fn KX G (K10.all_mk KX G hmg ?FF)
    case FF =>
      refine' K10.Facts.mk ?d_are_letters ?d_are_places ?d_is_tie ?d_first_wrong_tie ?d_check_places ?d_check_ties ?d_check_leaning ?d_check_web ?d_arrow_of ?d_arrows_of ?d_ways_along ?d_score_of ?d_ring_among ?d_turning_rings ?d_L_purse ?d_L_take ?d_L_one ?d_L_web ?d_L_lean ?d_L_ways ?d_L_goes_round ?d_L_flip ?d_L_row ?d_L_shown ?d_L_near ?d_L_right ?d_law ?i_d ?c_ns ?c_init ?c_fn ?c_pg ?c_hd ?c_po ?c_sa ?c_mk ?c_kc ?c_pl ?c_ti ?c_ha ?c_hn ?c_ht ?c_hm ?z_abs ?z_all ?z_divmod ?z_enumerate ?z_int ?z_isinstance ?z_len ?z_list ?z_max ?z_min ?z_range ?z_set ?z_sorted ?z_str ?z_tuple ?z_zip ?k_MOST_PLACES ?k_MOST_TIES ?k_LETTERS ?k_SIGNS
      (case d_are_letters => refine' K10.def_mk ?a ?l ?c ?k; (case a => k_is); (case l => k_is); (case c => k_is); (case k => k_is))
      (case d_are_places => refine' K10.def_mk ?a ?l ?c ?k; (case a => k_is); (case l => k_is); (case c => k_is); (case k => k_is))
      (case d_is_tie => refine' K10.def_mk ?a ?l ?c ?k; (case a => k_is); (case l => k_is); (case c => k_is); (case k => k_is))
      (case d_first_wrong_tie => refine' K10.def_mk ?a ?l ?c ?k; (case a => k_is); (case l => k_is); (case c => k_is); (case k => k_is))
      (case d_check_places => refine' K10.def_mk ?a ?l ?c ?k; (case a => k_is); (case l => k_is); (case c => k_is); (case k => k_is))
      (case d_check_ties => refine' K10.def_mk ?a ?l ?c ?k; (case a => k_is); (case l => k_is); (case c => k_is); (case k => k_is))
      (case d_check_leaning => refine' K10.def_mk ?a ?l ?c ?k; (case a => k_is); (case l => k_is); (case c => k_is); (case k => k_is))
      (case d_check_web => refine' K10.def_mk ?a ?l ?c ?k; (case a => k_is); (case l => k_is); (case c => k_is); (case k => k_is))
      (case d_arrow_of => refine' K10.def_mk ?a ?l ?c ?k; (case a => k_is); (case l => k_is); (case c => k_is); (case k => k_is))
      (case d_arrows_of => refine' K10.def_mk ?a ?l ?c ?k; (case a => k_is); (case l => k_is); (case c => k_is); (case k => k_is))
      (case d_ways_along => refine' K10.def_mk ?a ?l ?c ?k; (case a => k_is); (case l => k_is); (case c => k_is); (case k => k_is))
      (case d_score_of => refine' K10.def_mk ?a ?l ?c ?k; (case a => k_is); (case l => k_is); (case c => k_is); (case k => k_is))
      (case d_ring_among => refine' K10.def_mk ?a ?l ?c ?k; (case a => k_is); (case l => k_is); (case c => k_is); (case k => k_is))
      (case d_turning_rings => refine' K10.def_mk ?a ?l ?c ?k; (case a => k_is); (case l => k_is); (case c => k_is); (case k => k_is))
      (case d_L_purse => refine' K10.def_mk ?a ?l ?c ?k; (case a => k_is); (case l => k_is); (case c => k_is); (case k => k_is))
      (case d_L_take => refine' K10.def_mk ?a ?l ?c ?k; (case a => k_is); (case l => k_is); (case c => k_is); (case k => k_is))
      (case d_L_one => refine' K10.def_mk ?a ?l ?c ?k; (case a => k_is); (case l => k_is); (case c => k_is); (case k => k_is))
      (case d_L_web => refine' K10.def_mk ?a ?l ?c ?k; (case a => k_is); (case l => k_is); (case c => k_is); (case k => k_is))
      (case d_L_lean => refine' K10.def_mk ?a ?l ?c ?k; (case a => k_is); (case l => k_is); (case c => k_is); (case k => k_is))
      (case d_L_ways => refine' K10.def_mk ?a ?l ?c ?k; (case a => k_is); (case l => k_is); (case c => k_is); (case k => k_is))
      (case d_L_goes_round => refine' K10.def_mk ?a ?l ?c ?k; (case a => k_is); (case l => k_is); (case c => k_is); (case k => k_is))
      (case d_L_flip => refine' K10.def_mk ?a ?l ?c ?k; (case a => k_is); (case l => k_is); (case c => k_is); (case k => k_is))
      (case d_L_row => refine' K10.def_mk ?a ?l ?c ?k; (case a => k_is); (case l => k_is); (case c => k_is); (case k => k_is))
      (case d_L_shown => refine' K10.def_mk ?a ?l ?c ?k; (case a => k_is); (case l => k_is); (case c => k_is); (case k => k_is))
      (case d_L_near => refine' K10.def_mk ?a ?l ?c ?k; (case a => k_is); (case l => k_is); (case c => k_is); (case k => k_is))
      (case d_L_right => refine' K10.def_mk ?a ?l ?c ?k; (case a => k_is); (case l => k_is); (case c => k_is); (case k => k_is))
      (case d_law => refine' K10.def_mk ?a ?l ?c ?k; (case a => k_is); (case l => k_is); (case c => k_is); (case k => k_is))
      (case c_ns => k_is)
      (case c_init => k_is)
      (case i_d => refine' K10.init_mk ?l ?c ?k; (case l => k_is); (case c => k_is); (case k => k_is))
      (case c_fn => k_is)
      (case c_pg => k_is)
      (case c_hd => k_is)
      (case c_po => k_is)
      (case c_sa => k_is)
      (case c_mk => k_is)
      (case c_kc => k_is)
      (case c_pl => k_is)
      (case c_ti => k_is)
      (case c_ha => k_is)
      (case c_hn => k_is)
      (case c_ht => k_is)
      (case c_hm => k_is)
      (case z_abs => k_is)
      (case z_all => k_is)
      (case z_divmod => k_is)
      (case z_enumerate => k_is)
      (case z_int => k_is)
      (case z_isinstance => k_is)
      (case z_len => k_is)
      (case z_list => k_is)
      (case z_max => k_is)
      (case z_min => k_is)
      (case z_range => k_is)
      (case z_set => k_is)
      (case z_sorted => k_is)
      (case z_str => k_is)
      (case z_tuple => k_is)
      (case z_zip => k_is)
      (case k_MOST_PLACES => refine' K10.int_mk ?e; (case e => k_is))
      (case k_MOST_TIES => refine' K10.int_mk ?e; (case e => k_is))
      (case k_LETTERS => refine' K10.str_mk ?e; (case e => k_is))
      (case k_SIGNS => refine' K10.str_mk ?e; (case e => k_is))
