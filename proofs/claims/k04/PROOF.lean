import PyProof.Rows.All
import Wide.All
import OpenK.AllK
import Wide.FinOn
import HandS.ForMost
import HandS.Walk
import HandS.TupAny
import HandS.WideBits
import HandS.IsInst
import HandS.Replace
import HandS.More
import PyProof.ListStr
import HandS.Conv
import KE.GoesMore
import KE.GoesEnum
import PyProof.Rows.SortShellAny
import HandS.SortOrd
import HandS.TupLe
import HandS.TupSets
import HandS.Small
import HandS.Strs
import HandS.Zip
import HandS.Defaults
import HandS.Ends
import HandS.EndBits
import HandS.RaiseMore
import PyProof.ReprRoads
import PyProof.Rows.RegFStrParts
import HandS.Style
import HandS.ReplaceList
import PyProof.StrLawsIn
import HandS.TupMul
import HandS.CallLocal
import HandS.SetFor
import HandS.Deep
import PyProof.CallFns
import HandS.Gcd
import KE.KMathGC
import HandS.Star
import KE.KDictZip
import KE.SortData
import KE.DataMinMax
import HandS.SortKw
import OpenK.KMake
import PySem.Challenge.RW_webreckon_k04_whole_rings_and_bonds
import HandS.Wide
import PyProof.StrBlock2
import HandS.Comp
import PyProof.ToksMono
import HandS.DictComp
import HandS.ListItems
import KE.KDictList
import PyProof.TupleOfSeq
import HandS.SetKeys
import PyProof.DictMoreH
import PyProof.P3In
set_option Elab.async false
set_option linter.all false
set_option maxRecDepth 100000
/-! A data layer over the hand layer: values as deep data, a small store for what is mutable; readings without addresses of what never changes. -/
namespace DL
open PySem PySem.Spec PyProof.Rows L2
/-! ### data -/
inductive D where
  | non | bl (b : Bool) | int (i : Int) | str (x : Str) | tup (ds : List D) | lst (ds : List D) | seq (ds : List D)
  | ins (C : Addr) (fs : List (Str × D)) | adr (a : Addr)
/-- what is mutable -/
inductive MO where
  | lst (ds : List D) | dct (kvs : List (Key × D)) | dtt (kvs : List (List Key × D)) | ins (C : Addr) (fs : List (Str × D))
  /-- a dict that is walked -/
  | lck (kvs : List (List Key × D))
  /-- a tuple that was just made, its object known -/
  | ftp (ds : List D)
abbrev Mu := Addr → Option MO
def put (μ : Mu) (a : Addr) (o : MO) : Mu := fun b => if b = a then some o else μ b
def del (μ : Mu) (a : Addr) : Mu := fun b => if b = a then none else μ b
theorem put_same {μ : Mu} {a : Addr} {o : MO} : put μ a o a = some o := by unfold put; rw [if_pos rfl]
theorem put_ne {μ : Mu} {a b : Addr} {o : MO} (h : b ≠ a) : put μ a o b = μ b := by unfold put; rw [if_neg h]
theorem del_same {μ : Mu} {a : Addr} : del μ a a = none := by unfold del; rw [if_pos rfl]
theorem del_ne {μ : Mu} {a b : Addr} (h : b ≠ a) : del μ a b = μ b := by unfold del; rw [if_neg h]
theorem put_put {μ : Mu} {a : Addr} {o u : MO} : put (put μ a o) a u = put μ a u := by
  funext b; unfold put; split <;> rfl
theorem del_put {μ : Mu} {a : Addr} {o : MO} (h : μ a = none) : del (put μ a o) a = μ := by
  funext b; unfold del put; split
  · rename_i e; rw [e, h]
  · rfl
theorem put_comm {μ : Mu} {a b : Addr} {o u : MO} (h : a ≠ b) : put (put μ a o) b u = put (put μ b u) a o := by
  funext c; unfold put
  by_cases h1 : c = b
  · rw [if_pos h1, if_neg (fun e => h (e.symm.trans h1)), if_pos h1]
  · rw [if_neg h1, if_neg h1]
/-! ### what stands for what -/
section
variable (K : PySem.W.Frag) (H : Hp) (μ : Mu)
/-- a tuple, a list that nobody changes -/
def ImT (a : Addr) (vs : List V) : Prop := (H a = some (.tup vs) ∧ μ a = none) ∨ (∀ H' : Hp, SqT K H' a vs) ∧ False
def ImQ (a : Addr) (vs : List V) : Prop := (Rd H a (.lst vs) ∧ μ a = none) ∨ ∀ H' : Hp, SqL K H' a vs
mutual
def Rep : D → V → Prop
  | .non, v => v = .non
  | .bl b, v => v = .bl b
  | .int i, v => v = .int i
  | .str x, v => v = .str x
  | .tup ds, v => ∃ a vs, v = .ref a ∧ ImT K H μ a vs ∧ RepL ds vs
  | .lst ds, v => ∃ a vs, v = .ref a ∧ H a = some (.lst vs) ∧ μ a = none ∧ RepL ds vs
  | .seq ds, v => ∃ a vs, v = .ref a ∧ ImQ K H μ a vs ∧ RepL ds vs
  | .ins C fs, v => ∃ a dx fv, v = .ref a ∧ H a = some (.ins C dx fv) ∧ μ a = none ∧ RepF fs fv
  | .adr a, v => v = .ref a
def RepL : List D → List V → Prop
  | [], vs => vs = []
  | d :: ds, vs => ∃ v r, vs = v :: r ∧ Rep d v ∧ RepL ds r
def RepF : List (Str × D) → List (Str × V) → Prop
  | [], fv => fv = []
  | (x, d) :: fs, fv => ∃ v r, fv = (x, v) :: r ∧ Rep d v ∧ RepF fs r
end
def RepK {κ : Type} : List (κ × D) → List (κ × V) → Prop
  | [], kv => kv = []
  | (k, d) :: r, kv => ∃ v s, kv = (k, v) :: s ∧ Rep K H μ d v ∧ RepK r s
def RepO : MO → Addr → Prop
  | .lst ds, a => ∃ vs, H a = some (.lst vs) ∧ RepL K H μ ds vs
  | .dct kvs, a => ∃ kv, H a = some (.dK kv) ∧ RepK K H μ kvs kv
  | .dtt kvs, a => ∃ kv, H a = some (.dT kv) ∧ RepK K H μ kvs kv
  | .lck kvs, a => ∃ o kv, H a = some (.frz o (.dT kv)) ∧ RepK K H μ kvs kv
  | .ftp ds, a => ∃ o vs, H a = some (.frz o (.tup vs)) ∧ o.dict = none ∧ RepL K H μ ds vs
  | .ins C fs, a => ∃ dx fv, H a = some (.ins C dx fv) ∧ RepF K H μ fs fv
/-- the store is there -/
def RM : Prop := ∀ a o, μ a = some o → RepO K H μ o a
end
abbrev DS := List (Option D)
def RepS (K : PySem.W.Frag) (H : Hp) (μ : Mu) : DS → L2.St → Prop
  | [], σ => σ = []
  | none :: δ, σ => ∃ o r, σ = o :: r ∧ RepS K H μ δ r
  | some d :: δ, σ => ∃ v r, σ = some v :: r ∧ Rep K H μ d v ∧ RepS K H μ δ r
/-- what was tracked and not in the store stays; the store only takes what was there, or new -/
structure Kp (H : Hp) (μ : Mu) (H' : Hp) (μ' : Mu) : Prop where
  k1 : ∀ b o, H b = some o → μ b = none → H' b = some o
  k2 : ∀ b, μ' b ≠ none → μ b ≠ none ∨ H b = none
theorem Kp.refl (H : Hp) (μ : Mu) : Kp H μ H μ := ⟨fun _ _ h _ => h, fun _ h => .inl h⟩
theorem Kp.free {H H' : Hp} {μ μ' : Mu} (k : Kp H μ H' μ') {b : Addr} {o : HO} (h : H b = some o) (n : μ b = none) : μ' b = none := by
  cases q : μ' b with
  | none => rfl
  | some u =>
    rcases k.k2 b (by rw [q]; simp) with z | z
    · exact absurd n z
    · rw [h] at z; cases z
theorem Kp.trans {H H1 H2 : Hp} {μ μ1 μ2 : Mu} (a : Kp H μ H1 μ1) (b : Kp H1 μ1 H2 μ2) : Kp H μ H2 μ2 := by
  refine ⟨fun c o h n => b.k1 c o (a.k1 c o h n) (a.free h n), fun c h => ?_⟩
  rcases b.k2 c h with z | z
  · exact a.k2 c z
  · cases q : H c with
    | none => exact .inr rfl
    | some o =>
      left
      intro n
      have := a.k1 c o q n
      rw [z] at this; cases this
/-- something new, not in the store -/
theorem Kp.new {H : Hp} {μ : Mu} {p : Addr} {o : HO} (n : H p = none) : Kp H μ (upd H p o) μ :=
  ⟨fun b u e _ => by rw [upd_ne (ne_of_none e n)]; exact e, fun _ h => .inl h⟩
/-- something new, in the store -/
theorem Kp.cell {H : Hp} {μ : Mu} {p : Addr} {o : HO} {m : MO} (n : H p = none) : Kp H μ (upd H p o) (put μ p m) := by
  refine ⟨fun b u e _ => by rw [upd_ne (ne_of_none e n)]; exact e, fun b h => ?_⟩
  by_cases e : b = p
  · right; rw [e]; exact n
  · left; rw [put_ne e] at h; exact h
/-- what is in the store changes -/
theorem Kp.write {H : Hp} {μ : Mu} {p : Addr} {o : HO} {m u : MO} (n : μ p = some u) : Kp H μ (upd H p o) (put μ p m) := by
  refine ⟨fun b w e z => ?_, fun b h => ?_⟩
  · have : b ≠ p := by rintro rfl; rw [n] at z; cases z
    rw [upd_ne this]; exact e
  · by_cases e : b = p
    · left; rw [e, n]; simp
    · left; rw [put_ne e] at h; exact h
theorem Kp.drop {H : Hp} {μ : Mu} {p : Addr} : Kp H μ H (del μ p) := by
  refine ⟨fun b o e _ => e, fun b h => ?_⟩
  by_cases e : b = p
  · rw [e, del_same] at h; exact absurd rfl h
  · left; rw [del_ne e] at h; exact h
section
variable {K : PySem.W.Frag} {H H' : Hp} {μ μ' : Mu}
theorem ImT.mono {a : Addr} {vs : List V} (k : Kp H μ H' μ') (h : ImT K H μ a vs) : ImT K H' μ' a vs := by
  rcases h with ⟨h, n⟩ | h
  · exact .inl ⟨k.k1 _ _ h n, k.free h n⟩
  · exact .inr h
theorem ImQ.mono {a : Addr} {vs : List V} (k : Kp H μ H' μ') (h : ImQ K H μ a vs) : ImQ K H' μ' a vs := by
  rcases h with ⟨h, n⟩ | h
  · rcases h with h | ⟨o, h⟩
    · exact .inl ⟨.inl (k.k1 _ _ h n), k.free h n⟩
    · exact .inl ⟨.inr ⟨o, k.k1 _ _ h n⟩, k.free h n⟩
  · exact .inr h
theorem ImT.sq {a : Addr} {vs : List V} (h : ImT K H μ a vs) : SqT K H a vs := h.elim (fun h => .inl (.inl h.1)) fun h => h.2.elim
theorem ImT.at_ {a : Addr} {vs : List V} (h : ImT K H μ a vs) : H a = some (.tup vs) ∧ μ a = none := h.elim id fun h => h.2.elim
theorem ImQ.sq {a : Addr} {vs : List V} (h : ImQ K H μ a vs) : SqL K H a vs := h.elim (fun h => .inl h.1) fun h => h H
mutual
theorem Rep.mono (k : Kp H μ H' μ') : ∀ (d : D) (v : V), Rep K H μ d v → Rep K H' μ' d v
  | .non, _, h => by unfold Rep at h ⊢; exact h
  | .bl _, _, h => by unfold Rep at h ⊢; exact h
  | .int _, _, h => by unfold Rep at h ⊢; exact h
  | .str _, _, h => by unfold Rep at h ⊢; exact h
  | .tup ds, _, h => by
    unfold Rep at h ⊢
    obtain ⟨a, vs, e, i, r⟩ := h
    exact ⟨a, vs, e, i.mono k, RepL.mono k ds vs r⟩
  | .lst ds, _, h => by
    unfold Rep at h ⊢
    obtain ⟨a, vs, e, i, n, r⟩ := h
    exact ⟨a, vs, e, k.k1 _ _ i n, k.free i n, RepL.mono k ds vs r⟩
  | .seq ds, _, h => by
    unfold Rep at h ⊢
    obtain ⟨a, vs, e, i, r⟩ := h
    exact ⟨a, vs, e, i.mono k, RepL.mono k ds vs r⟩
  | .ins C fs, _, h => by
    unfold Rep at h ⊢
    obtain ⟨a, dx, fv, e, i, n, r⟩ := h
    exact ⟨a, dx, fv, e, k.k1 _ _ i n, k.free i n, RepF.mono k fs fv r⟩
  | .adr _, _, h => by unfold Rep at h ⊢; exact h
theorem RepL.mono (k : Kp H μ H' μ') : ∀ (ds : List D) (vs : List V), RepL K H μ ds vs → RepL K H' μ' ds vs
  | [], _, h => by unfold RepL at h ⊢; exact h
  | d :: ds, _, h => by
    unfold RepL at h ⊢
    obtain ⟨v, r, e, h1, h2⟩ := h
    exact ⟨v, r, e, Rep.mono k d v h1, RepL.mono k ds r h2⟩
theorem RepF.mono (k : Kp H μ H' μ') : ∀ (fs : List (Str × D)) (fv : List (Str × V)), RepF K H μ fs fv → RepF K H' μ' fs fv
  | [], _, h => by unfold RepF at h ⊢; exact h
  | (x, d) :: fs, _, h => by
    unfold RepF at h ⊢
    obtain ⟨v, r, e, h1, h2⟩ := h
    exact ⟨v, r, e, Rep.mono k d v h1, RepF.mono k fs r h2⟩
end
theorem RepK.mono {κ : Type} (k : Kp H μ H' μ') : ∀ (fs : List (κ × D)) (fv : List (κ × V)), RepK K H μ fs fv → RepK K H' μ' fs fv
  | [], _, h => by unfold RepK at h ⊢; exact h
  | (x, d) :: fs, _, h => by
    unfold RepK at h ⊢
    obtain ⟨v, r, e, h1, h2⟩ := h
    exact ⟨v, r, e, Rep.mono k d v h1, RepK.mono k fs r h2⟩
theorem RepS.mono (k : Kp H μ H' μ') : ∀ (δ : DS) (σ : L2.St), RepS K H μ δ σ → RepS K H' μ' δ σ
  | [], _, h => by unfold RepS at h ⊢; exact h
  | none :: δ, _, h => by
    unfold RepS at h ⊢
    obtain ⟨o, r, e, h2⟩ := h
    exact ⟨o, r, e, RepS.mono k δ r h2⟩
  | some d :: δ, _, h => by
    unfold RepS at h ⊢
    obtain ⟨v, r, e, h1, h2⟩ := h
    exact ⟨v, r, e, h1.mono k, RepS.mono k δ r h2⟩
end
section
variable {K : PySem.W.Frag} {H H' : Hp} {μ μ' : Mu}
theorem RepL.length : ∀ {ds : List D} {vs : List V}, RepL K H μ ds vs → vs.length = ds.length
  | [], _, h => by
    unfold RepL at h
    rw [h] <;> rfl
  | d :: ds, _, h => by
    unfold RepL at h
    obtain ⟨v, r, rfl, _, h2⟩ := h
    show r.length + 1 = ds.length + 1
    rw [RepL.length h2]
theorem RepL.at_ : ∀ {ds : List D} {vs : List V} {i : Nat} {d : D}, RepL K H μ ds vs → ds[i]? = some d → ∃ v, vs[i]? = some v ∧ Rep K H μ d v
  | [], _, _, _, h, e => by simp at e
  | d :: ds, _, 0, x, h, e => by
    unfold RepL at h
    obtain ⟨v, r, rfl, h1, _⟩ := h
    have e' : d = x := by simpa using e
    subst e'
    exact ⟨v, rfl, h1⟩
  | d :: ds, _, i + 1, x, h, e => by
    unfold RepL at h
    obtain ⟨v, r, rfl, _, h2⟩ := h
    obtain ⟨u, e1, h3⟩ := RepL.at_ (i := i) h2 (by simpa using e)
    exact ⟨u, by simpa using e1, h3⟩
theorem RepL.atV : ∀ {ds : List D} {vs : List V} {i : Nat} {v : V}, RepL K H μ ds vs → vs[i]? = some v → ∃ d, ds[i]? = some d ∧ Rep K H μ d v
  | [], _, _, _, h, e => by
    unfold RepL at h
    rw [h] at e
    simp at e
  | d :: ds, _, 0, x, h, e => by
    unfold RepL at h
    obtain ⟨v, r, rfl, h1, _⟩ := h
    have e' : v = x := by simpa using e
    subst e'
    exact ⟨d, rfl, h1⟩
  | d :: ds, _, i + 1, x, h, e => by
    unfold RepL at h
    obtain ⟨v, r, rfl, _, h2⟩ := h
    obtain ⟨u, e1, h3⟩ := RepL.atV (i := i) h2 (by simpa using e)
    exact ⟨u, by simpa using e1, h3⟩
theorem RepL.nil : RepL K H μ [] [] := by unfold RepL; rfl
theorem RepL.cons {d : D} {v : V} {ds : List D} {vs : List V} (h : Rep K H μ d v) (h2 : RepL K H μ ds vs) : RepL K H μ (d :: ds) (v :: vs) := by
  unfold RepL; exact ⟨v, vs, rfl, h, h2⟩
theorem RepL.append : ∀ {ds es : List D} {vs us : List V}, RepL K H μ ds vs → RepL K H μ es us → RepL K H μ (ds ++ es) (vs ++ us)
  | [], _, _, _, h, h' => by
    unfold RepL at h
    rw [h]
    exact h'
  | d :: ds, _, _, _, h, h' => by
    unfold RepL at h
    obtain ⟨v, r, rfl, h1, h2⟩ := h
    exact RepL.cons h1 (RepL.append h2 h')
theorem RepL.take : ∀ {ds : List D} {vs : List V} (n : Nat), RepL K H μ ds vs → RepL K H μ (ds.take n) (vs.take n)
  | _, _, 0, _ => by simpa using RepL.nil
  | [], _, n + 1, h => by
    unfold RepL at h
    rw [h]
    simpa using RepL.nil
  | d :: ds, _, n + 1, h => by
    unfold RepL at h
    obtain ⟨v, r, rfl, h1, h2⟩ := h
    simpa using RepL.cons h1 (RepL.take n h2)
theorem RepL.drop : ∀ {ds : List D} {vs : List V} (n : Nat), RepL K H μ ds vs → RepL K H μ (ds.drop n) (vs.drop n)
  | _, _, 0, h => by simpa using h
  | [], _, n + 1, h => by
    unfold RepL at h
    rw [h]
    simpa using RepL.nil
  | d :: ds, _, n + 1, h => by
    unfold RepL at h
    obtain ⟨v, r, rfl, h1, h2⟩ := h
    simpa using RepL.drop n h2
theorem RepL.set : ∀ {ds : List D} {vs : List V} {d : D} {v : V} (i : Nat), RepL K H μ ds vs → Rep K H μ d v → RepL K H μ (ds.set i d) (vs.set i v)
  | [], _, _, _, _, h, _ => by
    unfold RepL at h
    rw [h]
    simpa using RepL.nil
  | e :: ds, _, d, v, 0, h, h' => by
    unfold RepL at h
    obtain ⟨u, r, rfl, h1, h2⟩ := h
    simpa using RepL.cons h' h2
  | e :: ds, _, d, v, i + 1, h, h' => by
    unfold RepL at h
    obtain ⟨u, r, rfl, h1, h2⟩ := h
    simpa using RepL.cons h1 (RepL.set i h2 h')
theorem RepL.erase : ∀ {ds : List D} {vs : List V} (i : Nat), RepL K H μ ds vs → RepL K H μ (ds.eraseIdx i) (vs.eraseIdx i)
  | [], _, _, h => by
    unfold RepL at h
    rw [h]
    simpa using RepL.nil
  | e :: ds, _, 0, h => by
    unfold RepL at h
    obtain ⟨u, r, rfl, h1, h2⟩ := h
    simpa using h2
  | e :: ds, _, i + 1, h => by
    unfold RepL at h
    obtain ⟨u, r, rfl, h1, h2⟩ := h
    simpa using RepL.cons h1 (RepL.erase i h2)
theorem RepL.ints : ∀ {ns : List Int} {vs : List V}, RepL K H μ (ns.map D.int) vs → vs = ns.map V.int
  | [], _, h => by unfold RepL at h; exact h
  | n :: ns, _, h => by
    unfold RepL at h
    obtain ⟨v, r, rfl, h1, h2⟩ := h
    unfold Rep at h1
    rw [h1, RepL.ints h2]
    rfl
theorem RepL.bools : ∀ {ns : List Bool} {vs : List V}, RepL K H μ (ns.map D.bl) vs → vs = ns.map V.bl
  | [], _, h => by unfold RepL at h; exact h
  | n :: ns, _, h => by
    unfold RepL at h
    obtain ⟨v, r, rfl, h1, h2⟩ := h
    unfold Rep at h1
    rw [h1, RepL.bools h2]
    rfl
theorem RepL.strs : ∀ {ns : List Str} {vs : List V}, RepL K H μ (ns.map D.str) vs → vs = ns.map V.str
  | [], _, h => by unfold RepL at h; exact h
  | n :: ns, _, h => by
    unfold RepL at h
    obtain ⟨v, r, rfl, h1, h2⟩ := h
    unfold Rep at h1
    rw [h1, RepL.strs h2]
    rfl
theorem RepL.of_ints : ∀ (ns : List Int), RepL K H μ (ns.map D.int) (ns.map V.int)
  | [] => RepL.nil
  | n :: ns => RepL.cons (by unfold Rep; rfl) (RepL.of_ints ns)
theorem RepL.of_strs : ∀ (ns : List Str), RepL K H μ (ns.map D.str) (ns.map V.str)
  | [] => RepL.nil
  | n :: ns => RepL.cons (by unfold Rep; rfl) (RepL.of_strs ns)
/-! ### slots -/
theorem RepS.get : ∀ {δ : DS} {σ : L2.St} {i : Nat} {d : D}, RepS K H μ δ σ → δ[i]? = some (some d) → ∃ v, σ[i]? = some (some v) ∧ Rep K H μ d v
  | [], _, _, _, h, e => by simp at e
  | none :: δ, _, 0, x, h, e => by simp at e
  | some y :: δ, _, 0, x, h, e => by
    unfold RepS at h
    obtain ⟨v, r, rfl, h1, _⟩ := h
    have e' : y = x := by simpa using e
    subst e'
    exact ⟨v, rfl, h1⟩
  | none :: δ, _, i + 1, x, h, e => by
    unfold RepS at h
    obtain ⟨v, r, rfl, h2⟩ := h
    obtain ⟨u, e1, h3⟩ := RepS.get (i := i) h2 (by simpa using e)
    exact ⟨u, by simpa using e1, h3⟩
  | some y :: δ, _, i + 1, x, h, e => by
    unfold RepS at h
    obtain ⟨v, r, rfl, _, h2⟩ := h
    obtain ⟨u, e1, h3⟩ := RepS.get (i := i) h2 (by simpa using e)
    exact ⟨u, by simpa using e1, h3⟩
theorem RepS.set : ∀ {δ : DS} {σ : L2.St} {d : D} {v : V} (i : Nat), RepS K H μ δ σ → Rep K H μ d v → RepS K H μ (δ.set i (some d)) (σ.set i (some v))
  | [], _, _, _, _, h, _ => by
    unfold RepS at h
    rw [h]
    simp [RepS]
  | none :: δ, _, d, v, 0, h, h' => by
    unfold RepS at h
    obtain ⟨o, r, rfl, h2⟩ := h
    show RepS K H μ (some d :: δ) (some v :: r)
    unfold RepS
    exact ⟨v, r, rfl, h', h2⟩
  | some y :: δ, _, d, v, 0, h, h' => by
    unfold RepS at h
    obtain ⟨o, r, rfl, _, h2⟩ := h
    show RepS K H μ (some d :: δ) (some v :: r)
    unfold RepS
    exact ⟨v, r, rfl, h', h2⟩
  | none :: δ, _, d, v, i + 1, h, h' => by
    unfold RepS at h
    obtain ⟨o, r, rfl, h2⟩ := h
    show RepS K H μ (none :: δ.set i (some d)) (o :: r.set i (some v))
    unfold RepS
    exact ⟨o, _, rfl, RepS.set i h2 h'⟩
  | some y :: δ, _, d, v, i + 1, h, h' => by
    unfold RepS at h
    obtain ⟨o, r, rfl, h1, h2⟩ := h
    show RepS K H μ (some y :: δ.set i (some d)) (some o :: r.set i (some v))
    unfold RepS
    exact ⟨o, _, rfl, h1, RepS.set i h2 h'⟩
theorem RepS.unset : ∀ {δ : DS} {σ : L2.St} (i : Nat), RepS K H μ δ σ → RepS K H μ (δ.set i none) (σ.set i none)
  | [], _, _, h => by
    unfold RepS at h
    rw [h]
    simp [RepS]
  | none :: δ, _, 0, h => by
    unfold RepS at h
    obtain ⟨o, r, rfl, h2⟩ := h
    show RepS K H μ (none :: δ) (none :: r)
    unfold RepS
    exact ⟨none, r, rfl, h2⟩
  | some y :: δ, _, 0, h => by
    unfold RepS at h
    obtain ⟨o, r, rfl, _, h2⟩ := h
    show RepS K H μ (none :: δ) (none :: r)
    unfold RepS
    exact ⟨none, r, rfl, h2⟩
  | none :: δ, _, i + 1, h => by
    unfold RepS at h
    obtain ⟨o, r, rfl, h2⟩ := h
    show RepS K H μ (none :: δ.set i none) (o :: r.set i none)
    unfold RepS
    exact ⟨o, _, rfl, RepS.unset i h2⟩
  | some y :: δ, _, i + 1, h => by
    unfold RepS at h
    obtain ⟨o, r, rfl, h1, h2⟩ := h
    show RepS K H μ (some y :: δ.set i none) (some o :: r.set i none)
    unfold RepS
    exact ⟨o, _, rfl, h1, RepS.unset i h2⟩
/-- the slots of a block's own names forgotten -/
def wiped (δ : DS) : List Nat → DS
  | [] => δ
  | v :: vs => (wiped δ vs).set v none
theorem RepS.wipe {δ : DS} {σ : L2.St} (h : RepS K H μ δ σ) : ∀ vs : List Nat, RepS K H μ (wiped δ vs) (L2.wipe σ vs)
  | [] => h
  | v :: vs => (RepS.wipe h vs).unset v
/-- a def's slots at its start -/
def begin_ (N : List Str) (ds : List D) : DS := ds.map some ++ List.replicate (N.length - ds.length) none
end
end DL
set_option Elab.async false
set_option linter.all false
set_option maxRecDepth 100000
namespace DL
open PySem PySem.Spec PyProof.Rows L2
/-! ### readings over data -/
abbrev KD := D → Mu → Prop
abbrev GE := DS → Mu → KD → Prop
abbrev GT := DS → Mu → (Bool → Mu → Prop) → Prop
abbrev GA := DS → Mu → (List D → Mu → Prop) → Prop
structure DEnds where
  nx : DS → Mu → Prop
  rt : KD
  bk : DS → Mu → Prop := fun _ _ => False
  ct : DS → Mu → Prop := fun _ _ => False
abbrev GS := DEnds → DS → Mu → Prop
/-- what must be shown of a value's continuation -/
def Fw (K : PySem.W.Frag) (H : Hp) (μ : Mu) (R : KD) (Q : VK) : Prop := ∀ v d H' μ', Kp H μ H' μ' → RM K H' μ' → Rep K H' μ' d v → R d μ' → Q v H'
theorem Fw.re {K : PySem.W.Frag} {H H1 : Hp} {μ μ1 : Mu} {R : KD} {Q : VK} (k : Kp H μ H1 μ1) (f : Fw K H μ R Q) : Fw K H1 μ1 R Q := fun v d H' μ' k' => f v d H' μ' (k.trans k')
def SimE (K : PySem.W.Frag) (t : TE) (g : GE) : Prop := ∀ σ H δ μ (Q : VK) (R : KD), RM K H μ → RepS K H μ δ σ → g δ μ R → Fw K H μ R Q → t σ H Q
def SimT (K : PySem.W.Frag) (t : TT) (g : GT) : Prop := ∀ σ H δ μ (Q : Bool → Hp → Prop) (R : Bool → Mu → Prop), RM K H μ → RepS K H μ δ σ → g δ μ R →
  (∀ b H' μ', Kp H μ H' μ' → RM K H' μ' → R b μ' → Q b H') → t σ H Q
def SimA (K : PySem.W.Frag) (t : TA) (g : GA) : Prop := ∀ σ H δ μ (Q : List V → Hp → Prop) (R : List D → Mu → Prop), RM K H μ → RepS K H μ δ σ → g δ μ R →
  (∀ vs ds H' μ', Kp H μ H' μ' → RM K H' μ' → RepL K H' μ' ds vs → R ds μ' → Q vs H') → t σ H Q
structure EOk (K : PySem.W.Frag) (H0 : Hp) (μ0 : Mu) (E : Ends) (F : DEnds) : Prop where
  nx : ∀ σ H δ μ, Kp H0 μ0 H μ → RM K H μ → RepS K H μ δ σ → F.nx δ μ → E.nx σ H
  rt : Fw K H0 μ0 F.rt E.rt
  bk : ∀ σ H δ μ, Kp H0 μ0 H μ → RM K H μ → RepS K H μ δ σ → F.bk δ μ → E.bk σ H
  ct : ∀ σ H δ μ, Kp H0 μ0 H μ → RM K H μ → RepS K H μ δ σ → F.ct δ μ → E.ct σ H
theorem EOk.re {K : PySem.W.Frag} {H H1 : Hp} {μ μ1 : Mu} {E : Ends} {F : DEnds} (k : Kp H μ H1 μ1) (e : EOk K H μ E F) : EOk K H1 μ1 E F :=
  ⟨fun σ H δ μ k' => e.nx σ H δ μ (k.trans k'), e.rt.re k, fun σ H δ μ k' => e.bk σ H δ μ (k.trans k'), fun σ H δ μ k' => e.ct σ H δ μ (k.trans k')⟩
def SimS (K : PySem.W.Frag) (t : TS) (g : GS) : Prop := ∀ σ H δ μ (E : Ends) (F : DEnds), RM K H μ → RepS K H μ δ σ → EOk K H μ E F → g F δ μ → t E σ H
structure DE (X : Cx) (e : Expr) (g : GE) : Prop where
  ex : ∃ t, PE X e t ∧ SimE X.K t g
structure DT (X : Cx) (e : Expr) (g : GT) : Prop where
  ex : ∃ t, PT X e t ∧ SimT X.K t g
structure DW (X : Cx) (e : Expr) (g : GT) : Prop where
  ex : ∃ t, PW X e t ∧ SimT X.K t g
structure DA (X : Cx) (es : List Expr) (g : GA) : Prop where
  ex : ∃ t, PA X es t ∧ SimA X.K t g
structure DSt (X : Cx) (st : Stmt) (g : GS) : Prop where
  ex : ∃ t, PS X st t ∧ SimS X.K t g
structure DSs (X : Cx) (st : List Stmt) (g : GS) : Prop where
  ex : ∃ t, PSs X st t ∧ SimS X.K t g
theorem DW.dt {X : Cx} {e : Expr} {g : GT} (h : DW X e g) : DT X e g := let ⟨t, a, b⟩ := h.ex; ⟨t, a.pt, b⟩
/-! ### by values -/
abbrev G1 := D → Mu → KD → Prop
abbrev G2 := D → D → Mu → KD → Prop
abbrev GC := List D → Mu → KD → Prop
def SimU (K : PySem.W.Frag) (r : V → Hp → VK → Prop) (g : G1) : Prop := ∀ x dx H μ (Q : VK) (R : KD), RM K H μ → Rep K H μ dx x → g dx μ R → Fw K H μ R Q → r x H Q
def SimO (K : PySem.W.Frag) (r : R2) (g : G2) : Prop := ∀ x y dx dy H μ (Q : VK) (R : KD), RM K H μ → Rep K H μ dx x → Rep K H μ dy y → g dx dy μ R → Fw K H μ R Q → r x y H Q
def SimC (K : PySem.W.Frag) (r : List V → Hp → VK → Prop) (g : GC) : Prop := ∀ vs ds H μ (Q : VK) (R : KD), RM K H μ → RepL K H μ ds vs → g ds μ R → Fw K H μ R Q → r vs H Q
/-! ### expressions -/
def gVar (i : Nat) : GE := fun δ μ R => match δ.getD i none with
  | some d => R d μ
  | none => False
def gC (d : D) : GE := fun _ μ R => R d μ
section
variable {X : Cx}
theorem dv (i : Nat) {x : Str} {pos : Pos} (hN : X.N[i]? = some x := by rfl) (hv : Vis X.env.scope x := by first | exact Or.inl rfl | exact Or.inr (Or.inl rfl) | exact Or.inr (Or.inr rfl)) (hd : (x == ("__debug__" : Str)) = false := by decide)
    (hcd : (x == ("__classdict__" : Str)) = false := by decide) : DE X (.Name x pos) (gVar i) := by
  refine ⟨tVar i, pe_var hN hv hd hcd, fun σ H δ μ Q R rm rs g f => ?_⟩
  unfold gVar at g
  rw [List.getD_eq_getElem?_getD] at g
  cases e : δ[i]? with
  | none => rw [e] at g; exact False.elim g
  | some o =>
    cases o with
    | none => rw [e] at g; exact False.elim g
    | some d =>
      rw [e] at g
      obtain ⟨v, e2, rv⟩ := rs.get e
      exact ⟨v, e2, f v d H μ (Kp.refl _ _) rm rv g⟩
theorem de_c {e : Expr} {v : V} {d : D} (h : PE X e (tC v)) (r : ∀ H μ, Rep X.K H μ d v) : DE X e (gC d) := ⟨tC v, h, fun σ H δ μ Q R rm rs g f => f v d H μ (Kp.refl _ _) rm (r H μ) g⟩
theorem de_int {i j pos} : DE X (.Constant (.int i) j pos) (gC (.int i)) := de_c pe_int fun _ _ => by unfold Rep; rfl
theorem de_bl {i j pos} : DE X (.Constant (.bool i) j pos) (gC (.bl i)) := de_c pe_bl fun _ _ => by unfold Rep; rfl
theorem de_non {j pos} : DE X (.Constant .none j pos) (gC .non) := de_c pe_non fun _ _ => by unfold Rep; rfl
theorem de_str {x j pos} : DE X (.Constant (.str x) j pos) (gC (.str x)) := de_c pe_str fun _ _ => by unfold Rep; rfl
theorem de_globI {x : Str} {i : Int} {t : Tok} {pos : Pos} (hg : Gl X x) (hm : X.mg x = some (.int i t)) (hd : (x == ("__debug__" : Str)) = false := by decide) : DE X (.Name x pos) (gC (.int i)) :=
  de_c (pe_glob (v := .int i) hg hm ⟨t, rfl⟩ hd) fun _ _ => by unfold Rep; rfl
theorem de_globS {x : Str} {i : Str} {t : Tok} {pos : Pos} (hg : Gl X x) (hm : X.mg x = some (.str i t)) (hd : (x == ("__debug__" : Str)) = false := by decide) : DE X (.Name x pos) (gC (.str i)) :=
  de_c (pe_glob (v := .str i) hg hm ⟨t, rfl⟩ hd) fun _ _ => by unfold Rep; rfl
def gOp (r : G2) (ga gb : GE) : GE := fun δ μ R => ga δ μ fun x μ1 => gb δ μ1 fun y μ2 => r x y μ2 R
theorem sim_op {K : PySem.W.Frag} {r : R2} {ta tb : TE} {g : G2} {ga gb : GE} (h : SimO K r g) (ha : SimE K ta ga) (hb : SimE K tb gb) : SimE K (tOp r ta tb) (gOp g ga gb) := by
  intro σ H δ μ Q R rm rs q f
  refine ha σ H δ μ _ _ rm rs q fun v d H1 μ1 k1 rm1 r1 q1 => ?_
  refine hb σ H1 δ μ1 _ _ rm1 (rs.mono k1) q1 fun v2 d2 H2 μ2 k2 rm2 r2 q2 => ?_
  exact h v v2 d d2 H2 μ2 Q R rm2 (r1.mono k2) r2 q2 (f.re (k1.trans k2))
theorem de_op {op : Operator} {a b : Expr} {ga gb : GE} {r : R2} {g : G2} {pos : Pos} (ho : OpR X (binaryOp op) r) (h : SimO X.K r g) (ha : DE X a ga) (hb : DE X b gb) : DE X (.BinOp a op b pos) (gOp g ga gb) :=
  let ⟨_, a1, a2⟩ := ha.ex; let ⟨_, b1, b2⟩ := hb.ex; ⟨_, pe_op ho a1 b1, sim_op h a2 b2⟩
theorem de_cmp {op : CmpOp} {a b : Expr} {ga gb : GE} {r : R2} {g : G2} {pos : Pos} (ho : OpR X (compareOp op) r) (h : SimO X.K r g) (ha : DE X a ga) (hb : DE X b gb) (hm : behindInMarks op b = false) : DE X (.Compare a [op] [b] pos) (gOp g ga gb) :=
  let ⟨_, a1, a2⟩ := ha.ex; let ⟨_, b1, b2⟩ := hb.ex; ⟨_, pe_cmpR ho a1 b1 hm, sim_op h a2 b2⟩
theorem de_ix {a b : Expr} {ga gb : GE} {r : R2} {g : G2} {pos : Pos} (ho : IxR X r) (h : SimO X.K r g) (ha : DE X a ga) (hb : DE X b gb) (hs : PlainIx b) : DE X (.Subscript a b pos) (gOp g ga gb) :=
  let ⟨_, a1, a2⟩ := ha.ex; let ⟨_, b1, b2⟩ := hb.ex; ⟨_, pe_ix ho a1 b1 hs, sim_op h a2 b2⟩
def gUn (r : G1) (ga : GE) : GE := fun δ μ R => ga δ μ fun x μ1 => r x μ1 R
theorem sim_un {K : PySem.W.Frag} {r : V → Hp → VK → Prop} {ta : TE} {g : G1} {ga : GE} (h : SimU K r g) (ha : SimE K ta ga) : SimE K (tUn r ta) (gUn g ga) := by
  intro σ H δ μ Q R rm rs q f
  exact ha σ H δ μ _ _ rm rs q fun v d H1 μ1 k1 rm1 r1 q1 => h v d H1 μ1 Q R rm1 r1 q1 (f.re k1)
theorem de_un {op : UnaryOp} {a : Expr} {ga : GE} {r : V → Hp → VK → Prop} {g : G1} {pos : Pos} (ho : UnR X (unaryOp op) r) (h : SimU X.K r g) (ha : DE X a ga) : DE X (.UnaryOp op a pos) (gUn g ga) :=
  let ⟨_, a1, a2⟩ := ha.ex; ⟨_, pe_un ho a1, sim_un h a2⟩
/-- a value that is a bool, as a test -/
def bK (R : Bool → Mu → Prop) : KD := fun d μ => match d with
  | .bl b => R b μ
  | _ => False
def gB (g : GE) : GT := fun δ μ R => g δ μ (bK R)
theorem sim_b {K : PySem.W.Frag} {t : TE} {g : GE} (h : SimE K t g) : SimT K (fun σ H Q => t σ H fun x H1 => ∃ c, x = .bl c ∧ Q c H1) (gB g) := by
  intro σ H δ μ Q R rm rs q f
  refine h σ H δ μ _ _ rm rs q fun v d H1 μ1 k1 rm1 r1 q1 => ?_
  cases d <;> try exact False.elim q1
  rename_i b
  unfold Rep at r1
  exact ⟨b, r1, f b H1 μ1 k1 rm1 q1⟩
theorem dt_cmp {op : CmpOp} {a b : Expr} {ga gb : GE} {r : R2} {g : G2} {pos : Pos} (ho : OpR X (compareOp op) r) (h : SimO X.K r g) (ha : DE X a ga) (hb : DE X b gb) (hm : behindInMarks op b = false) : DT X (.Compare a [op] [b] pos) (gB (gOp g ga gb)) :=
  let ⟨_, a1, a2⟩ := ha.ex; let ⟨_, b1, b2⟩ := hb.ex; ⟨_, pt_cmpR ho a1 b1 hm, sim_b (sim_op h a2 b2)⟩
theorem dt_val {e : Expr} {g : GE} (h : DE X e g) (he : ∀ whole, isTrue e X.env whole = (do let v ← whole; standAt e.pos; holding [v] (truthy v)) := by intro _; rfl) : DT X e (gB g) :=
  let ⟨_, a1, a2⟩ := h.ex; ⟨_, pt_val a1 he, sim_b a2⟩
def gOr (t u : GT) : GT := fun δ μ R => t δ μ fun c μ1 => if c = true then R true μ1 else u δ μ1 R
def gNot (t : GT) : GT := fun δ μ R => t δ μ fun c μ1 => R (!c) μ1
variable {a b : Expr} {rest : List Expr} {pos : Pos} {gt gu : GT} {ga gb : GE}
theorem dw_or1 (h : DT X a gt) : DW X (.BoolOp .Or [a] pos) gt := let ⟨_, a1, a2⟩ := h.ex; ⟨_, pw_or1 a1, a2⟩
theorem dw_or (h : DT X a gt) (h2 : DW X (.BoolOp .Or (b :: rest) pos) gu) : DW X (.BoolOp .Or (a :: b :: rest) pos) (gOr gt gu) := by
  obtain ⟨t, a1, a2⟩ := h.ex
  obtain ⟨u, b1, b2⟩ := h2.ex
  refine ⟨_, pw_or a1 b1, fun σ H δ μ Q R rm rs q f => ?_⟩
  refine a2 σ H δ μ _ _ rm rs q fun c H1 μ1 k1 rm1 q1 => ?_
  cases c with
  | false => exact b2 σ H1 δ μ1 Q R rm1 (rs.mono k1) q1 fun b H2 μ2 k2 => f b H2 μ2 (k1.trans k2)
  | true => exact f true H1 μ1 k1 rm1 q1
theorem dt_not (h : DT X a gt) : DT X (.UnaryOp .Not a pos) (gNot gt) := by
  obtain ⟨t, a1, a2⟩ := h.ex
  exact ⟨_, pt_not a1, fun σ H δ μ Q R rm rs q f => a2 σ H δ μ _ _ rm rs q fun c H1 μ1 k1 rm1 q1 => f (!c) H1 μ1 k1 rm1 q1⟩
/-- and, or, not as values (bools) -/
def gAndV (t u : GE) : GE := fun δ μ R => t δ μ (bK fun c μ1 => if c = true then u δ μ1 R else R (.bl false) μ1)
def gNotV (t : GE) : GE := fun δ μ R => t δ μ (bK fun c μ1 => R (.bl (!c)) μ1)
theorem de_one {op} (h : DE X a ga) : DE X (.BoolOp op [a] pos) ga := let ⟨_, a1, a2⟩ := h.ex; ⟨_, pe_one a1, a2⟩
theorem de_and (h : DE X a ga) (h2 : DE X (.BoolOp .And (b :: rest) pos) gb) : DE X (.BoolOp .And (a :: b :: rest) pos) (gAndV ga gb) := by
  obtain ⟨t, a1, a2⟩ := h.ex
  obtain ⟨u, b1, b2⟩ := h2.ex
  refine ⟨_, pe_and a1 b1, fun σ H δ μ Q R rm rs q f => ?_⟩
  refine a2 σ H δ μ _ _ rm rs q fun v d H1 μ1 k1 rm1 r1 q1 => ?_
  cases d <;> try exact False.elim q1
  rename_i c
  unfold Rep at r1
  refine ⟨c, r1, ?_⟩
  cases c with
  | true => exact b2 σ H1 δ μ1 Q R rm1 (rs.mono k1) q1 (f.re k1)
  | false => exact f (.bl false) (.bl false) H1 μ1 k1 rm1 (by unfold Rep; rfl) q1
theorem de_not (h : DE X a ga) : DE X (.UnaryOp .Not a pos) (gNotV ga) := by
  obtain ⟨t, a1, a2⟩ := h.ex
  refine ⟨_, pe_not a1, fun σ H δ μ Q R rm rs q f => ?_⟩
  refine a2 σ H δ μ _ _ rm rs q fun v d H1 μ1 k1 rm1 r1 q1 => ?_
  cases d <;> try exact False.elim q1
  rename_i c
  unfold Rep at r1
  exact ⟨c, r1, f (.bl (!c)) (.bl (!c)) H1 μ1 k1 rm1 (by unfold Rep; rfl) q1⟩
def gIf (t : GT) (ga gb : GE) : GE := fun δ μ R => t δ μ fun c μ1 => if c = true then ga δ μ1 R else gb δ μ1 R
theorem de_if {c : Expr} (h : DT X c gt) (ha : DE X a ga) (hb : DE X b gb) : DE X (.IfExp c a b pos) (gIf gt ga gb) := by
  obtain ⟨t, c1, c2⟩ := h.ex
  obtain ⟨u, a1, a2⟩ := ha.ex
  obtain ⟨w, b1, b2⟩ := hb.ex
  refine ⟨_, pe_ifExp c1 a1 b1, fun σ H δ μ Q R rm rs q f => ?_⟩
  refine c2 σ H δ μ _ _ rm rs q fun c H1 μ1 k1 rm1 q1 => ?_
  cases c with
  | true => exact a2 σ H1 δ μ1 Q R rm1 (rs.mono k1) q1 (f.re k1)
  | false => exact b2 σ H1 δ μ1 Q R rm1 (rs.mono k1) q1 (f.re k1)
/-- a op1 b op2 c -/
def gChain (r r' : G2) (ga gb gc : GE) : GE := fun δ μ R => ga δ μ fun x μ1 => gb δ μ1 fun y μ2 => r x y μ2 (bK fun k μ3 => if k = true then gc δ μ3 fun z μ4 => r' y z μ4 R else R (.bl false) μ3)
theorem de_chain {op op' : CmpOp} {c : Expr} {r r' : R2} {g g' : G2} {gc : GE} (ho : OpR X (compareOp op) r) (h : SimO X.K r g) (ho' : OpR X (compareOp op') r') (h' : SimO X.K r' g') (ha : DE X a ga) (hb : DE X b gb) (hc : DE X c gc)
    (hm : lastMarks [op, op'] [b, c] = false := by with_unfolding_all rfl) : DE X (.Compare a [op, op'] [b, c] pos) (gChain g g' ga gb gc) := by
  obtain ⟨t, a1, a2⟩ := ha.ex
  obtain ⟨u, b1, b2⟩ := hb.ex
  obtain ⟨w, c1, c2⟩ := hc.ex
  refine ⟨_, pe_chain ho ho' a1 b1 c1 hm, fun σ H δ μ Q R rm rs q f => ?_⟩
  refine a2 σ H δ μ _ _ rm rs q fun v d H1 μ1 k1 rm1 r1 q1 => ?_
  refine b2 σ H1 δ μ1 _ _ rm1 (rs.mono k1) q1 fun v2 d2 H2 μ2 k2 rm2 r2 q2 => ?_
  refine h v v2 d d2 H2 μ2 _ _ rm2 (r1.mono k2) r2 q2 fun v3 d3 H3 μ3 k3 rm3 r3 q3 => ?_
  cases d3 <;> try exact False.elim q3
  rename_i k
  unfold Rep at r3
  refine ⟨k, r3, ?_⟩
  cases k with
  | false => exact f (.bl false) (.bl false) H3 μ3 (k1.trans (k2.trans k3)) rm3 (by unfold Rep; rfl) q3
  | true => exact c2 σ H3 δ μ3 _ _ rm3 (rs.mono (k1.trans (k2.trans k3))) q3 fun v4 d4 H4 μ4 k4 rm4 r4 q4 => h' v2 v4 d2 d4 H4 μ4 Q R rm4 (r2.mono (k3.trans k4)) r4 q4 (f.re (k1.trans (k2.trans (k3.trans k4))))
/-! ### arguments, displays -/
def gNil : GA := fun _ μ R => R [] μ
def gCons (ga : GE) (gr : GA) : GA := fun δ μ R => ga δ μ fun x μ1 => gr δ μ1 fun xs μ2 => R (x :: xs) μ2
variable {e : Expr} {es : List Expr} {gr : GA}
theorem da_nil : DA X [] gNil := ⟨_, pa_nil, fun σ H δ μ Q R rm rs q f => f [] [] H μ (Kp.refl _ _) rm RepL.nil q⟩
theorem da_cons (ha : DE X e ga) (hr : DA X es gr) (hs : starEach (e :: es) X.env = (false, eval e X.env) :: starEach es X.env := by rfl) : DA X (e :: es) (gCons ga gr) := by
  obtain ⟨t, a1, a2⟩ := ha.ex
  obtain ⟨u, b1, b2⟩ := hr.ex
  refine ⟨_, pa_cons a1 b1 hs, fun σ H δ μ Q R rm rs q f => ?_⟩
  refine a2 σ H δ μ _ _ rm rs q fun v d H1 μ1 k1 rm1 r1 q1 => ?_
  exact b2 σ H1 δ μ1 _ _ rm1 (rs.mono k1) q1 fun vs ds H2 μ2 k2 rm2 r2 q2 => f (v :: vs) (d :: ds) H2 μ2 (k1.trans k2) rm2 (RepL.cons (r1.mono k2) r2) q2
def gTup (g : GA) : GE := fun δ μ R => g δ μ fun ds μ1 => ds.length ≤ sizeLine ∧ R (.tup ds) μ1
def gLst (g : GA) : GE := fun δ μ R => g δ μ fun ds μ1 => ds.length ≤ sizeLine ∧ R (.lst ds) μ1
/-- a list that will change -/
def gCell (g : GA) : GE := fun δ μ R => g δ μ fun ds μ1 => ds.length ≤ sizeLine ∧ ∀ a, μ1 a = none → R (.adr a) (put μ1 a (.lst ds))
theorem RM.new {K : PySem.W.Frag} {H H' : Hp} {μ : Mu} (rm : RM K H μ) (k : Kp H μ H' μ) (h : ∀ a o, μ a = some o → H' a = H a) : RM K H' μ := fun a o e => by
  have q := rm a o e
  cases o with
  | lst ds => obtain ⟨vs, h1, h2⟩ := q; exact ⟨vs, (h _ _ e).trans h1, h2.mono k _ _⟩
  | dct kvs => obtain ⟨vs, h1, h2⟩ := q; exact ⟨vs, (h _ _ e).trans h1, h2.mono k _ _⟩
  | dtt kvs => obtain ⟨vs, h1, h2⟩ := q; exact ⟨vs, (h _ _ e).trans h1, h2.mono k _ _⟩
  | lck kvs => obtain ⟨o, vs, h1, h2⟩ := q; exact ⟨o, vs, (h _ _ e).trans h1, h2.mono k _ _⟩
  | ftp ds => obtain ⟨o, vs, h1, d, h2⟩ := q; exact ⟨o, vs, (h _ _ e).trans h1, d, h2.mono k _ _⟩
  | ins C fs => obtain ⟨dx, vs, h1, h2⟩ := q; exact ⟨dx, vs, (h _ _ e).trans h1, h2.mono k _ _⟩
theorem RM.has {K : PySem.W.Frag} {H : Hp} {μ : Mu} (rm : RM K H μ) {a : Addr} {o : MO} (e : μ a = some o) : H a ≠ none := by
  have q := rm a o e
  cases o with
  | lst ds => obtain ⟨vs, h1, h2⟩ := q; rw [h1]; simp
  | dct kvs => obtain ⟨vs, h1, h2⟩ := q; rw [h1]; simp
  | dtt kvs => obtain ⟨vs, h1, h2⟩ := q; rw [h1]; simp
  | lck kvs => obtain ⟨o, vs, h1, h2⟩ := q; rw [h1]; simp
  | ftp ds => obtain ⟨o, vs, h1, _, _⟩ := q; rw [h1]; simp
  | ins C fs => obtain ⟨dx, vs, h1, h2⟩ := q; rw [h1]; simp
theorem RM.free {K : PySem.W.Frag} {H : Hp} {μ : Mu} (rm : RM K H μ) {a : Addr} (e : H a = none) : μ a = none := by
  cases q : μ a with
  | none => rfl
  | some o => exact absurd e (rm.has q)
theorem RM.laid {K : PySem.W.Frag} {H : Hp} {μ : Mu} {p : Addr} {o : HO} (rm : RM K H μ) (n : H p = none) : RM K (upd H p o) μ :=
  rm.new (Kp.new n) fun a u e => upd_ne (fun z => rm.has e (by rw [z]; exact n))
/-- the store with p's new content -/
theorem RM.put {K : PySem.W.Frag} {H H' : Hp} {μ : Mu} {p : Addr} {m : MO} (rm : RM K H μ) (k : Kp H μ H' (put μ p m)) (h : ∀ a o, a ≠ p → μ a = some o → H' a = H a) (hp : RepO K H' (put μ p m) m p) : RM K H' (put μ p m) := fun a o e => by
  by_cases ea : a = p
  · rw [ea, put_same] at e
    cases e
    rw [ea]; exact hp
  · rw [put_ne ea] at e
    have q := rm a o e
    cases o with
    | lst ds => obtain ⟨vs, h1, h2⟩ := q; exact ⟨vs, (h _ _ ea e).trans h1, h2.mono k _ _⟩
    | dct kvs => obtain ⟨vs, h1, h2⟩ := q; exact ⟨vs, (h _ _ ea e).trans h1, h2.mono k _ _⟩
    | dtt kvs => obtain ⟨vs, h1, h2⟩ := q; exact ⟨vs, (h _ _ ea e).trans h1, h2.mono k _ _⟩
    | lck kvs => obtain ⟨o, vs, h1, h2⟩ := q; exact ⟨o, vs, (h _ _ ea e).trans h1, h2.mono k _ _⟩
    | ftp ds => obtain ⟨o, vs, h1, d, h2⟩ := q; exact ⟨o, vs, (h _ _ ea e).trans h1, d, h2.mono k _ _⟩
    | ins C fs => obtain ⟨dx, vs, h1, h2⟩ := q; exact ⟨dx, vs, (h _ _ ea e).trans h1, h2.mono k _ _⟩
theorem RM.drop {K : PySem.W.Frag} {H : Hp} {μ : Mu} {p : Addr} (rm : RM K H μ) : RM K H (del μ p) := fun a o e => by
  by_cases ea : a = p
  · rw [ea, del_same] at e; cases e
  · rw [del_ne ea] at e
    have q := rm a o e
    cases o with
    | lst ds => obtain ⟨vs, h1, h2⟩ := q; exact ⟨vs, h1, h2.mono Kp.drop _ _⟩
    | dct kvs => obtain ⟨vs, h1, h2⟩ := q; exact ⟨vs, h1, h2.mono Kp.drop _ _⟩
    | dtt kvs => obtain ⟨vs, h1, h2⟩ := q; exact ⟨vs, h1, h2.mono Kp.drop _ _⟩
    | lck kvs => obtain ⟨o, vs, h1, h2⟩ := q; exact ⟨o, vs, h1, h2.mono Kp.drop _ _⟩
    | ftp ds => obtain ⟨o, vs, h1, d, h2⟩ := q; exact ⟨o, vs, h1, d, h2.mono Kp.drop _ _⟩
    | ins C fs => obtain ⟨dx, vs, h1, h2⟩ := q; exact ⟨dx, vs, h1, h2.mono Kp.drop _ _⟩
theorem de_tup {x1} (h : DA X es gr) : DE X (.Tuple es x1 pos) (gTup gr) := by
  obtain ⟨t, a1, a2⟩ := h.ex
  refine ⟨_, pe_tup a1, fun σ H δ μ Q R rm rs q f => ?_⟩
  refine a2 σ H δ μ _ _ rm rs q fun vs ds H1 μ1 k1 rm1 r1 q1 => ⟨by rw [r1.length]; exact q1.1, fun p n => ?_⟩
  refine f (.ref p) (.tup ds) _ μ1 (k1.trans (Kp.new n)) (rm1.laid n) ?_ q1.2
  unfold Rep
  exact ⟨p, vs, rfl, .inl ⟨upd_same, rm1.free n⟩, r1.mono (Kp.new n) _ _⟩
theorem de_lst (h : DA X es gr) : DE X (.List es pos) (gLst gr) := by
  obtain ⟨t, a1, a2⟩ := h.ex
  refine ⟨_, pe_lst a1, fun σ H δ μ Q R rm rs q f => ?_⟩
  refine a2 σ H δ μ _ _ rm rs q fun vs ds H1 μ1 k1 rm1 r1 q1 => ⟨by rw [r1.length]; exact q1.1, fun p n => ?_⟩
  refine f (.ref p) (.lst ds) _ μ1 (k1.trans (Kp.new n)) (rm1.laid n) ?_ q1.2
  unfold Rep
  exact ⟨p, vs, rfl, upd_same, rm1.free n, r1.mono (Kp.new n) _ _⟩
theorem RM.cell {K : PySem.W.Frag} {H : Hp} {μ : Mu} {p : Addr} {vs : List V} {ds : List D} (rm : RM K H μ) (n : H p = none) (r : RepL K H μ ds vs) : RM K (upd H p (.lst vs)) (DL.put μ p (.lst ds)) :=
  rm.put (Kp.cell n) (fun a o ea e => upd_ne ea) ⟨vs, upd_same, r.mono (Kp.cell n) _ _⟩
theorem de_cell (h : DA X es gr) : DE X (.List es pos) (gCell gr) := by
  obtain ⟨t, a1, a2⟩ := h.ex
  refine ⟨_, pe_lst a1, fun σ H δ μ Q R rm rs q f => ?_⟩
  refine a2 σ H δ μ _ _ rm rs q fun vs ds H1 μ1 k1 rm1 r1 q1 => ⟨by rw [r1.length]; exact q1.1, fun p n => ?_⟩
  exact f (.ref p) (.adr p) _ _ (k1.trans (Kp.cell n)) (rm1.cell n r1) (by unfold Rep; rfl) (q1.2 p (rm1.free n))
end
end DL
set_option Elab.async false
set_option linter.all false
set_option maxRecDepth 100000
namespace DL
open PySem PySem.Spec PyProof.Rows L2
/-! ### the one reading of a data reading -/
def tOf (K : PySem.W.Frag) (g : GE) : TE := fun σ H Q => ∃ δ μ R, RM K H μ ∧ RepS K H μ δ σ ∧ g δ μ R ∧ Fw K H μ R Q
def tTOf (K : PySem.W.Frag) (g : GT) : TT := fun σ H Q => ∃ δ μ R, RM K H μ ∧ RepS K H μ δ σ ∧ g δ μ R ∧ ∀ b H' μ', Kp H μ H' μ' → RM K H' μ' → R b μ' → Q b H'
theorem sim_of {K : PySem.W.Frag} {g : GE} : SimE K (tOf K g) g := fun σ H δ μ Q R rm rs q f => ⟨δ, μ, R, rm, rs, q, f⟩
theorem simT_of {K : PySem.W.Frag} {g : GT} : SimT K (tTOf K g) g := fun σ H δ μ Q R rm rs q f => ⟨δ, μ, R, rm, rs, q, f⟩
theorem DE.pe {X : Cx} {e : Expr} {g : GE} (h : DE X e g) : PE X e (tOf X.K g) := by
  obtain ⟨t, a, b⟩ := h.ex
  refine ⟨fun pins s σ H Q I ⟨δ, μ, R, rm, rs, q, f⟩ => a.run pins s σ H Q I (b σ H δ μ Q R rm rs q f)⟩
structure DTs (X : Cx) (es : List Expr) (g : GT) : Prop where
  ex : ∃ t, PTs X es t ∧ SimT X.K t g
theorem DTs.pt {X : Cx} {e : List Expr} {g : GT} (h : DTs X e g) : PTs X e (tTOf X.K g) := by
  obtain ⟨t, a, b⟩ := h.ex
  refine ⟨fun pins s σ H Q I ⟨δ, μ, R, rm, rs, q, f⟩ => a.run pins s σ H Q I (b σ H δ μ Q R rm rs q f)⟩
def gYes : GT := fun _ μ R => R true μ
theorem dts_nil {X : Cx} : DTs X [] gYes := ⟨_, pts_nil, fun σ H δ μ Q R rm rs q f => f true H μ (Kp.refl _ _) rm q⟩
theorem dts_one {X : Cx} {c : Expr} {g : GT} (h : DT X c g) : DTs X [c] g := let ⟨_, a, b⟩ := h.ex; ⟨_, pts_one a, b⟩
/-! ### targets -/
abbrev GG := D → DS → (DS → Prop) → Prop
abbrev GGs := List D → DS → (DS → Prop) → Prop
/-- ow: the slots that it stores -/
def SimG (K : PySem.W.Frag) (t : TG) (g : GG) (ow : List Nat) : Prop := ∀ v d σ H δ μ (Q : L2.St → Hp → Prop) (R : DS → Prop), RM K H μ → RepS K H μ δ σ → Rep K H μ d v → g d δ R →
  (∀ σ' δ', RepS K H μ δ' σ' → R δ' → (∀ vs : List Nat, (∀ i ∈ ow, i ∈ vs) → L2.wipe σ' vs = L2.wipe σ vs) → Q σ' H) → t v σ H Q
def SimGs (K : PySem.W.Frag) (t : TGs) (g : GGs) (ow : List Nat) : Prop := ∀ vs ds σ H δ μ (Q : L2.St → Hp → Prop) (R : DS → Prop), RM K H μ → RepS K H μ δ σ → RepL K H μ ds vs → g ds δ R →
  (∀ σ' δ', RepS K H μ δ' σ' → R δ' → (∀ vs : List Nat, (∀ i ∈ ow, i ∈ vs) → L2.wipe σ' vs = L2.wipe σ vs) → Q σ' H) → t vs σ H Q
theorem wipe_get (σ : L2.St) (j : Nat) : ∀ vs : List Nat, (L2.wipe σ vs)[j]? = if j ∈ vs then (if j < σ.length then some none else none) else σ[j]?
  | [] => by simp [L2.wipe]
  | v :: vs => by
    unfold L2.wipe
    by_cases h : v = j
    · subst h
      by_cases hl : v < σ.length
      · rw [List.getElem?_set_self (by rw [L2.wipe_length]; exact hl)]
        simp [hl]
      · rw [List.getElem?_eq_none (by rw [List.length_set, L2.wipe_length]; omega)]
        simp [hl]
    · rw [List.getElem?_set_ne h, wipe_get σ j vs]
      have h' : ¬ j = v := fun e => h e.symm
      simp [h']
theorem wipe_set {σ : L2.St} {i : Nat} {o : Option V} {vs : List Nat} (h : i ∈ vs) : L2.wipe (σ.set i o) vs = L2.wipe σ vs := by
  apply List.ext_getElem?
  intro j
  rw [wipe_get, wipe_get, List.length_set]
  by_cases hj : j ∈ vs
  · rw [if_pos hj, if_pos hj]
  · rw [if_neg hj, if_neg hj]
    rw [List.getElem?_set_ne]
    rintro rfl
    exact hj h
theorem wipe_wipe {σ : L2.St} {vs : List Nat} : L2.wipe (L2.wipe σ vs) vs = L2.wipe σ vs := by
  apply List.ext_getElem?
  intro j
  rw [wipe_get, wipe_get, L2.wipe_length]
  by_cases hj : j ∈ vs
  · rw [if_pos hj, if_pos hj]
  · rw [if_neg hj, if_neg hj]
def gNm (i : Nat) : GG := fun d δ R => R (δ.set i (some d))
theorem sim_nm {K : PySem.W.Frag} {i : Nat} : SimG K (gName i) (gNm i) [i] := fun v d σ H δ μ Q R rm rs r q f =>
  f _ _ (rs.set i r) q fun vs h => wipe_set (h i (List.mem_singleton.mpr rfl))
def gNilT : GGs := fun ds δ R => match ds with
  | [] => R δ
  | _ :: _ => False
def gConsT (t : GG) (u : GGs) : GGs := fun ds δ R => match ds with
  | d :: r => t d δ fun δ' => u r δ' R
  | [] => False
theorem sim_nilT {K : PySem.W.Frag} : SimGs K L2.gNil gNilT [] := by
  intro vs ds σ H δ μ Q R rm rs r q f
  cases ds with
  | nil =>
    unfold RepL at r
    exact ⟨r, f σ δ rs q fun _ _ => rfl⟩
  | cons d ds => exact False.elim q
theorem sim_consT {K : PySem.W.Frag} {t : TG} {u : TGs} {g : GG} {gs : GGs} {o os : List Nat} (h : SimG K t g o) (h2 : SimGs K u gs os) : SimGs K (L2.gCons t u) (gConsT g gs) (o ++ os) := by
  intro vs ds σ H δ μ Q R rm rs r q f
  cases ds with
  | nil => exact False.elim q
  | cons d ds =>
    unfold RepL at r
    obtain ⟨v, w, rfl, r1, r2⟩ := r
    refine ⟨v, w, rfl, h v d σ H δ μ _ _ rm rs r1 q fun σ' δ' rs' q' w1 => ?_⟩
    exact h2 w ds σ' H δ' μ _ _ rm rs' r2 q' fun σ2 δ2 rs2 q2 w2 => f σ2 δ2 rs2 q2 fun vs hv => (w2 vs fun i hi => hv i (List.mem_append_right _ hi)).trans (w1 vs fun i hi => hv i (List.mem_append_left _ hi))
def gTupT (n : Nat) (t : GGs) : GG := fun d δ R => match d with
  | .tup ds => ds.length = n ∧ t ds δ R
  | _ => False
theorem sim_tupT {K : PySem.W.Frag} {n : Nat} {t : TGs} {g : GGs} {o : List Nat} (h : SimGs K t g o) : SimG K (L2.gTup K n t) (gTupT n g) o := by
  intro v d σ H δ μ Q R rm rs r q f
  cases d <;> try exact False.elim q
  rename_i ds
  unfold Rep at r
  obtain ⟨a, vs, rfl, im, rl⟩ := r
  exact ⟨a, vs, rfl, im.sq, by rw [rl.length]; exact q.1, h vs ds σ H δ μ Q R rm rs rl q.2 f⟩
/-! ### what is walked -/
abbrev GI := DS → Mu → (List D → Mu → Prop) → Prop
abbrev WalkD (K : PySem.W.Frag) (J : It) (items : List D) (H1 : Hp) (μ1 : Mu) : Prop :=
  Walk J items.length (fun H => ∃ μ, Kp H1 μ1 H μ ∧ RM K H μ) (fun i H x H' => ∀ μ, Kp H1 μ1 H μ → RM K H μ → ∃ d, items[i]? = some d ∧ Rep K H' μ d x ∧ Kp H μ H' μ ∧ RM K H' μ)
def SimI (K : PySem.W.Frag) (t : TI) (g : GI) : Prop := ∀ σ H δ μ (Q : It → Hp → Prop) (R : List D → Mu → Prop), RM K H μ → RepS K H μ δ σ → g δ μ R →
  (∀ J items H' μ', Kp H μ H' μ' → RM K H' μ' → WalkD K J items H' μ' → R items μ' → Q J H') → t σ H Q
structure DI (X : Cx) (tg iter : Expr) (g : GI) : Prop where
  ex : ∃ t, PI X tg iter t ∧ SimI X.K t g
def signs (x : Str) : List D := x.cps.toList.map fun c => D.str ⟨#[c]⟩
def gItemsS (g : GE) : GI := fun δ μ R => g δ μ fun d μ1 => match d with
  | .str x => R (signs x) μ1
  | _ => False
def gRange (g : GA) : GI := fun δ μ R => g δ μ fun ds μ1 => match ds with
  | [.int n] => (-(2 ^ 62) ≤ n ∧ n < 2 ^ 62) ∧ R ((List.range n.toNat).map fun i => D.int (i : Nat)) μ1
  | _ => False
section
variable {X : Cx} {tg e : Expr} {g : GE} {ga : GA}
theorem walk_seq {K : PySem.W.Frag} {a : Addr} {vs : List V} {ds : List D} {H : Hp} {μ : Mu} (hq : ∀ H' μ', Kp H μ H' μ' → SqL K H' a vs) (r : RepL K H μ ds vs) : WalkD K (Itl K a) ds H μ := by
  have e := r.length
  rw [WalkD, ← e]
  refine (walk_list (K := K) (a := a) (xs := vs)).mono (fun H' ⟨μ', k, _⟩ => hq H' μ' k) fun i H' x H2 hi _ ⟨e1, e2⟩ μ' k rm => ?_
  subst e1
  obtain ⟨d, e3, r1⟩ := (r.mono k).atV e2
  exact ⟨d, e3, r1, Kp.refl _ _, rm⟩
theorem di_str (h : DE X e g) : DI X tg e (gItemsS g) := by
  obtain ⟨t, a1, a2⟩ := h.ex
  refine ⟨_, pi_str a1, fun σ H δ μ Q R rm rs q f => ?_⟩
  refine a2 σ H δ μ _ _ rm rs q fun v d H1 μ1 k1 rm1 r1 q1 => ?_
  cases d <;> try exact False.elim q1
  rename_i x
  unfold Rep at r1
  refine ⟨x, r1, f _ (signs x) H1 μ1 k1 rm1 ?_ q1⟩
  have e : x.cps.size = (signs x).length := by simp [signs]
  rw [WalkD, ← e]
  refine (walk_str (z := x)).mono (fun H' _ => True.intro) fun i H' y H2 hi _ ⟨e1, c, e2, e3⟩ μ' k rm => ?_
  subst e1
  subst e3
  refine ⟨.str ⟨#[c]⟩, ?_, by unfold Rep; rfl, Kp.refl _ _, rm⟩
  unfold signs
  rw [List.getElem?_map, Array.getElem?_toList, e2]
  rfl
theorem di_range {p pos : Pos} (hg : Gl X "range") (hm : X.mg "range" = none) (h : DA X [e] ga) (hs : starEach [e] X.env = [(false, eval e X.env)] := by rfl) : DI X tg (.Call (.Name "range" p) [e] [] pos) (gRange ga) := by
  obtain ⟨t, a1, a2⟩ := h.ex
  refine ⟨_, pi_range1 hg hm a1 hs, fun σ H δ μ Q R rm rs q f => ?_⟩
  refine a2 σ H δ μ _ _ rm rs q fun vs ds H1 μ1 k1 rm1 r1 q1 => ?_
  unfold gRange at q
  match ds, q1, r1 with
  | [.int n], q1, r1 =>
    unfold RepL at r1
    obtain ⟨v, r, rfl, r2, r3⟩ := r1
    unfold RepL at r3
    unfold Rep at r2
    subst r2 r3
    refine ⟨n, rfl, q1.1.1, q1.1.2, f _ _ H1 μ1 k1 rm1 ?_ q1.2⟩
    have e : n.toNat = ((List.range n.toNat).map fun i => D.int (i : Nat)).length := by simp
    rw [WalkD, ← e]
    refine (walk_range (lo := 0) (n := n.toNat)).mono (fun H' _ => True.intro) fun i H' y H2 hi _ ⟨e1, e2⟩ μ' k rm => ?_
    subst e1 e2
    refine ⟨.int (0 + (i : Nat)), ?_, by unfold Rep; rfl, Kp.refl _ _, rm⟩
    rw [List.getElem?_map, List.getElem?_range hi]
    simp
end
/-! ### statements -/
def gNext : GS := fun F δ μ => F.nx δ μ
def gSeq (t u : GS) : GS := fun F δ μ => t { F with nx := u F } δ μ
section
variable {X : Cx} {st : Stmt} {rest body : List Stmt} {t u : GS} {e : Expr} {ge : GE} {pos : Pos} {a b : List Stmt}
theorem dss_nil : DSs X [] gNext := ⟨_, pss_nil, fun σ H δ μ E F rm rs e q => e.nx σ H δ μ (Kp.refl _ _) rm rs q⟩
theorem dss_one (h : DSt X st t) : DSs X [st] t := let ⟨_, a, b⟩ := h.ex; ⟨_, pss_one a, b⟩
theorem dss_cons (h : DSt X st t) (h2 : DSs X rest u) : DSs X (st :: rest) (gSeq t u) := by
  obtain ⟨t1, a1, a2⟩ := h.ex
  obtain ⟨u1, b1, b2⟩ := h2.ex
  refine ⟨_, pss_cons a1 b1, fun σ H δ μ E F rm rs e q => ?_⟩
  exact a2 σ H δ μ _ { F with nx := u F } rm rs ⟨fun σ1 H1 δ1 μ1 k1 rm1 rs1 q1 => b2 σ1 H1 δ1 μ1 E F rm1 rs1 (e.re k1) q1, e.rt, e.bk, e.ct⟩ q
def gDrop (g : GE) : GS := fun F δ μ => g δ μ fun _ μ1 => F.nx δ μ1
theorem ds_expr (h : DE X e ge) (hs : swapsWith e none pos.line X.env = pure false := by rfl) : DSt X (.Expr e pos) (gDrop ge) := by
  obtain ⟨t1, a1, a2⟩ := h.ex
  refine ⟨_, ps_expr a1 hs, fun σ H δ μ E F rm rs e q => ?_⟩
  exact a2 σ H δ μ _ _ rm rs q fun v d H1 μ1 k1 rm1 r1 q1 => e.nx σ H1 δ μ1 k1 rm1 (rs.mono k1) q1
def gRet (g : GE) : GS := fun F δ μ => g δ μ F.rt
theorem ds_ret (h : DE X e ge) : DSt X (.Return (some e) pos) (gRet ge) := by
  obtain ⟨t1, a1, a2⟩ := h.ex
  exact ⟨_, ps_ret a1, fun σ H δ μ E F rm rs e q => a2 σ H δ μ _ _ rm rs q e.rt⟩
def gIfS (c : GT) (t u : GS) : GS := fun F δ μ => c δ μ fun k μ1 => if k = true then t F δ μ1 else u F δ μ1
theorem ds_if {c : Expr} {gc : GT} (hc : DT X c gc) (ha : DSs X a t) (hb : DSs X b u) : DSt X (.If c a b pos) (gIfS gc t u) := by
  obtain ⟨t0, c1, c2⟩ := hc.ex
  obtain ⟨t1, a1, a2⟩ := ha.ex
  obtain ⟨u1, b1, b2⟩ := hb.ex
  refine ⟨_, ps_if c1 a1 b1, fun σ H δ μ E F rm rs e q => ?_⟩
  refine c2 σ H δ μ _ _ rm rs q fun k H1 μ1 k1 rm1 q1 => ?_
  cases k with
  | true => exact a2 σ H1 δ μ1 E F rm1 (rs.mono k1) (e.re k1) q1
  | false => exact b2 σ H1 δ μ1 E F rm1 (rs.mono k1) (e.re k1) q1
def gNever : GS := fun _ _ _ => False
theorem ds_never : DSt X st gNever := ⟨_, ps_never, fun _ _ _ _ _ _ _ _ _ q => q.elim⟩
def gAsg (g : GE) (t : GG) : GS := fun F δ μ => g δ μ fun d μ1 => t d δ fun δ' => F.nx δ' μ1
theorem sim_asg {K : PySem.W.Frag} {te : TE} {tg : TG} {g : GE} {gg : GG} {ow : List Nat} (h : SimE K te g) (hg : SimG K tg gg ow) : SimS K (tAsg te tg) (gAsg g gg) := by
  intro σ H δ μ E F rm rs e q
  refine h σ H δ μ _ _ rm rs q fun v d H1 μ1 k1 rm1 r1 q1 => ?_
  exact hg v d σ H1 δ μ1 _ _ rm1 (rs.mono k1) r1 q1 fun σ2 δ2 rs2 q2 _ => e.nx σ2 H1 δ2 μ1 k1 rm1 rs2 q2
theorem ds_asg {tg : Expr} {g : TG} {gg : GG} {ow : List Nat} (he : DE X e ge) (hg : PG X tg g) (sg : SimG X.K g gg ow) (hs : swapsWithSole [tg] e pos.line X.env = pure false := by rfl) (hw : swappedStores [tg] e X.env = pure none := by rfl)
    (h1 : (assignEach [tg] X.env).map (·.2) = [assign tg X.env] := by rfl) : DSt X (.Assign [tg] e pos) (gAsg ge gg) := by
  obtain ⟨t1, a1, a2⟩ := he.ex
  exact ⟨_, ps_asg a1 hg hs hw h1, sim_asg a2 sg⟩
theorem ds_set {i : Nat} {x : Str} {pos' : Pos} (hN : X.N.Nodup) (hi : X.N[i]? = some x) (hx : Loc X.env.scope x) (he : DE X e ge) (hs : swapsWith e (some (.Name x pos')) pos.line X.env = pure false := by rfl) (hf : X.fn x = true ∨ X.env.scope.names.lookup x = some .local := by first | exact .inl rfl | exact .inr rfl | assumption) :
    DSt X (.Assign [.Name x pos'] e pos) (gAsg ge (gNm i)) := by
  obtain ⟨t1, a1, a2⟩ := he.ex
  exact ⟨_, ps_set hN hi hx a1 hs hf, sim_asg a2 sim_nm⟩
/-- a, b = x, y -/
def gPar (i j : Nat) (ga : GA) : GS := fun F δ μ => ga δ μ fun ds μ1 => match ds with
  | [d, e] => F.nx ((δ.set i (some d)).set j (some e)) μ1
  | _ => False
theorem ds_par {i j : Nat} {x y : Str} {a b : Expr} {ga : GA} {px py pt : Pos} {kt k2 pt2} (hc : X.calm = true) (hN : X.N.Nodup) (hi : X.N[i]? = some x) (hj : X.N[j]? = some y) (hij : i ≠ j)
    (hx : X.env.scope.names.lookup x = some .local) (hy : X.env.scope.names.lookup y = some .local) (ha : DA X [a, b] ga)
    (hw : swappedStores [.Tuple [.Name x px, .Name y py] kt pt] (.Tuple [a, b] k2 pt2) X.env = pure (some [x, y]))
    (hs : swapsWithSole [.Tuple [.Name x px, .Name y py] kt pt] (.Tuple [a, b] k2 pt2) pos.line X.env = pure false := by rfl) :
    DSt X (.Assign [.Tuple [.Name x px, .Name y py] kt pt] (.Tuple [a, b] k2 pt2) pos) (gPar i j ga) := by
  obtain ⟨t1, a1, a2⟩ := ha.ex
  refine ⟨_, ps_par hc hN hi hj hij hx hy a1 hw hs, fun σ H δ μ E F rm rs e q => ?_⟩
  refine a2 σ H δ μ _ _ rm rs q fun vs ds H1 μ1 k1 rm1 r1 q1 => ?_
  match ds, r1, q1 with
  | [d, d2], r1, q1 =>
    unfold RepL at r1
    obtain ⟨v, r, rfl, r2, r3⟩ := r1
    unfold RepL at r3
    obtain ⟨v2, r, rfl, r4, r5⟩ := r3
    unfold RepL at r5
    subst r5
    exact ⟨v, v2, rfl, e.nx _ H1 _ μ1 k1 rm1 (((rs.mono k1).set i r2).set j r4) q1⟩
/-- for -/
def gFor (gi : GI) (gt : GG) (gb : GS) : GS := fun F δ μ => gi δ μ fun items μ1 => ∃ Iv : Nat → DS → Mu → Prop, Iv 0 δ μ1 ∧
  (∀ i x δ' μ', items[i]? = some x → Iv i δ' μ' → gt x δ' fun δ2 => gb { F with nx := Iv (i + 1), ct := Iv (i + 1), bk := F.nx } δ2 μ') ∧ ∀ δ' μ', Iv items.length δ' μ' → F.nx δ' μ'
theorem ds_for {tg iter : Expr} {gi : GI} {g : TG} {gg : GG} {ow : List Nat} {gb : GS} (hp : PassesOwn (model X.prog X.w) X.A X.env X.xe) (hc : X.calm = true) (hi : DI X tg iter gi) (hg : PG X tg g) (sg : SimG X.K g gg ow) (hb : DSs X body gb)
    (hs : ∀ x, foldedSetIterable iter X.env x = pure x := by intro _; rfl) : DSt X (.For tg iter body [] pos) (gFor gi gg gb) := by
  obtain ⟨ti, i1, i2⟩ := hi.ex
  obtain ⟨tb, b1, b2⟩ := hb.ex
  refine ⟨_, ps_for hp hc i1 hg b1 hs, fun σ H δ μ E F rm rs e q => ?_⟩
  refine i2 σ H δ μ _ _ rm rs q fun J items H1 μ1 k1 rm1 wk ⟨Iv, h0, hstep, hend⟩ => ?_
  refine for_it wk (fun i σ H => ∃ δ μ, Kp H1 μ1 H μ ∧ RM X.K H μ ∧ RepS X.K H μ δ σ ∧ Iv i δ μ) ⟨δ, μ1, Kp.refl _ _, rm1, rs.mono k1, h0⟩ (fun i σ H _ ⟨_, μ, k, rm, _⟩ => ⟨μ, k, rm⟩) ?_ ?_
  · rintro i x σ2 H2 H3 hi ⟨δ2, μ2, k2, rm2, rs2, iv⟩ y
    obtain ⟨d, e1, r1, k3, rm3⟩ := y μ2 k2 rm2
    refine sg x d σ2 H3 δ2 μ2 _ _ rm3 (rs2.mono k3) r1 (hstep i d δ2 μ2 e1 iv) fun σ4 δ4 rs4 q4 _ => ?_
    refine b2 σ4 H3 δ4 μ2 _ _ rm3 rs4 ⟨?_, ?_, ?_, ?_⟩ q4
    · exact fun σ5 H5 δ5 μ5 k5 rm5 rs5 q5 => ⟨δ5, μ5, k2.trans (k3.trans k5), rm5, rs5, q5⟩
    · exact e.rt.re (k1.trans (k2.trans k3))
    · exact fun σ5 H5 δ5 μ5 k5 rm5 rs5 q5 => e.nx σ5 H5 δ5 μ5 (k1.trans (k2.trans (k3.trans k5))) rm5 rs5 q5
    · exact fun σ5 H5 δ5 μ5 k5 rm5 rs5 q5 => ⟨δ5, μ5, k2.trans (k3.trans k5), rm5, rs5, q5⟩
  · rintro σ2 H2 ⟨δ2, μ2, k2, rm2, rs2, iv⟩
    exact e.nx σ2 H2 δ2 μ2 (k1.trans k2) rm2 rs2 (hend δ2 μ2 iv)
/-- what a comprehension asks over its items -/
structure LcB (gt : GG) (gc : GT) (ge : GE) (own : List Nat) (δ : DS) (R : KD) (items : List D) (μ1 : Mu) : Prop where
  ex : ∀ a, μ1 a = none → ∃ Iv : Nat → Mu → Prop, Iv 0 (put μ1 a (.lst [])) ∧
  (∀ i x μ', items[i]? = some x → Iv i μ' → gt x (wiped δ own) fun δ2 => gc δ2 μ' fun b μ2 => if b = true then ge δ2 μ2 fun y μ3 => ∃ acc, μ3 a = some (.lst acc) ∧ acc.length < sizeLine ∧ Iv (i + 1) (put μ3 a (.lst (acc ++ [y]))) else Iv (i + 1) μ2) ∧
  ∀ μ', Iv items.length μ' → ∃ acc, μ' a = some (.lst acc) ∧ R (.lst acc) (del μ' a)
/-- [e for t in it if c] -/
def gLc (gi : GI) (gt : GG) (gc : GT) (ge : GE) (own : List Nat) : GE := fun δ μ R => gi δ μ (LcB gt gc ge own δ R)
theorem sim_lc {K : PySem.W.Frag} {ti : TI} {gi : GI} {g : TG} {gg : GG} {ow : List Nat} {tc : TT} {gc : GT} {te : TE} {ge : GE} {own : List Nat} (hi : SimI K ti gi) (sg : SimG K g gg ow) (ho : ∀ i ∈ ow, i ∈ own) (hc : SimT K tc gc) (he : SimE K te ge) :
    SimE K (tLc ti g tc te own) (gLc gi gg gc ge own) := by
  intro σ H δ μ Q R rm rs q f
  refine hi σ H δ μ _ _ rm rs q fun J items H1 μ1 k1 rm1 wk q1 => ?_
  intro D nD
  obtain ⟨Iv, h0, hstep, hend⟩ := q1.ex D (rm1.free nD)
  have kc : Kp H1 μ1 (upd H1 D (.lst [])) (put μ1 D (.lst [])) := Kp.cell nD
  refine lc_it wk (fun i H => ∃ μ, Kp H1 μ1 H μ ∧ RM K H μ ∧ Iv i μ) ⟨_, kc, rm1.cell nD RepL.nil, h0⟩ (fun i H _ ⟨μ, k, rm, _⟩ => ⟨μ, k, rm⟩) ?_ ?_
  · rintro i x H2 H3 hi2 ⟨μ2, k2, rm2, iv⟩ y
    obtain ⟨d, e1, r1, k3, rm3⟩ := y μ2 k2 rm2
    have rsw : RepS K H3 μ2 (wiped δ own) (L2.wipe σ own) := (rs.mono (k1.trans (k2.trans k3))).wipe own
    refine sg x d _ H3 _ μ2 _ _ rm3 rsw r1 (hstep i d μ2 e1 iv) fun σ4 δ4 rs4 q4 w4 => ⟨(w4 own ho).trans wipe_wipe, ?_⟩
    refine hc σ4 H3 δ4 μ2 _ _ rm3 rs4 q4 fun b H5 μ5 k5 rm5 q5 => ?_
    cases b with
    | false => exact ⟨μ5, k2.trans (k3.trans k5), rm5, q5⟩
    | true =>
      rw [if_pos rfl] at q5 ⊢
      refine he σ4 H5 δ4 μ5 _ _ rm5 (rs4.mono k5) q5 fun v d6 H6 μ6 k6 rm6 r6 q6 => ?_
      obtain ⟨acc, ea, hl, iv6⟩ := q6
      obtain ⟨vs, h1, h2⟩ := rm6 D _ ea
      refine ⟨vs, h1, by rw [h2.length]; exact hl, _, k2.trans (k3.trans (k5.trans (k6.trans (Kp.write ea)))), ?_, iv6⟩
      refine rm6.put (Kp.write ea) (fun a o n _ => upd_ne n) ⟨_, upd_same, ?_⟩
      exact (h2.append (RepL.cons r6 RepL.nil)).mono (Kp.write ea) _ _
  · rintro H2 ⟨μ2, k2, rm2, iv⟩
    obtain ⟨acc, ea, q3⟩ := hend μ2 iv
    obtain ⟨vs, h1, h2⟩ := rm2 D _ ea
    refine f (.ref D) (.lst acc) H2 (del μ2 D) (k1.trans (k2.trans Kp.drop)) rm2.drop ?_ q3
    unfold Rep
    exact ⟨D, vs, rfl, h1, del_same, h2.mono Kp.drop _ _⟩
theorem de_lc {elt tg iter : Expr} {ifs : List Expr} {scope : Scope} {own : List (Str × Nat)} {pos : Pos} {gi : GI} {g : TG} {gg : GG} {ow : List Nat} {gc : GT} {ge : GE} (hc : X.calm = true) (hN : X.N.Nodup) (hi : DI X tg iter gi) (ok : BlkOk X.N X.env.scope scope own)
    (hg : ∀ (s : Shared) (H : Hp) (C : Addr) (cl : List (Str × Addr)) (fp : List Addr), PG (X.blk s H scope (compEnvC scope cl C X.env) fp) tg g) (sg : SimG X.K g gg ow) (ht : ∀ (s : Shared) (H : Hp) (C : Addr) (cl : List (Str × Addr)) (fp : List Addr), DTs (X.blk s H scope (compEnvC scope cl C X.env) fp) ifs gc)
    (he : ∀ (s : Shared) (H : Hp) (C : Addr) (cl : List (Str × Addr)) (fp : List Addr), DE (X.blk s H scope (compEnvC scope cl C X.env) fp) elt ge) (ho : ∀ i ∈ ow, i ∈ own.map (·.2) := by decide) (hs : ∀ x, foldedSetIterable iter X.env x = pure x := by intro _; rfl) :
    DE X (.ListComp elt [⟨tg, iter, ifs, 0⟩] scope pos) (gLc gi gg gc ge (own.map (·.2))) := by
  obtain ⟨ti, i1, i2⟩ := hi.ex
  exact ⟨_, pe_lc hc hN i1 ok hg (fun s H C cl fp => (ht s H C cl fp).pt) (fun s H C cl fp => (he s H C cl fp).pe) hs, sim_lc i2 sg ho simT_of sim_of⟩
theorem ds_setLc {i : Nat} {y : Str} {py : Pos} {elt tg iter : Expr} {ifs : List Expr} {scope : Scope} {own : List (Str × Nat)} {pos spos : Pos} {gi : GI} {g : TG} {gg : GG} {ow : List Nat} {gc : GT} {ge : GE} (hc : X.calm = true) (hN : X.N.Nodup) (hy : X.N[i]? = some y) (hyl : X.env.scope.names.lookup y = some .local)
    (hsw : swapsWith (.ListComp elt [⟨tg, iter, ifs, 0⟩] scope pos) (some (.Name y py)) spos.line X.env = pure true) (hi : DI X tg iter gi) (ok : BlkOk X.N X.env.scope scope own)
    (hg : ∀ (s : Shared) (H : Hp) (C : Addr) (cl : List (Str × Addr)) (fp : List Addr), PG (X.blk s H scope (compEnvC scope cl C X.env) fp) tg g) (sg : SimG X.K g gg ow) (ht : ∀ (s : Shared) (H : Hp) (C : Addr) (cl : List (Str × Addr)) (fp : List Addr), DTs (X.blk s H scope (compEnvC scope cl C X.env) fp) ifs gc)
    (he : ∀ (s : Shared) (H : Hp) (C : Addr) (cl : List (Str × Addr)) (fp : List Addr), DE (X.blk s H scope (compEnvC scope cl C X.env) fp) elt ge) (ho : ∀ i ∈ ow, i ∈ own.map (·.2) := by decide) (hs : ∀ x, foldedSetIterable iter X.env x = pure x := by intro _; rfl) :
    DSt X (.Assign [.Name y py] (.ListComp elt [⟨tg, iter, ifs, 0⟩] scope pos) spos) (gAsg (gLc gi gg gc ge (own.map (·.2))) (gNm i)) := by
  obtain ⟨ti, i1, i2⟩ := hi.ex
  exact ⟨_, ps_setLc hc hN hy hyl hsw i1 ok hg (fun s H C cl fp => (ht s H C cl fp).pt) (fun s H C cl fp => (he s H C cl fp).pe) hs, sim_asg (sim_lc i2 sg ho simT_of sim_of) sim_nm⟩
end
/-! ### defs, calls -/
def toSp (K : PySem.W.Frag) (g : GC) : Sp := fun vs H Q _ => ∃ ds μ R, RM K H μ ∧ RepL K H μ ds vs ∧ g ds μ R ∧ Fw K H μ R Q
theorem repS_some {K : PySem.W.Frag} {H : Hp} {μ : Mu} (n : Nat) : ∀ {ds : List D} {vs : List V}, RepL K H μ ds vs → RepS K H μ (ds.map some ++ List.replicate n none) (vs.map some ++ List.replicate n none)
  | [], _, h => by
    unfold RepL at h
    subst h
    show RepS K H μ (List.replicate n none) (List.replicate n none)
    induction n with
    | zero => simp [RepS]
    | succ n ih =>
      rw [List.replicate_succ, List.replicate_succ]
      unfold RepS
      exact ⟨_, _, rfl, ih⟩
  | d :: ds, _, h => by
    unfold RepL at h
    obtain ⟨v, r, rfl, h1, h2⟩ := h
    show RepS K H μ (some d :: (ds.map some ++ List.replicate n none)) (some v :: (r.map some ++ List.replicate n none))
    unfold RepS
    exact ⟨v, _, rfl, h1, repS_some n h2⟩
section
variable {P : Program} {w : World} {K : PySem.W.Frag} {mg : Str → Option Value} {base : Heap}
theorem okD {x qual : Str} {st : Stmt} {f : Addr} {fd : FuncData} {N ps : List Str} {k : Nat} {g : GC} (F : Fun K x qual st f fd) (S : FnScope N ps (defScope st)) (len : ∀ ds μ R, g ds μ R → ds.length = ps.length)
    (h : ∃ gb : GS, (∀ (cdv : Value) (A : Around) (outer : List Env) (s : Shared) (H : Hp) (E : XK), Room k (A.deeper (envOfC qual (defScope st) s.heap.objs.size f cdv)) →
        DSs (cxOf CX0 P w K mg base N qual (defScope st) f cdv A outer s H E).nox (defBody st) gb) ∧
      ∀ ds μ R, g ds μ R → gb { nx := fun _ μ' => R .non μ', rt := R } (begin_ N ds) μ) : FnOk P w K mg base CX0 (k + 1) f fd ps (toSp K g) := by
  obtain ⟨gb, hb, hg⟩ := h
  refine F.ok S (fun vs H Q E ⟨ds, μ, R, rm, rl, q, fw⟩ => by rw [rl.length]; exact len ds μ R q) fun cdv A outer s H vs Q E hr ⟨ds, μ, R, rm, rl, q, fw⟩ => ?_
  obtain ⟨t, a, b⟩ := (hb cdv A outer s H E hr).ex
  refine ⟨t, a, b _ H (begin_ N ds) μ _ { nx := fun _ μ' => R .non μ', rt := R } rm ?_ ⟨fun σ H' δ μ' k rm' _ q' => fw .non .non H' μ' k rm' (by unfold Rep; rfl) q', fw, fun _ _ _ _ _ _ _ z => z, fun _ _ _ _ _ _ _ z => z⟩ (hg ds μ R q)⟩
  show RepS K H μ (ds.map some ++ List.replicate (N.length - ds.length) none) (vs.map some ++ List.replicate (N.length - vs.length) none)
  rw [rl.length]
  exact repS_some _ rl
end
section
variable {X : Cx} {k : Nat} {f C : Addr} {fd : FuncData} {ps : List Str} {g : GC} {x : Str} {p pos : Pos} {e : Expr} {es : List Expr} {ga gk : GA}
def gCall (g : GC) (ga : GA) : GE := fun δ μ R => ga δ μ fun ds μ1 => g ds μ1 R
theorem de_call (F : FnOk X.prog X.w X.K X.mg X.base CX0 k f fd ps (toSp X.K g)) (hr : Room k X.A) (hg : Gl X x) (hm : X.mg x = some (.ref f)) (hk : PySem.W.keepIn X.K (.ref f) = true) (hb : Binds X.K fd ps [])
    (ha : DA X (e :: es) ga) (hdb : (x == ("__debug__" : Str)) = false := by decide) (he : starEach (e :: es) X.env = (false, eval e X.env) :: starEach es X.env := by rfl) (hpl : (backTo pos (starEach es X.env)).any (·.1) = false := by rfl) :
    DE X (.Call (.Name x p) (e :: es) [] pos) (gCall g ga) := by
  obtain ⟨t, a1, a2⟩ := ha.ex
  refine ⟨_, pe_call F hr hg hm hk hb .nil (pass0 (X := X)) a1 hdb he hpl, fun σ H δ μ Q R rm rs q f => ?_⟩
  refine a2 σ H δ μ _ _ rm rs q fun vs ds H1 μ1 k1 rm1 r1 q1 => ?_
  show toSp X.K g (vs ++ []) H1 Q E0
  rw [List.append_nil]
  exact ⟨ds, μ1, R, rm1, r1, q1, f.re k1⟩
/-- C(..), the new instance frozen behind its __init__ -/
def gMake (C : Addr) (g : GC) (ga : GA) : GE := fun δ μ R => ga δ μ fun ds μ1 => ∀ a, μ1 a = none → g (.adr a :: ds) (put μ1 a (.ins C [])) fun d μ2 => match d with
  | .non => ∃ fs, μ2 a = some (.ins C fs) ∧ R (.ins C fs) (del μ2 a)
  | _ => False
theorem de_make (M : Mk X.K C f) (F : FnOk X.prog X.w X.K X.mg X.base CX0 k f fd ps (toSp X.K g)) (hr : Room (k + 1) X.A) (hg : Gl X x) (hm : X.mg x = some (.ref C)) (hb : Binds X.K fd ps [])
    (ha : DA X (e :: es) ga) (hdb : (x == ("__debug__" : Str)) = false := by decide) (he : starEach (e :: es) X.env = (false, eval e X.env) :: starEach es X.env := by rfl) (hpl : (backTo pos (starEach es X.env)).any (·.1) = false := by rfl) :
    DE X (.Call (.Name x p) (e :: es) [] pos) (gMake C g ga) := by
  obtain ⟨t, a1, a2⟩ := ha.ex
  refine ⟨_, pe_make M F hr hg hm hb .nil (pass0 (X := X)) a1 hdb he hpl, fun σ H δ μ Q R rm rs q f => ?_⟩
  refine a2 σ H δ μ _ _ rm rs q fun vs ds H1 μ1 k1 rm1 r1 q1 => ?_
  intro a dx na nd ne
  have n2 : upd H1 dx (.own a) a = none := by rw [upd_ne (Ne.symm ne)]; exact na
  have rm2 : RM X.K (upd H1 dx (.own a)) μ1 := rm1.laid nd
  have kc : Kp (upd H1 dx (.own a)) μ1 (upd (upd H1 dx (.own a)) a (.ins C dx [])) (put μ1 a (.ins C [])) := Kp.cell n2
  have k2 : Kp H1 μ1 (upd (upd H1 dx (.own a)) a (.ins C dx [])) (put μ1 a (.ins C [])) := (Kp.new nd).trans kc
  have rm3 : RM X.K (upd (upd H1 dx (.own a)) a (.ins C dx [])) (put μ1 a (.ins C [])) := rm2.put kc (fun b o n _ => upd_ne n) ⟨dx, [], upd_same, by unfold RepF; rfl⟩
  show toSp X.K g (V.ref a :: (vs ++ [])) _ _ E0
  rw [List.append_nil]
  refine ⟨.adr a :: ds, _, _, rm3, RepL.cons (by unfold Rep; rfl) (r1.mono k2 _ _), q1 a (rm1.free na), fun v d H4 μ4 k4 rm4 r4 q4 => ?_⟩
  cases d <;> try exact False.elim q4
  obtain ⟨fs, e4, q4⟩ := q4
  obtain ⟨dx4, fv, h1, h2⟩ := rm4 a _ e4
  unfold Rep at r4
  refine ⟨r4, f (.ref a) (.ins C fs) H4 (del μ4 a) (k1.trans (k2.trans (k4.trans Kp.drop))) rm4.drop ?_ q4⟩
  unfold Rep
  exact ⟨a, dx4, fv, rfl, h1, del_same, h2.mono Kp.drop _ _⟩
end
end DL
set_option Elab.async false
set_option linter.all false
set_option maxRecDepth 100000
namespace DL
open PySem PySem.Spec PyProof.Rows L2
section
variable {X : Cx}
theorem OpR.or {f : Value → Value → Sem Value} {r r' : R2} (h : OpR X f r) (h' : OpR X f r') : OpR X f (fun x y H Q => r x y H Q ∨ r' x y H Q) := by
  intro pins s σ H x y v u Q I rx ry q
  rcases q with q | q
  · exact h pins s σ H x y v u Q I rx ry q
  · exact h' pins s σ H x y v u Q I rx ry q
theorem CallR.or {f : Value} {r r' : List V → Hp → VK → Prop} (h : CallR X f r) (h' : CallR X f r') : CallR X f (fun xs H Q => r xs H Q ∨ r' xs H Q) := by
  intro pins s σ H xs us Q I rx q
  rcases q with q | q
  · exact h pins s σ H xs us Q I rx q
  · exact h' pins s σ H xs us Q I rx q
end
section
variable {K : PySem.W.Frag} {H : Hp} {μ : Mu}
theorem rep_int {i : Int} {v : V} (h : Rep K H μ (.int i) v) : v = .int i := by unfold Rep at h; exact h
theorem rep_str {i : Str} {v : V} (h : Rep K H μ (.str i) v) : v = .str i := by unfold Rep at h; exact h
theorem rep_bl {i : Bool} {v : V} (h : Rep K H μ (.bl i) v) : v = .bl i := by unfold Rep at h; exact h
theorem rep_non {v : V} (h : Rep K H μ .non v) : v = .non := by unfold Rep at h; exact h
theorem rep_adr {a : Addr} {v : V} (h : Rep K H μ (.adr a) v) : v = .ref a := by unfold Rep at h; exact h
theorem rep_tup {ds : List D} {v : V} (h : Rep K H μ (.tup ds) v) : ∃ a vs, v = .ref a ∧ ImT K H μ a vs ∧ RepL K H μ ds vs := by unfold Rep at h; exact h
theorem rep_lst {ds : List D} {v : V} (h : Rep K H μ (.lst ds) v) : ∃ a vs, v = .ref a ∧ H a = some (.lst vs) ∧ μ a = none ∧ RepL K H μ ds vs := by unfold Rep at h; exact h
theorem rep_seq {ds : List D} {v : V} (h : Rep K H μ (.seq ds) v) : ∃ a vs, v = .ref a ∧ ImQ K H μ a vs ∧ RepL K H μ ds vs := by unfold Rep at h; exact h
theorem rep_ins {C : Addr} {fs : List (Str × D)} {v : V} (h : Rep K H μ (.ins C fs) v) : ∃ a dx fv, v = .ref a ∧ H a = some (.ins C dx fv) ∧ μ a = none ∧ RepF K H μ fs fv := by unfold Rep at h; exact h
theorem to_int {i : Int} : Rep K H μ (.int i) (.int i) := by unfold Rep; rfl
theorem to_str {i : Str} : Rep K H μ (.str i) (.str i) := by unfold Rep; rfl
theorem to_bl {i : Bool} : Rep K H μ (.bl i) (.bl i) := by unfold Rep; rfl
theorem to_non : Rep K H μ .non .non := by unfold Rep; rfl
theorem to_adr {a : Addr} : Rep K H μ (.adr a) (.ref a) := by unfold Rep; rfl
theorem to_tup {p : Addr} {vs : List V} {ds : List D} (h : H p = some (.tup vs)) (n : μ p = none) (r : RepL K H μ ds vs) : Rep K H μ (.tup ds) (.ref p) := by unfold Rep; exact ⟨p, vs, rfl, .inl ⟨h, n⟩, r⟩
theorem to_lst {p : Addr} {vs : List V} {ds : List D} (h : H p = some (.lst vs)) (n : μ p = none) (r : RepL K H μ ds vs) : Rep K H μ (.lst ds) (.ref p) := by unfold Rep; exact ⟨p, vs, rfl, h, n, r⟩
/-- a new tuple, a new list -/
theorem fw_tup {R : KD} {Q : VK} {p : Addr} {vs : List V} {ds : List D} (rm : RM K H μ) (n : H p = none) (r : RepL K H μ ds vs) (q : R (.tup ds) μ) (f : Fw K H μ R Q) : Q (.ref p) (upd H p (.tup vs)) :=
  f _ _ _ μ (Kp.new n) (rm.laid n) (to_tup upd_same (rm.free n) (r.mono (Kp.new n) _ _)) q
theorem fw_lst {R : KD} {Q : VK} {p : Addr} {vs : List V} {ds : List D} (rm : RM K H μ) (n : H p = none) (r : RepL K H μ ds vs) (q : R (.lst ds) μ) (f : Fw K H μ R Q) : Q (.ref p) (upd H p (.lst vs)) :=
  f _ _ _ μ (Kp.new n) (rm.laid n) (to_lst upd_same (rm.free n) (r.mono (Kp.new n) _ _)) q
theorem fw_cell {R : KD} {Q : VK} {p : Addr} {vs : List V} {ds : List D} (rm : RM K H μ) (n : H p = none) (r : RepL K H μ ds vs) (q : ∀ a, μ a = none → R (.adr a) (put μ a (.lst ds))) (f : Fw K H μ R Q) : Q (.ref p) (upd H p (.lst vs)) :=
  f _ _ _ _ (Kp.cell n) (rm.cell n r) to_adr (q p (rm.free n))
/-- a cell written -/
theorem fw_write {R : KD} {Q : VK} {p : Addr} {vs : List V} {ds es : List D} {d : D} {v : V} (rm : RM K H μ) (e : μ p = some (.lst es)) (r : RepL K H μ ds vs) (rv : Rep K H μ d v) (q : R d (put μ p (.lst ds))) (f : Fw K H μ R Q) : Q v (upd H p (.lst vs)) :=
  f v d _ (put μ p (.lst ds)) (Kp.write e) (rm.put (m := .lst ds) (Kp.write e) (fun a o n _ => upd_ne n) ⟨_, upd_same, r.mono (Kp.write e) _ _⟩) (rv.mono (Kp.write e)) q
theorem fw_now {R : KD} {Q : VK} {d : D} {v : V} (rm : RM K H μ) (rv : Rep K H μ d v) (q : R d μ) (f : Fw K H μ R Q) : Q v H := f _ _ _ _ (Kp.refl _ _) rm rv q
end
/-! ### operators -/
def gPlus : G2 := fun x y μ R => match x, y with
  | .int i, .int j => R (.int (i + j)) μ
  | .str a, .str b => a.length + b.length ≤ sizeLine ∧ R (.str (a ++ b)) μ
  | .tup a, .tup b => a.length + b.length ≤ sizeLine ∧ R (.tup (a ++ b)) μ
  | .lst a, .lst b => a.length + b.length ≤ sizeLine ∧ R (.lst (a ++ b)) μ
  | _, _ => False
def rPlus (K : PySem.W.Frag) : R2 := fun x y H Q => (rI0 fun i j => .int (i + j)) x y H Q ∨ (∃ i j, x = .str i ∧ y = .str j ∧ i.length + j.length ≤ sizeLine ∧ Q (.str (i ++ j)) H) ∨ rCatA K x y H Q ∨ rCat x y H Q
theorem op_plus {X : Cx} : OpR X (binaryOp .Add) (rPlus X.K) := OpR.or op_add (OpR.or op_add_str (OpR.or op_catA op_cat))
theorem sim_plus {K : PySem.W.Frag} : SimO K (rPlus K) gPlus := by
  intro x y dx dy H μ Q R rm rx ry q f
  cases dx <;> cases dy <;> try exact False.elim q
  · rw [rep_int rx, rep_int ry]
    exact .inl ⟨_, _, rfl, rfl, fw_now rm to_int q f⟩
  · rw [rep_str rx, rep_str ry]
    exact .inr (.inl ⟨_, _, rfl, rfl, q.1, fw_now rm to_str q.2 f⟩)
  · rename_i a b
    obtain ⟨p, vs, rfl, i1, l1⟩ := rep_tup rx
    obtain ⟨p2, vs2, rfl, i2, l2⟩ := rep_tup ry
    refine .inr (.inr (.inl ⟨p, p2, vs, vs2, rfl, rfl, i1.sq, i2.sq, by rw [l1.length, l2.length]; exact q.1, fun e => ?_, fun e e2 => ?_, fun _ _ t n => fw_tup rm n (l1.append l2) q.2 f⟩))
    · subst e
      have e0 : a = [] := List.eq_nil_of_length_eq_zero (by rw [← l1.length]; rfl)
      subst e0
      exact fw_now rm ry q.2 f
    · subst e2
      have e0 : b = [] := List.eq_nil_of_length_eq_zero (by rw [← l2.length]; rfl)
      subst e0
      have q2 := q.2
      rw [List.append_nil] at q2
      exact fw_now rm rx q2 f
  · obtain ⟨p, vs, rfl, i1, n1, l1⟩ := rep_lst rx
    obtain ⟨p2, vs2, rfl, i2, n2, l2⟩ := rep_lst ry
    exact .inr (.inr (.inr ⟨p, p2, vs, vs2, rfl, rfl, i1, i2, by rw [l1.length, l2.length]; exact q.1, fun t n => fw_lst rm n (l1.append l2) q.2 f⟩))
/-- two ints -/
def gII (C : Int → Int → Prop) (h : Int → Int → D) : G2 := fun x y μ R => match x, y with
  | .int i, .int j => C i j ∧ R (h i j) μ
  | _, _ => False
def gII0 (h : Int → Int → D) : G2 := fun x y μ R => match x, y with
  | .int i, .int j => R (h i j) μ
  | _, _ => False
theorem sim_II {K : PySem.W.Frag} {C : Int → Int → Prop} {g : Int → Int → V} {h : Int → Int → D} (e : ∀ H μ i j, Rep K H μ (h i j) (g i j)) : SimO K (rI C g) (gII C h) := by
  intro x y dx dy H μ Q R rm rx ry q f
  cases dx <;> cases dy <;> try exact False.elim q
  rw [rep_int rx, rep_int ry]
  exact ⟨_, _, rfl, rfl, q.1, fw_now rm (e _ _ _ _) q.2 f⟩
theorem sim_II0 {K : PySem.W.Frag} {g : Int → Int → V} {h : Int → Int → D} (e : ∀ H μ i j, Rep K H μ (h i j) (g i j)) : SimO K (rI0 g) (gII0 h) := by
  intro x y dx dy H μ Q R rm rx ry q f
  cases dx <;> cases dy <;> try exact False.elim q
  rw [rep_int rx, rep_int ry]
  exact ⟨_, _, rfl, rfl, fw_now rm (e _ _ _ _) q f⟩
abbrev gMinus : G2 := gII0 fun i j => .int (i - j)
abbrev gMul : G2 := gII CMul fun i j => .int (i * j)
abbrev gFdiv : G2 := gII CDivN fun i j => .int (i.fdiv j)
abbrev gMod : G2 := gII (fun _ j => j ≠ 0) fun i j => .int (i.fmod j)
abbrev gPow : G2 := gII CPow fun i j => .int (i ^ j.toNat)
theorem sim_minus {K : PySem.W.Frag} : SimO K (rI0 fun i j => .int (i - j)) gMinus := sim_II0 fun _ _ _ _ => to_int
theorem sim_mul {K : PySem.W.Frag} : SimO K (rI CMul fun i j => .int (i * j)) gMul := sim_II fun _ _ _ _ => to_int
theorem sim_fdiv {K : PySem.W.Frag} : SimO K (rI CDivN fun i j => .int (i.fdiv j)) gFdiv := sim_II fun _ _ _ _ => to_int
theorem sim_mod {K : PySem.W.Frag} : SimO K (rI (fun _ j => j ≠ 0) fun i j => .int (i.fmod j)) gMod := sim_II fun _ _ _ _ => to_int
theorem sim_pow {K : PySem.W.Frag} : SimO K (rI CPow fun i j => .int (i ^ j.toNat)) gPow := sim_II fun _ _ _ _ => to_int
/-- <, <=, >, >= of ints, of texts -/
def gOrd (h : Int → Int → Bool) (k : List Nat → List Nat → Bool) : G2 := fun x y μ R => match x, y with
  | .int i, .int j => R (.bl (h i j)) μ
  | .str a, .str b => R (.bl (k a.cps.toList b.cps.toList)) μ
  | _, _ => False
def rOrd (h : Int → Int → Bool) (k : List Nat → List Nat → Bool) : R2 := fun x y H Q => (rI0 fun i j => .bl (h i j)) x y H Q ∨ ∃ i j, x = .str i ∧ y = .str j ∧ Q (.bl (k i.cps.toList j.cps.toList)) H
theorem sim_ord {K : PySem.W.Frag} {h : Int → Int → Bool} {k : List Nat → List Nat → Bool} : SimO K (rOrd h k) (gOrd h k) := by
  intro x y dx dy H μ Q R rm rx ry q f
  cases dx <;> cases dy <;> try exact False.elim q
  · rw [rep_int rx, rep_int ry]
    exact .inl ⟨_, _, rfl, rfl, fw_now rm to_bl q f⟩
  · rw [rep_str rx, rep_str ry]
    exact .inr ⟨_, _, rfl, rfl, fw_now rm to_bl q f⟩
section
variable {X : Cx}
theorem op_ltA : OpR X (compareOp .Lt) (rOrd (fun i j => decide (i < j)) fun a b => decide (a < b)) := OpR.or op_lt op_lt_str
theorem op_leA : OpR X (compareOp .LtE) (rOrd (fun i j => decide (i ≤ j)) fun a b => !decide (b < a)) := OpR.or op_le op_le_str
theorem op_gtA : OpR X (compareOp .Gt) (rOrd (fun i j => decide (j < i)) fun a b => decide (b < a)) := OpR.or op_gt op_gt_str
theorem op_geA : OpR X (compareOp .GtE) (rOrd (fun i j => decide (j ≤ i)) fun a b => !decide (a < b)) := OpR.or op_ge op_ge_str
end
/-! ### ==, != -/
mutual
def py : D → Option PyData
  | .non => some .none
  | .bl b => some (.bool b)
  | .int i => some (.int i)
  | .str x => some (.str x)
  | .tup ds => (pyL ds).map .tuple
  | .lst ds => (pyL ds).map .list
  | .seq ds => (pyL ds).map .list
  | .ins _ _ => none
  | .adr _ => none
def pyL : List D → Option (List PyData)
  | [] => some []
  | d :: ds => match py d, pyL ds with
    | some a, some b => some (a :: b)
    | _, _ => none
end
section
variable {K : PySem.W.Frag} {H : Hp} {μ : Mu}
mutual
theorem Rep.dp : ∀ (d : D) (v : V) (e : PyData), Rep K H μ d v → py d = some e → Dp K H v e
  | .non, _, _, h, q => by
    rw [rep_non h]
    unfold py at q
    cases q
    exact .non
  | .bl _, _, _, h, q => by
    rw [rep_bl h]
    unfold py at q
    cases q
    exact .bl _
  | .int _, _, _, h, q => by
    rw [rep_int h]
    unfold py at q
    cases q
    exact .int _
  | .str _, _, _, h, q => by
    rw [rep_str h]
    unfold py at q
    cases q
    exact .str _
  | .tup ds, _, _, h, q => by
    obtain ⟨a, vs, rfl, i, r⟩ := rep_tup h
    unfold py at q
    cases e : pyL ds with
    | none => rw [e] at q; cases q
    | some es =>
      rw [e] at q
      cases q
      exact .tup i.sq (RepL.dp ds vs es r e)
  | .lst ds, _, _, h, q => by
    obtain ⟨a, vs, rfl, i, _, r⟩ := rep_lst h
    unfold py at q
    cases e : pyL ds with
    | none => rw [e] at q; cases q
    | some es =>
      rw [e] at q
      cases q
      exact .lst (SqL.of i) (RepL.dp ds vs es r e)
  | .seq ds, _, _, h, q => by
    obtain ⟨a, vs, rfl, i, r⟩ := rep_seq h
    unfold py at q
    cases e : pyL ds with
    | none => rw [e] at q; cases q
    | some es =>
      rw [e] at q
      cases q
      exact .lst i.sq (RepL.dp ds vs es r e)
  | .ins _ _, _, _, h, q => by unfold py at q; cases q
  | .adr _, _, _, h, q => by unfold py at q; cases q
theorem RepL.dp : ∀ (ds : List D) (vs : List V) (es : List PyData), RepL K H μ ds vs → pyL ds = some es → DpAll K H vs es
  | [], _, _, h, q => by
    unfold RepL at h
    unfold pyL at q
    cases q
    rw [h]
    exact .nil
  | d :: ds, _, _, h, q => by
    unfold RepL at h
    obtain ⟨v, r, rfl, h1, h2⟩ := h
    unfold pyL at q
    cases e1 : py d with
    | none => rw [e1] at q; cases q
    | some a =>
      cases e2 : pyL ds with
      | none => rw [e1, e2] at q; cases q
      | some b =>
        rw [e1, e2] at q
        cases q
        exact .cons (Rep.dp d v a h1 e1) (RepL.dp ds r b h2 e2)
end
end
def gEqD (k : Bool → Bool) : G2 := fun x y μ R => ∃ a b, py x = some a ∧ py y = some b ∧ SeqAt.shaped a = true ∧ SeqAt.shaped b = true ∧ R (.bl (k (PyData.eqv a b))) μ
def gEqK (k : Bool → Bool) : G2 := fun x y μ R => match x, y with
  | .int i, .int j => R (.bl (k (decide (i = j)))) μ
  | .str i, .str j => R (.bl (k (decide (i = j)))) μ
  | .bl i, .bl j => R (.bl (k (decide (i = j)))) μ
  | .non, .non => R (.bl (k true)) μ
  | x, y => gEqD k x y μ R
abbrev gEq : G2 := gEqK id
abbrev gNe : G2 := gEqK not
def rEqA (K : PySem.W.Frag) : R2 := fun x y H Q => rEq x y H Q ∨ rEqD K x y H Q
def rNeA (K : PySem.W.Frag) : R2 := fun x y H Q => rNe x y H Q ∨ rNeD K x y H Q
section
variable {X : Cx}
theorem op_eqA (hu : X.A.units + 64 < cLine) : OpR X (compareOp .Eq) (rEqA X.K) := OpR.or op_eq (op_eqD hu)
theorem op_neA (hu : X.A.units + 64 < cLine) : OpR X (compareOp .NotEq) (rNeA X.K) := OpR.or op_ne (op_neD hu)
end
theorem dec_ref {α β : Type} [DecidableEq α] [DecidableEq β] {f : α → β} (inj : ∀ x y, f x = f y → x = y) {i j : α} : decide (f i = f j) = decide (i = j) := by
  by_cases h : i = j
  · subst h; simp
  · rw [decide_eq_false h, decide_eq_false fun e => h (inj _ _ e)]
theorem sim_eqD {K : PySem.W.Frag} {x y : V} {dx dy : D} {H : Hp} {μ : Mu} {Q : VK} {R : KD} (rm : RM K H μ) (rx : Rep K H μ dx x) (ry : Rep K H μ dy y) (q : gEqD id dx dy μ R) (f : Fw K H μ R Q) : rEqA K x y H Q := by
  obtain ⟨a, b, e1, e2, s1, s2, q⟩ := q
  exact .inr ⟨a, b, Rep.dp _ _ _ rx e1, Rep.dp _ _ _ ry e2, s1, s2, fw_now rm to_bl q f⟩
theorem sim_neD {K : PySem.W.Frag} {x y : V} {dx dy : D} {H : Hp} {μ : Mu} {Q : VK} {R : KD} (rm : RM K H μ) (rx : Rep K H μ dx x) (ry : Rep K H μ dy y) (q : gEqD not dx dy μ R) (f : Fw K H μ R Q) : rNeA K x y H Q := by
  obtain ⟨a, b, e1, e2, s1, s2, q⟩ := q
  exact .inr ⟨a, b, Rep.dp _ _ _ rx e1, Rep.dp _ _ _ ry e2, s1, s2, fw_now rm to_bl q f⟩
theorem sim_eq {K : PySem.W.Frag} : SimO K (rEqA K) gEq := by
  intro x y dx dy H μ Q R rm rx ry q f
  cases dx <;> cases dy <;> try exact sim_eqD rm rx ry q f
  · rw [rep_non rx, rep_non ry]
    exact .inl ⟨rfl, fw_now rm to_bl q f⟩
  · rw [rep_bl rx, rep_bl ry]
    refine .inl ⟨rfl, ?_⟩
    rw [dec_ref (f := V.bl) fun _ _ e => V.bl.inj e]
    exact fw_now rm to_bl q f
  · rw [rep_int rx, rep_int ry]
    refine .inl ⟨rfl, ?_⟩
    rw [dec_ref (f := V.int) fun _ _ e => V.int.inj e]
    exact fw_now rm to_bl q f
  · rw [rep_str rx, rep_str ry]
    refine .inl ⟨rfl, ?_⟩
    rw [dec_ref (f := V.str) fun _ _ e => V.str.inj e]
    exact fw_now rm to_bl q f
theorem sim_ne {K : PySem.W.Frag} : SimO K (rNeA K) gNe := by
  intro x y dx dy H μ Q R rm rx ry q f
  cases dx <;> cases dy <;> try exact sim_neD rm rx ry q f
  · rw [rep_non rx, rep_non ry]
    exact .inl ⟨rfl, fw_now rm to_bl q f⟩
  · rw [rep_bl rx, rep_bl ry]
    refine .inl ⟨rfl, ?_⟩
    rw [dec_ref (f := V.bl) fun _ _ e => V.bl.inj e]
    exact fw_now rm to_bl q f
  · rw [rep_int rx, rep_int ry]
    refine .inl ⟨rfl, ?_⟩
    rw [dec_ref (f := V.int) fun _ _ e => V.int.inj e]
    exact fw_now rm to_bl q f
  · rw [rep_str rx, rep_str ry]
    refine .inl ⟨rfl, ?_⟩
    rw [dec_ref (f := V.str) fun _ _ e => V.str.inj e]
    exact fw_now rm to_bl q f
/-- is None, is not None -/
def D.isNon : D → Bool
  | .non => true
  | _ => false
def gIsN (k : Bool → Bool) : G2 := fun x y μ R => match y with
  | .non => R (.bl (k x.isNon)) μ
  | _ => False
theorem isNon_rep {K : PySem.W.Frag} {H : Hp} {μ : Mu} {d : D} {v : V} (h : Rep K H μ d v) : decide (v = .non) = d.isNon := by
  cases d
  · rw [rep_non h]; rfl
  · rw [rep_bl h]; rfl
  · rw [rep_int h]; rfl
  · rw [rep_str h]; rfl
  · obtain ⟨a, vs, rfl, _⟩ := rep_tup h; rfl
  · obtain ⟨a, vs, rfl, _⟩ := rep_lst h; rfl
  · obtain ⟨a, vs, rfl, _⟩ := rep_seq h; rfl
  · obtain ⟨a, dx, vs, rfl, _⟩ := rep_ins h; rfl
  · rw [rep_adr h]; rfl
theorem sim_notN {K : PySem.W.Frag} : SimO K (fun x y H Q => y = .non ∧ Q (.bl (!decide (x = .non))) H) (gIsN not) := by
  intro x y dx dy H μ Q R rm rx ry q f
  cases dy <;> try exact False.elim q
  refine ⟨rep_non ry, ?_⟩
  rw [isNon_rep rx]
  exact fw_now rm to_bl q f
/-! ### in, not in -/
def inDs (x : D) (ds : List D) (R : Bool → Prop) : Prop := (∃ i ns, x = .int i ∧ ds = List.map D.int ns ∧ R (decide (i ∈ ns))) ∨ ∃ i ns, x = .str i ∧ ds = List.map D.str ns ∧ R (decide (i ∈ ns))
def gIn (k : Bool → Bool) : G2 := fun x y μ R => match y with
  | .str z => ∃ c, x = .str ⟨#[c]⟩ ∧ R (.bl (k (decide (c ∈ z.cps.toList)))) μ
  | .tup ds => inDs x ds fun b => R (.bl (k b)) μ
  | .lst ds => inDs x ds fun b => R (.bl (k b)) μ
  | _ => False
theorem inV_int (i : Int) : ∀ ns : List Int, inV (.int i) (ns.map V.int) = decide (i ∈ ns)
  | [] => rfl
  | n :: ns => by
    have ih := inV_int i ns
    unfold inV at ih ⊢
    rw [List.map_cons, List.any_cons, ih]
    show ((n == i) || decide (i ∈ ns)) = decide (i ∈ n :: ns)
    by_cases h : n = i
    · subst h; simp
    · have h' : ¬ i = n := fun e => h e.symm
      simp [h, h']
theorem inV_str (i : Str) : ∀ ns : List Str, inV (.str i) (ns.map V.str) = decide (i ∈ ns)
  | [] => rfl
  | n :: ns => by
    have ih := inV_str i ns
    unfold inV at ih ⊢
    rw [List.map_cons, List.any_cons, ih]
    show ((n == i) || decide (i ∈ ns)) = decide (i ∈ n :: ns)
    by_cases h : n = i
    · subst h; simp
    · have h' : ¬ i = n := fun e => h e.symm
      simp [h, h']
theorem flat_ints (ns : List Int) : (ns.map V.int).all flatV = true := by
  rw [List.all_eq_true]
  intro v hv
  obtain ⟨n, _, rfl⟩ := List.mem_map.mp hv
  rfl
theorem flat_strs (ns : List Str) : (ns.map V.str).all flatV = true := by
  rw [List.all_eq_true]
  intro v hv
  obtain ⟨n, _, rfl⟩ := List.mem_map.mp hv
  rfl
theorem inDs_seq {K : PySem.W.Frag} {x : V} {dx : D} {H : Hp} {μ : Mu} {ds : List D} {vs : List V} {R : Bool → Prop} (rx : Rep K H μ dx x) (l : RepL K H μ ds vs) (q : inDs dx ds R) : flatV x = true ∧ vs.all flatV = true ∧ R (inV x vs) := by
  rcases q with ⟨i, ns, rfl, rfl, q⟩ | ⟨i, ns, rfl, rfl, q⟩
  · rw [rep_int rx, l.ints]
    exact ⟨rfl, flat_ints ns, by rw [inV_int]; exact q⟩
  · rw [rep_str rx, l.strs]
    exact ⟨rfl, flat_strs ns, by rw [inV_str]; exact q⟩
def rInA (K : PySem.W.Frag) : R2 := fun x y H Q => (∃ (c : Nat) (z : Str), x = .str ⟨#[c]⟩ ∧ y = .str z ∧ Q (.bl (decide (c ∈ z.cps.toList))) H) ∨ rIn K false x y H Q
def rNotInA (K : PySem.W.Frag) : R2 := fun x y H Q => (∃ (c : Nat) (z : Str), x = .str ⟨#[c]⟩ ∧ y = .str z ∧ Q (.bl (!decide (c ∈ z.cps.toList))) H) ∨ rIn K true x y H Q
section
variable {X : Cx}
theorem op_inA : OpR X (compareOp .In) (rInA X.K) := OpR.or op_in_sign op_in_seq
theorem op_notInA : OpR X (compareOp .NotIn) (rNotInA X.K) := OpR.or op_notIn_sign op_notIn_seq
end
theorem sim_in {K : PySem.W.Frag} : SimO K (rInA K) (gIn id) := by
  intro x y dx dy H μ Q R rm rx ry q f
  cases dy <;> try exact False.elim q
  · obtain ⟨c, rfl, q⟩ := q
    rw [rep_str rx, rep_str ry]
    exact .inl ⟨c, _, rfl, rfl, fw_now rm to_bl q f⟩
  · obtain ⟨p, vs, rfl, i1, l1⟩ := rep_tup ry
    obtain ⟨a, b, q⟩ := inDs_seq (R := fun b => R (.bl b) μ) rx l1 q
    exact .inr ⟨p, vs, rfl, .inr i1.sq, a, b, fw_now rm to_bl q f⟩
  · obtain ⟨p, vs, rfl, i1, n1, l1⟩ := rep_lst ry
    obtain ⟨a, b, q⟩ := inDs_seq (R := fun b => R (.bl b) μ) rx l1 q
    exact .inr ⟨p, vs, rfl, .inl (SqL.of i1), a, b, fw_now rm to_bl q f⟩
theorem sim_notIn {K : PySem.W.Frag} : SimO K (rNotInA K) (gIn not) := by
  intro x y dx dy H μ Q R rm rx ry q f
  cases dy <;> try exact False.elim q
  · obtain ⟨c, rfl, q⟩ := q
    rw [rep_str rx, rep_str ry]
    exact .inl ⟨c, _, rfl, rfl, fw_now rm to_bl q f⟩
  · obtain ⟨p, vs, rfl, i1, l1⟩ := rep_tup ry
    obtain ⟨a, b, q⟩ := inDs_seq (R := fun b => R (.bl (!b)) μ) rx l1 q
    exact .inr ⟨p, vs, rfl, .inr i1.sq, a, b, fw_now rm to_bl q f⟩
  · obtain ⟨p, vs, rfl, i1, n1, l1⟩ := rep_lst ry
    obtain ⟨a, b, q⟩ := inDs_seq (R := fun b => R (.bl (!b)) μ) rx l1 q
    exact .inr ⟨p, vs, rfl, .inl (SqL.of i1), a, b, fw_now rm to_bl q f⟩
/-! ### subscripts -/
theorem RepL.atI {K : PySem.W.Frag} {H : Hp} {μ : Mu} {ds : List D} {vs : List V} {i : Int} {d : D} (r : RepL K H μ ds vs) (e : L2.atI ds i = some d) : ∃ v, L2.atI vs i = some v ∧ Rep K H μ d v := by
  unfold L2.atI at e ⊢
  rw [r.length]
  cases q : ixN ds.length i with
  | none => rw [q] at e; cases e
  | some j =>
    rw [q] at e
    exact r.at_ (by simpa using e)
def atK (ds : List D) (i : Int) (R : D → Prop) : Prop := match L2.atI ds i with
  | some d => R d
  | none => False
def gIx : G2 := fun x y μ R => match x, y with
  | .lst ds, .int i => atK ds i fun d => R d μ
  | .seq ds, .int i => atK ds i fun d => R d μ
  | .tup ds, .int i => atK ds i fun d => R d μ
  | .adr a, .int i => match μ a with
    | some (.lst ds) => atK ds i fun d => R d μ
    | _ => False
  | .str z, .int i => z.length ≤ sizeLine ∧ match L2.atI z.cps.toList i with
    | some c => R (.str ⟨#[c]⟩) μ
    | none => False
  | _, _ => False
def rIxA (K : PySem.W.Frag) : R2 := fun x y H Q => rIxL K x y H Q ∨ rIxT K x y H Q ∨ rIxS x y H Q
theorem ix_any {X : Cx} : IxR X (rIxA X.K) := ix_list.or (ix_tup.or ix_str)
theorem atK_of {ds : List D} {i : Int} {R : D → Prop} (h : atK ds i R) : ∃ d, L2.atI ds i = some d ∧ R d := by
  unfold atK at h
  cases e : L2.atI ds i with
  | none => rw [e] at h; exact False.elim h
  | some d => rw [e] at h; exact ⟨d, rfl, h⟩
theorem sim_ix {K : PySem.W.Frag} : SimO K (rIxA K) gIx := by
  intro x y dx dy H μ Q R rm rx ry q f
  cases dx <;> cases dy <;> try exact False.elim q
  · rename_i z i
    rw [rep_str rx, rep_int ry]
    obtain ⟨h1, h2⟩ := q
    cases e : L2.atI z.cps.toList i with
    | none => rw [e] at h2; exact False.elim h2
    | some c =>
      rw [e] at h2
      exact .inr (.inr ⟨z, i, c, rfl, rfl, h1, e, fw_now rm to_str h2 f⟩)
  · obtain ⟨p, vs, rfl, i1, l1⟩ := rep_tup rx
    obtain ⟨d, e, q⟩ := atK_of q
    obtain ⟨v, e2, rv⟩ := l1.atI e
    rw [rep_int ry]
    exact .inr (.inl ⟨p, vs, _, v, rfl, rfl, i1.sq, e2, fw_now rm rv q f⟩)
  · obtain ⟨p, vs, rfl, i1, n1, l1⟩ := rep_lst rx
    obtain ⟨d, e, q⟩ := atK_of q
    obtain ⟨v, e2, rv⟩ := l1.atI e
    rw [rep_int ry]
    exact .inl ⟨p, vs, _, v, rfl, rfl, SqL.of i1, e2, fw_now rm rv q f⟩
  · obtain ⟨p, vs, rfl, i1, l1⟩ := rep_seq rx
    obtain ⟨d, e, q⟩ := atK_of q
    obtain ⟨v, e2, rv⟩ := l1.atI e
    rw [rep_int ry]
    exact .inl ⟨p, vs, _, v, rfl, rfl, i1.sq, e2, fw_now rm rv q f⟩
  · rename_i a i
    have q : (match μ a with | some (.lst ds) => atK ds i fun d => R d μ | _ => False) := q
    cases e0 : μ a with
    | none => rw [e0] at q; exact False.elim q
    | some o =>
      rw [e0] at q
      cases o <;> try exact False.elim q
      obtain ⟨vs, h1, l1⟩ := rm a _ e0
      obtain ⟨d, e, q⟩ := atK_of q
      obtain ⟨v, e2, rv⟩ := l1.atI e
      rw [rep_int ry, rep_adr rx]
      exact .inl ⟨a, vs, _, v, rfl, rfl, SqL.of h1, e2, fw_now rm rv q f⟩
end DL
set_option Elab.async false
set_option linter.all false
set_option maxRecDepth 100000
namespace DL
open PySem PySem.Spec PyProof.Rows L2
/-! ### built-ins called by name -/
section
variable {X : Cx} {id : String} {T : String} {r : List V → Hp → VK → Prop} {g : GC} {ga : GA} {x : Str} {p pos : Pos} {e : Expr} {es : List Expr}
theorem sim_cb {K : PySem.W.Frag} {t : TA} (h : SimC K r g) (a : SimA K t ga) : SimE K (tCB r t) (gCall g ga) := fun σ H δ μ Q R rm rs q f =>
  a σ H δ μ _ _ rm rs q fun vs ds H1 μ1 k1 rm1 r1 q1 => h vs ds H1 μ1 Q R rm1 r1 q1 (f.re k1)
theorem de_callB (hc : CallR X (.builtin id) r) (h : SimC X.K r g) (hg : Gl X x) (hm : X.mg x = none) (hv : bootBuiltins x = some (.builtin id)) (ha : DA X (e :: es) ga) (hn : x ≠ "__name__" := by decide) (hdb : (x == ("__debug__" : Str)) = false := by decide)
    (he : starEach (e :: es) X.env = (false, eval e X.env) :: starEach es X.env := by rfl) (hpl : (backTo pos (starEach es X.env)).any (·.1) = false := by rfl) : DE X (.Call (.Name x p) (e :: es) [] pos) (gCall g ga) :=
  let ⟨_, a, b⟩ := ha.ex; ⟨_, pe_callB hc hg hm hv a hn hdb he hpl, sim_cb h b⟩
theorem de_callTy (hc : CallR X (.type T) r) (h : SimC X.K r g) (hg : Gl X x) (hm : X.mg x = none) (hv : bootBuiltins x = some (.type T)) (ha : DA X (e :: es) ga) (hn : x ≠ "__name__" := by decide) (hdb : (x == ("__debug__" : Str)) = false := by decide)
    (he : starEach (e :: es) X.env = (false, eval e X.env) :: starEach es X.env := by rfl) (hpl : (backTo pos (starEach es X.env)).any (·.1) = false := by rfl) : DE X (.Call (.Name x p) (e :: es) [] pos) (gCall g ga) :=
  let ⟨_, a, b⟩ := ha.ex; ⟨_, pe_callTy hc hg hm hv a hn hdb he hpl, sim_cb h b⟩
end
theorem repL1 {K : PySem.W.Frag} {H : Hp} {μ : Mu} {d : D} {vs : List V} (h : RepL K H μ [d] vs) : ∃ v, vs = [v] ∧ Rep K H μ d v := by
  unfold RepL at h
  obtain ⟨v, r, rfl, h1, h2⟩ := h
  unfold RepL at h2
  subst h2
  exact ⟨v, rfl, h1⟩
theorem repL2 {K : PySem.W.Frag} {H : Hp} {μ : Mu} {d e : D} {vs : List V} (h : RepL K H μ [d, e] vs) : ∃ v w, vs = [v, w] ∧ Rep K H μ d v ∧ Rep K H μ e w := by
  unfold RepL at h
  obtain ⟨v, r, rfl, h1, h2⟩ := h
  obtain ⟨w, rfl, h3⟩ := repL1 h2
  exact ⟨v, w, rfl, h1, h3⟩
/-- one argument -/
def g1 (g : G1) : GC := fun ds μ R => match ds with
  | [d] => g d μ R
  | _ => False
def g2 (g : G2) : GC := fun ds μ R => match ds with
  | [d, e] => g d e μ R
  | _ => False
theorem sim_g1 {K : PySem.W.Frag} {r : List V → Hp → VK → Prop} {g : G1} (h : ∀ v d H μ (Q : VK) (R : KD), RM K H μ → Rep K H μ d v → g d μ R → Fw K H μ R Q → r [v] H Q) : SimC K r (g1 g) := by
  intro vs ds H μ Q R rm rl q f
  match ds, rl, q with
  | [d], rl, q =>
    obtain ⟨v, rfl, r1⟩ := repL1 rl
    exact h v d H μ Q R rm r1 q f
theorem sim_g2 {K : PySem.W.Frag} {r : List V → Hp → VK → Prop} {g : G2} (h : ∀ v w d e H μ (Q : VK) (R : KD), RM K H μ → Rep K H μ d v → Rep K H μ e w → g d e μ R → Fw K H μ R Q → r [v, w] H Q) : SimC K r (g2 g) := by
  intro vs ds H μ Q R rm rl q f
  match ds, rl, q with
  | [d, e], rl, q =>
    obtain ⟨v, w, rfl, r1, r2⟩ := repL2 rl
    exact h v w d e H μ Q R rm r1 r2 q f
/-- len -/
def gLen1 : G1 := fun x μ R => match x with
  | .lst ds => R (.int ds.length) μ
  | .seq ds => R (.int ds.length) μ
  | .tup ds => R (.int ds.length) μ
  | .str z => z.length ≤ sizeLine ∧ R (.int z.length) μ
  | .adr a => match μ a with
    | some (.lst ds) => R (.int ds.length) μ
    | _ => False
  | _ => False
def rLenA (K : PySem.W.Frag) : List V → Hp → VK → Prop := fun xs H Q => (∃ p ys, xs = [.ref p] ∧ (SqL K H p ys ∨ SqT K H p ys) ∧ Q (.int ys.length) H) ∨ ∃ z, xs = [.str z] ∧ z.length ≤ sizeLine ∧ Q (.int z.length) H
theorem cr_len {X : Cx} : CallR X (.builtin "len") (rLenA X.K) := CallR.or call_len_seq call_len_str
theorem sim_len {K : PySem.W.Frag} : SimC K (rLenA K) (g1 gLen1) := sim_g1 fun v d H μ Q R rm rv q f => by
  cases d <;> try exact False.elim q
  · rw [rep_str rv]
    exact .inr ⟨_, rfl, q.1, fw_now rm to_int q.2 f⟩
  · obtain ⟨p, vs, rfl, i, l⟩ := rep_tup rv
    exact .inl ⟨p, vs, rfl, .inr i.sq, by rw [l.length]; exact fw_now rm to_int q f⟩
  · obtain ⟨p, vs, rfl, i, _, l⟩ := rep_lst rv
    exact .inl ⟨p, vs, rfl, .inl (SqL.of i), by rw [l.length]; exact fw_now rm to_int q f⟩
  · obtain ⟨p, vs, rfl, i, l⟩ := rep_seq rv
    exact .inl ⟨p, vs, rfl, .inl i.sq, by rw [l.length]; exact fw_now rm to_int q f⟩
  · rename_i a
    have q : (match μ a with | some (.lst ds) => R (.int ds.length) μ | _ => False) := q
    cases e0 : μ a with
    | none => rw [e0] at q; exact False.elim q
    | some o =>
      rw [e0] at q
      cases o <;> try exact False.elim q
      obtain ⟨vs, h1, l⟩ := rm a _ e0
      rw [rep_adr rv]
      exact .inl ⟨a, vs, rfl, .inl (SqL.of h1), by rw [l.length]; exact fw_now rm to_int q f⟩
/-- all, any of a list of bools -/
def gBools (k : List Bool → Bool) : G1 := fun x μ R => match x with
  | .lst ds => ∃ bs, ds = List.map D.bl bs ∧ R (.bl (k bs)) μ
  | _ => False
theorem sim_all {K : PySem.W.Frag} : SimC K (rAll K) (g1 (gBools fun bs => bs.all id)) := sim_g1 fun v d H μ Q R rm rv q f => by
  cases d <;> try exact False.elim q
  obtain ⟨bs, rfl, q⟩ := q
  obtain ⟨p, vs, rfl, i, _, l⟩ := rep_lst rv
  exact ⟨p, bs, rfl, SqL.of (by rw [i, l.bools]), fw_now rm to_bl q f⟩
theorem sim_any {K : PySem.W.Frag} : SimC K (rAny K) (g1 (gBools fun bs => bs.any id)) := sim_g1 fun v d H μ Q R rm rv q f => by
  cases d <;> try exact False.elim q
  obtain ⟨bs, rfl, q⟩ := q
  obtain ⟨p, vs, rfl, i, _, l⟩ := rep_lst rv
  exact ⟨p, bs, rfl, SqL.of (by rw [i, l.bools]), fw_now rm to_bl q f⟩
/-- int(n), abs(n) -/
def gInt1 : G1 := fun x μ R => match x with
  | .int i => R (.int i) μ
  | _ => False
theorem sim_int {K : PySem.W.Frag} : SimC K (fun xs H Q => (∃ i, xs = [.int i] ∧ Q (.int i) H) ∨ ∃ k, xs = [.bl k] ∧ Q (.int (if k then 1 else 0)) H) (g1 gInt1) := sim_g1 fun v d H μ Q R rm rv q f => by
  cases d <;> try exact False.elim q
  rw [rep_int rv]
  exact .inl ⟨_, rfl, fw_now rm to_int q f⟩
def gAbs1 : G1 := fun x μ R => match x with
  | .int i => R (.int (if i < 0 then -i else i)) μ
  | _ => False
theorem sim_abs {K : PySem.W.Frag} : SimC K (fun xs H Q => ∃ i, xs = [.int i] ∧ Q (.int (if i < 0 then -i else i)) H) (g1 gAbs1) := sim_g1 fun v d H μ Q R rm rv q f => by
  cases d <;> try exact False.elim q
  rw [rep_int rv]
  exact ⟨_, rfl, fw_now rm to_int q f⟩
theorem sim_min2 {K : PySem.W.Frag} : SimC K (fun xs H Q => ∃ i j, xs = [.int i, .int j] ∧ Q (.int (if j < i then j else i)) H) (g2 (gII0 fun i j => .int (if j < i then j else i))) := sim_g2 fun v w d e H μ Q R rm rv rw q f => by
  cases d <;> cases e <;> try exact False.elim q
  rw [rep_int rv, rep_int rw]
  exact ⟨_, _, rfl, fw_now rm to_int q f⟩
/-- tuple(list), tuple(tuple) -/
def gTuple1 : G1 := fun x μ R => match x with
  | .lst ds => R (.tup ds) μ
  | .seq ds => R (.tup ds) μ
  | .tup ds => R (.tup ds) μ
  | .adr a => match μ a with
    | some (.lst ds) => R (.tup ds) μ
    | _ => False
  | _ => False
theorem sim_tuple {K : PySem.W.Frag} : SimC K (fun xs H Q => ∃ p ys, xs = [.ref p] ∧ ((SqL K H p ys ∧ ∀ l, H l = none → Q (.ref l) (upd H l (.tup ys))) ∨ (SqT K H p ys ∧ Q (.ref p) H))) (g1 gTuple1) := sim_g1 fun v d H μ Q R rm rv q f => by
  cases d <;> try exact False.elim q
  · obtain ⟨p, vs, rfl, i, l⟩ := rep_tup rv
    exact ⟨p, vs, rfl, .inr ⟨i.sq, fw_now rm rv q f⟩⟩
  · obtain ⟨p, vs, rfl, i, _, l⟩ := rep_lst rv
    exact ⟨p, vs, rfl, .inl ⟨SqL.of i, fun t n => fw_tup rm n l q f⟩⟩
  · obtain ⟨p, vs, rfl, i, l⟩ := rep_seq rv
    exact ⟨p, vs, rfl, .inl ⟨i.sq, fun t n => fw_tup rm n l q f⟩⟩
  · rename_i a
    have q : (match μ a with | some (.lst ds) => R (.tup ds) μ | _ => False) := q
    cases e0 : μ a with
    | none => rw [e0] at q; exact False.elim q
    | some o =>
      rw [e0] at q
      cases o <;> try exact False.elim q
      obtain ⟨vs, h1, l⟩ := rm a _ e0
      rw [rep_adr rv]
      exact ⟨a, vs, rfl, .inl ⟨SqL.of h1, fun t n => fw_tup rm n l q f⟩⟩
/-- list(list), list(tuple): a new list; one that will change -/
def gList1 : G1 := fun x μ R => match x with
  | .lst ds => R (.lst ds) μ
  | .seq ds => R (.lst ds) μ
  | .tup ds => R (.lst ds) μ
  | _ => False
abbrev rListOf (K : PySem.W.Frag) : List V → Hp → VK → Prop := fun xs H Q => ∃ p ys, xs = [.ref p] ∧ (SqL K H p ys ∨ SqT K H p ys) ∧ ∀ l, H l = none → Q (.ref l) (upd H l (.lst ys))
theorem sim_list {K : PySem.W.Frag} : SimC K (rListOf K) (g1 gList1) := sim_g1 fun v d H μ Q R rm rv q f => by
  cases d <;> try exact False.elim q
  · obtain ⟨p, vs, rfl, i, l⟩ := rep_tup rv
    exact ⟨p, vs, rfl, .inr i.sq, fun t n => fw_lst rm n l q f⟩
  · obtain ⟨p, vs, rfl, i, _, l⟩ := rep_lst rv
    exact ⟨p, vs, rfl, .inl (SqL.of i), fun t n => fw_lst rm n l q f⟩
  · obtain ⟨p, vs, rfl, i, l⟩ := rep_seq rv
    exact ⟨p, vs, rfl, .inl i.sq, fun t n => fw_lst rm n l q f⟩
/-- sorted of texts -/
def gSortedS1 : G1 := fun x μ R => match x with
  | .lst ds => ∃ ss : List Str, ds = List.map D.str ss ∧ ss.length < 64 ∧ ∀ ys : List Str, ys.Perm ss → sortedS ys = true → R (.lst (List.map D.str ys)) μ
  | .adr a => match μ a with
    | some (.lst ds) => ∃ ss : List Str, ds = List.map D.str ss ∧ ss.length < 64 ∧ ∀ ys : List Str, ys.Perm ss → sortedS ys = true → R (.lst (List.map D.str ys)) μ
    | _ => False
  | _ => False
theorem sim_sortedS {K : PySem.W.Frag} : SimC K (rSortedS K) (g1 gSortedS1) := sim_g1 fun v d H μ Q R rm rv q f => by
  cases d <;> try exact False.elim q
  · obtain ⟨ss, rfl, h64, q⟩ := q
    obtain ⟨p, vs, rfl, i, _, l⟩ := rep_lst rv
    exact ⟨p, ss, rfl, SqL.of (by rw [i, l.strs]), h64, fun ys t hp hs n => fw_lst rm n (RepL.of_strs ys) (q ys hp hs) f⟩
  · rename_i a
    have q : (match μ a with | some (.lst ds) => ∃ ss : List Str, ds = List.map D.str ss ∧ ss.length < 64 ∧ ∀ ys : List Str, ys.Perm ss → sortedS ys = true → R (.lst (List.map D.str ys)) μ | _ => False) := q
    cases e0 : μ a with
    | none => rw [e0] at q; exact False.elim q
    | some o =>
      rw [e0] at q
      cases o <;> try exact False.elim q
      obtain ⟨ss, rfl, h64, q⟩ := q
      obtain ⟨vs, h1, l⟩ := rm a _ e0
      rw [rep_adr rv]
      exact ⟨a, ss, rfl, SqL.of (by rw [h1, l.strs]), h64, fun ys t hp hs n => fw_lst rm n (RepL.of_strs ys) (q ys hp hs) f⟩
/-- isinstance(x, T), T a built-in class written by its name -/
def tyName : D → Option String
  | .non => some "NoneType"
  | .bl _ => some "bool"
  | .int _ => some "int"
  | .str _ => some "str"
  | .tup _ => some "tuple"
  | .lst _ => some "list"
  | _ => none
/-! ### methods -/
abbrev GM := D → List D → Mu → KD → Prop
def gBM (ok : D → Mu → Prop) (g : GM) (go : GE) (ga : GA) : GE := fun δ μ R => go δ μ fun x μ1 => ok x μ1 ∧ ga δ μ1 fun xs μ2 => g x xs μ2 R
def okStr : D → Mu → Prop := fun d _ => match d with
  | .str _ => True
  | _ => False
def okCell : D → Mu → Prop := fun d μ => match d with
  | .adr a => match μ a with
    | some (.lst _) => True
    | _ => False
  | _ => False
def OkTy (K : PySem.W.Frag) (T : String) (ok : D → Mu → Prop) : Prop := ∀ v d H μ, RM K H μ → Rep K H μ d v → ok d μ → tyV K T v H
theorem ok_str {K : PySem.W.Frag} : OkTy K "str" okStr := fun v d H μ rm r h => by
  cases d <;> try exact False.elim h
  rw [rep_str r]
  rfl
theorem ok_cell {K : PySem.W.Frag} : OkTy K "list" okCell := fun v d H μ rm r h => by
  cases d <;> try exact False.elim h
  rename_i a
  have h : (match μ a with | some (.lst _) => True | _ => False) := h
  cases e0 : μ a with
  | none => rw [e0] at h; exact False.elim h
  | some o =>
    rw [e0] at h
    cases o <;> try exact False.elim h
    obtain ⟨vs, h1, l⟩ := rm a _ e0
    rw [rep_adr r]
    exact .inl ⟨rfl, _, SqL.of h1⟩
def SimM (K : PySem.W.Frag) (r : V → List V → Hp → VK → Prop) (g : GM) : Prop := ∀ x dx vs ds H μ (Q : VK) (R : KD), RM K H μ → Rep K H μ dx x → RepL K H μ ds vs → g dx ds μ R → Fw K H μ R Q → r x vs H Q
section
variable {X : Cx} {o e : Expr} {es : List Expr} {name : Str} {apos cpos : Pos} {T id : String} {r : V → List V → Hp → VK → Prop} {ok : D → Mu → Prop} {g : GM} {go : GE} {ga : GA}
theorem de_bm (pa : PlainAttrs T) (slot : Slot T name id) (hty : typeOf (.builtin id) = pure (.type "method_descriptor")) (hm : MtR X id r) (sm : SimM X.K r g) (hok : OkTy X.K T ok) (ho : DE X o go) (ha : DA X (e :: es) ga)
    (hbase : attributeBase o name X.env (eval o X.env) = eval o X.env := by rfl)
    (hfew : ((backTo cpos (starEach (e :: es) X.env)).all (fun x => !x.1) && (backToKw cpos (keywordEach [] X.env)).all (fun x => x.1.isSome)
      && decide ((e :: es).length + ([] : List Keyword).length + (if ([] : List Keyword).isEmpty then 0 else 1) < 30)) = true := by rfl)
    (hline : (apos.endLine == cpos.line) = true := by rfl) (hs : starEach (e :: es) X.env = (false, eval e X.env) :: starEach es X.env := by rfl) (hplain : (backTo cpos (starEach es X.env)).any (·.1) = false := by rfl) :
    DE X (.Call (.Attribute o name apos) (e :: es) [] cpos) (gBM ok g go ga) := by
  obtain ⟨t, a1, a2⟩ := ho.ex
  obtain ⟨u, b1, b2⟩ := ha.ex
  refine ⟨_, pe_bm pa slot hty hm a1 b1 hbase hfew hline hs hplain, fun σ H δ μ Q R rm rs q f => ?_⟩
  refine a2 σ H δ μ _ _ rm rs q fun v d H1 μ1 k1 rm1 r1 q1 => ⟨hok v d H1 μ1 rm1 r1 q1.1, ?_⟩
  exact b2 σ H1 δ μ1 _ _ rm1 (rs.mono k1) q1.2 fun vs ds H2 μ2 k2 rm2 r2 q2 => sm v d vs ds H2 μ2 Q R rm2 (r1.mono k2) r2 q2 (f.re (k1.trans k2))
end
/-- one argument; two -/
def gM1 (g : G2) : GM := fun x xs μ R => match xs with
  | [d] => g x d μ R
  | _ => False
theorem sim_m1 {K : PySem.W.Frag} {r : V → List V → Hp → VK → Prop} {g : G2} (h : ∀ x v dx d H μ (Q : VK) (R : KD), RM K H μ → Rep K H μ dx x → Rep K H μ d v → g dx d μ R → Fw K H μ R Q → r x [v] H Q) : SimM K r (gM1 g) := by
  intro x dx vs ds H μ Q R rm rx rl q f
  match ds, rl, q with
  | [d], rl, q =>
    obtain ⟨v, rfl, r1⟩ := repL1 rl
    exact h x v dx d H μ Q R rm rx r1 q f
/-- two texts -/
def gSS (h : Str → Str → KD → Mu → Prop) : G2 := fun x y μ R => match x, y with
  | .str a, .str b => h a b R μ
  | _, _ => False
/-- text.count(text) -/
abbrev gCount : GM := gM1 (gSS fun a b R μ => R (.int (Txt.count a b)) μ)
theorem sim_count {K : PySem.W.Frag} : SimM K (fun x xs H Q => ∃ a b, x = .str a ∧ xs = [.str b] ∧ Q (.int (Txt.count a b)) H) gCount := sim_m1 fun x v dx d H μ Q R rm rx rv q f => by
  cases dx <;> cases d <;> try exact False.elim q
  rw [rep_str rx, rep_str rv]
  exact ⟨_, _, rfl, rfl, fw_now rm to_int q f⟩
/-- sep.join(texts) -/
def gJoin2 : G2 := fun x y μ R => match x, y with
  | .str a, .lst ds => ∃ ys : List Str, ds = List.map D.str ys ∧ (ys.map (·.length)).sum + ys.length * a.length ≤ 16777216 ∧ R (.str (Txt.join a ys)) μ
  | _, _ => False
theorem sim_join {K : PySem.W.Frag} : SimM K (fun x xs H Q => ∃ a p, ∃ ys : List Str, x = .str a ∧ xs = [.ref p] ∧ (SqL K H p (ys.map V.str) ∨ SqT K H p (ys.map V.str)) ∧ (ys.map (·.length)).sum + ys.length * a.length ≤ 16777216 ∧ Q (.str (Txt.join a ys)) H) (gM1 gJoin2) := sim_m1 fun x v dx d H μ Q R rm rx rv q f => by
  cases dx <;> cases d <;> try exact False.elim q
  obtain ⟨ys, rfl, hz, q⟩ := q
  obtain ⟨p, vs, rfl, i, _, l⟩ := rep_lst rv
  exact ⟨_, p, ys, rep_str rx, rfl, .inl (SqL.of (by rw [i, l.strs])), hz, fw_now rm to_str q f⟩
/-- cell.append(v) -/
def gAppend2 : G2 := fun x d μ R => match x with
  | .adr a => ∃ ds, μ a = some (.lst ds) ∧ ds.length < sizeLine ∧ R .non (put μ a (.lst (ds ++ [d])))
  | _ => False
theorem sim_append {K : PySem.W.Frag} : SimM K rAppend (gM1 gAppend2) := sim_m1 fun x v dx d H μ Q R rm rx rv q f => by
  cases dx <;> try exact False.elim q
  rename_i a
  obtain ⟨ds, e0, hz, q⟩ := q
  obtain ⟨vs, h1, l⟩ := rm a _ e0
  exact ⟨a, vs, v, rep_adr rx, rfl, h1, by rw [l.length]; exact hz, fw_write rm e0 (l.append (RepL.cons rv RepL.nil)) to_non q f⟩
/-- cell.pop(i), 0 ≤ i in bounds -/
def gPopAt2 : G2 := fun x y μ R => match x, y with
  | .adr a, .int i => ∃ ds, μ a = some (.lst ds) ∧ 0 ≤ i ∧ i < 2 ^ 63 ∧ ∃ d, ds[i.toNat]? = some d ∧ R d (put μ a (.lst (ds.eraseIdx i.toNat)))
  | _, _ => False
theorem sim_popAt {K : PySem.W.Frag} : SimM K rPopAt (gM1 gPopAt2) := sim_m1 fun x v dx d H μ Q R rm rx rv q f => by
  cases dx <;> cases d <;> try exact False.elim q
  rename_i a i
  obtain ⟨ds, e0, h0, hz, d, ed, q⟩ := q
  obtain ⟨vs, h1, l⟩ := rm a _ e0
  obtain ⟨y, ey, ry⟩ := l.at_ ed
  have hl : i.toNat < vs.length := (List.getElem?_eq_some_iff.mp ey).1
  rw [rep_int rv]
  exact ⟨a, vs, i, i.toNat, y, rep_adr rx, rfl, h1, by omega, hz, (ixN_seq (by unfold ixN; rw [if_pos h0, if_pos (by omega)])).1, ey, fw_write rm e0 (l.erase _) ry q f⟩
/-! ### fields -/
theorem RepF.look {K : PySem.W.Frag} {H : Hp} {μ : Mu} {x : Str} {d : D} : ∀ {fs : List (Str × D)} {fv : List (Str × V)}, RepF K H μ fs fv → fs.lookup x = some d → ∃ v, fv.lookup x = some v ∧ Rep K H μ d v
  | [], _, _, e => by cases e
  | (y, c) :: fs, _, h, e => by
    unfold RepF at h
    obtain ⟨v, r, rfl, h1, h2⟩ := h
    rw [List.lookup_cons] at e ⊢
    cases hb : x == y with
    | true =>
      rw [hb] at e
      have e' : c = d := Option.some.inj e
      subst e'
      exact ⟨v, rfl, h1⟩
    | false =>
      rw [hb] at e
      exact RepF.look h2 e
theorem RepF.length {K : PySem.W.Frag} {H : Hp} {μ : Mu} : ∀ {fs : List (Str × D)} {fv : List (Str × V)}, RepF K H μ fs fv → fv.length = fs.length
  | [], _, h => by
    unfold RepF at h
    rw [h] <;> rfl
  | (y, c) :: fs, _, h => by
    unfold RepF at h
    obtain ⟨v, r, rfl, h1, h2⟩ := h
    show r.length + 1 = fs.length + 1
    rw [RepF.length h2]
def dPut (f : Str) (d : D) : List (Str × D) → List (Str × D)
  | [] => [(f, d)]
  | (g, x) :: r => if g = f then (g, d) :: r else (g, x) :: dPut f d r
theorem RepF.put {K : PySem.W.Frag} {H : Hp} {μ : Mu} {x : Str} {d : D} {v : V} (rv : Rep K H μ d v) : ∀ {fs : List (Str × D)} {fv : List (Str × V)}, RepF K H μ fs fv → RepF K H μ (dPut x d fs) (putF x v fv)
  | [], _, h => by
    unfold RepF at h
    subst h
    show RepF K H μ [(x, d)] [(x, v)]
    unfold RepF
    exact ⟨v, [], rfl, rv, by unfold RepF; rfl⟩
  | (y, c) :: fs, _, h => by
    unfold RepF at h
    obtain ⟨u, r, rfl, h1, h2⟩ := h
    show RepF K H μ (if y = x then (y, d) :: fs else (y, c) :: dPut x d fs) (if y = x then (y, v) :: r else (y, u) :: putF x v r)
    by_cases e : y = x
    · rw [if_pos e, if_pos e]
      unfold RepF
      exact ⟨v, r, rfl, rv, h2⟩
    · rw [if_neg e, if_neg e]
      unfold RepF
      exact ⟨u, _, rfl, h1, RepF.put rv h2⟩
/-- o.f of an instance that stays as it is -/
def gFld (C : Addr) (f : Str) (g : GE) : GE := fun δ μ R => g δ μ fun d μ1 => match d with
  | .ins C' fs => C' = C ∧ ∃ x, fs.lookup f = some x ∧ R x μ1
  | _ => False
section
variable {X : Cx} {e o value : Expr} {f : Str} {pos pos' : Pos} {g gv : GE} {C : Addr}
theorem de_fld (c : Cls X.K C) (n : NoAttr X.K C f) (he : DE X e g) (hb : attributeBase e f X.env (eval e X.env) = eval e X.env := by rfl) : DE X (.Attribute e f pos) (gFld C f g) := by
  obtain ⟨t, a1, a2⟩ := he.ex
  refine ⟨_, pe_fld a1 hb, fun σ H δ μ Q R rm rs q fw => ?_⟩
  refine a2 σ H δ μ _ _ rm rs q fun v d H1 μ1 k1 rm1 r1 q1 => ?_
  cases d <;> try exact False.elim q1
  obtain ⟨rfl, x, e1, q1⟩ := q1
  obtain ⟨a, dx, fv, rfl, h1, _, rf⟩ := rep_ins r1
  obtain ⟨y, e2, ry⟩ := rf.look e1
  exact ⟨a, _, dx, fv, y, rfl, h1, c, n, e2, fw_now rm1 ry q1 (fw.re k1)⟩
/-- o.f = e, o an instance in the store -/
def gSetF (C : Addr) (f : Str) (go gv : GE) : GS := fun F δ μ => gv δ μ fun d μ1 => go δ μ1 fun x μ2 => match x with
  | .adr a => ∃ fs, μ2 a = some (.ins C fs) ∧ fs.length < 1000 ∧ F.nx δ (put μ2 a (.ins C (dPut f d fs)))
  | _ => False
theorem ds_fld (c : Cls X.K C) (n : NoAttr X.K C f) (ho : DE X o g) (hv : DE X value gv) (hs : swapsWith value (some (.Attribute o f pos')) pos.line X.env = pure false := by rfl) : DSt X (.Assign [.Attribute o f pos'] value pos) (gSetF C f g gv) := by
  obtain ⟨t, a1, a2⟩ := ho.ex
  obtain ⟨u, b1, b2⟩ := hv.ex
  refine ⟨_, ps_fld a1 b1 hs, fun σ H δ μ E F rm rs e q => ?_⟩
  refine b2 σ H δ μ _ _ rm rs q fun v d H1 μ1 k1 rm1 r1 q1 => ?_
  refine a2 σ H1 δ μ1 _ _ rm1 (rs.mono k1) q1 fun v2 d2 H2 μ2 k2 rm2 r2 q2 => ?_
  cases d2 <;> try exact False.elim q2
  rename_i a
  obtain ⟨fs, e0, hl, q2⟩ := q2
  obtain ⟨dx, fv, h1, rf⟩ := rm2 a _ e0
  have kw : Kp H2 μ2 (upd H2 a (.ins C dx (putF f v fv))) (put μ2 a (.ins C (dPut f d fs))) := Kp.write e0
  refine ⟨a, C, dx, fv, rep_adr r2, h1, c, n, by rw [rf.length]; exact hl, e.nx _ _ _ _ (k1.trans (k2.trans kw)) ?_ (rs.mono (k1.trans (k2.trans kw))) q2⟩
  exact rm2.put (m := .ins C (dPut f d fs)) kw (fun b o nb _ => upd_ne nb) ⟨dx, _, upd_same, (rf.put (r1.mono k2)).mono kw _ _⟩
end
end DL
set_option Elab.async false
set_option linter.all false
set_option maxRecDepth 100000
namespace DL
open PySem PySem.Spec PyProof.Rows L2
/-! ### targets that store into what is mutable -/
abbrev GH := D → DS → Mu → (DS → Mu → Prop) → Prop
abbrev GHs := List D → DS → Mu → (DS → Mu → Prop) → Prop
def SimH (K : PySem.W.Frag) (t : TG) (g : GH) : Prop := ∀ v d σ H δ μ (Q : L2.St → Hp → Prop) (R : DS → Mu → Prop), RM K H μ → RepS K H μ δ σ → Rep K H μ d v → g d δ μ R →
  (∀ σ' H' δ' μ', Kp H μ H' μ' → RM K H' μ' → RepS K H' μ' δ' σ' → R δ' μ' → Q σ' H') → t v σ H Q
def SimHs (K : PySem.W.Frag) (t : TGs) (g : GHs) : Prop := ∀ vs ds σ H δ μ (Q : L2.St → Hp → Prop) (R : DS → Mu → Prop), RM K H μ → RepS K H μ δ σ → RepL K H μ ds vs → g ds δ μ R →
  (∀ σ' H' δ' μ', Kp H μ H' μ' → RM K H' μ' → RepS K H' μ' δ' σ' → R δ' μ' → Q σ' H') → t vs σ H Q
def hNm (i : Nat) : GH := fun d δ μ R => R (δ.set i (some d)) μ
theorem simH_nm {K : PySem.W.Frag} {i : Nat} : SimH K (gName i) (hNm i) := fun v d σ H δ μ Q R rm rs r q f => f _ H _ μ (Kp.refl _ _) rm (rs.set i r) q
def hNil : GHs := fun ds δ μ R => match ds with
  | [] => R δ μ
  | _ :: _ => False
def hCons (t : GH) (u : GHs) : GHs := fun ds δ μ R => match ds with
  | d :: r => t d δ μ fun δ' μ' => u r δ' μ' R
  | [] => False
theorem simH_nil {K : PySem.W.Frag} : SimHs K L2.gNil hNil := by
  intro vs ds σ H δ μ Q R rm rs r q f
  cases ds with
  | nil =>
    unfold RepL at r
    exact ⟨r, f σ H δ μ (Kp.refl _ _) rm rs q⟩
  | cons d ds => exact False.elim q
theorem simH_cons {K : PySem.W.Frag} {t : TG} {u : TGs} {g : GH} {gs : GHs} (h : SimH K t g) (h2 : SimHs K u gs) : SimHs K (L2.gCons t u) (hCons g gs) := by
  intro vs ds σ H δ μ Q R rm rs r q f
  cases ds with
  | nil => exact False.elim q
  | cons d ds =>
    unfold RepL at r
    obtain ⟨v, w, rfl, r1, r2⟩ := r
    refine ⟨v, w, rfl, h v d σ H δ μ _ _ rm rs r1 q fun σ1 H1 δ1 μ1 k1 rm1 rs1 q1 => ?_⟩
    exact h2 w ds σ1 H1 δ1 μ1 _ _ rm1 rs1 (r2.mono k1 _ _) q1 fun σ2 H2 δ2 μ2 k2 rm2 rs2 q2 => f σ2 H2 δ2 μ2 (k1.trans k2) rm2 rs2 q2
def hTup (n : Nat) (t : GHs) : GH := fun d δ μ R => match d with
  | .tup ds => ds.length = n ∧ t ds δ μ R
  | _ => False
theorem simH_tup {K : PySem.W.Frag} {n : Nat} {t : TGs} {g : GHs} (h : SimHs K t g) : SimH K (L2.gTup K n t) (hTup n g) := by
  intro v d σ H δ μ Q R rm rs r q f
  cases d <;> try exact False.elim q
  rename_i ds
  obtain ⟨a, vs, rfl, im, rl⟩ := rep_tup r
  exact ⟨a, vs, rfl, im.sq, by rw [rl.length]; exact q.1, h vs ds σ H δ μ Q R rm rs rl q.2 f⟩
/-- cell[k] = d -/
def setK (x y d : D) (μ : Mu) (R : Mu → Prop) : Prop := match x, y with
  | .adr a, .int k => ∃ ds j, μ a = some (.lst ds) ∧ ixN ds.length k = some j ∧ R (put μ a (.lst (ds.set j d)))
  | _, _ => False
def hSub (go gi : GE) : GH := fun d δ μ R => go δ μ fun x μ1 => gi δ μ1 fun y μ2 => setK x y d μ2 fun μ3 => R δ μ3
theorem simH_sub {K : PySem.W.Frag} {to ti : TE} {go gi : GE} (h1 : SimE K to go) (h2 : SimE K ti gi) : SimH K (gSub to ti rSetL) (hSub go gi) := by
  intro v d σ H δ μ Q R rm rs r q f
  refine h1 σ H δ μ _ _ rm rs q fun x dx H1 μ1 k1 rm1 r1 q1 => ?_
  refine h2 σ H1 δ μ1 _ _ rm1 (rs.mono k1) q1 fun y dy H2 μ2 k2 rm2 r2 q2 => ?_
  cases dx <;> cases dy <;> try exact False.elim q2
  rename_i a k
  obtain ⟨ds, j, e0, ej, q2⟩ := q2
  obtain ⟨vs, e1, l⟩ := rm2 a _ e0
  have kw : Kp H2 μ2 (upd H2 a (.lst (vs.set j v))) (put μ2 a (.lst (ds.set j d))) := Kp.write e0
  refine ⟨a, vs, k, j, rep_adr (r1.mono k2), rep_int r2, e1, by rw [l.length]; exact ej, f _ _ _ _ (k1.trans (k2.trans kw)) ?_ (rs.mono (k1.trans (k2.trans kw))) q2⟩
  exact rm2.put (m := .lst (ds.set j d)) kw (fun b o n _ => upd_ne n) ⟨_, upd_same, (l.set j (r.mono (k1.trans k2))).mono kw _ _⟩
def gAsgH (g : GE) (t : GH) : GS := fun F δ μ => g δ μ fun d μ1 => t d δ μ1 F.nx
section
variable {X : Cx} {e tg o i : Expr} {pos : Pos} {ge go gi : GE} {gh : GH} {g : TG}
theorem pg_subD (ho : DE X o go) (hi : DE X i gi)
    (ha : ∀ v, assign (.Subscript o i pos) X.env v = (do
      let ov ← holding [v] (eval o X.env)
      let iv ← holding [v, ov] (eval i X.env)
      standAt pos
      holding [v, ov, iv] (setItem ov iv v)
      release [v, ov, iv] []) := by intro _; rfl) : PG X (.Subscript o i pos) (gSub (tOf X.K go) (tOf X.K gi) rSetL) := pg_sub ho.pe hi.pe set_list ha
theorem simH_subD {K : PySem.W.Frag} : SimH K (gSub (tOf K go) (tOf K gi) rSetL) (hSub go gi) := simH_sub sim_of sim_of
theorem ds_asgH (he : DE X e ge) (hg : PG X tg g) (sg : SimH X.K g gh) (hs : swapsWithSole [tg] e pos.line X.env = pure false := by rfl) (hw : swappedStores [tg] e X.env = pure none := by rfl)
    (h1 : (assignEach [tg] X.env).map (·.2) = [assign tg X.env] := by rfl) : DSt X (.Assign [tg] e pos) (gAsgH ge gh) := by
  obtain ⟨t1, a1, a2⟩ := he.ex
  refine ⟨_, ps_asg a1 hg hs hw h1, fun σ H δ μ E F rm rs e q => ?_⟩
  refine a2 σ H δ μ _ _ rm rs q fun v d H1 μ1 k1 rm1 r1 q1 => ?_
  exact sg v d σ H1 δ μ1 _ _ rm1 (rs.mono k1) r1 q1 fun σ2 H2 δ2 μ2 k2 rm2 rs2 q2 => e.nx σ2 H2 δ2 μ2 (k1.trans k2) rm2 rs2 q2
end
/-! ### slices -/
/-! ### list(text) -/
def rListS : List V → Hp → VK → Prop := fun xs H Q => ∃ x : Str, xs = [.str x] ∧ x.length ≤ sizeLine ∧ ∀ l, H l = none → Q (.ref l) (upd H l (.lst (x.cps.toList.map fun c => V.str ⟨#[c]⟩)))
theorem signs_vals (x : Str) (acc : Array Value) (h : ItemsOf (SignAt x) acc x.cps.size) : Vals (x.cps.toList.map fun c => V.str ⟨#[c]⟩) acc.toList := by
  have key : ∀ (l : List Nat) (us : List Value), us.length = l.length → (∀ (j : Nat) (v : Value), us[j]? = some v → ∃ (c : Nat) (u : Tok), l[j]? = some c ∧ v = Value.str ⟨#[c]⟩ u) → Vals (l.map fun c => V.str ⟨#[c]⟩) us := by
    intro l
    induction l with
    | nil =>
      intro us hl _
      have e : us = [] := List.eq_nil_of_length_eq_zero hl
      subst e
      exact .nil
    | cons c l ih =>
      intro us hl hs
      cases us with
      | nil => simp at hl
      | cons u us =>
        obtain ⟨c', t, e1, e2⟩ := hs 0 u rfl
        have e1' : c = c' := by simpa using e1
        subst e1'
        subst e2
        exact .cons ⟨t, rfl⟩ (ih us (by simpa using hl) fun j v hv => hs (j + 1) v (by simpa using hv))
  refine key _ _ (by rw [Array.length_toList, Array.length_toList]; exact h.1) fun j v hv => ?_
  obtain ⟨c, u, e1, e2⟩ := h.2 j v (by rw [← Array.getElem?_toList]; exact hv)
  exact ⟨c, u, by rw [Array.getElem?_toList]; exact e1, e2⟩
theorem call_listS {X : Cx} (hc : X.calm = true) : CallR X (.type "list") rListS := by
  intro pins s σ H xs us Q I r h
  obtain ⟨x, rfl, hz, q⟩ := h
  obtain ⟨u, rfl, t, rfl⟩ := vals1 r
  refine call_list_str (I.ok.hd hc) x t (fun h' tk acc c' hk ho hi => ?_) hz
  have hn : H s.heap.objs.size = none := I.hok.fresh (Nat.le_refl _)
  have new : ObjOk X.prog X.w (upd H s.heap.objs.size (.lst (x.cps.toList.map fun c => V.str ⟨#[c]⟩))) h' s.heap.objs.size (.lst (x.cps.toList.map fun c => V.str ⟨#[c]⟩)) :=
    ⟨by rw [List.length_map, Array.length_toList]; exact hz, acc.toList, c', signs_vals x acc hi, ho⟩
  exact ⟨.ref s.heap.objs.size, _, I.laid hk (Nat.le_refl _) new, rfl, q _ hn⟩
theorem signs_rep {K : PySem.W.Frag} {H : Hp} {μ : Mu} (x : Str) : RepL K H μ (signs x) (x.cps.toList.map fun c => V.str ⟨#[c]⟩) := by
  unfold signs
  generalize x.cps.toList = l
  induction l with
  | nil => exact RepL.nil
  | cons c l ih => exact RepL.cons to_str ih
def gListS1 : G1 := fun x μ R => match x with
  | .str z => z.length ≤ sizeLine ∧ R (.lst (signs z)) μ
  | _ => False
def gListSC1 : G1 := fun x μ R => match x with
  | .str z => z.length ≤ sizeLine ∧ ∀ a, μ a = none → R (.adr a) (put μ a (.lst (signs z)))
  | _ => False
theorem sim_listS {K : PySem.W.Frag} : SimC K rListS (g1 gListS1) := sim_g1 fun v d H μ Q R rm rv q f => by
  cases d <;> try exact False.elim q
  exact ⟨_, by rw [rep_str rv], q.1, fun l n => fw_lst rm n (signs_rep _) q.2 f⟩
theorem sim_listSC {K : PySem.W.Frag} : SimC K rListS (g1 gListSC1) := sim_g1 fun v d H μ Q R rm rv q f => by
  cases d <;> try exact False.elim q
  exact ⟨_, by rw [rep_str rv], q.1, fun l n => fw_cell rm n (signs_rep _) q.2 f⟩
/-! ### isinstance -/
theorem tyX_rep {K : PySem.W.Frag} {H : Hp} {μ : Mu} {d : D} {v : V} {n : String} (h : Rep K H μ d v) (e : tyName d = some n) : TyX K H v (.type n) := by
  cases d <;> cases e
  · rw [rep_non h]; exact .base .non
  · rw [rep_bl h]; exact .base (.bl _)
  · rw [rep_int h]; exact .base (.int _)
  · rw [rep_str h]; exact .base (.str _)
  · obtain ⟨a, vs, rfl, im, _⟩ := rep_tup h
    rcases im with ⟨h1, _⟩ | h1
    · exact .base (.tup h1)
    · exact h1.2.elim
  · obtain ⟨a, vs, rfl, i, _⟩ := rep_lst h
    exact .base (.lst i)
def gIsi (T : String) : G1 := fun x μ R => ∃ n b, tyName x = some n ∧ kitB n T = some b ∧ R (.bl b) μ
section
variable {X : Cx} {p p2 pos : Pos} {e : Expr} {g : GE} {nm : Str} {T : String}
/-- isinstance(e, T), T a built-in class by its name -/
theorem de_isi (hg : Gl X "isinstance") (hm : X.mg "isinstance" = none) (hg2 : Gl X nm) (hm2 : X.mg nm = none) (hv : bootBuiltins nm = some (.type T)) (he : DE X e g) (hn : nm ≠ "__name__" := by decide) (hd : (nm == ("__debug__" : Str)) = false := by decide)
    (hs : starEach [e, .Name nm p2] X.env = (false, eval e X.env) :: starEach [.Name nm p2] X.env := by rfl) (hpl : (backTo pos (starEach [.Name nm p2] X.env)).any (·.1) = false := by rfl) (hs2 : starEach [.Name nm p2] X.env = (false, eval (.Name nm p2) X.env) :: starEach [] X.env := by rfl) :
    DE X (.Call (.Name "isinstance" p) [e, .Name nm p2] [] pos) (gUn (gIsi T) g) := by
  obtain ⟨t, a1, a2⟩ := he.ex
  refine ⟨_, pe_callB call_isi hg hm (by decide +kernel) (pa_cons a1 (pa_cons (pe_bltn (v := .ty T) hg2 hm2 hv rfl hn hd) pa_nil hs2) hs) (by decide) (by decide) hs hpl, fun σ H δ μ Q R rm rs q f => ?_⟩
  refine a2 σ H δ μ _ _ rm rs q fun v d H1 μ1 k1 rm1 r1 ⟨n, b, e1, e2, q1⟩ => ?_
  exact ⟨v, .ty T, .type n, .type T, b, rfl, .ty T, tyX_rep r1 e1, kit_ty e2, fw_now rm1 to_bl q1 (f.re k1)⟩
/-- what isinstance asks of an own class -/
structure IsC (K : PySem.W.Frag) (C : Addr) : Prop where
  cl : Cls K C
  ha : PySem.W.findIn K (.ref C) "__class__" = some (some (.builtin "object.__class__"))
  hn : PySem.W.specialIn K (.builtin "object.__class__") "__get__" = some (some (.builtin "getset_descriptor.__get__"))
  ht : PySem.W.takesIn K (.builtin "object.__class__") = some true
  hm : PySem.W.mroIn K C (.type "object") = some true
def gIsC (C : Addr) : G1 := fun x μ R => match x with
  | .ins C' _ => C' = C ∧ R (.bl true) μ
  | _ => False
theorem de_isc {C : Addr} (hc : IsC X.K C) (hg : Gl X "isinstance") (hm : X.mg "isinstance" = none) (hg2 : Gl X nm) (hm2 : X.mg nm = some (.ref C)) (he : DE X e g) (hd : (nm == ("__debug__" : Str)) = false := by decide)
    (hs : starEach [e, .Name nm p2] X.env = (false, eval e X.env) :: starEach [.Name nm p2] X.env := by rfl) (hpl : (backTo pos (starEach [.Name nm p2] X.env)).any (·.1) = false := by rfl) (hs2 : starEach [.Name nm p2] X.env = (false, eval (.Name nm p2) X.env) :: starEach [] X.env := by rfl) :
    DE X (.Call (.Name "isinstance" p) [e, .Name nm p2] [] pos) (gUn (gIsC C) g) := by
  obtain ⟨t, a1, a2⟩ := he.ex
  refine ⟨_, pe_callB call_isi hg hm (by decide +kernel) (pa_cons a1 (pa_cons (pe_glob (v := .ref C) hg2 hm2 rfl hd) pa_nil hs2) hs) (by decide) (by decide) hs hpl, fun σ H δ μ Q R rm rs q f => ?_⟩
  refine a2 σ H δ μ _ _ rm rs q fun v d H1 μ1 k1 rm1 r1 q1 => ?_
  cases d <;> try exact False.elim q1
  obtain ⟨rfl, q1⟩ := q1
  obtain ⟨a, dx, fv, rfl, h1, _, _⟩ := rep_ins r1
  refine ⟨.ref a, .ref _, .ref _, .ref _, true, rfl, .own _, .base (.ins h1 hc.cl hc.ha hc.hn hc.ht hc.hm), ?_, fw_now rm1 to_bl q1 (f.re k1)⟩
  unfold PySem.W.kitOne
  rw [if_pos (beq_self_eq_true _)]
end
end DL
set_option Elab.async false
set_option linter.all false
set_option maxRecDepth 100000
namespace DL
open PySem PySem.Spec PyProof.Rows L2
/-! ### max, min of two texts: which object comes back -/
section
variable {prog : Program} {w : World} {A : Around} {E : Value → Shared → Prop} {s : Shared}
theorem cmpS_gt {P : Nat → Value → Prop} (val : Nat → Str) (hv : ∀ i v, P i v → ∃ t, v = .str (val i) t) : CmpOf prog w A .Gt P (fun i j => decide ((val j).cps.toList < (val i).cps.toList)) := fun i j vi vj s Q E hi hj h => by
  obtain ⟨t, rfl⟩ := hv i vi hi
  obtain ⟨u, rfl⟩ := hv j vj hj
  exact richCompare_gives (op := .Gt) (typeIs_str s _ t) (typeIs_str s _ u) F.slot_str_gt F.entry_str_gt (F.args_str_gt_2 _ _) (gives_str_gt _ _ t u) (fun x => nomatch x) h
theorem cmpS_lt {P : Nat → Value → Prop} (val : Nat → Str) (hv : ∀ i v, P i v → ∃ t, v = .str (val i) t) : CmpOf prog w A .Lt P (fun i j => decide ((val i).cps.toList < (val j).cps.toList)) := fun i j vi vj s Q E hi hj h => by
  obtain ⟨t, rfl⟩ := hv i vi hi
  obtain ⟨u, rfl⟩ := hv j vj hj
  exact richCompare_gives (op := .Lt) (typeIs_str s _ t) (typeIs_str s _ u) F.slot_str_lt F.entry_str_lt (F.args_str_lt_2 _ _) (gives_str_lt _ _ t u) (fun x => nomatch x) h
theorem two_at {a b v : Value} {bt : Nat → Nat → Bool} (h : (#[a, b] : Array Value)[argBest bt ((#[a, b] : Array Value).size - 1)]? = some v) : v = if bt 1 0 = true then b else a := by
  have e : (#[a, b] : Array Value).size - 1 = 1 := rfl
  rw [e] at h
  cases hb : bt 1 0 with
  | true =>
    have e1 : argBest bt 1 = 1 := by simp [argBest, hb]
    rw [e1] at h
    simpa using h.symm
  | false =>
    have e1 : argBest bt 1 = 0 := by simp [argBest, hb]
    rw [e1] at h
    simpa using h.symm
theorem pair_val {x y : Str} {t u : Tok} : ∀ (i : Nat) (v : Value), (#[.str x t, .str y u] : Array Value)[i]? = some v → ∃ k, v = .str (if i = 0 then x else y) k
  | 0, v, h => ⟨t, by simpa using h.symm⟩
  | 1, v, h => ⟨u, by simpa using h.symm⟩
  | i + 2, v, h => by simp at h
theorem max_strs {x y : Str} {t u : Tok} {Q : Value → Shared → Prop} (hh : A.handled = none)
    (h : ∀ h' tk, (∀ c o, s.heap.get? c = some o → h'.get? c = some o) → Q (if x.cps.toList < y.cps.toList then .str y u else .str x t) { s with heap := h', toks := tk }) :
    wpAny (model prog w) A (call (.builtin "max") [.str x t, .str y u]) Q E s := by
  have hT : (s.heap.push { cls := .type "tuple", data := .seq #[.str x t, .str y u] }).IsTuple s.heap.objs.size #[.str x t, .str y u] := ⟨_, Heap.get?_push_size _ rfl, rfl, 0, rfl⟩
  have sz : (s.heap.push { cls := .type "tuple", data := .seq #[.str x t, .str y u] }).objs.size = s.heap.objs.size + 1 := Heap.size_push ..
  refine call_max_two (wpAny_pyIter_tuple hT ?_)
  refine ⟨_, [_, s.heap.objs.size], [_], _, _, _, _, rfl, Walks.tuple (A := A.in1) hh _ s.heap.objs.size (by rw [sz]; exact Nat.ne_of_lt (Nat.lt_succ_self _)) #[.str x t, .str y u],
    ⟨⟨_, Heap.get?_push_size _ rfl, rfl, rfl⟩, hT.push _⟩, fun c hc => ?_, (by decide : 0 < 2), cmpS_gt (fun i => if i = 0 then x else y) pair_val, fun v h' tk hP hk => ?_⟩
  · show c < ((s.heap.push _).push _).objs.size
    rw [Heap.size_push, sz]
    have hc' : c = (s.heap.push { cls := .type "tuple", data := .seq #[.str x t, .str y u] }).objs.size ∨ c = s.heap.objs.size := by simpa using hc
    rcases hc' with e | e
    · rw [e, sz]; exact Nat.lt_succ_self _
    · rw [e]; exact Nat.lt_succ_of_lt (Nat.lt_succ_self _)
  · have old : ∀ c o, s.heap.get? c = some o → h'.get? c = some o := fun c o e => hk c o (fun hm => by
      have e1 : c = (s.heap.push { cls := .type "tuple", data := .seq #[.str x t, .str y u] }).objs.size := by simpa using hm
      have lt := Heap.lt_size e
      rw [e1, sz] at lt
      exact Nat.lt_irrefl _ (Nat.lt_of_succ_lt lt)) (Heap.get?_push_of_some _ (Heap.get?_push_of_some _ e))
    have q := h h' tk old
    have e := two_at (bt := fun i j => decide ((if j = 0 then x else y).cps.toList < (if i = 0 then x else y).cps.toList)) hP
    have e2 : v = if x.cps.toList < y.cps.toList then .str y u else .str x t := by
      rw [e]
      simp
    rw [e2]
    exact q
theorem min_strs {x y : Str} {t u : Tok} {Q : Value → Shared → Prop} (hh : A.handled = none)
    (h : ∀ h' tk, (∀ c o, s.heap.get? c = some o → h'.get? c = some o) → Q (if y.cps.toList < x.cps.toList then .str y u else .str x t) { s with heap := h', toks := tk }) :
    wpAny (model prog w) A (call (.builtin "min") [.str x t, .str y u]) Q E s := by
  have hT : (s.heap.push { cls := .type "tuple", data := .seq #[.str x t, .str y u] }).IsTuple s.heap.objs.size #[.str x t, .str y u] := ⟨_, Heap.get?_push_size _ rfl, rfl, 0, rfl⟩
  have sz : (s.heap.push { cls := .type "tuple", data := .seq #[.str x t, .str y u] }).objs.size = s.heap.objs.size + 1 := Heap.size_push ..
  refine call_min_two (wpAny_pyIter_tuple hT ?_)
  refine ⟨_, [_, s.heap.objs.size], [_], _, _, _, _, rfl, Walks.tuple (A := A.in1) hh _ s.heap.objs.size (by rw [sz]; exact Nat.ne_of_lt (Nat.lt_succ_self _)) #[.str x t, .str y u],
    ⟨⟨_, Heap.get?_push_size _ rfl, rfl, rfl⟩, hT.push _⟩, fun c hc => ?_, (by decide : 0 < 2), cmpS_lt (fun i => if i = 0 then x else y) pair_val, fun v h' tk hP hk => ?_⟩
  · show c < ((s.heap.push _).push _).objs.size
    rw [Heap.size_push, sz]
    have hc' : c = (s.heap.push { cls := .type "tuple", data := .seq #[.str x t, .str y u] }).objs.size ∨ c = s.heap.objs.size := by simpa using hc
    rcases hc' with e | e
    · rw [e, sz]; exact Nat.lt_succ_self _
    · rw [e]; exact Nat.lt_succ_of_lt (Nat.lt_succ_self _)
  · have old : ∀ c o, s.heap.get? c = some o → h'.get? c = some o := fun c o e => hk c o (fun hm => by
      have e1 : c = (s.heap.push { cls := .type "tuple", data := .seq #[.str x t, .str y u] }).objs.size := by simpa using hm
      have lt := Heap.lt_size e
      rw [e1, sz] at lt
      exact Nat.lt_irrefl _ (Nat.lt_of_succ_lt lt)) (Heap.get?_push_of_some _ (Heap.get?_push_of_some _ e))
    have q := h h' tk old
    have e := two_at (bt := fun i j => decide ((if i = 0 then x else y).cps.toList < (if j = 0 then x else y).cps.toList)) hP
    have e2 : v = if y.cps.toList < x.cps.toList then .str y u else .str x t := by
      rw [e]
      simp
    rw [e2]
    exact q
/-! ### text.replace(x, x), one object twice -/
open Builtin Builtin.Str
theorem gives_replace_same (x y : Str) (t u : Tok) (hu : u ≠ 0) : Gives (Builtin.«str.replace» ⟨[.str x t, .str y u, .str y u], []⟩) (.val (.str x t)) := by
  show Gives (if ((occurrences x y 0 x.length (x.length + 1)).isEmpty || (y.length == 0 && y.length == 0)) = true then (do rule "str.replace.nothing"; ret (.str x t)) else
          (do let same ← isSame (.str y u) (.str y u)
              if same = true then (do rule "str.replace.old-is-new"; ret (.str x t)) else
              if tooLong (x.length + (occurrences x y 0 x.length (x.length + 1)).length * y.length) = true then unsupported "str.replace:memory" else
              retStr (glued y (partsBetween x (occurrences x y 0 x.length (x.length + 1)) y.length)))) _
  have e : isSame (.str y u) (.str y u) = pure true := by
    show (if (u == 0 || u == 0) = true then _ else if (u == u) = true then pure true else _ : Sem Bool) = _
    have h0 : (u == 0 || u == 0) = false := by simp [hu]
    rw [h0, if_neg Bool.false_ne_true, if_pos (beq_self_eq_true u)]
  cases hc : ((occurrences x y 0 x.length (x.length + 1)).isEmpty || (y.length == 0 && y.length == 0))
  · rw [e]
    exact .rule (.of_eq rfl)
  · exact .rule (.of_eq rfl)
theorem call_replace_same {x y : Str} {t u : Tok} {Q : Value → Shared → Prop} (hu : u ≠ 0) (hq : Q (.str x t) s) : wpAny (model prog w) A (call (.builtin "str.replace") [.str x t, .str y u, .str y u]) Q E s :=
  call_gives F.slot_str_replace (typeIs_str _ _ _) F.entry_str_replace (F.args_str_replace_3 _ _ _) (gives_replace_same x y t u hu) hq
end
end DL
set_option Elab.async false
set_option linter.all false
set_option maxRecDepth 100000
namespace DL
open PySem PySem.Spec PyProof.Rows L2
section
variable {X : Cx} {pins : List (Addr × Obj)} {σ : L2.St} {H : Hp} {s : Shared} {E : Value → Shared → Prop}
/-- a local name stored; the frame's map told -/
theorem store_at {M : Model} {A : Around} {i : Nat} {x : Str} {v : V} {u : Value} {m : Str → Option Value} {Q : Unit → Shared → Prop} (I : Inv X pins σ H s) (hN : X.N.Nodup) (hi : X.N[i]? = some x) (hk : X.env.scope.names.lookup x = some .local) (r : RelV v u)
    (hn : s.heap.Ns X.env.locals m) (h : ∀ s', Inv X pins (σ.set i (some v)) H s' → s'.heap.Ns X.env.locals (fun y => if y = x then some u else m y) → s.toks ≤ s'.toks → Q () s') : wpAny M A (storeName X.env x u) Q E s := by
  obtain ⟨m0, hn0, hl⟩ := id I.loc
  obtain ⟨oL, esL, epL, hoL, hdL, hfL⟩ := id hn
  have hiσ : i < σ.length := by rw [I.len]; exact (List.getElem?_eq_some_iff.mp hi).1
  have hm0 : m0 = m := by
    obtain ⟨o2, es2, ep2, ho2, hd2, _, hf2⟩ := hn0
    rw [hoL] at ho2
    cases ho2
    rw [hdL] at hd2
    cases hd2
    exact funext fun y => (hf2 y).symm.trans (hfL.2 y)
  subst hm0
  refine wpAny_storeName_local hk hn (fun h' hn' hs => ?_) (by rw [I.ok.kind]; rfl)
  have old : ∀ b o, X.s_0.heap.get? b = some o → b ≠ X.env.locals := fun b o e => Nat.ne_of_lt (Nat.lt_of_lt_of_le (Heap.lt_size e) I.ok.above)
  have other : ∀ b, b ≠ X.env.locals → h'.get? b = s.heap.get? b := fun b hb => hs.2 b hb
  refine h { s with heap := h', toks := s.toks + 1 } ?_ hn' (Nat.le_succ _)
  refine ⟨I.ok, I.os, I.bare, ⟨?_, ?_, I.base.free, ?_, I.base.tups, I.base.frzs, I.base.tbls⟩, ⟨_, hn', ?_⟩, ?_, I.free, I.freeC, ?_, ?_, by simpa using I.len⟩
  · intro b o e n hb hx
    exact (other b (old b o e)).trans (I.base.keep b o e n hb hx)
  · intro b o e n hb hx
    obtain ⟨sl, e1⟩ := I.base.slot b o e n hb hx
    exact ⟨sl, (other b (old b o e)).trans e1⟩
  · intro b o e hx
    obtain ⟨o', e1⟩ := I.base.there b o e hx
    exact ⟨o', (other b (old b o e)).trans e1⟩
  · intro j y v' e1 e2 e3
    by_cases hj : j = i
    · subst hj
      rw [hi] at e1
      cases e1
      rw [List.getElem?_set_self hiσ] at e2
      cases e2
      exact ⟨u, r, .inl ⟨hk, by simp⟩⟩
    · rw [List.getElem?_set_ne (Ne.symm hj)] at e2
      obtain ⟨u', r', q⟩ := hl j y v' e1 e2 e3
      refine ⟨u', r', ?_⟩
      rcases q with ⟨k, e⟩ | ⟨k, c, e, z⟩
      · have ne : y ≠ x := fun e' => hj (nodup_ix hN e1 (e' ▸ hi))
        exact .inl ⟨k, by simp [ne, e]⟩
      · exact .inr ⟨k, c, e, z.sameBut hs (I.cne y c e)⟩
  · intro y c e
    obtain ⟨w', z⟩ := I.cell y c e
    exact ⟨w', z.sameBut hs (I.cne y c e)⟩
  · intro p hp
    obtain ⟨e, n, ne, nf, d⟩ := I.pin p hp
    exact ⟨(other p.1 ne).trans e, n, ne, nf, d⟩
  · intro b ob e
    refine (I.hok b ob e).stay (fun c w' hc q => (other c ?_).trans q) (fun _ q => q) fun _ _ q => q
    rintro rfl
    rcases hc with rfl | hc
    · rw [I.free] at e; cases e
    · rw [I.free] at hc; cases hc
/-- o.f, tokens alone are used -/
theorem quiet_fld {i : Nat} {x f : Str} {p pos : Pos} {a C dx : Addr} {fs : List (Str × V)} {v : V} {Q : Value → Shared → Prop} (hN : X.N[i]? = some x) (hv : Vis X.env.scope x) (I : Inv X pins σ H s) (hσ : σ[i]? = some (some (.ref a)))
    (e : H a = some (.ins C dx fs)) (c : Cls X.K C) (n : NoAttr X.K C f) (l : fs.lookup f = some v) (hb : attributeBase (.Name x p) f X.env (eval (.Name x p) X.env) = eval (.Name x p) X.env)
    (hd : (x == ("__debug__" : Str)) = false) (hcd : (x == ("__classdict__" : Str)) = false)
    (fin : ∀ u k, s.toks ≤ k → RelV v u → Q u { s with toks := k }) : wpAny (model X.prog X.w) X.A (eval (.Attribute (.Name x p) f pos) X.env) Q E s := by
  refine attr_of hb (raw_name hN hv I hσ (fun u r => ?_) hd hcd)
  have e1 : u = Value.ref a := r
  subst e1
  obtain ⟨mA, O, r2, _⟩ := ins_get I.hok e
  obtain ⟨u, hu, ru⟩ := RelO.some_of (v := v) (o := mA f) (by rw [← l]; exact r2 f)
  exact get_map I.kIn O (c.get f) c.hd n hu (handed_of ru) (fin u _ (Nat.le_succ _) ru)
/-- x[k] of a text at a written place -/
theorem quiet_sub {i : Nat} {x : Str} {k : Int} {j : Nat} {cp p1 pos : Pos} {z : Str} {c : Nat} {Q : Value → Shared → Prop} (hN : X.N[i]? = some x) (hv : Vis X.env.scope x) (I : Inv X pins σ H s) (hσ : σ[i]? = some (some (.str z)))
    (h0 : 0 ≤ k) (h63 : k < 2 ^ 63) (hk : k.toNat < z.length) (hc : z.cps[k.toNat]? = some c) (hs : PlainIx (.Constant (.int k) j cp)) (hd : (x == ("__debug__" : Str)) = false) (hcd : (x == ("__classdict__" : Str)) = false)
    (fin : ∀ t m, s.toks ≤ m → Q (.str ⟨#[c]⟩ t) { s with toks := m + 1 }) : wpAny (model X.prog X.w) X.A (eval (.Subscript (.Name x p1) (.Constant (.int k) j cp) pos) X.env) Q E s := by
  refine Subscript_ (raw_name hN hv I hσ (fun v r => ?_) hd hcd)
  obtain ⟨t, rfl⟩ := r
  refine wpAny_Constant_int ?_
  refine tail_any (typeIs_str _ z t) slot_str_getitem.lookup (P.getItem_str (c := c) ?_ ?_ (fin _ _ (Nat.le_succ _))) (hs _ _)
  · have e1 : decide (k < -(2 ^ 63 : Int)) = false := decide_eq_false (by omega)
    have e2 : decide (k ≥ 2 ^ 63) = false := decide_eq_false (by omega)
    rw [e1, e2, Bool.or_false]
  · rw [seqIndex_of h0 (by omega)]
    exact hc
/-- row[o.f.index(x[k])] -/
theorem quiet_item {ir iw it : Nat} {xr xw xt f : Str} {p1 p2 p3 p4 p5 p6 p7 p8 cp : Pos} {k : Int} {j : Nat} {r z y : Str} {c d n0 : Nat} {rest : List Nat} {a C dx : Addr} {fs : List (Str × V)} {Q : Value → Shared → Prop}
    (hNr : X.N[ir]? = some xr) (hvr : Vis X.env.scope xr) (hNw : X.N[iw]? = some xw) (hvw : Vis X.env.scope xw) (hNt : X.N[it]? = some xt) (hvt : Vis X.env.scope xt) (I : Inv X pins σ H s)
    (hr : σ[ir]? = some (some (.str r))) (hw : σ[iw]? = some (some (.ref a))) (ht : σ[it]? = some (some (.str y)))
    (e : H a = some (.ins C dx fs)) (cl : Cls X.K C) (na : NoAttr X.K C f) (l : fs.lookup f = some (.str z)) (h0 : 0 ≤ k) (h63 : k < 2 ^ 63) (hk : k.toNat < y.length) (hc : y.cps[k.toNat]? = some c)
    (ho : Builtin.Str.occurrences z ⟨#[c]⟩ 0 z.length 1 = n0 :: rest) (hl : r.length < 2 ^ 62) (hn : r.cps[n0]? = some d)
    (hb : attributeBase (.Name xw p2) f X.env (eval (.Name xw p2) X.env) = eval (.Name xw p2) X.env := by rfl)
    (hb2 : attributeBase (.Attribute (.Name xw p2) f p3) "index" X.env (eval (.Attribute (.Name xw p2) f p3) X.env) = eval (.Attribute (.Name xw p2) f p3) X.env := by rfl)
    (hfew : ((backTo p7 (starEach [.Subscript (.Name xt p5) (.Constant (.int k) j cp) p6] X.env)).all (fun x => !x.1) && (backToKw p7 (keywordEach [] X.env)).all (fun x => x.1.isSome)
      && decide (([.Subscript (.Name xt p5) (.Constant (.int k) j cp) p6] : List Expr).length + ([] : List Keyword).length + (if ([] : List Keyword).isEmpty then 0 else 1) < 30)) = true := by rfl)
    (hline : (p4.endLine == p7.line) = true := by rfl) (htr : backTo p7 (starEach [.Subscript (.Name xt p5) (.Constant (.int k) j cp) p6] X.env) = [(false, eval (.Subscript (.Name xt p5) (.Constant (.int k) j cp) p6) X.env)] := by rfl)
    (hs : PlainIx (.Constant (.int k) j cp) := by exact fun _ _ => rfl) (hs2 : PlainIx (.Call (.Attribute (.Attribute (.Name xw p2) f p3) "index" p4) [.Subscript (.Name xt p5) (.Constant (.int k) j cp) p6] [] p7) := by exact fun _ _ => rfl)
    (hdr : (xr == ("__debug__" : Str)) = false := by decide) (hcr : (xr == ("__classdict__" : Str)) = false := by decide) (hdw : (xw == ("__debug__" : Str)) = false := by decide) (hcw : (xw == ("__classdict__" : Str)) = false := by decide)
    (hdt : (xt == ("__debug__" : Str)) = false := by decide) (hct : (xt == ("__classdict__" : Str)) = false := by decide)
    (fin : ∀ t, s.toks < t → Q (.str ⟨#[d]⟩ t) { s with toks := t + 1 }) :
    wpAny (model X.prog X.w) X.A (eval (.Subscript (.Name xr p1) (.Call (.Attribute (.Attribute (.Name xw p2) f p3) "index" p4) [.Subscript (.Name xt p5) (.Constant (.int k) j cp) p6] [] p7) p8) X.env) Q E s := by
  refine Subscript_ (raw_name hNr hvr I hr (fun v rv => ?_) hdr hcr)
  obtain ⟨t0, rfl⟩ := rv
  refine wpAny_Call_method_late hb2 hfew hline htr (quiet_fld hNw hvw I hw e cl na l hb hdw hcw fun u k1 hk1 ru => ?_)
  obtain ⟨tz, rfl⟩ := ru
  refine ⟨"str", _, F.plainAttrs_str, F.slot_str_index, F.type_str_index, typeIs_str _ _ _, (fun _ e => nomatch e), Calls.callWith_builtin rfl (Calls.evalArgs_plain (Calls.spliced_cons ?_))⟩
  refine quiet_sub hNt hvt (I.tok k1) ht h0 h63 hk hc hs hdt hct fun t2 m2 hm2 => ?_
  refine Calls.spliced_nil ?_
  refine PySem.SC.index ho ?_
  have hnl : n0 < r.cps.size := (Array.getElem?_eq_some_iff.mp hn).1
  have hrl : r.length = r.cps.size := rfl
  refine tail_any (typeIs_str _ r t0) slot_str_getitem.lookup (P.getItem_str (c := d) ?_ ?_ (fin _ (by
    have h1 : k1 ≤ m2 := hm2
    show s.toks < m2 + 1 + 1
    omega))) (hs2 _ _)
  · have e1 : decide (((n0 : Nat) : Int) < -(2 ^ 63 : Int)) = false := decide_eq_false (by omega)
    have e2 : decide (((n0 : Nat) : Int) ≥ 2 ^ 63) = false := decide_eq_false (by omega)
    rw [e1, e2, Bool.or_false]
  · rw [seqIndex_of (by omega) (by omega)]
    simpa using hn
end
end DL
set_option Elab.async false
set_option linter.all false
set_option maxRecDepth 100000
namespace DL
open PySem PySem.Spec PyProof.Rows L2
section
variable {X : Cx} {pins : List (Addr × Obj)} {σ : L2.St} {H : Hp} {s : Shared} {E : Value → Shared → Prop}
/-- a plain local name whose object the frame's map tells -/
theorem map_name {x : Str} {p : Pos} {m : Str → Option Value} {u : Value} {Q : Value → Shared → Prop} (I : Inv X pins σ H s) (hn : s.heap.Ns X.env.locals m) (hm : m x = some u) (hk : X.env.scope.names.lookup x = some .local) (fin : Q u s)
    (hd : (x == ("__debug__" : Str)) = false) : wpAny (model X.prog X.w) X.A (eval (.Name x p) X.env) Q E s := wpAny_Name (wpAny_loadName_local I.ok.kind hk hn hm fin) hd
theorem ns_kept {h h' : Heap} {a : Addr} {m : Str → Option Value} (n : h.Ns a m) (k : ∀ c o, h.get? c = some o → h'.get? c = some o) : h'.Ns a m := by
  obtain ⟨o, es, ep, e, d⟩ := n
  exact ⟨o, es, ep, k _ _ e, d⟩
/-- what one, other, row hold behind: d0 and d1 the two signs -/
def swapped (r : Str) (d0 d1 : Nat) : Str := if d0 = d1 then r else Txt.replace r ⟨#[max d0 d1]⟩ ⟨#[min d0 d1]⟩
/-- one = row[web.f.index(tie[0])]; other = row[web.f.index(tie[1])]; row = row.replace(max(one, other), min(one, other)) -/
def tSwap (K : PySem.W.Frag) (C : Addr) (f : Str) (ir iw it io iu : Nat) : TS := fun D σ H => ∃ (r z y : Str) (c0 c1 d0 d1 n0 n1 : Nat) (q0 q1 : List Nat) (a dx : Addr) (fs : List (Str × V)),
  σ[ir]? = some (some (.str r)) ∧ σ[iw]? = some (some (.ref a)) ∧ σ[it]? = some (some (.str y)) ∧ H a = some (.ins C dx fs) ∧ fs.lookup f = some (.str z) ∧ y.cps[0]? = some c0 ∧ y.cps[1]? = some c1 ∧
  Builtin.Str.occurrences z ⟨#[c0]⟩ 0 z.length 1 = n0 :: q0 ∧ Builtin.Str.occurrences z ⟨#[c1]⟩ 0 z.length 1 = n1 :: q1 ∧ r.length < 1000 ∧ r.cps[n0]? = some d0 ∧ r.cps[n1]? = some d1 ∧
  D.nx (((σ.set io (some (.str ⟨#[d0]⟩))).set iu (some (.str ⟨#[d1]⟩))).set ir (some (.str (swapped r d0 d1)))) H
theorem lt_one {a b : Nat} : (([a] : List Nat) < [b]) ↔ a < b := by
  constructor
  · intro h
    cases h with
    | rel h => exact h
    | cons h => cases h
  · intro h
    exact .rel h
theorem pss_swap {C : Addr} {f xr xw xt xo xu : Str} {ir iw it io iu : Nat} {pa pb pc : Pos} {a1 a2 a3 a4 a5 a6 a7 a8 a9 ca b1 b2 b3 b4 b5 b6 b7 b8 b9 cb c1 c2 c3 c4 c5 c6 c7 c8 c9 c10 c11 : Pos} {j0 j1 : Nat}
    (cl : Cls X.K C) (na : NoAttr X.K C f) (hc : X.calm = true) (hN : X.N.Nodup) (hNr : X.N[ir]? = some xr) (hNw : X.N[iw]? = some xw) (hNt : X.N[it]? = some xt) (hNo : X.N[io]? = some xo) (hNu : X.N[iu]? = some xu)
    (lr : X.env.scope.names.lookup xr = some .local) (lw : X.env.scope.names.lookup xw = some .local) (lt : X.env.scope.names.lookup xt = some .local) (lo : X.env.scope.names.lookup xo = some .local) (lu : X.env.scope.names.lookup xu = some .local)
    (no : xo ≠ xu) (ior : io ≠ ir) (iow : io ≠ iw) (iot : io ≠ it) (iur : iu ≠ ir)
    (gmx : Gl X "max") (gmn : Gl X "min") (mmx : X.mg "max" = none) (mmn : X.mg "min" = none)
    (hdr : (xr == ("__debug__" : Str)) = false := by decide) (hcr : (xr == ("__classdict__" : Str)) = false := by decide) (hdw : (xw == ("__debug__" : Str)) = false := by decide) (hcw : (xw == ("__classdict__" : Str)) = false := by decide)
    (hdt : (xt == ("__debug__" : Str)) = false := by decide) (hct : (xt == ("__classdict__" : Str)) = false := by decide) (hdo : (xo == ("__debug__" : Str)) = false := by decide) (hdu : (xu == ("__debug__" : Str)) = false := by decide)
    (hb : attributeBase (.Name xw a2) f X.env (eval (.Name xw a2) X.env) = eval (.Name xw a2) X.env := by rfl)
    (hb2 : attributeBase (.Attribute (.Name xw a2) f a3) "index" X.env (eval (.Attribute (.Name xw a2) f a3) X.env) = eval (.Attribute (.Name xw a2) f a3) X.env := by rfl)
    (hfew : ((backTo a7 (starEach [.Subscript (.Name xt a5) (.Constant (.int 0) j0 ca) a6] X.env)).all (fun x => !x.1) && (backToKw a7 (keywordEach [] X.env)).all (fun x => x.1.isSome)
      && decide (([.Subscript (.Name xt a5) (.Constant (.int 0) j0 ca) a6] : List Expr).length + ([] : List Keyword).length + (if ([] : List Keyword).isEmpty then 0 else 1) < 30)) = true := by rfl)
    (hline : (a4.endLine == a7.line) = true := by rfl) (htr : backTo a7 (starEach [.Subscript (.Name xt a5) (.Constant (.int 0) j0 ca) a6] X.env) = [(false, eval (.Subscript (.Name xt a5) (.Constant (.int 0) j0 ca) a6) X.env)] := by rfl)
    (kb : attributeBase (.Name xw b2) f X.env (eval (.Name xw b2) X.env) = eval (.Name xw b2) X.env := by rfl)
    (kb2 : attributeBase (.Attribute (.Name xw b2) f b3) "index" X.env (eval (.Attribute (.Name xw b2) f b3) X.env) = eval (.Attribute (.Name xw b2) f b3) X.env := by rfl)
    (kfew : ((backTo b7 (starEach [.Subscript (.Name xt b5) (.Constant (.int 1) j1 cb) b6] X.env)).all (fun x => !x.1) && (backToKw b7 (keywordEach [] X.env)).all (fun x => x.1.isSome)
      && decide (([.Subscript (.Name xt b5) (.Constant (.int 1) j1 cb) b6] : List Expr).length + ([] : List Keyword).length + (if ([] : List Keyword).isEmpty then 0 else 1) < 30)) = true := by rfl)
    (kline : (b4.endLine == b7.line) = true := by rfl) (ktr : backTo b7 (starEach [.Subscript (.Name xt b5) (.Constant (.int 1) j1 cb) b6] X.env) = [(false, eval (.Subscript (.Name xt b5) (.Constant (.int 1) j1 cb) b6) X.env)] := by rfl)
    (sw1 : swapsWith (.Subscript (.Name xr a1) (.Call (.Attribute (.Attribute (.Name xw a2) f a3) "index" a4) [.Subscript (.Name xt a5) (.Constant (.int 0) j0 ca) a6] [] a7) a8) (some (.Name xo a9)) pa.line X.env = pure false := by rfl)
    (sw2 : swapsWith (.Subscript (.Name xr b1) (.Call (.Attribute (.Attribute (.Name xw b2) f b3) "index" b4) [.Subscript (.Name xt b5) (.Constant (.int 1) j1 cb) b6] [] b7) b8) (some (.Name xu b9)) pb.line X.env = pure false := by rfl)
    (lb : attributeBase (.Name xr c1) "replace" X.env (eval (.Name xr c1) X.env) = eval (.Name xr c1) X.env := by rfl) (lline : (c2.endLine == c9.line) = true := by rfl)
    (ltr : backTo c9 (starEach [.Call (.Name "max" c3) [.Name xo c4, .Name xu c5] [] c6, .Call (.Name "min" c7) [.Name xo c8, .Name xu c10] [] c11] X.env) =
      [(false, eval (.Call (.Name "max" c3) [.Name xo c4, .Name xu c5] [] c6) X.env), (false, eval (.Call (.Name "min" c7) [.Name xo c8, .Name xu c10] [] c11) X.env)] := by rfl)
    (mx : starEach [.Name xo c4, .Name xu c5] X.env = (false, eval (.Name xo c4) X.env) :: starEach [.Name xu c5] X.env := by rfl) (mx2 : (backTo c6 (starEach [.Name xu c5] X.env)).any (·.1) = false := by rfl)
    (mx3 : backTo c6 (starEach [.Name xo c4, .Name xu c5] X.env) = [(false, eval (.Name xo c4) X.env), (false, eval (.Name xu c5) X.env)] := by rfl)
    (mi : starEach [.Name xo c8, .Name xu c10] X.env = (false, eval (.Name xo c8) X.env) :: starEach [.Name xu c10] X.env := by rfl) (mi2 : (backTo c11 (starEach [.Name xu c10] X.env)).any (·.1) = false := by rfl)
    (mi3 : backTo c11 (starEach [.Name xo c8, .Name xu c10] X.env) = [(false, eval (.Name xo c8) X.env), (false, eval (.Name xu c10) X.env)] := by rfl)
    {p9 : Pos}
    (sw3 : swapsWith (.Call (.Attribute (.Name xr c1) "replace" c2) [.Call (.Name "max" c3) [.Name xo c4, .Name xu c5] [] c6, .Call (.Name "min" c7) [.Name xo c8, .Name xu c10] [] c11] [] c9) (some (.Name xr p9)) pc.line X.env = pure false := by rfl) :
    PSs X [.Assign [.Name xo a9] (.Subscript (.Name xr a1) (.Call (.Attribute (.Attribute (.Name xw a2) f a3) "index" a4) [.Subscript (.Name xt a5) (.Constant (.int 0) j0 ca) a6] [] a7) a8) pa,
      .Assign [.Name xu b9] (.Subscript (.Name xr b1) (.Call (.Attribute (.Attribute (.Name xw b2) f b3) "index" b4) [.Subscript (.Name xt b5) (.Constant (.int 1) j1 cb) b6] [] b7) b8) pb,
      .Assign [.Name xr p9] (.Call (.Attribute (.Name xr c1) "replace" c2) [.Call (.Name "max" c3) [.Name xo c4, .Name xu c5] [] c6, .Call (.Name "min" c7) [.Name xo c8, .Name xu c10] [] c11] [] c9) pc] (tSwap X.K C f ir iw it io iu) := by
  refine ⟨fun pins s σ H D I ⟨r, z, y, k0, k1, d0, d1, n0, n1, q0, q1, a, dx, fs, er, ew, et, ea, ef, e0, e1, o0, o1, hl, g0, g1, fin⟩ => ?_⟩
  have hy0 : 0 < y.length := (Array.getElem?_eq_some_iff.mp e0).1
  have hy1 : 1 < y.length := (Array.getElem?_eq_some_iff.mp e1).1
  -- one = ..
  refine wpAny_execs_cons (wpAny_Assign_Name ?_ sw1)
  refine quiet_item (k := 0) (d := d0) hNr (.inl lr) hNw (.inl lw) hNt (.inl lt) I er ew et ea cl na ef (by decide) (by decide) hy0 e0 o0 (by omega) g0 hb hb2 hfew hline htr (hdr := hdr) (hcr := hcr) (hdw := hdw) (hcw := hcw) (hdt := hdt) (hct := hct) (fin := fun t ht => ?_)
  obtain ⟨m0, hn0, _⟩ := id I.loc
  refine store_at (I.tok (t + 1)) hN hNo lo (v := .str ⟨#[d0]⟩) ⟨t, rfl⟩ hn0 fun s1 I1 N1 ht1 => ?_
  -- other = ..
  have er1 : (σ.set io (some (V.str ⟨#[d0]⟩)))[ir]? = some (some (.str r)) := by rw [List.getElem?_set_ne ior]; exact er
  have ew1 : (σ.set io (some (V.str ⟨#[d0]⟩)))[iw]? = some (some (.ref a)) := by rw [List.getElem?_set_ne iow]; exact ew
  have et1 : (σ.set io (some (V.str ⟨#[d0]⟩)))[it]? = some (some (.str y)) := by rw [List.getElem?_set_ne iot]; exact et
  refine wpAny_execs_cons (wpAny_Assign_Name ?_ sw2)
  refine quiet_item (k := 1) (d := d1) hNr (.inl lr) hNw (.inl lw) hNt (.inl lt) I1 er1 ew1 et1 ea cl na ef (by decide) (by decide) hy1 e1 o1 (by omega) g1 kb kb2 kfew kline ktr (hdr := hdr) (hcr := hcr) (hdw := hdw) (hcw := hcw) (hdt := hdt) (hct := hct) (fin := fun t2 ht2 => ?_)
  have htt : t < t2 := by
    have h1 : t + 1 ≤ s1.toks := ht1
    omega
  refine store_at (I1.tok (t2 + 1)) hN hNu lu (v := .str ⟨#[d1]⟩) ⟨t2, rfl⟩ N1 fun s2 I2 N2 ht3 => ?_
  have mo : (fun w => if w = xu then some (Value.str ⟨#[d1]⟩ t2) else (fun w => if w = xo then some (Value.str ⟨#[d0]⟩ t) else m0 w) w) xo = some (Value.str ⟨#[d0]⟩ t) := by
    show (if xo = xu then _ else if xo = xo then _ else _) = _
    rw [if_neg no, if_pos rfl]
  have mu : (fun w => if w = xu then some (Value.str ⟨#[d1]⟩ t2) else (fun w => if w = xo then some (Value.str ⟨#[d0]⟩ t) else m0 w) w) xu = some (Value.str ⟨#[d1]⟩ t2) := by
    show (if xu = xu then _ else _) = _
    rw [if_pos rfl]
  generalize (fun w => if w = xu then some (Value.str ⟨#[d1]⟩ t2) else (fun w => if w = xo then some (Value.str ⟨#[d0]⟩ t) else m0 w) w) = m2 at N2 mo mu
  have er2 : ((σ.set io (some (V.str ⟨#[d0]⟩))).set iu (some (V.str ⟨#[d1]⟩)))[ir]? = some (some (.str r)) := by rw [List.getElem?_set_ne iur]; exact er1
  -- row = row.replace(max(one, other), min(one, other))
  refine wpAny_execs_cons (wpAny_Assign_Name ?_ sw3)
  refine wpAny_Call_method2_late lb lline ltr (raw_name hNr (.inl lr) I2 er2 (fun u ru => ?_) hdr hcr)
  obtain ⟨t0, rfl⟩ := ru
  refine ⟨"str", _, F.plainAttrs_str, F.slot_str_replace, F.type_str_replace, typeIs_str _ _ _, (fun _ e => nomatch e), Calls.callWith_builtin rfl (Calls.evalArgs_plain (Calls.spliced_cons ?_))⟩
  refine wpAny_Call_Name_kw (ld_blt (u := .builtin "max") I2 gmx mmx (by decide +kernel) (PyProof.Rows.callWith_builtin1 ?_ mx mx2) (by decide) (by decide))
  rw [mx3]
  refine Calls.spliced_cons (map_name I2 N2 mo lo (Calls.spliced_cons (map_name I2 N2 mu lu (Calls.spliced_nil ?_) hdu)) hdo)
  refine max_strs (I2.ok.hd hc) fun h3 tk3 kp3 => ?_
  have I3 : Inv X pins _ H { s2 with heap := h3, toks := tk3 } := I2.kept kp3
  have N3 := ns_kept N2 kp3
  refine Calls.spliced_cons ?_
  refine wpAny_Call_Name_kw (ld_blt (u := .builtin "min") I3 gmn mmn (by decide +kernel) (PyProof.Rows.callWith_builtin1 ?_ mi mi2) (by decide) (by decide))
  rw [mi3]
  refine Calls.spliced_cons (map_name I3 N3 mo lo (Calls.spliced_cons (map_name I3 N3 mu lu (Calls.spliced_nil ?_) hdu)) hdo)
  refine min_strs (I3.ok.hd hc) fun h4 tk4 kp4 => ?_
  have I4 : Inv X pins _ H { s2 with heap := h4, toks := tk4 } := I3.kept kp4
  refine Calls.spliced_nil ?_
  have tn : t ≠ 0 := Nat.ne_of_gt (Nat.lt_of_le_of_lt (Nat.zero_le _) ht)
  have tn2 : t2 ≠ 0 := Nat.ne_of_gt (Nat.lt_of_le_of_lt (Nat.zero_le _) ht2)
  have tne : t ≠ t2 := Nat.ne_of_lt htt
  -- the end, whatever text comes back
  have last : ∀ (t' : Tok) (k : Nat), wpAny (model X.prog X.w) X.A (storeName X.env xr (.str (swapped r d0 d1) t')) (fun _ s' => wpAny (model X.prog X.w) X.A (execs [] X.env) (SP X pins D) X.xe s') X.xe { s2 with heap := h4, toks := k } := fun t' k => by
    refine store_ok (v := .str (swapped r d0 d1)) (I4.tok k) hN hNr (.inl lr) ⟨t', rfl⟩ (fun s5 I5 => wpAny_execs_nil ⟨_, H, I5, fin⟩) (.inr lr)
  have c1 : (⟨#[d0]⟩ : Str).cps.toList < (⟨#[d1]⟩ : Str).cps.toList ↔ d0 < d1 := lt_one
  have c2 : (⟨#[d1]⟩ : Str).cps.toList < (⟨#[d0]⟩ : Str).cps.toList ↔ d1 < d0 := lt_one
  by_cases eq : d0 = d1
  · subst eq
    rw [if_neg (fun h => Nat.lt_irrefl _ (c1.mp h))]
    have es : swapped r d0 d0 = r := if_pos rfl
    have l2 := last t0 tk4
    rw [es] at l2
    exact call_replace_same tn l2
  · have hz : r.length + (r.length + 1) * (⟨#[min d0 d1]⟩ : Str).length ≤ 16777216 := by
      have e1 : (⟨#[min d0 d1]⟩ : Str).length = 1 := rfl
      rw [e1]
      omega
    have es : swapped r d0 d1 = Txt.replace r ⟨#[max d0 d1]⟩ ⟨#[min d0 d1]⟩ := if_neg eq
    rw [es] at last
    have hne : ∀ x y : Nat, x ≠ y → ((⟨#[x]⟩ : Str) == ⟨#[y]⟩) = false := fun x y h => by
      rw [beq_eq_false_iff_ne]
      intro e
      exact h (by simpa using e)
    rcases Nat.lt_or_gt_of_ne eq with h | h
    · have e1 : max d0 d1 = d1 := Nat.max_eq_right (Nat.le_of_lt h)
      have e2 : min d0 d1 = d0 := Nat.min_eq_left (Nat.le_of_lt h)
      rw [e1, e2] at last
      rw [e2] at hz
      rw [if_pos (c1.mpr h), if_neg (fun q => Nat.lt_asymm h (c2.mp q))]
      exact PySem.SC.replace tn2 tn (Ne.symm tne) (hne _ _ (by omega)) hz fun t' k => last t' k
    · have e1 : max d0 d1 = d0 := Nat.max_eq_left (Nat.le_of_lt h)
      have e2 : min d0 d1 = d1 := Nat.min_eq_right (Nat.le_of_lt h)
      rw [e1, e2] at last
      rw [e2] at hz
      rw [if_neg (fun q => Nat.lt_asymm h (c1.mp q)), if_pos (c2.mpr h)]
      exact PySem.SC.replace tn tn2 tne (hne _ _ (by omega)) hz fun t' k => last t' k
end
end DL
set_option Elab.async false
set_option linter.all false
set_option maxRecDepth 100000
namespace DL
open PySem PySem.Spec PyProof.Rows L2
section
variable {X : Cx}
/-- one = row[web.f.index(tie[0])]; other = row[web.f.index(tie[1])]; row = row.replace(max(one, other), min(one, other)) -/
def gSwap (C : Addr) (f : Str) (ir iw it io iu : Nat) : GS := fun F δ μ => ∃ (r z y : Str) (c0 c1 d0 d1 n0 n1 : Nat) (q0 q1 : List Nat) (fs : List (Str × D)),
  δ[ir]? = some (some (.str r)) ∧ δ[iw]? = some (some (.ins C fs)) ∧ δ[it]? = some (some (.str y)) ∧ fs.lookup f = some (.str z) ∧ y.cps[0]? = some c0 ∧ y.cps[1]? = some c1 ∧
  Builtin.Str.occurrences z ⟨#[c0]⟩ 0 z.length 1 = n0 :: q0 ∧ Builtin.Str.occurrences z ⟨#[c1]⟩ 0 z.length 1 = n1 :: q1 ∧ r.length < 1000 ∧ r.cps[n0]? = some d0 ∧ r.cps[n1]? = some d1 ∧
  F.nx (((δ.set io (some (.str ⟨#[d0]⟩))).set iu (some (.str ⟨#[d1]⟩))).set ir (some (.str (swapped r d0 d1)))) μ
theorem sim_swap {K : PySem.W.Frag} {C : Addr} {f : Str} {ir iw it io iu : Nat} : SimS K (tSwap K C f ir iw it io iu) (gSwap C f ir iw it io iu) := by
  intro σ H δ μ E F rm rs e ⟨r, z, y, c0, c1, d0, d1, n0, n1, q0, q1, fs, er, ew, et, ef, e0, e1, o0, o1, hl, g0, g1, fin⟩
  obtain ⟨v1, s1, r1⟩ := rs.get er
  unfold Rep at r1
  subst r1
  obtain ⟨v2, s2, r2⟩ := rs.get ew
  unfold Rep at r2
  obtain ⟨a, dx, fv, rfl, h2, n2, rf⟩ := r2
  obtain ⟨v3, s3, r3⟩ := rs.get et
  unfold Rep at r3
  subst r3
  obtain ⟨v4, s4, r4⟩ := rf.look ef
  unfold Rep at r4
  subst r4
  exact ⟨r, z, y, c0, c1, d0, d1, n0, n1, q0, q1, a, dx, fv, s1, s2, s3, h2, s4, e0, e1, o0, o1, hl, g0, g1,
    e.nx _ H _ μ (Kp.refl _ _) rm (((rs.set io (by unfold Rep; rfl)).set iu (by unfold Rep; rfl)).set ir (by unfold Rep; rfl)) fin⟩
end
end DL
set_option Elab.async false
set_option linter.all false
set_option maxRecDepth 100000
namespace DL
open PySem PySem.Spec PyProof.Rows L2
/-! ### zip of two texts -/
def ItZS (x y : Str) : It :=
  ⟨fun i H => i < x.cps.size ∧ i < y.cps.size,
    fun i H v H' => ∃ T c d, v = .ref T ∧ H T = none ∧ H' = upd H T (.tup [.str ⟨#[c]⟩, .str ⟨#[d]⟩]) ∧ x.cps[i]? = some c ∧ y.cps[i]? = some d,
    fun i H => i ≤ x.cps.size ∧ i ≤ y.cps.size ∧ (i = x.cps.size ∨ i = y.cps.size)⟩
theorem turn_zipS {P : Program} {w : World} {K : PySem.W.Frag} {elts : List Expr} {kk : Nat} {tpos : Pos} {x y : Str} {tx ty : Tok} {z TI TO i1 i2 : Addr} (D : ZipSep2 z TI TO i1 i2 [i1] [i2]) :
    Turn P w K (.Tuple elts kk tpos) (ItZS x y) [z, TI, TO, i1, i2] z (fun i h => IsZip h z TI TO .none ∧ IsTupOf2 h TI (.ref i1) (.ref i2) ∧ (∃ a b, IsTupOf2 h TO a b) ∧ h.IsStrIter i1 (strIterType x) x tx i ∧ h.IsStrIter i2 (strIterType y) y ty i) where
  mem := by simp
  obj := fun i h st c hc => by
    obtain ⟨hz, hTI, ⟨x, y, hTO⟩, ⟨o1, e1, _, d1⟩, ⟨o2, e2, _, d2⟩⟩ := st
    have e' : c = z ∨ c = TI ∨ c = TO ∨ c = i1 ∨ c = i2 := by simpa using hc
    rcases e' with q | q | q | q | q
    · rw [q]; exact ⟨_, hz, fun v q => nomatch q⟩
    · rw [q]; exact ⟨_, hTI, fun v q => nomatch q⟩
    · rw [q]; exact ⟨_, hTO, fun v q => nomatch q⟩
    · rw [q]; exact ⟨o1, e1, fun v q => by rw [d1] at q; cases q⟩
    · rw [q]; exact ⟨o2, e2, fun v q => by rw [d2] at q; cases q⟩
  keep := fun i h h' st k => by
    obtain ⟨hz, hTI, ⟨x, y, hTO⟩, ⟨o1, e1, r1⟩, ⟨o2, e2, r2⟩⟩ := st
    exact ⟨k z (by simp) _ hz, k TI (by simp) _ hTI, ⟨x, y, k TO (by simp) _ hTO⟩, ⟨o1, k i1 (by simp) o1 e1, r1⟩, ⟨o2, k i2 (by simp) o2 e2, r2⟩⟩
  item := by
    intro X hP hw hK hc i pins s σ H E I hf st hg
    subst hP hw hK
    obtain ⟨hz, hTI, ⟨x0, y0, hTO⟩, h1, h2⟩ := st
    have hzl : z < s.heap.objs.size := Heap.lt_size hz
    have hh : X.A.in1.handled = none := I.ok.hd hc
    refine wpAny_pyNext_zipD2_item D (Draws.text hh i1 x tx) (Draws.text hh i2 y ty) hz hTI hTO h1 h2 hg.1 hg.2 fun u1 u2 h' tk p1 p2 z' TO' h1' h2' hT hsz hk => ?_
    obtain ⟨c, t1, ec, rfl⟩ := p1
    obtain ⟨d, t2, ed, rfl⟩ := p2
    refine ⟨_, rfl, wpAny_letOwnedTupleGo_zip (s := { s with heap := h', toks := tk }) z' fun h'' z'' sb => ?_⟩
    have hT2 : h''.get? s.heap.objs.size = some { cls := .type "tuple", data := .seq #[.str ⟨#[c]⟩ t1, .str ⟨#[d]⟩ t2] } := (sb.2 _ (Nat.ne_of_gt hzl)).trans hT
    have new : ObjOk X.prog X.w (upd H s.heap.objs.size (.tup [.str ⟨#[c]⟩, .str ⟨#[d]⟩])) h'' s.heap.objs.size (.tup [.str ⟨#[c]⟩, .str ⟨#[d]⟩]) :=
      ⟨by show 2 ≤ sizeLine; decide, [.str ⟨#[c]⟩ t1, .str ⟨#[d]⟩ t2], .cons ⟨t1, rfl⟩ (.cons ⟨t2, rfl⟩ .nil), ⟨_, hT2, rfl, _, rfl⟩⟩
    have I1 : Inv X pins σ (upd H s.heap.objs.size (.tup [.str ⟨#[c]⟩, .str ⟨#[d]⟩])) { s with heap := h'', toks := tk } :=
      I.turnedNew (t' := tk) (ch := [z, TI, TO, i1, i2]) (fun c o hb q => (sb.2 c (fun q' => hb (by simp [q']))).trans (hk c o (fun q' => hb (by simp [q'])) (fun q' => hb (by simp [q'])) (fun q' => hb (by simp [q'])) (fun q' => hb (by simp [q'])) q)) hf (Nat.le_refl _) new
    refine ⟨.ref s.heap.objs.size, _, I1, rfl, ⟨_, c, d, rfl, I.hok.fresh (Nat.le_refl _), rfl, ec, ed⟩, ⟨z'', ?_, ⟨.str ⟨#[c]⟩ t1, .str ⟨#[d]⟩ t2, ?_⟩, ?_, ?_⟩, fun c hcm => ?_⟩
    · exact (sb.2 _ D.TIz).trans (hk _ _ D.TIz D.TITO D.TIi1 D.TIi2 hTI)
    · exact (sb.2 _ D.TOz).trans TO'
    · obtain ⟨o1, e1, r1⟩ := h1'
      exact ⟨o1, (sb.2 _ (Ne.symm D.zi1)).trans e1, r1⟩
    · obtain ⟨o2, e2, r2⟩ := h2'
      exact ⟨o2, (sb.2 _ (Ne.symm D.zi2)).trans e2, r2⟩
    · have hlt : c < s.heap.objs.size := by
        have e' : c = z ∨ c = TI ∨ c = TO ∨ c = i1 ∨ c = i2 := by simpa using hcm
        rcases e' with q | q | q | q | q
        · rw [q]; exact hzl
        · rw [q]; exact Heap.lt_size hTI
        · rw [q]; exact Heap.lt_size hTO
        · rw [q]; obtain ⟨_, e1, _⟩ := h1; exact Heap.lt_size e1
        · rw [q]; obtain ⟨_, e2, _⟩ := h2; exact Heap.lt_size e2
      rw [upd_ne (Nat.ne_of_lt hlt)]
      exact (hf c hcm).1
  done := by
    intro X hP hw hK hc i pins s σ H E I hf st hg
    subst hP hw hK
    obtain ⟨hz, hTI, ⟨x0, y0, hTO⟩, h1, h2⟩ := st
    have hh : X.A.in1.handled = none := I.ok.hd hc
    exact wpAny_pyNext_zipD2_end D (Draws.text hh i1 x tx) (Draws.text hh i2 y ty) hz hTI hTO h1 h2 hg.1 hg.2.1 hg.2.2 fun h' tk hk => ⟨rfl, I.turnedL (t' := tk) (ch := [z, TI, TO, i1, i2]) (fun c o hb q =>
      hk c o (fun q' => hb (by simp [q'])) (fun q' => hb (by simp [q'])) (fun q' => hb (by simp [q'])) (fun q' => hb (by simp [q'])) q) hf⟩
  self := fun A i s Q E st h => wpAny_pyIter_zip st.1 h
def iZipS (ta : TA) : TI := fun σ H R => ta σ H fun vs H1 => ∃ x y, vs = [.str x, .str y] ∧ R (ItZS x y) H1
theorem pi_zipS {X : Cx} {e e2 : Expr} {ta : TA} {p pos tpos : Pos} {elts : List Expr} {kk : Nat} (hg : Gl X "zip") (hm : X.mg "zip" = none) (ha : PA X [e, e2] ta)
    (hs : starEach [e, e2] X.env = (false, eval e X.env) :: starEach [e2] X.env := by rfl) (hpl : (backTo pos (starEach [e2] X.env)).any (·.1) = false := by rfl) :
    PI X (.Tuple elts kk tpos) (.Call (.Name "zip" p) [e, e2] [] pos) (iZipS ta) := by
  refine ⟨fun pins s σ H R I h => ?_⟩
  refine Call_ (ld_blt I hg hm PyProof.Rows.boot_zip (PyProof.Rows.callWith_type1 (thn (ha.run pos pins s σ H _ I h) fun us s1 ⟨vs, H1, I1, r1, q1⟩ => ?_) hs hpl))
  obtain ⟨x, y, ex, q1⟩ := q1
  subst ex
  cases r1 with
  | cons r rr =>
    cases rr with
    | cons r' rr =>
      cases rr
      obtain ⟨tx, rfl⟩ := r
      obtain ⟨ty, rfl⟩ := r'
      have fresh5 : ∀ c, c ∈ [s1.heap.objs.size + 4, s1.heap.objs.size + 2, s1.heap.objs.size + 3, s1.heap.objs.size, s1.heap.objs.size + 1] → FpOk X pins H1 c := fun c hcm => by
        have e' : c = s1.heap.objs.size + 4 ∨ c = s1.heap.objs.size + 2 ∨ c = s1.heap.objs.size + 3 ∨ c = s1.heap.objs.size ∨ c = s1.heap.objs.size + 1 := by simpa using hcm
        have hle : s1.heap.objs.size ≤ c := by
          rcases e' with z | z | z | z | z
          · rw [z]; exact Nat.le_add_right _ _
          · rw [z]; exact Nat.le_add_right _ _
          · rw [z]; exact Nat.le_add_right _ _
          · rw [z]; exact Nat.le_refl _
          · rw [z]; exact Nat.le_add_right _ _
        exact I1.fpOk hle (I1.hok.fresh hle)
      refine zip_begins2 (begins_text x tx) (begins_text y ty) trivial trivial fun h' hz hTI hTO g1 g2 hsz hk => wpAny_pyIter_zip hz ?_
      have I2 : Inv X pins σ H1 { s1 with heap := h' } := I1.kept (t' := s1.toks) hk
      exact ⟨s1.heap.objs.size + 4, [s1.heap.objs.size + 4, s1.heap.objs.size + 2, s1.heap.objs.size + 3, s1.heap.objs.size, s1.heap.objs.size + 1], _, _, H1, rfl, I2,
        turn_zipS (x := x) (y := y) (tx := tx) (ty := ty) (zip_sep2 (fun _ h => by cases h) (fun _ h => by cases h)), ⟨hz, hTI, ⟨_, _, hTO⟩, ⟨_, g1, rfl, rfl⟩, ⟨_, g2, rfl, rfl⟩⟩, fresh5, q1⟩
/-- the pairs of zip -/
def pairsS (x y : Str) : List D := List.zipWith (fun c d => D.tup [.str ⟨#[c]⟩, .str ⟨#[d]⟩]) x.cps.toList y.cps.toList
def gZipS (ga : GA) : GI := fun δ μ R => ga δ μ fun ds μ1 => match ds with
  | [.str x, .str y] => R (pairsS x y) μ1
  | _ => False
theorem walk_zipS {x y : Str} : Walk (ItZS x y) (pairsS x y).length (fun _ => True) (fun i H v H' => ∃ T c d, v = .ref T ∧ H T = none ∧ H' = upd H T (.tup [.str ⟨#[c]⟩, .str ⟨#[d]⟩]) ∧ x.cps[i]? = some c ∧ y.cps[i]? = some d) := by
  have hl : (pairsS x y).length = min x.cps.size y.cps.size := by simp [pairsS]
  refine ⟨fun i _ hi _ => ?_, fun _ _ => ?_, fun _ _ _ _ _ _ q => q⟩
  · rw [hl] at hi
    exact ⟨by omega, by omega⟩
  · rw [hl]
    exact ⟨by omega, by omega, by omega⟩
section
variable {X : Cx} {e e2 : Expr} {ga : GA}
theorem di_zipS {p pos tpos : Pos} {elts : List Expr} {kk : Nat} (hg : Gl X "zip") (hm : X.mg "zip" = none) (h : DA X [e, e2] ga)
    (hs : starEach [e, e2] X.env = (false, eval e X.env) :: starEach [e2] X.env := by rfl) (hpl : (backTo pos (starEach [e2] X.env)).any (·.1) = false := by rfl) :
    DI X (.Tuple elts kk tpos) (.Call (.Name "zip" p) [e, e2] [] pos) (gZipS ga) := by
  obtain ⟨t, a1, a2⟩ := h.ex
  refine ⟨_, pi_zipS hg hm a1 hs hpl, fun σ H δ μ Q R rm rs q f => ?_⟩
  refine a2 σ H δ μ _ _ rm rs q fun vs ds H1 μ1 k1 rm1 r1 q1 => ?_
  match ds, q1, r1 with
  | [.str x, .str y], q1, r1 =>
    obtain ⟨v, w, rfl, r2, r3⟩ := repL2 r1
    unfold Rep at r2 r3
    subst r2 r3
    refine ⟨x, y, rfl, f _ (pairsS x y) H1 μ1 k1 rm1 ?_ q1⟩
    refine walk_zipS.mono (fun _ _ => True.intro) fun i H' v H2 hi _ ⟨T, c, d, ev, nT, e2, ec, ed⟩ μ' k rm => ?_
    subst ev e2
    have nm : μ' T = none := rm.free nT
    have k2 : Kp H' μ' (upd H' T (.tup [.str ⟨#[c]⟩, .str ⟨#[d]⟩])) μ' := Kp.new nT
    refine ⟨.tup [.str ⟨#[c]⟩, .str ⟨#[d]⟩], ?_, ?_, k2, rm.laid nT⟩
    · unfold pairsS
      rw [List.getElem?_zipWith, Array.getElem?_toList, Array.getElem?_toList, ec, ed]
    · unfold Rep
      exact ⟨T, _, rfl, .inl ⟨upd_same, nm⟩, by unfold RepL; exact ⟨_, _, rfl, by unfold Rep; rfl, by unfold RepL; exact ⟨_, _, rfl, by unfold Rep; rfl, RepL.nil⟩⟩⟩
end
end DL
set_option Elab.async false
set_option linter.all false
set_option maxRecDepth 100000
namespace DL
open PySem PySem.Spec PyProof.Rows L2
/-! ### enumerate of a tuple -/
set_option maxHeartbeats 1000000 in
theorem enum_new1 {v : Value} {o : Obj} {H : Heap → Prop} (B : Begins v o H) :
    Meets (Builtin.«enumerate.__new__» ⟨[.type "enumerate", v], []⟩) (fun _ R s => H s.heap ∧
      R (.ok (.ret (.ref (s.heap.push o).objs.size))) { s with heap := (s.heap.push o).push { cls := .type "enumerate", data := .fields #[.none, .bool false, .ref s.heap.objs.size, rawInt 0, .none, .none] } }) :=
  .of_wp fun prog w A R s h => by
    obtain ⟨hp, g, d, tk, os⟩ := s; obtain ⟨h1, h⟩ := h
    have hsub := sub_enumerate
    have q1 : ∀ {A' : Around} {E : Value → Shared → Prop} {Q : Value → Shared → Prop}, Q (.ref hp.objs.size) ⟨hp.push o, g, d, tk, os⟩ → wpAny (model prog w) A' (pyIter v) Q E ⟨hp, g, d, tk, os⟩ :=
      fun q => B.iter prog w _ _ ⟨hp, g, d, tk, os⟩ _ h1 q
    wp_walk using q1
    refine wpAny_stack_any fun st => wpAny_pure ?_
    split
    · rename_i c _ _ _ _ _
      cases (c == Value.type "enumerate")
      · wp_walk using q1
        exact ⟨_, rfl, h⟩
      · wp_walk using q1
        exact ⟨_, rfl, h⟩
    · wp_walk using q1
      exact ⟨_, rfl, h⟩
theorem enum_begins1 {prog : Program} {w : World} {A : Around} {E : Value → Shared → Prop} {s : Shared} {v : Value} {o : Obj} {H : Heap → Prop} {Q : Value → Shared → Prop} (B : Begins v o H) (h1 : H s.heap)
    (h : ∀ h', IsEnum h' (s.heap.objs.size + 1) s.heap.objs.size 0 .none → h'.get? s.heap.objs.size = some o → h'.objs.size = s.heap.objs.size + 2 →
      (∀ b o, s.heap.get? b = some o → h'.get? b = some o) → Q (.ref (s.heap.objs.size + 1)) { s with heap := h' }) :
    wpAny (model prog w) A (call (.type "enumerate") [v]) Q E s := by
  refine callType_new F.called_enumerate (by decide) (F.typeCall_enumerate_1 _) (F.newCall_enumerate_1 _) (fun obj => F.args_object_init_2 obj _) F.entry_enumerate_new
    (enum_new1 B) ⟨h1, ?_⟩
  have hz : (s.heap.push o).objs.size = s.heap.objs.size + 1 := Heap.size_push ..
  show _ ∧ _
  rw [hz]
  have he : IsEnum ((s.heap.push o).push { cls := .type "enumerate", data := .fields #[.none, .bool false, .ref s.heap.objs.size, rawInt 0, .none, .none] }) (s.heap.objs.size + 1) s.heap.objs.size 0 .none := by
    have := Heap.get?_push_size (s.heap.push o) (o := { cls := .type "enumerate", data := .fields #[.none, .bool false, .ref s.heap.objs.size, rawInt 0, .none, .none] }) rfl
    rw [hz] at this; exact this
  exact ⟨⟨_, he, rfl⟩, h _ he (Heap.get?_push_of_some _ (Heap.get?_push_size _ B.free)) (by rw [Heap.size_push, hz]) fun b o x => Heap.get?_push_of_some _ (Heap.get?_push_of_some _ x)⟩
def IteT (K : PySem.W.Frag) (a : Addr) : It :=
  ⟨fun i H => ∃ (xs : List V) (x : V), SqT K H a xs ∧ xs[i]? = some x, fun i H v H' => ∃ T x, v = .ref T ∧ H T = none ∧ H' = upd H T (.tup [.int (i : Nat), x]) ∧ ∀ xs, SqT K H a xs → xs[i]? = some x, fun i H => ∃ xs : List V, SqT K H a xs ∧ xs.length = i⟩
theorem turn_enumT {P : Program} {w : World} {K : PySem.W.Frag} {elts : List Expr} {kk : Nat} {tpos : Pos} (a e it : Addr) :
    Turn P w K (.Tuple elts kk tpos) (IteT K a) [e, it] e (fun i h => (∃ old, IsEnum h e it ((i : Nat) : Int) old) ∧ h.IsTupleIter it a i ∧ e ≠ it ∧ a ≠ it ∧ e ≠ a) where
  mem := by simp
  obj := fun i h st b hb => by
    obtain ⟨⟨old, he⟩, ⟨o, ho, hc, hd⟩, _⟩ := st
    have e' : b = e ∨ b = it := by simpa using hb
    rcases e' with z | z
    · rw [z]; exact ⟨_, he, fun v q => nomatch q⟩
    · rw [z]; exact ⟨o, ho, fun v q => by rw [hd] at q; cases q⟩
  keep := fun i h h' st k => let ⟨⟨old, he⟩, hi, hne⟩ := st; ⟨⟨old, k e (by simp) _ he⟩, hi.at fun o q => k it (by simp) o q, hne⟩
  item := by
    intro X hP hw hK hc i pins s σ H E I hf st hg
    subst hP hw hK
    obtain ⟨⟨old, he⟩, hit, hne, hai, hea⟩ := st
    obtain ⟨xs, x, hq, hx⟩ := hg
    obtain ⟨its, rv, p, hz⟩ := I.tuple hq
    obtain ⟨u, hu, ru⟩ := rv.get hx
    have hel : e < s.heap.objs.size := Heap.lt_size he
    have hil : it < s.heap.objs.size := by obtain ⟨_, q, _⟩ := hit; exact Heap.lt_size q
    have hh : X.A.in1.handled = none := I.ok.hd hc
    have hl : i < its.toArray.size := by simpa using (List.getElem?_eq_some_iff.mp hu).1
    refine wpAny_pyNext_enum_itemD (Draws.tuple hh it a hai its.toArray) he ⟨hit, p⟩ hl hne (by simp [hne, hea]) fun u2 h' tk pu ho hit' hT hsz hk => ?_
    have eu : u2 = u := by
      have : its.toArray[i]? = some u2 := pu
      rw [List.getElem?_toArray, hu] at this
      exact (Option.some.inj this).symm
    subst eu
    refine ⟨_, rfl, wpAny_letOwnedTupleGo_enum (s := { s with heap := h', toks := tk + 1 }) ho fun h'' he' sb => ?_⟩
    have hT2 : h''.get? s.heap.objs.size = some { cls := .type "tuple", data := .seq #[.int i tk, u2] } := (sb.2 _ (Nat.ne_of_gt hel)).trans hT
    have new : ObjOk X.prog X.w (upd H s.heap.objs.size (.tup [.int (i : Nat), x])) h'' s.heap.objs.size (.tup [.int (i : Nat), x]) :=
      ⟨by show 2 ≤ sizeLine; decide, [.int i tk, u2], .cons ⟨_, rfl⟩ (.cons ru .nil), ⟨_, hT2, rfl, _, rfl⟩⟩
    have I1 : Inv X pins σ (upd H s.heap.objs.size (.tup [.int (i : Nat), x])) { s with heap := h'', toks := tk + 1 } :=
      I.turnedNew (ch := [e, it]) (fun b ob hb q => (sb.2 b (fun z => hb (by simp [z]))).trans (hk b ob (fun z => hb (by simp [z])) (fun z => hb (by simp [z])) q)) hf (Nat.le_refl _) new
    refine ⟨.ref s.heap.objs.size, _, I1, rfl, ⟨_, x, rfl, I.hok.fresh (Nat.le_refl _), rfl, fun ys hy => by rw [I.tuple_inj hy hq]; exact hx⟩, ⟨⟨u2, ?_⟩, hit'.1.at fun o q => (sb.2 it (Ne.symm hne)).trans q, hne, hai, hea⟩, fun b hb => ?_⟩
    · have e1 : ((i + 1 : Nat) : Int) = (i : Int) + 1 := by omega
      rw [e1]; exact he'
    · have hb' : b < s.heap.objs.size := by
        have e' : b = e ∨ b = it := by simpa using hb
        rcases e' with z | z
        · rw [z]; exact hel
        · rw [z]; exact hil
      rw [upd_ne (Nat.ne_of_lt hb')]
      exact (hf b hb).1
  done := by
    intro X hP hw hK hc i pins s σ H E I hf st hg
    subst hP hw hK
    obtain ⟨⟨old, he⟩, hit, hne, hai, hea⟩ := st
    obtain ⟨xs, hq, hx⟩ := hg
    obtain ⟨its, rv, p, hz⟩ := I.tuple hq
    obtain ⟨f0, f1, f2, f3, f4, f5⟩ := hf it (by simp)
    have hl : i = its.toArray.size := by
      have := rv.length
      simp; omega
    subst hl
    have hh : X.A.in1.handled = none := I.ok.hd hc
    exact wpAny_pyNext_enum_endD (Draws.tuple hh it a hai its.toArray) he ⟨hit, p⟩ fun h' eb => ⟨rfl, I.turned (t' := s.toks) (fun b o hb q => eb b o hb q) f0 f1 f3 f4 f5⟩
  self := fun A i s Q E st h => let ⟨⟨_, he⟩, _⟩ := st; wpAny_pyIter_enum he h
def iEnumT (K : PySem.W.Frag) (ta : TA) : TI := fun σ H R => ta σ H fun vs H1 => ∃ a xs, vs = [.ref a] ∧ SqT K H1 a xs ∧ R (IteT K a) H1
theorem pi_enumT {X : Cx} {e : Expr} {ta : TA} {p pos tpos : Pos} {elts : List Expr} {kk : Nat} (hg : Gl X "enumerate") (hm : X.mg "enumerate" = none) (ha : PA X [e] ta) (hs : starEach [e] X.env = [(false, eval e X.env)] := by rfl) :
    PI X (.Tuple elts kk tpos) (.Call (.Name "enumerate" p) [e] [] pos) (iEnumT X.K ta) := by
  refine ⟨fun pins s σ H R I h => ?_⟩
  refine Call_ (ld_blt I hg hm boot_enumerate (PyProof.Rows.callWith_type1 (thn (ha.run pos pins s σ H _ I h) fun us s1 ⟨vs, H1, I1, r1, q1⟩ => ?_) hs rfl))
  obtain ⟨a, xs, ex, hq, q⟩ := q1
  subst ex
  cases r1 with
  | cons r rr =>
    cases rr
    cases r
    obtain ⟨its, rv, p', hz⟩ := I1.tuple hq
    have hal : a < s1.heap.objs.size := by obtain ⟨_, z, _⟩ := id p'; exact Heap.lt_size z
    refine enum_begins1 (begins_tuple a its.toArray) p' fun h' he hit hsz hk => wpAny_pyIter_enum he ?_
    have I2 : Inv X pins σ H1 { s1 with heap := h' } := I1.kept (t' := s1.toks) hk
    refine ⟨s1.heap.objs.size + 1, [s1.heap.objs.size + 1, s1.heap.objs.size], _, _, H1, rfl, I2, turn_enumT a (s1.heap.objs.size + 1) s1.heap.objs.size, ⟨⟨.none, he⟩, ⟨_, hit, rfl, rfl⟩, Nat.succ_ne_self _, Nat.ne_of_lt hal, Nat.ne_of_gt (Nat.lt_succ_of_lt hal)⟩, fun b hb => ?_, q⟩
    have e' : b = s1.heap.objs.size + 1 ∨ b = s1.heap.objs.size := by simpa using hb
    have hle : s1.heap.objs.size ≤ b := by
      rcases e' with z | z
      · rw [z]; exact Nat.le_add_right _ _
      · rw [z]; exact Nat.le_refl _
    exact I1.fpOk hle (I1.hok.fresh hle)
/-- i, x of enumerate -/
def numbered (ds : List D) : List D := ds.mapIdx fun i d => D.tup [.int (i : Nat), d]
def gEnumT (ga : GA) : GI := fun δ μ R => ga δ μ fun ds μ1 => match ds with
  | [.tup xs] => R (numbered xs) μ1
  | _ => False
section
variable {X : Cx} {e : Expr} {ga : GA}
theorem di_enumT {p pos tpos : Pos} {elts : List Expr} {kk : Nat} (hg : Gl X "enumerate") (hm : X.mg "enumerate" = none) (h : DA X [e] ga) (hs : starEach [e] X.env = [(false, eval e X.env)] := by rfl) :
    DI X (.Tuple elts kk tpos) (.Call (.Name "enumerate" p) [e] [] pos) (gEnumT ga) := by
  obtain ⟨t, a1, a2⟩ := h.ex
  refine ⟨_, pi_enumT hg hm a1 hs, fun σ H δ μ Q R rm rs q f => ?_⟩
  refine a2 σ H δ μ _ _ rm rs q fun vs ds H1 μ1 k1 rm1 r1 q1 => ?_
  match ds, q1, r1 with
  | [.tup xs], q1, r1 =>
    obtain ⟨v, rfl, r2⟩ := repL1 r1
    unfold Rep at r2
    obtain ⟨a, ys, rfl, im, rl⟩ := r2
    have hl : (numbered xs).length = ys.length := by rw [rl.length]; simp [numbered]
    refine ⟨a, ys, rfl, im.sq, f _ (numbered xs) H1 μ1 k1 rm1 ?_ q1⟩
    refine ⟨fun i H' hi ⟨μ', k, _⟩ => ?_, fun H' ⟨μ', k, _⟩ => ⟨ys, (im.mono k).sq, hl.symm⟩, fun i H' v H2 hi _ y => ?_⟩
    · have h1 : i < ys.length := by rw [← hl]; exact hi
      exact ⟨ys, ys[i], (im.mono k).sq, by simp [h1]⟩
    · intro μ' k rm
      obtain ⟨T, x, rfl, nT, rfl, e4⟩ := y
      have ex := e4 ys (im.mono k).sq
      obtain ⟨d, e3, r3⟩ := (rl.mono k).atV ex
      have nm : μ' T = none := rm.free nT
      have k2 : Kp H' μ' (upd H' T (.tup [.int (i : Nat), x])) μ' := Kp.new nT
      refine ⟨.tup [.int (i : Nat), d], ?_, ?_, k2, rm.laid nT⟩
      · unfold numbered
        rw [List.getElem?_mapIdx, e3]
        rfl
      · unfold Rep
        exact ⟨T, _, rfl, .inl ⟨upd_same, nm⟩, by unfold RepL; exact ⟨_, _, rfl, by unfold Rep; rfl, by unfold RepL; exact ⟨_, _, rfl, r3.mono k2, RepL.nil⟩⟩⟩
end
end DL
set_option Elab.async false
set_option linter.all false
set_option maxRecDepth 100000
namespace DL
open PySem PySem.Spec PyProof.Rows L2
/-! ### sorted of a text -/
theorem strsAre_signs (x : Str) (acc : Array Value) (h : ItemsOf (SignAt x) acc x.cps.size) : StrsAre acc.toList (x.cps.toList.map fun c => (⟨#[c]⟩ : Str)) := by
  have v := signs_vals x acc h
  have key : ∀ (l : List Nat) (us : List Value), Vals (l.map fun c => V.str ⟨#[c]⟩) us → StrsAre us (l.map fun c => (⟨#[c]⟩ : Str)) := by
    intro l
    induction l with
    | nil => intro us v; cases v; exact .nil
    | cons c l ih =>
      intro us v
      cases v with
      | cons r rr =>
        obtain ⟨t, rfl⟩ := r
        exact .cons _ t (ih _ rr)
  exact key _ _ v
theorem sorted_text {prog : Program} {w : World} {A : Around} {E : Value → Shared → Prop} {s : Shared} {x : Str} {t : Tok} {Q : Value → Shared → Prop} (hh : A.handled = none) (hz : x.cps.size ≤ sizeLine)
    (h : ∀ (h1 h2 : Heap) (tk : Nat) (out : Array Value) (n : Nat) (ss' : List Str), (∀ b o, s.heap.get? b = some o → h1.get? b = some o) → (∀ b o, h1.get? b = some o → h2.get? b = some o) → h2.get? h1.objs.size = some (seqObj "list" out n) →
      StrsAre out.toList ss' → ss'.Perm (x.cps.toList.map fun c => (⟨#[c]⟩ : Str)) → sortedS ss' = true → Q (.ref h1.objs.size) { s with heap := h2, toks := tk }) :
    wpAny (model prog w) A (call (.builtin "sorted") [.str x t]) Q E s := by
  refine Calls.call_function_entry kind_sorted plain_sorted entry_sorted (args_sorted1 _) ?_
  unfold Builtin.«sorted»
  refine wpAny_bind (m := checkCount "sorted" 1 1 _) (wpAny_pure ?_)
  refine wpAny_bind (wpAny_collect_str (show A.in1.handled = none from hh) x t (fun s' acc k g d o hi => ?_) hz)
  have es : s' = { s with heap := s'.heap, toks := s'.toks } := by
    cases s'
    cases s
    cases g
    cases d
    cases o
    rfl
  generalize s'.heap = h1 at *
  generalize s'.toks = tk at *
  subst es
  have hS := strsAre_signs x acc hi
  have hl : acc.toList.length ≤ sizeLine := by rw [Array.length_toList, hi.1]; exact hz
  refine wpAny_bind (wpAny_newList ?_)
  have hoL : (h1.push (seqObj "list" acc.toList.toArray 0)).get? h1.objs.size = some (seqObj "list" acc.toList.toArray 0) := Heap.get?_push_size _ rfl
  refine wpAny_bind (wpAny_holding (wpAny_call_entry slot_list_sort ⟨_, hoL, rfl⟩ entry_list_sort (list_sort_treeKAny strKind_oneLt hoL hS.keysOf (fun v₁ v₂ rest e => keyKind_strs (by rw [← e]; exact hS)) hl fun st' hp hs => ⟨_, rfl, ?_⟩) (args_list_sort _)))
  obtain ⟨ss', q1, q2, q3⟩ := sorted_out_str hS hp hs
  obtain ⟨n, hn⟩ := sortedHeap_at (vs := acc.toList) (out := (arrOf st').map (·.2)) hoL
  refine wpAny_pure ⟨_, rfl, h h1 _ tk _ n ss' k (fun b ob e => ?_) hn q1 q2 q3⟩
  have hb := Heap.lt_size e
  rw [sortedHeap_old (Nat.ne_of_lt hb) (by rw [Heap.size_push]; exact Nat.lt_succ_of_lt hb)]
  exact Heap.get?_push_of_some _ e
def rSortedT : List V → Hp → VK → Prop := fun vs H Q => ∃ x : Str, vs = [V.str x] ∧ x.cps.size ≤ sizeLine ∧
  ∀ (ys : List Str) (p : Addr), ys.Perm (x.cps.toList.map fun c => (⟨#[c]⟩ : Str)) → sortedS ys = true → H p = none → Q (.ref p) (upd H p (.lst (ys.map V.str)))
theorem cr_sortedT {X : Cx} (hc : X.calm = true) : CallR X (.builtin "sorted") rSortedT := by
  intro pins s σ H vs us Q I r h
  obtain ⟨x, rfl, hz, q⟩ := h
  obtain ⟨u, rfl, t, rfl⟩ := vals1 r
  refine sorted_text (I.ok.hd hc) hz fun h1 h2 tk out n ss' k1 k2 ho hS hp hs => ?_
  have I1 : Inv X pins σ H { s with heap := h1, toks := tk } := I.kept (t' := tk) k1
  have hlen : (ss'.map V.str).length ≤ sizeLine := by rw [List.length_map, hp.length_eq, List.length_map, Array.length_toList]; exact hz
  exact ⟨.ref _, upd H h1.objs.size (.lst (ss'.map V.str)), I1.laid (t' := tk) k2 (Nat.le_refl _) ⟨hlen, out.toList, n, vals_of_strs hS, ho⟩, rfl, q ss' _ hp hs (I1.hok.fresh (Nat.le_refl _))⟩
def gSortedT1 : G1 := fun x μ R => match x with
  | .str z => z.cps.size ≤ sizeLine ∧ ∀ ys : List Str, ys.Perm (z.cps.toList.map fun c => (⟨#[c]⟩ : Str)) → sortedS ys = true → R (.lst (List.map D.str ys)) μ
  | _ => False
theorem sim_sortedT {K : PySem.W.Frag} : SimC K rSortedT (g1 gSortedT1) := sim_g1 fun v d H μ Q R rm rv q f => by
  cases d <;> try exact False.elim q
  exact ⟨_, by rw [rep_str rv], q.1, fun ys p hp hs n => fw_lst rm n (RepL.of_strs ys) (q.2 ys hp hs) f⟩
end DL
set_option Elab.async false
set_option linter.all false
set_option maxRecDepth 100000
namespace DL
open PySem PySem.Spec PyProof.Rows L2
/-! ### the order of lists of ints -/
def ltI : List Int → List Int → Bool
  | [], [] => false
  | [], _ :: _ => true
  | _ :: _, [] => false
  | x :: xs, y :: ys => if x = y then ltI xs ys else decide (x < y)
theorem ltI_asym : ∀ a b, ltI a b = true → ltI b a = false
  | [], [], h => by cases h
  | [], _ :: _, _ => rfl
  | _ :: _, [], h => by cases h
  | x :: xs, y :: ys, h => by
    unfold ltI at h ⊢
    by_cases e : x = y
    · rw [if_pos e] at h
      rw [if_pos e.symm]
      exact ltI_asym xs ys h
    · rw [if_neg e] at h
      rw [if_neg (Ne.symm e)]
      have := of_decide_eq_true h
      exact decide_eq_false (by omega)
theorem ltI_tr : ∀ x y z, ltI y x = false → ltI z y = false → ltI z x = false
  | [], [], z, _, h => h
  | [], _ :: _, [], _, h => by cases h
  | [], _ :: _, _ :: _, _, _ => rfl
  | _ :: _, [], _, h, _ => by cases h
  | _ :: _, _ :: _, [], _, h => by cases h
  | x :: xs, y :: ys, z :: zs, h1, h2 => by
    unfold ltI at h1 h2 ⊢
    by_cases e1 : y = x
    · rw [if_pos e1] at h1
      by_cases e2 : z = y
      · rw [if_pos e2] at h2
        rw [if_pos (e2.trans e1)]
        exact ltI_tr xs ys zs h1 h2
      · rw [if_neg e2] at h2
        have h3 := of_decide_eq_false h2
        rw [if_neg (by omega)]
        exact decide_eq_false (by omega)
    · rw [if_neg e1] at h1
      have h3 := of_decide_eq_false h1
      by_cases e2 : z = y
      · rw [if_neg (by omega)]
        exact decide_eq_false (by omega)
      · rw [if_neg e2] at h2
        have h4 := of_decide_eq_false h2
        rw [if_neg (by omega)]
        exact decide_eq_false (by omega)
theorem ltI_anti : ∀ a b, ltI a b = false → ltI b a = false → a = b
  | [], [], _, _ => rfl
  | [], _ :: _, h, _ => by cases h
  | _ :: _, [], _, h => by cases h
  | x :: xs, y :: ys, h1, h2 => by
    unfold ltI at h1 h2
    by_cases e : x = y
    · rw [if_pos e] at h1
      rw [if_pos e.symm] at h2
      rw [e, ltI_anti xs ys h1 h2]
    · rw [if_neg e] at h1
      rw [if_neg (Ne.symm e)] at h2
      have h3 := of_decide_eq_false h1
      have h4 := of_decide_eq_false h2
      omega
theorem swo_ltI (k : Value → List Int) : SrtO.Swo fun v u => ltI (k v) (k u) := ⟨fun x y => ltI_asym (k x) (k y), fun x y z => ltI_tr (k x) (k y) (k z)⟩
section
variable {prog : Program} {w : World} {A : Around} {E : Value → Shared → Prop} {s : Shared}
theorem kat_ints {Q : Bool → Shared → Prop} {fin : Bool} : ∀ {us vs : List Value} {ns ms : List Int} (i : Nat), IntsAre us ns → IntsAre vs ms → fin = decide (ns.length < ms.length) → Q (ltI ns ms) s → PySem.W.KatLex prog w A true fin Q (us.zip vs) i s := by
  intro us
  induction us with
  | nil =>
    intro vs ns ms i h1 h2 hf hq
    cases h1
    subst hf
    cases h2 with
    | nil => exact PySem.W.kat_nil hq
    | cons y t r => exact PySem.W.kat_nil hq
  | cons u us ih =>
    intro vs ns ms i h1 h2 hf hq
    cases h1 with
    | cons x t r1 =>
      cases h2 with
      | nil =>
        subst hf
        exact PySem.W.kat_nil hq
      | cons y t2 r2 =>
        rename_i ns' vs' ms'
        refine PySem.W.kat_cons (SeqAt.EqAt.int_int x t y t2 prog w _ _ ?_)
        refine PySem.W.kat_go (fun e1 => ?_) (fun e1 => ?_)
        · have e : x = y := by simpa using e1
          refine PySem.W.kat_yes (ih (i + 1) r1 r2 ?_ ?_)
          · subst hf
            simp
          · have e3 : ltI (x :: ns') (y :: ms') = ltI ns' ms' := if_pos e
            rw [← e3]
            exact hq
        · have e : ¬ x = y := by simpa using e1
          have e3 : ltI (x :: ns') (y :: ms') = decide (x < y) := if_neg e
          refine PySem.W.kat_no (TS.oneLt_ints _ ?_)
          rw [← e3]
          exact hq
theorem lexAt_shift {e r : Nat → Bool} {z : Bool} : ∀ (k i : Nat), Ob.lexAt (fun j => e (j + 1)) (fun j => r (j + 1)) z i k = Ob.lexAt e r z (i + 1) k
  | 0, i => rfl
  | k + 1, i => by
    unfold Ob.lexAt
    rw [lexAt_shift k (i + 1)]
theorem lexAt_ltI : ∀ ns ms : List Int, Ob.lexAt (fun j => decide (ns.getD j 0 = ms.getD j 0)) (fun j => decide (ns.getD j 0 < ms.getD j 0)) (decide (ns.length < ms.length)) 0 (min ns.length ms.length) = ltI ns ms
  | [], [] => rfl
  | [], _ :: _ => by
    show decide (0 < _ + 1) = true
    exact decide_eq_true (Nat.succ_pos _)
  | x :: xs, [] => by
    rw [show min (x :: xs).length ([] : List Int).length = 0 by simp]
    rfl
  | x :: xs, y :: ys => by
    have hm : min (x :: xs).length (y :: ys).length = min xs.length ys.length + 1 := by
      simp only [List.length_cons]
      omega
    have hl : decide ((x :: xs).length < (y :: ys).length) = decide (xs.length < ys.length) := by simp
    rw [hm, hl, Ob.lexAt_succ]
    rw [← lexAt_shift]
    have ih := lexAt_ltI xs ys
    show (if decide (x = y) = true then Ob.lexAt (fun j => decide (xs.getD j 0 = ys.getD j 0)) (fun j => decide (xs.getD j 0 < ys.getD j 0)) _ 0 _ else decide (x < y)) = _
    rw [ih]
    unfold ltI
    by_cases e : x = y
    · rw [if_pos (decide_eq_true e), if_pos e]
      conv => rhs; unfold ltI
    · rw [if_neg (by simp [e]), if_neg e]
/-- tuples of ints of one type: as their lists of ints -/
theorem one_ints {Q : Bool → Shared → Prop} {l b : Addr} {us vs : Array Value} {ns ms : List Int} (hl : s.heap.IsTuple l us) (hb : s.heap.IsTuple b vs) (i1 : IntsAre us.toList ns) (i2 : IntsAre vs.toList ms) (hu : A.units < cLine) (h : Q (ltI ns ms) s) :
    wpAny (model prog w) A (oneLt' true (.ref l) (.ref b)) Q E s := by
  rw [oneLt'_eq]
  simp only [if_true]
  refine wpAny_bind (wpAny_cRoomFor hu ?_)
  have e1 : us.size = ns.length := by rw [← i1.length, Array.length_toList]
  have e2 : vs.size = ms.length := by rw [← i2.length, Array.length_toList]
  have at1 : ∀ j (h1 : j < us.size), ∃ t, us[j] = .int (ns.getD j 0) t := fun j h1 => PyProof.Rows.IntsAre.int_at i1 _ _ (by simp [h1])
  have at2 : ∀ j (h1 : j < vs.size), ∃ t, vs[j] = .int (ms.getD j 0) t := fun j h1 => PyProof.Rows.IntsAre.int_at i2 _ _ (by simp [h1])
  have he : ∀ j (h1 : j < us.size) (h2 : j < vs.size), SeqAt.EqAt A.in1 s us[j] vs[j] ((fun j => decide (ns.getD j 0 = ms.getD j 0)) j) := fun j h1 h2 => by
    obtain ⟨t, et⟩ := at1 j h1
    obtain ⟨t', et'⟩ := at2 j h2
    rw [et, et']
    have z : (ns.getD j 0 == ms.getD j 0) = decide (ns.getD j 0 = ms.getD j 0) := by
      by_cases q : ns.getD j 0 = ms.getD j 0
      · rw [decide_eq_true q]; exact beq_iff_eq.mpr q
      · rw [decide_eq_false q]; exact beq_eq_false_iff_ne.mpr q
    show SeqAt.EqAt _ _ _ _ (decide (ns.getD j 0 = ms.getD j 0))
    rw [← z]
    exact SeqAt.EqAt.int_int _ _ _ _
  have hr : ∀ j (h1 : j < us.size) (h2 : j < vs.size), (fun j => decide (ns.getD j 0 = ms.getD j 0)) j = false → Ob.RcOp .Lt A.in1 s us[j] vs[j] ((fun j => decide (ns.getD j 0 < ms.getD j 0)) j) := fun j h1 h2 _ => by
    obtain ⟨t, et⟩ := at1 j h1
    obtain ⟨t', et'⟩ := at2 j h2
    rw [et, et']
    exact Ob.RcOp.lt_int _ _ _ _
  obtain ⟨⟨cls, dd, data, sl⟩, ho, hc, n, hd⟩ := id hl
  obtain ⟨⟨cls2, dd2, data2, sl2⟩, ho2, hc2, n2, hd2⟩ := id hb
  simp only at hc hd hc2 hd2
  subst hc hd hc2 hd2
  refine wpAny_bind (wpAny_callSpecialIfBound?_slot (name := Str.ofString "__lt__") ⟨_, ho, rfl⟩ F.slot_tuple_lt (call_meets F.slot_tuple_lt ⟨_, ho, rfl⟩ F.entry_tuple_lt (F.args_tuple_lt_2 _ _)
    (Ob.tuple_ltAt l b us vs n n2 dd dd2 sl sl2 _ _) ⟨ho, ho2, he, hr, ?_⟩))
  have lx := lexAt_ltI ns ms
  rw [← e1, ← e2] at lx
  rw [lx]
  exact wpAny_truthy_bool h
/-- the i-th is a tuple of the i-th ints -/
def TupsI (h : Heap) : List Value → List (List Int) → Prop
  | [], [] => True
  | v :: vs, ns :: r => TS.TupInts h v ns ∧ TupsI h vs r
  | _, _ => False
theorem firsts_any : ∀ (vs : List Value) (nss : List (List Int)) {Q : List (Option Value) → Shared → Prop}, TupsI s.heap vs nss → (∀ fs : List (Option Value), fs.map (·.isSome) = nss.map (fun ns => !ns.isEmpty) → Q fs s) → wpAny (model prog w) A (vs.mapM firstOfTuple') Q E s
  | [], [], _, _, h => by rw [List.mapM_nil]; exact wpAny_pure (h [] rfl)
  | [], _ :: _, _, t, _ => t.elim
  | _ :: _, [], _, t, _ => t.elim
  | v :: vs, ns :: nss, Q, t, h => by
    obtain ⟨⟨a, xs, rfl, hT, hi⟩, t⟩ := t
    obtain ⟨o, ho, hc, n, hd⟩ := hT
    rw [List.mapM_cons]
    refine wpAny_bind ?_
    rw [PySem.W.kas_first_eq]
    have hc' : o.cls = .type "tuple" := hc
    refine wpAny_bind (PySem.W.Looks.here (show PySem.W.Looks (model prog w) s.heap (typeOf (.ref a)) o.cls from (PySem.W.Looks.ld ho).andThen .now) ?_)
    rw [hc', if_neg (by first | decide | simp)]
    refine wpAny_bind (listItems_at ho hd (wpAny_pure ?_))
    refine wpAny_bind (firsts_any vs nss (Q := fun bs s' => wpAny (model prog w) A (pure (xs[0]? :: bs)) Q E s') t fun fs hf => wpAny_pure (h _ ?_))
    rw [List.map_cons, List.map_cons, hf]
    congr 1
    rw [← Array.getElem?_toList]
    generalize xs.toList = l at hi ⊢
    cases hi with
    | nil => rfl
    | cons x t r => rfl
theorem firsts_ints {h : Heap} : ∀ {vs : List Value} {nss : List (List Int)}, TupsI h vs nss → (∀ ns ∈ nss, ns ≠ []) → ∃ fs, PySem.W.KatTups h vs fs ∧ fs.length = vs.length ∧ ∀ f ∈ fs, ∃ x t, f = .int x t
  | [], [], _, _ => ⟨[], PySem.W.KatTups.nil, rfl, fun f hf => by cases hf⟩
  | v :: vs, ns :: nss, t, hn => by
    obtain ⟨⟨a, xs, rfl, hT, hi⟩, t⟩ := t
    obtain ⟨fs, h1, h2, h3⟩ := firsts_ints t fun m hm => hn m (List.mem_cons_of_mem _ hm)
    obtain ⟨o, ho, hc, n, hd⟩ := hT
    have hne := hn ns List.mem_cons_self
    have e : ∃ x t, xs.toList[0]? = some (.int x t) := by
      generalize xs.toList = l at hi ⊢
      cases hi with
      | nil => exact absurd rfl hne
      | cons x t r => exact ⟨x, t, rfl⟩
    obtain ⟨x, t, e⟩ := e
    refine ⟨.int x t :: fs, PySem.W.KatTups.cons ho hc hd (by rw [← Array.getElem?_toList]; exact e) h1, by rw [List.length_cons, List.length_cons, h2], fun f hf => ?_⟩
    rcases List.mem_cons.mp hf with e | hf
    · exact ⟨x, t, e⟩
    · exact h3 f hf
theorem TupsI.all {h : Heap} : ∀ {vs : List Value} {nss : List (List Int)}, TupsI h vs nss → ∀ v ∈ vs, ∃ ns ∈ nss, TS.TupInts h v ns
  | [], [], _, v, hv => by cases hv
  | v :: vs, ns :: nss, t, u, hu => by
    rcases List.mem_cons.mp hu with rfl | hu
    · exact ⟨ns, List.mem_cons_self, t.1⟩
    · obtain ⟨ms, h1, h2⟩ := TupsI.all t.2 u hu
      exact ⟨ms, List.mem_cons_of_mem _ h1, h2⟩
theorem TupsI.length {h : Heap} : ∀ {vs : List Value} {nss : List (List Int)}, TupsI h vs nss → vs.length = nss.length
  | [], [], _ => rfl
  | v :: vs, ns :: nss, t => by rw [List.length_cons, List.length_cons, TupsI.length t.2]
theorem kind_tups {vs : List Value} {nss : List (List Int)} {Q : SortKind → Shared → Prop} (t : TupsI s.heap vs nss) (h : (∀ ns ∈ nss, ns ≠ []) ∨ nss.head? = some []) (hne : 0 < vs.length)
    (h1 : (∀ ns ∈ nss, ns ≠ []) → Q (tuples' true) s) (h2 : nss.head? = some [] → Q oneType' s) : wpAny (model prog w) A (keyKind' vs.toArray) Q E s := by
  rcases h with h | h
  · obtain ⟨fs, q1, q2, q3⟩ := firsts_ints t h
    refine PySem.W.kat_kind (T := .type "int") q1 (by omega) (fun f hm => ?_) (by rfl) ?_
    · obtain ⟨x, t, rfl⟩ := q3 f hm
      exact PySem.W.Looks.now
    · have e : (Value.type "int" != Value.type "tuple") = true := by first | decide +kernel | rfl | decide
      rw [e]
      exact h1 h
  · rw [kat_kind_eq, List.mapM_toArray, map_eq_pure_bind]
    refine wpAny_bind (wpAny_bind (firsts_any vs nss t fun fs hf => wpAny_pure ?_))
    match nss, h, t with
    | [] :: nss, h, t =>
      match fs, hf with
      | f :: fs, hf =>
        rw [List.map_cons, List.map_cons] at hf
        injection hf with hf0 hf
        have hf0' : f = none := by
          cases f with
          | none => rfl
          | some u => cases hf0
        subst hf0'
        rw [if_neg (by simp), if_neg (by simp)]
        rw [oneTypeOnly'_eq, List.mapM_toArray, map_eq_pure_bind]
        refine wpAny_bind (wpAny_bind (wpAny_bind (PySem.W.kas_mapM (r := .type "tuple") _ (fun v hv Q' hq => ?_) (wpAny_pure ?_))))
        · obtain ⟨ns, _, a, xs, rfl, ⟨o, ho, hc, n, hd⟩, hi⟩ := TupsI.all t v hv
          have hc' : o.cls = .type "tuple" := hc
          refine PySem.W.Looks.here (show PySem.W.Looks (model prog w) s.heap (typeOf (.ref a)) o.cls from (PySem.W.Looks.ld ho).andThen .now) ?_
          rw [hc']
          exact hq
        · match vs, hne with
          | v :: vs, hne =>
            have hall : ((List.map (fun _ => Value.type "tuple") (v :: vs)).toArray.all fun x => x == Value.type "tuple") = true := by
              simp only [List.all_toArray, List.all_map, List.all_eq_true]
              intro _ _
              rfl
            have h0 : (List.map (fun _ => Value.type "tuple") (v :: vs)).toArray[0]? = some (Value.type "tuple") := by simp
            rw [h0]
            simp only [hall, if_true]
            exact wpAny_pure (wpAny_pure (h2 rfl))
theorem cmp_tups1 {vs : List Value} {k : Value → List Int} (hp : ∀ v ∈ vs, TS.TupInts s.heap v (k v)) : SrtO.Cmp prog w A s (tuples' true) (fun p => p.1 ∈ vs) (SrtO.lt2 fun v u => ltI (k v) (k u)) := by
  intro p q hm hm'
  have h1 := hp _ hm
  have h2 := hp _ hm'
  show wpAny (model prog w) A (keyLt' (tuples' true) p.1 q.1) (fun r s' => s' = s ∧ r = ltI (k p.1) (k q.1)) (fun _ _ => False) s
  generalize k p.1 = ns at h1 ⊢
  generalize k q.1 = ms at h2 ⊢
  obtain ⟨a, xs, e, ⟨o, ho, hc, n, hd⟩, hi⟩ := h1
  obtain ⟨a', xs', e', ⟨o', ho', hc', n', hd'⟩, hi'⟩ := h2
  rw [e, e']
  refine PySem.W.kat_lt ho hd ho' hd' ?_
  refine kat_ints 0 hi hi' ?_ ⟨rfl, rfl⟩
  rw [← hi.length, ← hi'.length, Array.length_toList, Array.length_toList]
theorem cmp_tups2 {vs : List Value} {k : Value → List Int} (hu : A.units < cLine) (hp : ∀ v ∈ vs, TS.TupInts s.heap v (k v)) : SrtO.Cmp prog w A s oneType' (fun p => p.1 ∈ vs) (SrtO.lt2 fun v u => ltI (k v) (k u)) := by
  intro p q hm hm'
  have h1 := hp _ hm
  have h2 := hp _ hm'
  show wpAny (model prog w) A (keyLt' oneType' p.1 q.1) (fun r s' => s' = s ∧ r = ltI (k p.1) (k q.1)) (fun _ _ => False) s
  generalize k p.1 = ns at h1 ⊢
  generalize k q.1 = ms at h2 ⊢
  obtain ⟨a, xs, e, hT, hi⟩ := h1
  obtain ⟨a', xs', e', hT', hi'⟩ := h2
  rw [e, e', keyLt'_oneType]
  exact one_ints hT hT' hi hi' hu ⟨rfl, rfl⟩
theorem tup_keeps {h h' : Heap} {v : Value} {ns : List Int} (k : ∀ b o, h.get? b = some o → o.cls = .type "tuple" → h'.get? b = some o) (t : TS.TupInts h v ns) : TS.TupInts h' v ns := by
  obtain ⟨a, xs, e, ⟨o, ho, hc, n, hd⟩, hi⟩ := t
  exact ⟨a, xs, e, ⟨o, k a o ho hc, hc, n, hd⟩, hi⟩
theorem tups_keeps {h h' : Heap} (k : ∀ b o, h.get? b = some o → o.cls = .type "tuple" → h'.get? b = some o) : ∀ {vs : List Value} {nss : List (List Int)}, TupsI h vs nss → TupsI h' vs nss
  | [], [], _ => True.intro
  | v :: vs, ns :: nss, t => ⟨tup_keeps k t.1, tups_keeps k t.2⟩
theorem sorted_tups {l : Addr} {vs : List Value} {nss : List (List Int)} {k : Value → List Int} {Q : Value → Shared → Prop} (hu : A.units + 64 < cLine) (hl : s.heap.IsList l vs.toArray) (hz : vs.length ≤ sizeLine) (t : TupsI s.heap vs nss) (hp : ∀ v ∈ vs, TS.TupInts s.heap v (k v))
    (hd : (∀ ns ∈ nss, ns ≠ []) ∨ nss.head? = some [])
    (h : ∀ out : List Value, SrtO.Srtd (fun v u => ltI (k v) (k u)) out → SrtO.Stb (fun v u => ltI (k v) (k u)) out vs → Q (.ref (s.heap.objs.size + 1)) { s with heap := sortedAll s.heap vs out.toArray }) :
    wpAny (model prog w) A (call (.builtin "sorted") [.ref l]) Q E s := by
  refine SrtO.sorted_ord (swo_ltI k) hl hz (fun h2 h₁ a ha kk => ?_) h
  intro h' keep
  have kp : ∀ b o, s.heap.get? b = some o → o.cls = .type "tuple" → h'.get? b = some o := fun b o e c => keep b o (kk b o e).1 (kk b o e).2
  have t' : TupsI h' vs nss := tups_keeps kp t
  have hp' : ∀ v ∈ vs, TS.TupInts h' v (k v) := fun v hv => tup_keeps kp (hp v hv)
  by_cases hc : nss.head? = some []
  · refine ⟨oneType', fun Q E hq => kind_tups (s := { s with heap := h' }) t' (.inr hc) (by omega) (fun hh => ?_) (fun _ => hq), cmp_tups2 (s := { s with heap := h' }) (show A.units + 1 + 1 < cLine by omega) hp'⟩
    match nss, hc, hh with
    | ns :: nss, hc, hh =>
      have e : ns = [] := by simpa using hc
      exact absurd e (hh ns List.mem_cons_self)
  · exact ⟨tuples' true, fun Q E hq => kind_tups (s := { s with heap := h' }) t' (.inl (hd.resolve_right hc)) (by omega) (fun _ => hq) (fun hh => absurd hh hc), cmp_tups1 (s := { s with heap := h' }) hp'⟩
end
end DL
set_option Elab.async false
set_option linter.all false
set_option maxRecDepth 100000
namespace DL
open PySem PySem.Spec PyProof.Rows L2
/-! ### sorted of tuples of ints -/
theorem ints_same : ∀ {us : List Value} {ns ms : List Int}, IntsAre us ns → IntsAre us ms → ns = ms
  | _, _, _, .nil, .nil => rfl
  | _, _, _, .cons x t r, h => by
    cases h with
    | cons y t r' => rw [ints_same r r']
theorem tup_same {h : Heap} {v : Value} {ns ms : List Int} (a : TS.TupInts h v ns) (b : TS.TupInts h v ms) : ns = ms := by
  obtain ⟨t, xs, rfl, ⟨o, ho, hc, n, hd⟩, hi⟩ := a
  obtain ⟨t', xs', e, ⟨o', ho', hc', n', hd'⟩, hi'⟩ := b
  cases e
  rw [ho] at ho'
  cases ho'
  rw [hd] at hd'
  cases hd'
  exact ints_same hi hi'
open Classical in
noncomputable def keyT (h : Heap) (v : Value) : List Int := if q : ∃ ns, TS.TupInts h v ns then q.choose else []
theorem keyT_is {h : Heap} {v : Value} {ns : List Int} (t : TS.TupInts h v ns) : keyT h v = ns := by
  have q : ∃ ns, TS.TupInts h v ns := ⟨ns, t⟩
  unfold keyT
  rw [dif_pos q]
  exact tup_same q.choose_spec t
def TupIs (K : PySem.W.Frag) (H : Hp) : List V → List (List Int) → Prop
  | [], [] => True
  | x :: xs, ns :: r => TupI K H x ns ∧ TupIs K H xs r
  | _, _ => False
theorem TupIs.has {K : PySem.W.Frag} {H : Hp} : ∀ {xs : List V} {nss : List (List Int)}, TupIs K H xs nss → ∀ x ∈ xs, ∃ ns, TupI K H x ns
  | [], [], _, x, hx => by cases hx
  | y :: xs, ns :: r, t, x, hx => by
    rcases List.mem_cons.mp hx with rfl | hx
    · exact ⟨ns, t.1⟩
    · exact TupIs.has t.2 x hx
section
variable {X : Cx} {pins : List (Addr × Obj)} {σ : L2.St} {H : Hp} {s : Shared}
theorem tupsI_of (I : Inv X pins σ H s) : ∀ {us : List Value} {nss : List (List Int)}, (∀ u ∈ us, ∃ a, u = Value.ref a) → TupIs X.K H (us.map bkV) nss → TupsI s.heap us nss
  | [], [], _, _ => True.intro
  | u :: us, ns :: r, h, t => by
    obtain ⟨a, rfl⟩ := h u List.mem_cons_self
    obtain ⟨⟨t', e, ht⟩, t2⟩ := t
    have e' : V.ref a = V.ref t' := e
    cases e'
    exact ⟨tupI_raw I ht, tupsI_of I (fun v hv => h v (List.mem_cons_of_mem _ hv)) t2⟩
  | [], _ :: _, _, t => t.elim
  | _ :: _, [], _, t => t.elim
def rSortI (K : PySem.W.Frag) : List V → Hp → VK → Prop := fun vs H Q => ∃ (a : Addr) (xs : List V) (nss : List (List Int)), vs = [V.ref a] ∧ SqL K H a xs ∧ TupIs K H xs nss ∧ ((∀ ns ∈ nss, ns ≠ []) ∨ nss.head? = some []) ∧
  ∀ (ys : List V) (p : Addr), ys.Perm xs → ys.Pairwise (fun x y => ∀ n m, TupI K H x n → TupI K H y m → ltI m n = false) → H p = none → Q (.ref p) (upd H p (.lst ys))
theorem cr_sortI (hu : X.A.units + 64 < cLine) : CallR X (.builtin "sorted") (rSortI X.K) := by
  intro pins s σ H vs us Q I r h
  obtain ⟨a, xs, nss, rfl, hs, ht, hd, q⟩ := h
  obtain ⟨its, rv, hl, hz⟩ := I.list hs
  rw [Vals.ref1 r]
  obtain ⟨e1, e2⟩ := bkV_refs rv fun x m => by
    obtain ⟨ns, t, e, _⟩ := ht.has x m
    exact ⟨t, e⟩
  have t := tupsI_of I e2 (e1 ▸ ht)
  have hp : ∀ v ∈ its, TS.TupInts s.heap v (keyT s.heap v) := fun v hv => by
    obtain ⟨ns, _, h⟩ := TupsI.all t v hv
    rw [keyT_is h]
    exact h
  refine sorted_tups hu hl.isList (by rw [← rv.length]; exact hz) t hp hd fun out h1 h2 => ?_
  obtain ⟨ep, he'⟩ := PyProof.Rows.sortedAll_at s.heap its out.toArray
  have hpm : out.Perm its := h2.perm
  have h3 : ∀ u ∈ out, ∃ a, u = Value.ref a := fun u hu => e2 u (hpm.mem_iff.mp hu)
  have hp2 : (out.map bkV).Perm xs := by
    rw [e1]
    exact hpm.map bkV
  have hlen : (out.map bkV).length ≤ sizeLine := by
    rw [hp2.length_eq]
    exact hz
  refine ⟨.ref _, upd H (s.heap.objs.size + 1) (.lst (out.map bkV)), I.laid (t' := s.toks) (fun _ _ => PyProof.Rows.sortedAll_old) (Nat.le_succ _) ⟨hlen, out, ep, bkV_vals h3, he'⟩, rfl, q _ _ hp2 ?_ (I.hok.fresh (Nat.le_succ _))⟩
  rw [List.pairwise_map]
  refine List.Pairwise.imp (fun {u v} huv n m hn hm => ?_) h1
  obtain ⟨t, et, ht⟩ := hn
  obtain ⟨t', et', ht'⟩ := hm
  have eu := bkV_ref et
  have ev := bkV_ref et'
  subst eu ev
  have huv : ltI (keyT s.heap (Value.ref t')) (keyT s.heap (Value.ref t)) = false := huv
  rw [keyT_is (tupI_raw I ht), keyT_is (tupI_raw I ht')] at huv
  exact huv
end
/-- a tuple of ints -/
def dI (ns : List Int) : D := .tup (ns.map D.int)
section
variable {K : PySem.W.Frag} {H : Hp} {μ : Mu}
theorem tupI_rep {ns : List Int} {v : V} (h : Rep K H μ (dI ns) v) : TupI K H v ns := by
  unfold dI at h
  unfold Rep at h
  obtain ⟨a, vs, rfl, im, rl⟩ := h
  have e := rl.ints
  exact ⟨a, rfl, e ▸ im.sq⟩
theorem tupIs_rep : ∀ {nss : List (List Int)} {vs : List V}, RepL K H μ (nss.map dI) vs → TupIs K H vs nss
  | [], vs, h => by
    unfold RepL at h
    subst h
    exact True.intro
  | ns :: r, vs, h => by
    rw [List.map_cons] at h
    unfold RepL at h
    obtain ⟨v, w, rfl, h1, h2⟩ := h
    exact ⟨tupI_rep h1, tupIs_rep h2⟩
/-- another order -/
theorem rep_perm {nss : List (List Int)} {vs ws : List V} (h : RepL K H μ (nss.map dI) vs) (p : ws.Perm vs) : ∃ mss : List (List Int), mss.Perm nss ∧ RepL K H μ (mss.map dI) ws := by
  induction p generalizing nss with
  | nil => exact ⟨nss, List.Perm.refl _, h⟩
  | @cons x l1 l2 p ih =>
    match nss, h with
    | [], h =>
      simp only [List.map_nil] at h
      unfold RepL at h
      cases h
    | ns :: r, h =>
      rw [List.map_cons] at h
      unfold RepL at h
      obtain ⟨v, w, e, h1, h2⟩ := h
      cases e
      obtain ⟨mss, m1, m2⟩ := ih h2
      exact ⟨ns :: mss, m1.cons ns, by rw [List.map_cons]; exact RepL.cons h1 m2⟩
  | swap x y l =>
    match nss, h with
    | [], h =>
      simp only [List.map_nil] at h
      unfold RepL at h
      cases h
    | [ns], h =>
      rw [List.map_cons] at h
      unfold RepL at h
      obtain ⟨v, w, e, h1, h2⟩ := h
      cases e
      simp only [List.map_nil] at h2
      unfold RepL at h2
      cases h2
    | ns :: ms :: r, h =>
      rw [List.map_cons, List.map_cons] at h
      unfold RepL at h
      obtain ⟨v, w, e, h1, h2⟩ := h
      cases e
      unfold RepL at h2
      obtain ⟨v, w, e, h3, h4⟩ := h2
      cases e
      exact ⟨ms :: ns :: r, List.Perm.swap _ _ _, by rw [List.map_cons, List.map_cons]; exact RepL.cons h3 (RepL.cons h1 h4)⟩
  | trans p1 p2 ih1 ih2 =>
    obtain ⟨m2, q2, r2⟩ := ih2 h
    obtain ⟨m1, q1, r1⟩ := ih1 r2
    exact ⟨m1, q1.trans q2, r1⟩
theorem pw_rep : ∀ {nss : List (List Int)} {vs : List V}, RepL K H μ (nss.map dI) vs → vs.Pairwise (fun x y => ∀ n m, TupI K H x n → TupI K H y m → ltI m n = false) → nss.Pairwise (fun a b => ltI b a = false)
  | [], _, _, _ => .nil
  | ns :: r, vs, h, p => by
    rw [List.map_cons] at h
    unfold RepL at h
    obtain ⟨v, w, rfl, h1, h2⟩ := h
    rw [List.pairwise_cons] at p
    refine List.pairwise_cons.mpr ⟨fun m hm => ?_, pw_rep h2 p.2⟩
    have : ∀ {l : List (List Int)} {ws : List V}, RepL K H μ (l.map dI) ws → m ∈ l → ∃ x ∈ ws, TupI K H x m := by
      intro l
      induction l with
      | nil => intro ws _ hm; cases hm
      | cons k l ih =>
        intro ws hr hm
        rw [List.map_cons] at hr
        unfold RepL at hr
        obtain ⟨x, ws', rfl, g1, g2⟩ := hr
        rcases List.mem_cons.mp hm with rfl | hm
        · exact ⟨x, List.mem_cons_self, tupI_rep g1⟩
        · obtain ⟨y, hy, ty⟩ := ih g2 hm
          exact ⟨y, List.mem_cons_of_mem _ hy, ty⟩
    obtain ⟨x, hx, tx⟩ := this h2 hm
    exact p.1 x hx ns m (tupI_rep h1) tx
end
def okI (nss : List (List Int)) : Prop := (∀ ns ∈ nss, ns ≠ []) ∨ nss.head? = some []
def sortI (ds : List D) (μ : Mu) (R : KD) : Prop := ∃ nss : List (List Int), ds = nss.map dI ∧ okI nss ∧ ∀ out : List (List Int), out.Perm nss → out.Pairwise (fun a b => ltI b a = false) → R (.lst (out.map dI)) μ
def gSortI1 : G1 := fun x μ R => match x with
  | .lst ds => sortI ds μ R
  | .adr a => match μ a with
    | some (.lst ds) => sortI ds μ R
    | _ => False
  | _ => False
theorem sort_end {K : PySem.W.Frag} {H : Hp} {μ : Mu} {a : Addr} {vs : List V} {nss : List (List Int)} {Q : VK} {R : KD} (rm : RM K H μ) (hs : SqL K H a vs) (l : RepL K H μ (nss.map dI) vs) (hk : okI nss)
    (q : ∀ out : List (List Int), out.Perm nss → out.Pairwise (fun a b => ltI b a = false) → R (.lst (out.map dI)) μ) (f : Fw K H μ R Q) : rSortI K [.ref a] H Q := by
  refine ⟨a, vs, nss, rfl, hs, tupIs_rep l, hk, fun ys p hp pw n => ?_⟩
  obtain ⟨mss, m1, m2⟩ := rep_perm l hp
  exact fw_lst rm n m2 (q mss m1 (pw_rep m2 pw)) f
theorem sim_sortI {K : PySem.W.Frag} : SimC K (rSortI K) (g1 gSortI1) := sim_g1 fun v d H μ Q R rm rv q f => by
  cases d <;> try exact False.elim q
  · obtain ⟨nss, rfl, hk, q⟩ := q
    obtain ⟨p, vs, rfl, i, _, l⟩ := rep_lst rv
    exact sort_end rm (SqL.of i) l hk q f
  · rename_i a
    have q : (match μ a with | some (.lst ds) => sortI ds μ R | _ => False) := q
    cases e0 : μ a with
    | none => rw [e0] at q; exact False.elim q
    | some o =>
      rw [e0] at q
      cases o <;> try exact False.elim q
      obtain ⟨nss, rfl, hk, q⟩ := q
      obtain ⟨vs, h1, l⟩ := rm a _ e0
      rw [rep_adr rv]
      exact sort_end rm (SqL.of h1) l hk q f
end DL
set_option Elab.async false
set_option linter.all false
set_option maxRecDepth 100000
namespace DL
open PySem PySem.Spec PyProof.Rows L2
/-! ### dicts of keys that are ints or texts -/
def valD {κ : Type} [DecidableEq κ] (kvs : List (κ × D)) (k : κ) : Option D := (kvs.find? fun kv => decide (kv.1 = k)).map (·.2)
def putD {κ : Type} [DecidableEq κ] (kvs : List (κ × D)) (k : κ) (v : D) : List (κ × D) :=
  if (kvs.any fun kv => decide (kv.1 = k)) = true then kvs.map (fun kv => if kv.1 = k then (kv.1, v) else kv) else kvs ++ [(k, v)]
def kD : Key → D
  | .inl i => .int i
  | .inr x => .str x
section
variable {K : PySem.W.Frag} {H : Hp} {μ : Mu}
theorem kD_rep {k : Key} {v : V} (h : Rep K H μ (kD k) v) : v = kV k := by
  cases k
  · exact rep_int h
  · exact rep_str h
theorem RepK.look {κ : Type} [DecidableEq κ] {k : κ} {d : D} : ∀ {kvs : List (κ × D)} {kv : List (κ × V)}, RepK K H μ kvs kv → valD kvs k = some d → ∃ v, valV kv k = some v ∧ Rep K H μ d v
  | [], _, _, e => by cases e
  | (k0, d0) :: r, kv, h, e => by
    unfold RepK at h
    obtain ⟨v, s, rfl, h1, h2⟩ := h
    by_cases q : k0 = k
    · have e' : d0 = d := by simpa [valD, q] using e
      exact ⟨v, valV_pos q, e' ▸ h1⟩
    · have e' : valD r k = some d := by simpa [valD, q] using e
      obtain ⟨w, g1, g2⟩ := RepK.look h2 e'
      exact ⟨w, (valV_neg q).trans g1, g2⟩
theorem RepK.any {κ : Type} [DecidableEq κ] {k : κ} : ∀ {kvs : List (κ × D)} {kv : List (κ × V)}, RepK K H μ kvs kv → (kv.any fun p => decide (p.1 = k)) = (kvs.any fun p => decide (p.1 = k))
  | [], _, h => by
    unfold RepK at h
    subst h
    rfl
  | (k0, d0) :: r, kv, h => by
    unfold RepK at h
    obtain ⟨v, s, rfl, h1, h2⟩ := h
    rw [List.any_cons, List.any_cons, RepK.any h2]
theorem RepK.length {κ : Type} : ∀ {kvs : List (κ × D)} {kv : List (κ × V)}, RepK K H μ kvs kv → kv.length = kvs.length
  | [], _, h => by
    unfold RepK at h
    subst h
    rfl
  | (k0, d0) :: r, kv, h => by
    unfold RepK at h
    obtain ⟨v, s, rfl, h1, h2⟩ := h
    rw [List.length_cons, List.length_cons, RepK.length h2]
theorem RepK.change {κ : Type} [DecidableEq κ] {k : κ} {d : D} {v : V} (rv : Rep K H μ d v) : ∀ {kvs : List (κ × D)} {kv : List (κ × V)}, RepK K H μ kvs kv →
    RepK K H μ (kvs.map fun p => if p.1 = k then (p.1, d) else p) (kv.map fun p => if p.1 = k then (p.1, v) else p)
  | [], _, h => by
    unfold RepK at h
    subst h
    unfold RepK
    rfl
  | (k0, d0) :: r, kv, h => by
    unfold RepK at h
    obtain ⟨w, s, rfl, h1, h2⟩ := h
    rw [List.map_cons, List.map_cons]
    by_cases q : k0 = k
    · rw [if_pos q, if_pos q]
      unfold RepK
      exact ⟨v, _, rfl, rv, RepK.change rv h2⟩
    · rw [if_neg q, if_neg q]
      unfold RepK
      exact ⟨w, _, rfl, h1, RepK.change rv h2⟩
theorem RepK.snoc {κ : Type} [DecidableEq κ] {k : κ} {d : D} {v : V} (rv : Rep K H μ d v) : ∀ {kvs : List (κ × D)} {kv : List (κ × V)}, RepK K H μ kvs kv → RepK K H μ (kvs ++ [(k, d)]) (kv ++ [(k, v)])
  | [], _, h => by
    unfold RepK at h
    subst h
    show RepK K H μ [(k, d)] [(k, v)]
    unfold RepK
    exact ⟨v, [], rfl, rv, by unfold RepK; rfl⟩
  | (k0, d0) :: r, kv, h => by
    unfold RepK at h
    obtain ⟨w, s, rfl, h1, h2⟩ := h
    rw [List.cons_append, List.cons_append]
    unfold RepK
    exact ⟨w, _, rfl, h1, RepK.snoc rv h2⟩
theorem RepK.put {κ : Type} [DecidableEq κ] {k : κ} {d : D} {v : V} {kvs : List (κ × D)} {kv : List (κ × V)} (h : RepK K H μ kvs kv) (rv : Rep K H μ d v) : RepK K H μ (putD kvs k d) (putK kv k v) := by
  unfold putD putK
  rw [RepK.any h]
  split
  · exact RepK.change rv h
  · exact RepK.snoc rv h
end
section
variable {X : Cx} {o i e : Expr} {pos : Pos} {go gi ge : GE}
theorem pg_subDD (hu : X.A.units + 1 < cLine) (ho : DE X o go) (hi : DE X i gi)
    (ha : ∀ v, assign (.Subscript o i pos) X.env v = (do
      let ov ← holding [v] (eval o X.env)
      let iv ← holding [v, ov] (eval i X.env)
      standAt pos
      holding [v, ov, iv] (setItem ov iv v)
      release [v, ov, iv] []) := by intro _; rfl) : PG X (.Subscript o i pos) (gSub (tOf X.K go) (tOf X.K gi) rSetD) := pg_sub ho.pe hi.pe (set_dict hu) ha
end
end DL
set_option Elab.async false
set_option linter.all false
set_option maxRecDepth 100000
namespace DL
open PySem PySem.Spec PyProof.Rows L2
/-! ### set(list), of keys of any kind -/
end DL
set_option Elab.async false
set_option linter.all false
set_option maxRecDepth 100000
namespace DL
open PySem PySem.Spec PyProof.Rows L2
/-! ### len(set(list of texts)) -/
end DL
set_option Elab.async false
set_option linter.all false
set_option maxRecDepth 100000
namespace DL
open PySem PySem.Spec PyProof.Rows L2
/-! ### f(k = v, ..) -/
structure DK (X : Cx) (kws : List Keyword) (g : GA) : Prop where
  ex : ∃ t, PK X kws t ∧ SimA X.K t g
theorem dk_nil {X : Cx} : DK X [] (fun _ μ R => R [] μ) := ⟨_, pk_nil, fun σ H δ μ Q R rm rs q f => f [] [] H μ (Kp.refl _ _) rm RepL.nil q⟩
theorem dk_cons {X : Cx} {nm : Option Str} {e : Expr} {kpos : Pos} {kws : List Keyword} {ge : GE} {ga : GA} (he : DE X e ge) (hr : DK X kws ga) : DK X (⟨nm, e, kpos⟩ :: kws) (fun δ μ R => ge δ μ fun d μ1 => ga δ μ1 fun ds μ2 => R (d :: ds) μ2) := by
  obtain ⟨t, a1, a2⟩ := he.ex
  obtain ⟨u, b1, b2⟩ := hr.ex
  refine ⟨_, pk_cons a1 b1, fun σ H δ μ Q R rm rs q f => ?_⟩
  refine a2 σ H δ μ _ _ rm rs q fun v d H1 μ1 k1 rm1 r1 q1 => ?_
  exact b2 σ H1 δ μ1 _ _ rm1 (rs.mono k1) q1 fun vs ds H2 μ2 k2 rm2 r2 q2 => f (v :: vs) (d :: ds) H2 μ2 (k1.trans k2) rm2 (RepL.cons (r1.mono k2) r2) q2
/-- the parameters' order -/
def gCallK (g : GC) (gD : List D → List D) (n : Nat) (ga : GA) : GE := fun δ μ R => ga δ μ fun ds μ1 => ds.length = n ∧ g (gD ds) μ1 R
section
variable {X : Cx} {k : Nat} {f : Addr} {fd : FuncData} {ps ks : List Str} {g : GC} {x : Str} {p pos : Pos} {kws : List Keyword} {ga : GA} {gp : List Value → List Value → List Value} {gV : List V → List V → List V} {gD : List D → List D}
theorem de_callK0 (F : FnOk X.prog X.w X.K X.mg X.base CX0 k f fd ps (toSp X.K g)) (hr : Room k X.A) (hg : Gl X x) (hm : X.mg x = some (.ref f)) (hk : PySem.W.keepIn X.K (.ref f) = true) (hb : KBn X.K fd ps 0 ks gp gV)
    (hD : ∀ (H : Hp) (μ : Mu) (ds : List D) (vs : List V), RepL X.K H μ ds vs → ds.length = ks.length → RepL X.K H μ (gD ds) (gV [] vs))
    (hkw : DK X kws ga) (hall : (backToKw pos (keywordEach kws X.env)).all (·.1.isSome) = true := by rfl) (hks : (backToKw pos (keywordEach kws X.env)).filterMap (·.1) = ks := by rfl)
    (hdb : (x == ("__debug__" : Str)) = false := by decide)
    (hpl : ((backTo pos (starEach [] X.env)).any (·.1) || (backToKw pos (keywordEach kws X.env)).any (·.1.isNone)) = false := by rfl) :
    DE X (.Call (.Name x p) [] kws pos) (gCallK g gD ks.length ga) := by
  obtain ⟨t, a1, a2⟩ := hkw.ex
  refine ⟨fun σ H Q => t σ H fun vs H1 => vs.length = ks.length ∧ toSp X.K g (gV [] vs) H1 Q E0, ⟨fun pins s σ H Q I h => ?_⟩, fun σ H δ μ Q R rm rs q f => ?_⟩
  · refine wpAny_Call_Name_kw (ld_glob I hg hm ?_ hdb)
    refine PySem.W.callWith_KW0 (h₀ := X.base) I.ok.mod.kin hk hall (thn (a1.run pos pins s σ H _ I h) fun us s1 ⟨vs, H1, I1, r, l, q⟩ => ⟨I1.kIn, ?_⟩) hpl
    rw [hks]
    exact run_fnN F hr hb (pass0 (X := X)) I1 .nil r rfl l q
  · refine a2 σ H δ μ _ _ rm rs q fun vs ds H1 μ1 k1 rm1 r1 q1 => ⟨by rw [r1.length]; exact q1.1, gD ds, μ1, R, rm1, hD H1 μ1 ds vs r1 q1.1, q1.2, f.re k1⟩
end
/-! ### tuple(range(n)), list(range(n)) -/
def upTo (n : Nat) : List D := (List.range n).map fun i => D.int (i : Nat)
theorem upTo_rep {K : PySem.W.Frag} {H : Hp} {μ : Mu} {n : Nat} : RepL K H μ (upTo n) (rgV 0 (n : Int)) := by
  unfold upTo rgV
  have e : ((n : Int) - 0).toNat = n := by omega
  rw [e]
  generalize List.range n = l
  induction l with
  | nil => exact RepL.nil
  | cons i l ih =>
    rw [List.map_cons, List.map_cons]
    refine RepL.cons ?_ ih
    have e : (0 : Int) + (i : Nat) = (i : Nat) := by omega
    rw [e]
    exact to_int
def gTupRg (g : GE) : GE := fun δ μ R => g δ μ fun d μ1 => match d with
  | .int i => ∃ n : Nat, i = n ∧ n ≤ 16777216 ∧ R (.tup (upTo n)) μ1
  | _ => False
section
variable {X : Cx} {a : Expr} {ga : GE} {p p2 pos q : Pos}
theorem de_tupRg (hc : X.calm = true) (hg : Gl X "tuple") (hm : X.mg "tuple" = none) (hg2 : Gl X "range") (hm2 : X.mg "range" = none) (ha : DE X a ga) (n1 : starEach [a] X.env = (false, eval a X.env) :: starEach [] X.env := by rfl)
    (n2 : starEach [.Call (.Name "range" p2) [a] [] q] X.env = (false, eval (.Call (.Name "range" p2) [a] [] q) X.env) :: starEach [] X.env := by rfl) : DE X (.Call (.Name "tuple" p) [.Call (.Name "range" p2) [a] [] q] [] pos) (gTupRg ga) := by
  obtain ⟨t, a1, a2⟩ := ha.ex
  refine ⟨_, pe_tupRg hc hg hm (prg_1 hg2 hm2 a1 n1) n2, fun σ H δ μ Q R rm rs q f => ?_⟩
  refine a2 σ H δ μ _ _ rm rs q fun v d H1 μ1 k1 rm1 r1 q1 => ?_
  cases d <;> try exact False.elim q1
  obtain ⟨n, rfl, hn, q1⟩ := q1
  refine ⟨(n : Int), rep_int r1, RgOk.of_le (by omega) (by omega) (by omega) (by omega), fun c nc => ?_⟩
  exact fw_tup rm1 nc upTo_rep q1 (f.re k1)
end
end DL
set_option Elab.async false
set_option linter.all false
set_option maxRecDepth 100000
namespace DL
open PySem PySem.Spec PyProof.Rows L2
/-! ### defs that are called where nothing is under way of repr: what they promise there -/
structure FnG (P : Program) (w : World) (K : PySem.W.Frag) (mg : Str → Option Value) (base : Heap) (k : Nat) (f : Addr) (fd : FuncData) (ps : List Str) (sp : Sp) : Prop where
  len : ∀ vs H Q E, sp vs H Q E → vs.length = ps.length
  run : ∀ (A : Around) (outer : List Env) (s : Shared) (H : Hp) (args : Args) (us : List Value) (vs : List V) (Q : VK), A.guards = some [] → Room k A → Env0 P w K mg base A outer s H → BindsTo s fd args (ps.zip us) → Vals vs us → sp vs H Q E0 →
    codeAny (model P w) A (.call (.ref f) args) (CR CX0 outer P w H s Q E0) s
section
variable {P : Program} {w : World} {K : PySem.W.Frag} {mg : Str → Option Value} {base : Heap}
theorem Fun.okG {x qual : Str} {st : Stmt} {f : Addr} {fd : FuncData} {N ps : List Str} {k : Nat} {sp : Sp} (F : Fun K x qual st f fd) (S : FnScope N ps (defScope st)) (len : ∀ vs H Q E, sp vs H Q E → vs.length = ps.length)
    (hbody : ∀ (cdv : Value) (A : Around) (outer : List Env) (s : Shared) (H : Hp) (vs : List V) (Q : VK), Room k (A.deeper (envOfC qual (defScope st) s.heap.objs.size f cdv)) → A.guards = some [] → sp vs H Q E0 →
      ∃ t, PSs (cxOf CX0 P w K mg base N qual (defScope st) f cdv A outer s H E0).nox (defBody st) t ∧ t { nx := fun _ H' => Q .non H', rt := Q } (start N vs) H) : FnG P w K mg base (k + 1) f fd ps sp := by
  obtain ⟨oc, od, kV, doc, pm, an, cdv, ct, osl, rfl, lk, hcd⟩ := F.ex
  refine ⟨len, fun A outer s H args us vs Q hG hr e0 hb r hsp => ?_⟩
  have hl := len _ _ _ _ hsp
  have stays : ∀ b o, base.get? b = some o → s.heap.get? b = some o := fun b o e => (e0.bs b o e).1
  have KX : K.In s.heap := e0.mod.kin.keeps stays
  have lim : s.heap.NoLimit := e0.mod.nolimit.keeps stays
  have hkind : ∀ y ∈ ps.zip us, (defScope st).names.lookup y.1 = some .local ∨ ((defScope st).names.lookup y.1 = some .cell ∧ ((cellsFrom (s.heap.objs.size + 1) (defScope st).names []).lookup y.1).isSome = true) := fun ⟨n, v⟩ hy =>
    (S.par n (List.of_mem_zip hy).1).imp id fun q => ⟨q, PySem.W.cellsFrom_some _ _ _ (.inl q)⟩
  refine codeAny_call_function hr.depth (KX _ _ lk) rfl S.co S.gen rfl (PySem.W.codeRec_of KX hcd) (hb _ _ _ _ ?_)
  refine wpAny_newFunctionEnv_cells S.kind hkind fun env he s1 x => ?_
  subst he
  refine ⟨lim.keeps x.toInCall.keep, codeAny_func ?_⟩
  obtain ⟨t, ht, hq⟩ := hbody cdv A outer s H vs Q (hr.deeper _) hG hsp
  have I : Inv (cxOf CX0 P w K mg base N qual (defScope st) f cdv A outer s H E0) [] (start N vs) H s1 := inv_start S hr.hd e0 hl r x
  refine wpAny_mono (ht.nox.run [] s1 (start N vs) H _ I hq) (fun fl s' hs => ?_) fun e s' hs => hs
  cases fl with
  | ret u =>
    obtain ⟨v, σ', H', J, rv, q⟩ := hs
    exact ⟨v, H', J.os, J.bare, J.base, J.hok, rv, q⟩
  | next =>
    obtain ⟨σ', H', J, q⟩ := hs
    exact ⟨V.non, H', J.os, J.bare, J.base, J.hok, rfl, q⟩
  | brk =>
    obtain ⟨_, _, _, q⟩ := hs
    exact False.elim q
  | cont =>
    obtain ⟨_, _, _, q⟩ := hs
    exact False.elim q
theorem okDG {x qual : Str} {st : Stmt} {f : Addr} {fd : FuncData} {N ps : List Str} {k : Nat} {g : GC} (F : Fun K x qual st f fd) (S : FnScope N ps (defScope st)) (len : ∀ ds μ R, g ds μ R → ds.length = ps.length)
    (h : ∃ gb : GS, (∀ (cdv : Value) (A : Around) (outer : List Env) (s : Shared) (H : Hp), Room k (A.deeper (envOfC qual (defScope st) s.heap.objs.size f cdv)) → A.guards = some [] →
        DSs (cxOf CX0 P w K mg base N qual (defScope st) f cdv A outer s H E0).nox (defBody st) gb) ∧
      ∀ ds μ R, g ds μ R → gb { nx := fun _ μ' => R .non μ', rt := R } (begin_ N ds) μ) : FnG P w K mg base (k + 1) f fd ps (toSp K g) := by
  obtain ⟨gb, hb, hg⟩ := h
  refine Fun.okG F S (fun vs H Q E ⟨ds, μ, R, rm, rl, q, fw⟩ => by rw [rl.length]; exact len ds μ R q) fun cdv A outer s H vs Q hr hG ⟨ds, μ, R, rm, rl, q, fw⟩ => ?_
  obtain ⟨t, a, b⟩ := (hb cdv A outer s H hr hG).ex
  refine ⟨t, a, b _ H (begin_ N ds) μ _ { nx := fun _ μ' => R .non μ', rt := R } rm ?_ ⟨fun σ H' δ μ' k rm' _ q' => fw .non .non H' μ' k rm' (by unfold Rep; rfl) q', fw, fun _ _ _ _ _ _ _ z => z, fun _ _ _ _ _ _ _ z => z⟩ (hg ds μ R q)⟩
  show RepS K H μ (ds.map some ++ List.replicate (N.length - ds.length) none) (vs.map some ++ List.replicate (N.length - vs.length) none)
  rw [rl.length]
  exact repS_some _ rl
end
/-! ### calls of them -/
/-! ### the law's call -/
theorem caller_guards : callerA.guards = some [] := rfl
section
variable {P : Program} {w : World} {K : PySem.W.Frag} {mg mb : Str → Option Value} {k : Nat} {fa a : Addr} {fd : FuncData} {x : Str} {g : GC} {s₁ : Shared} {vs : List Value} {ns : List Int}
theorem law_callD (KX : K.In s₁.heap) (hns : s₁.heap.Ns mainGlobals mg) (hb : s₁.heap.Ns builtinsNs mb) (hbb : ∀ x : Str, x ≠ "__name__" → mb x = bootBuiltins x) (hlim : s₁.heap.NoLimit) (hg : s₁.gens = #[])
    (ha : s₁.heap.get? a = some { cls := .type "list", data := .seq vs.toArray }) (hi : IntsAre vs ns) (hl : ns.length ≤ sizeLine) (hr : Room k callerA)
    (F : ∀ base : Heap, K.In base → base.Ns mainGlobals mg → FnG P w K mg base k fa fd [x] (toSp K g)) (hbind : ∀ (s : Shared) (u : Value), BindsTo s fd ⟨[u], []⟩ [(x, u)])
    (hsp : g [.seq (ns.map D.int)] (fun _ => none) fun d _ => d = .bl true) :
    codeAny (model P w) callerA (.call (.ref fa) ⟨[.ref a], []⟩) (fun r s' => r = .ok (.ret (.bool true)) ∧ OldK s₁.heap s'.heap ∧ s'.os = s₁.os ∧ AllBare s'.gens) s₁ := by
  have key : ∀ H : Hp, Only H → SqL K H a (ns.map V.int) → toSp K g [.ref a] H (fun v _ => v = .bl true) fun _ _ _ => False := fun H hO hS => by
    have rm : RM K H (fun _ => none) := fun b o e => nomatch e
    refine ⟨[.seq (ns.map D.int)], fun _ => none, fun d _ => d = .bl true, rm, ?_, hsp, fun v d H' μ' _ _ r e => ?_⟩
    · refine RepL.cons ?_ RepL.nil
      unfold Rep
      refine ⟨a, ns.map V.int, rfl, ?_, RepL.of_ints ns⟩
      rcases hS with h | h
      · exact .inl ⟨h, rfl⟩
      · exact .inr fun H' => .inr h
    · subst e
      exact rep_bl r
  have rv := vals_ints hi
  have lenV := hi.length
  have core : ∀ H : Hp, Only H → SqL K H a (ns.map V.int) → HOk P w H s₁.heap → (∀ b, H b ≠ none → b = a) → (H a ≠ none → K.lookup a = none) →
      codeAny (model P w) callerA (.call (.ref fa) ⟨[.ref a], []⟩) (fun r s' => r = .ok (.ret (.bool true)) ∧ OldK s₁.heap s'.heap ∧ s'.os = s₁.os ∧ AllBare s'.gens) s₁ := by
    intro H hO hS hok hA hK
    have free : ∀ {b : Addr}, b ≠ a → H b = none := fun {b} n => Classical.byContradiction fun q => n (hA b q)
    have nsK : ∀ {b : Addr} {m : Str → Option Value}, s₁.heap.Ns b m → (hidT s₁.heap H).Ns b m := fun {b m} ⟨o, es, ep, e, d, r⟩ =>
      ⟨o, es, ep, hidT_get e (free fun z => by
        subst z
        rw [ha] at e
        cases e
        cases d), d, r⟩
    have hKb : K.In (hidT s₁.heap H) := fun b o e => hidT_get (KX b o e) (Classical.byContradiction fun q => by
      have z := hA b q
      subst z
      rw [hK q] at e
      cases e)
    obtain ⟨mc, l1, l2⟩ := hlim
    have hM : Mod K mg (hidT s₁.heap H) := ⟨hKb, nsK hns, ⟨mb, nsK hb, hbb⟩, ⟨mc, nsK l1, l2⟩⟩
    have e0 : Env0 P w K mg (hidT s₁.heap H) callerA [] s₁ H := ⟨rfl, hM, fun b o e => of_hidT e, Nat.le_of_eq (hidT_size _ _), trivial, fun b hb => absurd (show b ∈ ([] : List Addr) from hb) (by simp), hok, .of_eq hg⟩
    refine codeAny_mono ((F _ hKb (nsK hns)).run callerA [] s₁ H ⟨[.ref a], []⟩ [.ref a] [.ref a] _ caller_guards hr e0 (hbind s₁ (.ref a)) (.cons rfl .nil) (key H hO hS)) fun r s' h => ?_
    cases r with
    | error e => exact h.elim
    | ok fl =>
      cases fl with
      | next => exact False.elim h
      | brk => exact False.elim h
      | cont => exact False.elim h
      | ret u =>
        obtain ⟨v, H', os, bare, un, hok', r', q⟩ := h
        have q' : v = .bl true := q
        subst q'
        obtain rfl : u = Value.bool true := r'
        refine ⟨rfl, OldK.of_keep fun b o e => ?_, os, bare⟩
        rcases hO b with z | ⟨ob, xs, z⟩
        · exact un.keep b o e z (fun z => absurd (show b ∈ ([] : List Addr) from z) (by simp)) (by simp)
        · obtain ⟨e1, _⟩ := hok b _ z
          obtain ⟨e2, _⟩ := hok' b _ (un.frzs b ob _ z)
          rw [e] at e1
          cases e1
          exact e2
  cases hk : K.lookup a with
  | some o =>
    have e := KX a o hk
    rw [ha] at e
    cases e
    exact core (fun _ => none) (fun _ => .inl rfl) (.inr ⟨_, vs.toArray, _, hk, rfl, rfl, rfl, by rw [List.size_toArray, lenV]; exact hl, by simpa using rv⟩) (fun b u z => nomatch z) (fun b z => absurd rfl z) fun z => absurd rfl z
  | none =>
    have at_ : ∀ b, (if b = a then some (HO.frz { cls := .type "list", data := .seq vs.toArray } (.lst (ns.map V.int))) else none) ≠ none → b = a := fun b z => Classical.byContradiction fun n => z (if_neg n)
    refine core (fun b => if b = a then some (.frz { cls := .type "list", data := .seq vs.toArray } (.lst (ns.map V.int))) else none) (fun b => ?_) (.inl (.inr ⟨{ cls := .type "list", data := .seq vs.toArray }, if_pos rfl⟩)) (fun b u z => ?_) at_ fun _ => hk
    · by_cases hb : b = a
      · exact .inr ⟨_, _, if_pos hb⟩
      · exact .inl (if_neg hb)
    · have hb : b = a := at_ b (fun q => by
        have z' := q.symm.trans z
        cases z')
      subst hb
      have z' := (if_pos rfl).symm.trans z
      cases z'
      exact ⟨ha, by rw [List.length_map]; exact hl, vs, _, rv, ha⟩
end
/-- the goal that the head leaves, from the law's reading -/
theorem walk_ofD {l : PySem.W.OpenLaw} {n k : Nat} {q : Program} {loose : List Str} {XP : (Str → Option Value) → Heap → Prop} {YP : World → Heap → Prop} {d : DefRec} {K : Params → PySem.W.Frag} {g : GC} {x : Str}
    (hn : l.most = some n) (hn2 : n ≤ sizeLine) (hdf : d.params.defaults = []) (hr : Room k callerA)
    (hY : ∀ (w : World) (h : Heap), YP w h → (K w.params).In h)
    (F : ∀ (w : World) (mg : Str → Option Value) (fa : Addr) (h : Heap), (K w.params).In h → h.Ns mainGlobals mg → mg d.name = some (.ref fa) →
      ∃ fd : FuncData, (∀ (s : Shared) (u : Value), BindsTo s fd ⟨[u], []⟩ [(x, u)]) ∧
        ∀ base : Heap, (K w.params).In base → base.Ns mainGlobals mg → FnG l.prog w (K w.params) mg base k fa fd [x] (toSp (K w.params) g))
    (hsp : ∀ (ns : List Int), ns.length ≤ n → (∀ z ∈ ns, Builtin.Int.intBits z ≤ 1048576) → g [.seq (ns.map D.int)] (fun _ => none) fun d _ => d = .bl true) :
    PySem.W.WalkO q loose XP YP l.row.toRowW d [] (fun f vs => PySem.call f vs) := by
  refine Att.attach_callB hn hdf fun w s₀ s₁ mg mb fa o pm cd doc a vs ns G Y ho hd hcd hmg hobj hints hlen hbits hg => ?_
  have KX := hY w _ Y
  obtain ⟨fd, hb, hF⟩ := F w mg fa _ KX G.T.g hmg
  exact law_callD KX G.T.g G.T.b G.T.builtins G.T.nolimit hg hobj hints (Nat.le_trans hlen hn2) hr hF hb (hsp ns hlen hbits)
end DL
set_option Elab.async false
set_option linter.all false
set_option maxRecDepth 100000
namespace DL
open PySem PySem.Spec PyProof.Rows L2
/-! ### repr of nested tuples and lists -/
structure ShowOk (p : PyData) : Prop where
  lay : p.layable0 = true
  shrt : p.intsShort 13 = true
  show_ : p.showable = true
  nod : p.hasDict = false
  dp : p.depth ≤ 20
end DL
set_option Elab.async false
set_option linter.all false
set_option maxRecDepth 100000
namespace DL
open PySem PySem.Spec PyProof.Rows L2
/-! ### max, min of two texts -/
/-! ### a walk over a list or a tuple -/
def iBoth (K : PySem.W.Frag) (tl : TE) : TI := fun σ H R => tl σ H fun x H1 => ∃ a, x = .ref a ∧ (((∃ xs, SqL K H1 a xs) ∧ R (Itl K a) H1) ∨ ((∃ xs, SqT K H1 a xs) ∧ R (Itt K a) H1))
theorem pi_both {X : Cx} {tg l : Expr} {tl : TE} (hl : PE X l tl) : PI X tg l (iBoth X.K tl) := by
  refine ⟨fun pins s σ H R I h => ?_⟩
  refine thn (hl.run pins s σ H _ I h) fun v s1 ⟨x, H1, I1, r1, a, e, q1⟩ => ?_
  subst e
  cases r1
  have fp : ∀ b, b ∈ [s1.heap.objs.size] → FpOk X pins H1 b := fun b hb => by
    have e : b = s1.heap.objs.size := by simpa using hb
    subst e
    exact I1.fpOk (Nat.le_refl _) (I1.hok.fresh (Nat.le_refl _))
  rcases q1 with ⟨⟨xs, hq⟩, q⟩ | ⟨⟨xs, hq⟩, q⟩
  · obtain ⟨its, rv, p, hz⟩ := I1.list hq
    exact wpAny_pyIter_list p.isList ⟨s1.heap.objs.size, [s1.heap.objs.size], _, _, H1, rfl, I1.kept (t' := s1.toks) fun b o e => Heap.get?_push_of_some _ e, turn_list a _, ⟨_, Heap.get?_push_size _ rfl, rfl, rfl⟩, fp, q⟩
  · obtain ⟨its, rv, p, hz⟩ := I1.tuple hq
    exact wpAny_pyIter_tuple (show s1.heap.IsTuple a its.toArray from p) ⟨s1.heap.objs.size, [s1.heap.objs.size], _, _, H1, rfl, I1.kept (t' := s1.toks) fun b o e => Heap.get?_push_of_some _ e, turn_tuple a _, ⟨_, Heap.get?_push_size _ rfl, rfl, rfl⟩, fp, q⟩
def gItemsB (g : GE) : GI := fun δ μ R => g δ μ fun d μ1 => match d with
  | .lst ds => R ds μ1
  | .seq ds => R ds μ1
  | .tup ds => R ds μ1
  | _ => False
theorem walk_tupD {K : PySem.W.Frag} {a : Addr} {vs : List V} {ds : List D} {H : Hp} {μ : Mu} (im : ImT K H μ a vs) (rl : RepL K H μ ds vs) : WalkD K (Itt K a) ds H μ := by
  have e := rl.length
  rw [WalkD, ← e]
  refine (walk_tup (K := K) (a := a) (xs := vs)).mono (fun H' ⟨μ', k, _⟩ => (im.mono k).sq) fun i H' x H2 hi _ ⟨e1, e2⟩ μ' k rm => ?_
  subst e1
  obtain ⟨d, e3, r1⟩ := (rl.mono k).atV e2
  exact ⟨d, e3, r1, Kp.refl _ _, rm⟩
theorem di_both {X : Cx} {tg e : Expr} {g : GE} (h : DE X e g) : DI X tg e (gItemsB g) := by
  obtain ⟨t, a1, a2⟩ := h.ex
  refine ⟨_, pi_both a1, fun σ H δ μ Q R rm rs q f => ?_⟩
  refine a2 σ H δ μ _ _ rm rs q fun v d H1 μ1 k1 rm1 r1 q1 => ?_
  cases d <;> try exact False.elim q1
  · obtain ⟨a, vs, rfl, im, rl⟩ := rep_tup r1
    exact ⟨a, rfl, .inr ⟨⟨vs, im.sq⟩, f _ _ H1 μ1 k1 rm1 (walk_tupD im rl) q1⟩⟩
  · obtain ⟨a, vs, rfl, e1, e2, rl⟩ := rep_lst r1
    exact ⟨a, rfl, .inl ⟨⟨vs, SqL.of e1⟩, f _ _ H1 μ1 k1 rm1 (walk_seq (fun H' μ' k => SqL.of (k.k1 _ _ e1 e2)) rl) q1⟩⟩
  · obtain ⟨a, vs, rfl, im, rl⟩ := rep_seq r1
    exact ⟨a, rfl, .inl ⟨⟨vs, im.sq⟩, f _ _ H1 μ1 k1 rm1 (walk_seq (fun H' μ' k => (im.mono k).sq) rl) q1⟩⟩
end DL
set_option Elab.async false
set_option linter.all false
set_option maxRecDepth 100000
namespace DL
open PySem PySem.Spec PyProof.Rows L2
/-! ### comprehensions -/
theorem take_succ_get {α : Type} {l : List α} {i : Nat} {x : α} (h : l[i]? = some x) : l.take (i + 1) = l.take i ++ [x] := by
  rw [List.take_add_one, h]
  rfl
section
variable {gt : GG} {gc : GT} {ge : GE} {own : List Nat} {δ : DS} {μ1 : Mu} {R : KD} {items : List D}
/-- nothing changes but the new list -/
theorem lcb_pure (p : D → Bool) (f : D → D) (hl : items.length < sizeLine)
    (hx : ∀ x ∈ items, ∀ (μ' : Mu) (N : Mu → Prop) (Y : KD), (∀ b o, μ1 b = some o → μ' b = some o) → (p x = false → N μ') → (p x = true → Y (f x) μ') →
      gt x (wiped δ own) fun δ2 => gc δ2 μ' fun b μ2 => if b = true then ge δ2 μ2 Y else N μ2) (hr : R (.lst ((items.filter p).map f)) μ1) : LcB gt gc ge own δ R items μ1 := by
  refine ⟨fun a na => ?_⟩
  refine ⟨fun i μ' => μ' = put μ1 a (.lst (((items.take i).filter p).map f)), rfl, fun i x μ' hi e => ?_, fun μ' e => ?_⟩
  · subst e
    have ht := take_succ_get hi
    have hm : x ∈ items := List.mem_of_getElem? hi
    refine hx x hm _ _ _ (fun b o e => ?_) (fun hp => ?_) fun hp => ?_
    · rw [put_ne (fun z => by rw [z, na] at e; cases e)]
      exact e
    · show put μ1 a _ = put μ1 a _
      rw [ht, List.filter_append, List.filter_cons_of_neg (by rw [hp]; simp), List.filter_nil, List.append_nil]
    · refine ⟨_, put_same, ?_, ?_⟩
      · have : (((items.take i).filter p).map f).length ≤ items.length := by
          rw [List.length_map]
          exact Nat.le_trans (List.length_filter_le _ _) (by rw [List.length_take]; omega)
        omega
      · show put (put μ1 a _) a _ = put μ1 a _
        rw [put_put, ht, List.filter_append, List.filter_cons_of_pos hp, List.filter_nil, List.map_append]
        rfl
  · subst e
    refine ⟨_, put_same, ?_⟩
    rw [del_put na, List.take_length]
    exact hr
/-- no condition -/
theorem lcb_map (f : D → D) (hl : items.length < sizeLine)
    (hx : ∀ x ∈ items, ∀ (μ' : Mu) (Y : KD), (∀ b o, μ1 b = some o → μ' b = some o) → Y (f x) μ' → gt x (wiped δ own) fun δ2 => ge δ2 μ' Y) (hr : R (.lst (items.map f)) μ1) : LcB gt gYes ge own δ R items μ1 := by
  refine lcb_pure (fun _ => true) f hl (fun x hm μ' N Y k _ hy => hx x hm μ' Y k (hy rfl)) ?_
  rw [show items.filter (fun _ => true) = items from List.filter_eq_self.mpr fun _ _ => rfl]
  exact hr
/-- the other cells change with the turns: J i ys ν, ys the list so far, ν the store without it -/
theorem lcb_eff (J : Nat → List D → Mu → Prop) (hl : items.length < sizeLine) (h0 : J 0 [] μ1) (hlen : ∀ i ys ν, J i ys ν → ys.length ≤ i)
    (hx : ∀ i x, items[i]? = some x → ∀ (a : Addr) (ys : List D) (ν : Mu) (N : Mu → Prop) (Y : KD), ν a = none → J i ys ν → (∀ ν', ν' a = none → J (i + 1) ys ν' → N (put ν' a (.lst ys))) →
      (∀ y ν', ν' a = none → J (i + 1) (ys ++ [y]) ν' → Y y (put ν' a (.lst ys))) →
      gt x (wiped δ own) fun δ2 => gc δ2 (put ν a (.lst ys)) fun b μ2 => if b = true then ge δ2 μ2 Y else N μ2)
    (hr : ∀ ys ν, J items.length ys ν → R (.lst ys) ν) : LcB gt gc ge own δ R items μ1 := by
  refine ⟨fun a na => ?_⟩
  refine ⟨fun i μ' => ∃ ys ν, ν a = none ∧ J i ys ν ∧ μ' = put ν a (.lst ys), ⟨[], μ1, na, h0, rfl⟩, ?_, ?_⟩
  · rintro i x μ' hi ⟨ys, ν, nν, hj, rfl⟩
    have hi' : i < items.length := (List.getElem?_eq_some_iff.mp hi).1
    refine hx i x hi a ys ν _ _ nν hj (fun ν' n j => ⟨ys, ν', n, j, rfl⟩) fun y ν' n j => ⟨ys, put_same, ?_, ys ++ [y], ν', n, j, put_put⟩
    have := hlen i ys ν hj
    omega
  · rintro μ' ⟨ys, ν, nν, hj, rfl⟩
    refine ⟨ys, put_same, ?_⟩
    rw [del_put nν]
    exact hr ys ν hj
end
theorem sim_chain {K : PySem.W.Frag} {r r' : R2} {ta tb tc : TE} {g g' : G2} {ga gb gc : GE} (h : SimO K r g) (h' : SimO K r' g') (a2 : SimE K ta ga) (b2 : SimE K tb gb) (c2 : SimE K tc gc) : SimE K (tChain r r' ta tb tc) (gChain g g' ga gb gc) := by
  intro σ H δ μ Q R rm rs q f
  refine a2 σ H δ μ _ _ rm rs q fun v d H1 μ1 k1 rm1 r1 q1 => ?_
  refine b2 σ H1 δ μ1 _ _ rm1 (rs.mono k1) q1 fun v2 d2 H2 μ2 k2 rm2 r2 q2 => ?_
  refine h v v2 d d2 H2 μ2 _ _ rm2 (r1.mono k2) r2 q2 fun v3 d3 H3 μ3 k3 rm3 r3 q3 => ?_
  cases d3 <;> try exact False.elim q3
  rename_i k
  unfold Rep at r3
  refine ⟨k, r3, ?_⟩
  cases k with
  | false => exact f (.bl false) (.bl false) H3 μ3 (k1.trans (k2.trans k3)) rm3 (by unfold Rep; rfl) q3
  | true => exact c2 σ H3 δ μ3 _ _ rm3 (rs.mono (k1.trans (k2.trans k3))) q3 fun v4 d4 H4 μ4 k4 rm4 r4 q4 => h' v2 v4 d2 d4 H4 μ4 Q R rm4 (r2.mono (k3.trans k4)) r4 q4 (f.re (k1.trans (k2.trans (k3.trans k4))))
theorem dt_chain {X : Cx} {a b c : Expr} {ga gb gc : GE} {pos : Pos} {op op' : CmpOp} {r r' : R2} {g g' : G2} (ho : OpR X (compareOp op) r) (h : SimO X.K r g) (ho' : OpR X (compareOp op') r') (h' : SimO X.K r' g') (ha : DE X a ga) (hb : DE X b gb) (hc : DE X c gc)
    (hm : lastMarks [op, op'] [b, c] = false := by with_unfolding_all rfl) : DT X (.Compare a [op, op'] [b, c] pos) (gB (gChain g g' ga gb gc)) := by
  obtain ⟨t, a1, a2⟩ := ha.ex
  obtain ⟨u, b1, b2⟩ := hb.ex
  obtain ⟨w, c1, c2⟩ := hc.ex
  exact ⟨_, pt_chain ho ho' a1 b1 c1 hm, sim_b (sim_chain h h' a2 b2 c2)⟩
end DL
set_option Elab.async false
set_option linter.all false
set_option maxRecDepth 100000
namespace DL
open PySem PySem.Spec PyProof.Rows L2
/-! ### a comprehension whose list goes on as a cell -/
end DL
set_option Elab.async false
set_option linter.all false
set_option maxRecDepth 100000
namespace K10
open PySem PySem.Spec PyProof.Rows L2 DL
open Builtin.Str (occurrences subAt)
/-! ### where a sign stands first -/
theorem occ_stay (s sub : Str) (hi : Nat) : ∀ (l : List Nat) (st : Array Nat × Nat), 1 ≤ st.fst.size → (forIn l st (StrLaws.occBody s sub hi 1)).run.fst = st.fst
  | [], st, h => rfl
  | a :: l, st, h => by
    rw [List.forIn_cons]
    unfold StrLaws.occBody
    rw [if_neg (by omega)]
    exact occ_stay s sub hi l _ h
theorem occ_hit (s sub : Str) (hi : Nat) : ∀ (l : List Nat) (free i : Nat), (∀ j ∈ l, free ≤ j) → l.find? (fun j => decide (j + sub.length ≤ hi) && subAt s sub j) = some i →
    (forIn l ((#[] : Array Nat), free) (StrLaws.occBody s sub hi 1)).run.fst = #[i]
  | [], free, i, _, h => by cases h
  | a :: l, free, i, hf, h => by
    rw [List.forIn_cons]
    unfold StrLaws.occBody
    have ha : free ≤ a := hf a (List.mem_cons_self ..)
    by_cases hc : (decide (a + sub.length ≤ hi) && subAt s sub a) = true
    · have h' := (List.find?_cons_of_pos (p := fun j => decide (j + sub.length ≤ hi) && subAt s sub j) (l := l) (a := a) hc).symm.trans h
      cases h'
      have h1 := Bool.and_eq_true_iff.mp hc
      rw [if_pos ⟨⟨⟨by simp, ha⟩, of_decide_eq_true h1.1⟩, h1.2⟩]
      exact occ_stay s sub hi l _ (by simp)
    · have h := (List.find?_cons_of_neg (p := fun j => decide (j + sub.length ≤ hi) && subAt s sub j) (l := l) (a := a) hc).symm.trans h
      rw [if_neg (fun q => hc (by rw [decide_eq_true q.1.2, q.2]; rfl))]
      exact occ_hit s sub hi l free i (fun j hj => hf j (List.mem_cons_of_mem _ hj)) h
theorem find_range (p : Nat → Bool) : ∀ (n s i : Nat), s ≤ i → i < s + n → p i = true → (∀ j, s ≤ j → j < i → p j = false) → (List.range' s n).find? p = some i
  | 0, s, i, h1, h2, _, _ => by omega
  | n + 1, s, i, h1, h2, h3, h4 => by
    rw [List.range'_succ]
    by_cases e : s = i
    · subst e
      rw [List.find?_cons_of_pos h3]
    · rw [List.find?_cons_of_neg (by rw [h4 s (Nat.le_refl _) (by omega)]; simp)]
      exact find_range p n (s + 1) i (by omega) (by omega) h3 fun j hj => h4 j (by omega)
/-- the first place of a sign that is there -/
theorem occ_first {z : Str} {c : Nat} (h : c ∈ z.cps.toList) : occurrences z ⟨#[c]⟩ 0 z.length 1 = [z.cps.toList.idxOf c] := by
  rw [StrLaws.occ_eq]
  have hl : z.cps.toList.idxOf c < z.cps.toList.length := List.idxOf_lt_length_of_mem h
  have hl2 : z.cps.toList.length = z.length := by rw [Array.length_toList]; rfl
  have h1 : (⟨#[c]⟩ : Str).length = 1 := rfl
  have at_ : z.cps.toList[z.cps.toList.idxOf c]? = some c := by
    rw [List.getElem?_eq_getElem hl, List.getElem_idxOf hl]
  have f := find_range (fun j => decide (j + (⟨#[c]⟩ : Str).length ≤ z.length) && subAt z ⟨#[c]⟩ j) (z.length + 1 - 0) 0 (z.cps.toList.idxOf c) (Nat.zero_le _) (by omega) (by
      have := (StrLaws.subAt_one z c (z.cps.toList.idxOf c)).mpr at_
      show (decide _ && _) = true
      rw [this.2, decide_eq_true this.1]
      rfl) (fun j _ hj => by
      cases q : (decide (j + (⟨#[c]⟩ : Str).length ≤ z.length) && subAt z ⟨#[c]⟩ j) with
      | false => rfl
      | true =>
        have q' := Bool.and_eq_true_iff.mp q
        have := (StrLaws.subAt_one z c j).mp ⟨of_decide_eq_true q'.1, q'.2⟩
        have hjl : j < z.cps.toList.length := by omega
        rw [List.getElem?_eq_getElem hjl] at this
        have e : z.cps.toList[j] = c := Option.some.inj this
        have := List.not_of_lt_findIdx (p := fun x => x == c) (xs := z.cps.toList) (i := j) (by exact hj)
        rw [e] at this
        simp at this)
  rw [occ_hit z ⟨#[c]⟩ z.length _ 0 _ (fun j _ => Nat.zero_le j) f]
/-! ### marks -/
/-- one tie's step over the row of marks -/
def stepM (p r : List Nat) (y : Nat × Nat) : List Nat :=
  let a := r.getD (p.idxOf y.1) 0
  let b := r.getD (p.idxOf y.2) 0
  r.map fun x => if x = max a b then min a b else x
def marksL (p : List Nat) (ys : List (Nat × Nat)) : List Nat := ys.foldl (stepM p) p
theorem stepM_len (p r : List Nat) (y : Nat × Nat) : (stepM p r y).length = r.length := by
  unfold stepM
  rw [List.length_map]
theorem foldl_len (p : List Nat) : ∀ (ys : List (Nat × Nat)) (r : List Nat), (ys.foldl (stepM p) r).length = r.length
  | [], r => rfl
  | y :: ys, r => by
    rw [List.foldl_cons, foldl_len p ys, stepM_len]
theorem replL_one (m n : Nat) : ∀ l : List Nat, StrLaws.replL [m] [n] l = l.map fun x => if x = m then n else x
  | [] => by rw [StrLaws.replL_nil]; rfl
  | x :: l => by
    by_cases e : x = m
    · rw [StrLaws.replL_hit (by simp) (by rw [e]; rfl), List.map_cons, if_pos e]
      show [n] ++ StrLaws.replL [m] [n] l = _
      rw [replL_one m n l]
      rfl
    · rw [StrLaws.replL_miss (by
        intro h
        have h' : [x] = [m] := h
        exact e (by simpa using h')), List.map_cons, if_neg e, replL_one m n l]
theorem swapped_list (r : Str) (a b : Nat) : (swapped r a b).cps.toList = r.cps.toList.map fun x => if x = max a b then min a b else x := by
  unfold swapped
  by_cases e : a = b
  · rw [if_pos e]
    subst e
    have : (fun x => if x = max a a then min a a else x) = id := by
      funext x
      by_cases h : x = max a a
      · rw [if_pos h]
        show min a a = x
        omega
      · rw [if_neg h]
        rfl
    rw [this, List.map_id]
  · rw [if_neg e, StrLaws.replace_list (by show 1 ≤ 1; omega)]
    exact replL_one _ _ _
/-- a text of two signs as the pair of both -/
def ends (y : Str) : Nat × Nat := (y.cps.toList.getD 0 0, y.cps.toList.getD 1 0)
def toS (l : List Nat) : Str := ⟨l.toArray⟩
theorem toS_list (l : List Nat) : (toS l).cps.toList = l := by simp [toS]
theorem ofS (x : Str) : toS x.cps.toList = x := by
  cases x
  simp [toS]
theorem swapped_step {p r : List Nat} {y : Nat × Nat} {d0 d1 : Nat} (h0 : r.getD (p.idxOf y.1) 0 = d0) (h1 : r.getD (p.idxOf y.2) 0 = d1) : swapped (toS r) d0 d1 = toS (stepM p r y) := by
  rw [← ofS (swapped (toS r) d0 d1), swapped_list, toS_list]
  unfold stepM
  rw [h0, h1]
end K10
set_option Elab.async false
set_option linter.all false
set_option maxRecDepth 100000
namespace DL
open PySem PySem.Spec PyProof.Rows L2
/-! ### what is forgotten, or goes on as a list that nobody changes, at a return -/
structure Into (d : D) (μ : Mu) (d' : D) (μ' : Mu) : Prop where
  ok : ∀ (K : PySem.W.Frag) (H : Hp) (v : V), RM K H μ → Rep K H μ d v → Kp H μ H μ' ∧ RM K H μ' ∧ Rep K H μ' d' v
section
variable {d d1 d2 : D} {μ μ1 μ2 : Mu} {K : PySem.W.Frag} {H : Hp} {R : KD} {Q : VK}
theorem Into.refl : Into d μ d μ := ⟨fun K H v rm r => ⟨Kp.refl _ _, rm, r⟩⟩
theorem Into.trans (a : Into d μ d1 μ1) (b : Into d1 μ1 d2 μ2) : Into d μ d2 μ2 := ⟨fun K H v rm r => by
  obtain ⟨k1, rm1, r1⟩ := a.ok K H v rm r
  obtain ⟨k2, rm2, r2⟩ := b.ok K H v rm1 r1
  exact ⟨k1.trans k2, rm2, r2⟩⟩
theorem Into.drop (a : Addr) : Into d μ d (del μ a) := ⟨fun K H v rm r => ⟨Kp.drop, rm.drop, r.mono Kp.drop⟩⟩
theorem Into.frz {a : Addr} {ds : List D} (e : μ a = some (.lst ds)) : Into (.adr a) μ (.lst ds) (del μ a) := ⟨fun K H v rm r => by
  obtain ⟨vs, h1, h2⟩ := rm a _ e
  refine ⟨Kp.drop, rm.drop, ?_⟩
  unfold Rep at r ⊢
  exact ⟨a, vs, r, h1, del_same, h2.mono Kp.drop _ _⟩⟩
theorem Into.less (h : ∀ c o, μ1 c = some o → μ c = some o) : Into d μ d μ1 := ⟨fun K H v rm r => by
  have k : Kp H μ H μ1 := ⟨fun b o e _ => e, fun b e => by
    left
    intro z
    cases q : μ1 b with
    | none => exact e q
    | some o =>
      rw [h b o q] at z
      cases z⟩
  refine ⟨k, fun a o e => ?_, r.mono k⟩
  have q := rm a o (h a o e)
  cases o with
  | lst ds => obtain ⟨vs, h1, h2⟩ := q; exact ⟨vs, h1, h2.mono k _ _⟩
  | dct kvs => obtain ⟨vs, h1, h2⟩ := q; exact ⟨vs, h1, h2.mono k _ _⟩
  | dtt kvs => obtain ⟨vs, h1, h2⟩ := q; exact ⟨vs, h1, h2.mono k _ _⟩
  | lck kvs => obtain ⟨o, vs, h1, h2⟩ := q; exact ⟨o, vs, h1, h2.mono k _ _⟩
  | ftp ds => obtain ⟨o, vs, h1, d, h2⟩ := q; exact ⟨o, vs, h1, d, h2.mono k _ _⟩
  | ins C fs => obtain ⟨dx, vs, h1, h2⟩ := q; exact ⟨dx, vs, h1, h2.mono k _ _⟩⟩
def freed (R : KD) : KD := fun d μ => ∃ d' μ', Into d μ d' μ' ∧ R d' μ'
theorem fw_freed (f : Fw K H μ R Q) : Fw K H μ (freed R) Q := fun v d H' μ' k rm r ⟨d', μ2, i, q⟩ => by
  obtain ⟨k2, rm2, r2⟩ := i.ok K H' v rm r
  exact f v d' H' μ2 (k.trans k2) rm2 r2 q
end
section
variable {P : Program} {w : World} {K : PySem.W.Frag} {mg : Str → Option Value} {base : Heap}
theorem okDF {x qual : Str} {st : Stmt} {f : Addr} {fd : FuncData} {N ps : List Str} {k : Nat} {g : GC} (F : Fun K x qual st f fd) (S : FnScope N ps (defScope st)) (len : ∀ ds μ R, g ds μ R → ds.length = ps.length)
    (h : ∃ gb : GS, (∀ (cdv : Value) (A : Around) (outer : List Env) (s : Shared) (H : Hp) (E : XK), Room k (A.deeper (envOfC qual (defScope st) s.heap.objs.size f cdv)) →
        DSs (cxOf CX0 P w K mg base N qual (defScope st) f cdv A outer s H E).nox (defBody st) gb) ∧
      ∀ ds μ R, g ds μ R → gb { nx := fun _ μ' => freed R .non μ', rt := freed R } (begin_ N ds) μ) : FnOk P w K mg base CX0 (k + 1) f fd ps (toSp K g) := by
  obtain ⟨gb, hb, hg⟩ := h
  refine F.ok S (fun vs H Q E ⟨ds, μ, R, rm, rl, q, fw⟩ => by rw [rl.length]; exact len ds μ R q) fun cdv A outer s H vs Q E hr ⟨ds, μ, R, rm, rl, q, fw⟩ => ?_
  obtain ⟨t, a, b⟩ := (hb cdv A outer s H E hr).ex
  have fw' := fw_freed fw
  refine ⟨t, a, b _ H (begin_ N ds) μ _ { nx := fun _ μ' => freed R .non μ', rt := freed R } rm ?_ ⟨fun σ H' δ μ' k rm' _ q' => fw' .non .non H' μ' k rm' (by unfold Rep; rfl) q', fw', fun _ _ _ _ _ _ _ z => z, fun _ _ _ _ _ _ _ z => z⟩ (hg ds μ R q)⟩
  show RepS K H μ (ds.map some ++ List.replicate (N.length - ds.length) none) (vs.map some ++ List.replicate (N.length - vs.length) none)
  rw [rl.length]
  exact repS_some _ rl
end
end DL
set_option Elab.async false
set_option linter.all false
set_option maxRecDepth 100000
namespace DL
open PySem PySem.Spec PyProof.Rows L2
/-! ### tuple * int, also once and no time -/
end DL
set_option Elab.async false
set_option linter.all false
set_option maxRecDepth 100000
namespace DL
open PySem PySem.Spec PyProof.Rows L2
/-! ### min, max of a list, of a tuple of ints; divmod by more -/
/-- divmod by what is below 2 ** 64 -/
def gDivmodW2 : G2 := fun x y μ R => match x, y with
  | .int i, .int j => (0 < j ∧ j < 2 ^ 64) ∧ R (.tup [.int (i / j), .int (i % j)]) μ
  | _, _ => False
theorem noPy64 {i j : Int} (h0 : 0 < j) (h : j < 2 ^ 64) : Builtin.divisionGoesByPylong i j = false := by
  refine PyProof.noPylong_of_log2 ?_
  by_cases e : j.natAbs = 0
  · omega
  · exact Nat.lt_trans ((Nat.log2_lt e).mpr (show j.natAbs < 2 ^ 64 by omega)) (by decide)
theorem sim_divmodW2 {K : PySem.W.Frag} : SimC K (fun xs H Q => ∃ i j, xs = [.int i, .int j] ∧ CDivP i j ∧ ∀ p, H p = none → Q (.ref p) (upd H p (.tup [.int (i / j), .int (i % j)]))) (g2 gDivmodW2) := sim_g2 fun v w d e H μ Q R rm rv rw q f => by
  cases d <;> cases e <;> try exact False.elim q
  rename_i i j
  rw [rep_int rv, rep_int rw]
  obtain ⟨⟨h0, h1⟩, q⟩ := q
  exact ⟨i, j, rfl, ⟨h0, noPy64 h0 h1⟩, fun t n => fw_tup rm n (RepL.cons to_int (RepL.cons to_int RepL.nil)) q f⟩
/-! ### count, index of a list of ints -/
/-! ### defs as values -/
/-! ### minus -/
def gNeg : G1 := fun x μ R => match x with
  | .int i => R (.int (-i)) μ
  | _ => False
theorem sim_neg {K : PySem.W.Frag} : SimU K (rU fun i => .int (-i)) gNeg := by
  intro x dx H μ Q R rm rx q f
  cases dx <;> try exact False.elim q
  rw [rep_int rx]
  exact ⟨_, rfl, fw_now rm to_int q f⟩
/-! ### two in the other order -/
def swp2 {α : Type} : List α → List α
  | [a, b] => [b, a]
  | l => l
theorem swp2_rep {K : PySem.W.Frag} {H : Hp} {μ : Mu} {ds : List D} {vs : List V} (h : RepL K H μ ds vs) (l : ds.length = 2) : RepL K H μ (swp2 ds) (swp2 vs) := by
  obtain ⟨a, b, rfl⟩ : ∃ a b, ds = [a, b] := by
    cases ds with
    | nil => cases l
    | cons a ds =>
      cases ds with
      | nil => cases l
      | cons b ds =>
        cases ds with
        | nil => exact ⟨a, b, rfl⟩
        | cons c ds => cases l
  obtain ⟨v, w, rfl, r1, r2⟩ := repL2 h
  exact RepL.cons r2 (RepL.cons r1 RepL.nil)
theorem swp2_vals {zs : List V} {ws : List Value} (h : Vals zs ws) : Vals (swp2 zs) (swp2 ws) := by
  cases h with
  | nil => exact .nil
  | cons a h =>
    cases h with
    | nil => exact .cons a .nil
    | cons b h =>
      cases h with
      | nil => exact .cons b (.cons a .nil)
      | cons c h => exact .cons a (.cons b (.cons c h))
/-! ### int * int, tuple * int -/
end DL
set_option Elab.async false
set_option linter.all false
set_option maxRecDepth 100000
namespace DL
open PySem PySem.Spec PyProof.Rows L2
/-! ### x in l of nested data; sorted of ints; three the other way round -/
def gInD (k : Bool → Bool) : G2 := fun x y μ R => ∃ d ds, py x = some d ∧ py y = some (.list ds) ∧ SeqAt.shaped d = true ∧ SeqAt.shaped (.list ds) = true ∧ R (.bl (k (ds.any fun z => PyData.eqv z d))) μ
theorem sim_inD {K : PySem.W.Frag} : SimO K (rInD K) (gInD id) := by
  intro x y dx dy H μ Q R rm rx ry ⟨d, ds, h1, h2, h3, h4, q⟩ f
  exact ⟨d, ds, Rep.dp dx x d rx h1, Rep.dp dy y _ ry h2, h3, h4, fw_now rm to_bl q f⟩
theorem units65 {k : Nat} {A : Around} (r : Room (k + 1) A) : A.units + 65 < cLine := by have := r.un; omega
end DL
set_option Elab.async false
set_option linter.all false
set_option maxRecDepth 100000
namespace DL
open PySem PySem.Spec PyProof.Rows L2
/-! ### repr, also of None -/
end DL
set_option Elab.async false
set_option linter.all false
set_option maxRecDepth 100000
namespace DL
open PySem PySem.Spec PyProof.Rows L2
/-! ### list * int as a new cell; cell[i] op= e -/
end DL
set_option Elab.async false
set_option linter.all false
set_option maxRecDepth 100000
namespace DL
open PySem PySem.Spec PyProof.Rows L2
/-! ### gcd, comb by the module's names -/
end DL
set_option Elab.async false
set_option linter.all false
set_option maxRecDepth 100000
namespace PySem
open Sem (wp)
end PySem
set_option Elab.async false
set_option linter.all false
set_option maxRecDepth 100000
namespace PySem
open Sem (wp)
def ItemsN (h : Heap) (ps : List (Addr × Addr)) (i : Nat) (us : List Value) : Prop :=
  us.length = ps.length ∧ ∀ (k : Nat) p u, ps[k]? = some p → us[k]? = some u → ∃ its, h.IsList p.2 its ∧ its[i]? = some u
theorem ItemsN.at {h : Heap} {ps done todo : List (Addr × Addr)} {p : Addr × Addr} {i : Nat} {us : List Value} (hu : ItemsN h ps i us) (e : ps = done ++ p :: todo) : ∃ u its, us[done.length]? = some u ∧ h.IsList p.2 its ∧ its[i]? = some u := by
  have hp : ps[done.length]? = some p := by rw [e]; simp
  have hl : done.length < us.length := by rw [hu.1, e]; simp
  obtain ⟨its, a, b⟩ := hu.2 done.length p us[done.length] hp (List.getElem?_eq_getElem hl)
  exact ⟨_, its, List.getElem?_eq_getElem hl, a, b⟩
end PySem
set_option Elab.async false
set_option linter.all false
set_option maxRecDepth 100000
namespace DL
open PySem PySem.Spec PyProof.Rows L2 RZ
/-- two lists, each of one with each of the other at its place -/
def A2 {α β : Type} (P : α → β → Prop) : List α → List β → Prop
  | [], [] => True
  | a :: as, b :: bs => P a b ∧ A2 P as bs
  | _, _ => False
theorem A2.len {α β : Type} {P : α → β → Prop} : ∀ {as : List α} {bs : List β}, A2 P as bs → as.length = bs.length
  | [], [], _ => rfl
  | _ :: _, _ :: _, h => congrArg (· + 1) h.2.len
  | [], _ :: _, h => h.elim
  | _ :: _, [], h => h.elim
theorem A2.imp {α β : Type} {P Q : α → β → Prop} (f : ∀ a b, P a b → Q a b) : ∀ {as : List α} {bs : List β}, A2 P as bs → A2 Q as bs
  | [], [], _ => trivial
  | _ :: _, _ :: _, h => ⟨f _ _ h.1, h.2.imp f⟩
  | [], _ :: _, h => h.elim
  | _ :: _, [], h => h.elim
end DL
set_option Elab.async false
set_option linter.all false
set_option maxRecDepth 100000
namespace DL
open PySem PySem.Spec PyProof.Rows L2 RZ
theorem A2.left {α β : Type} {P : α → β → Prop} : ∀ {as : List α} {bs : List β}, A2 P as bs → ∀ a ∈ as, ∃ b, P a b
  | a :: as, b :: bs, h, x, hx => by
    rcases List.mem_cons.mp hx with q | q
    · subst q; exact ⟨b, h.1⟩
    · exact h.2.left x q
  | [], _, _, x, hx => (List.not_mem_nil hx).elim
  | _ :: _, [], h, _, _ => h.elim
/-! ### zip(*rows), rows a list of lists of one length -/
end DL
set_option Elab.async false
set_option linter.all false
set_option maxRecDepth 100000
namespace DL
open PySem PySem.Spec PyProof.Rows L2 RZ
/-! ### break -/
/-! ### zip of two lists -/
/-! ### cells in a list, all forgotten at once -/
end DL
set_option Elab.async false
set_option linter.all false
set_option maxRecDepth 100000
namespace DL
open PySem PySem.Spec PyProof.Rows L2
/-! ### defs whose last parameters have numbers as defaults -/
section
variable {P : Program} {w : World} {K : PySem.W.Frag} {mg : Str → Option Value} {base : Heap}
theorem okDV {x qual : Str} {st : Stmt} {dvs : List V} {f : Addr} {fd : FuncData} {N ps : List Str} {k : Nat} {g : GC} (F : FunD K x qual (defArgs st) (defBody st) (defScope st) dvs [] f fd) (S : FnScope N ps (defScope st)) (len : ∀ ds μ R, g ds μ R → ds.length = ps.length)
    (h : ∃ gb : GS, (∀ (cdv : Value) (A : Around) (outer : List Env) (s : Shared) (H : Hp) (E : XK), Room k (A.deeper (envOfC qual (defScope st) s.heap.objs.size f cdv)) →
        DSs (cxOf CX0 P w K mg base N qual (defScope st) f cdv A outer s H E).nox (defBody st) gb) ∧
      ∀ ds μ R, g ds μ R → gb { nx := fun _ μ' => R .non μ', rt := R } (begin_ N ds) μ) : FnOk P w K mg base CX0 (k + 1) f fd ps (toSp K g) := by
  obtain ⟨gb, hb, hg⟩ := h
  refine F.ok S (fun vs H Q E ⟨ds, μ, R, rm, rl, q, fw⟩ => by rw [rl.length]; exact len ds μ R q) fun cdv A outer s H vs Q E hr ⟨ds, μ, R, rm, rl, q, fw⟩ => ?_
  obtain ⟨t, a, b⟩ := (hb cdv A outer s H E hr).ex
  refine ⟨t, a.nox, b _ H (begin_ N ds) μ _ { nx := fun _ μ' => R .non μ', rt := R } rm ?_ ⟨fun σ H' δ μ' k rm' _ q' => fw .non .non H' μ' k rm' (by unfold Rep; rfl) q', fw, fun _ _ _ _ _ _ _ z => z, fun _ _ _ _ _ _ _ z => z⟩ (hg ds μ R q)⟩
  show RepS K H μ (ds.map some ++ List.replicate (N.length - ds.length) none) (vs.map some ++ List.replicate (N.length - vs.length) none)
  rw [rl.length]
  exact repS_some _ rl
end
section
variable {X : Cx} {k : Nat} {f : Addr} {fd : FuncData} {ps : List Str} {g : GC} {x : Str} {p pos : Pos} {e : Expr} {es : List Expr} {ga : GA}
def gCallV (dd : List Int) (g : GC) (ga : GA) : GE := fun δ μ R => ga δ μ fun ds μ1 => g (ds ++ dd.map D.int) μ1 R
theorem repL_ints {K : PySem.W.Frag} {H : Hp} {μ : Mu} : ∀ dd : List Int, RepL K H μ (dd.map D.int) (dd.map V.int)
  | [] => RepL.nil
  | _ :: dd => RepL.cons to_int (repL_ints dd)
theorem repL_two {K : PySem.W.Frag} {H : Hp} {μ : Mu} : ∀ {as bs : List D} {vs us : List V}, RepL K H μ as vs → RepL K H μ bs us → RepL K H μ (as ++ bs) (vs ++ us) := by
  intro as
  induction as with
  | nil =>
    intro bs vs us h k
    unfold RepL at h
    rw [h]
    exact k
  | cons a as ih =>
    intro bs vs us h k
    unfold RepL at h
    obtain ⟨v, r, rfl, h1, h2⟩ := h
    exact RepL.cons h1 (ih h2 k)
theorem de_callV {dd : List Int} (F : FnOk X.prog X.w X.K X.mg X.base CX0 k f fd ps (toSp X.K g)) (hr : Room k X.A) (hg : Gl X x) (hm : X.mg x = some (.ref f)) (hk : PySem.W.keepIn X.K (.ref f) = true) (hb : ∃ ds, Vals (dd.map V.int) ds ∧ Binds X.K fd ps ds)
    (ha : DA X (e :: es) ga) (hdb : (x == ("__debug__" : Str)) = false := by decide) (he : starEach (e :: es) X.env = (false, eval e X.env) :: starEach es X.env := by rfl) (hpl : (backTo pos (starEach es X.env)).any (·.1) = false := by rfl) :
    DE X (.Call (.Name x p) (e :: es) [] pos) (gCallV dd g ga) := by
  obtain ⟨t, a1, a2⟩ := ha.ex
  obtain ⟨dv, hv, hb⟩ := hb
  refine ⟨_, pe_call F hr hg hm hk hb hv (pass0 (X := X)) a1 hdb he hpl, fun σ H δ μ Q R rm rs q f => ?_⟩
  refine a2 σ H δ μ _ _ rm rs q fun vs ds H1 μ1 k1 rm1 r1 q1 => ?_
  exact ⟨ds ++ dd.map D.int, μ1, R, rm1, repL_two r1 (repL_ints dd), q1, f.re k1⟩
end
end DL
set_option Elab.async false
set_option linter.all false
set_option maxRecDepth 100000
namespace DL
open PySem PySem.Spec PyProof.Rows L2
/-! ### in, of a list of bools -/
/-! ### repr of a few long numbers -/
structure ShowOkW (p : PyData) : Prop where
  lay : PyData.canLay0 p = true
  shrt : p.intsShort 600 = true
  show_ : p.showable = true
  dp : p.depth ≤ 20
  wt : p.weight ≤ 20000
theorem ShowOkW.len {p : PyData} (h : ShowOkW p) : p.shown.length ≤ sizeLine := by
  have h1 := PyData.shown_le 600 (by decide) p (PyData.leavesShort_of_canLay0 600 p h.lay h.shrt)
  have := h.wt
  rw [sizeLine_eq]
  omega
end DL
set_option Elab.async false
set_option linter.all false
set_option maxRecDepth 100000
namespace DL
open PySem PySem.Spec PyProof.Rows L2 PySem.W
/-! ### sorted and min of nested data -/
section
variable {h : Heap}
theorem each_zip : ∀ {xs : List V} {us : List Value} {ps : List PyData} {as : List Addr}, Vals xs us → ReadsAll h us ps as →
    EachIs (fun v (b : V × PyData) => RelV b.1 v) us (xs.zip ps) ∧ EachIs (fun v (b : V × PyData) => ∃ as, Reads h v b.2 as) us (xs.zip ps)
  | [], _, _, _, .nil, r => by
    cases r
    exact ⟨.nil, .nil⟩
  | _ :: _, _, _, _, .cons a t, r => by
    cases r with
    | cons r1 r2 =>
      obtain ⟨e1, e2⟩ := each_zip t r2
      exact ⟨.cons a e1, .cons ⟨_, r1⟩ e2⟩
theorem vals_each : ∀ {us : List Value} {bs : List (V × PyData)}, EachIs (fun v (b : V × PyData) => RelV b.1 v) us bs → Vals (bs.map (·.1)) us
  | _, _, .nil => .nil
  | _, _, .cons a t => .cons a (vals_each t)
theorem readsAll_size : ∀ {us : List Value} {ps : List PyData} {as : List Addr}, ReadsAll h us ps as → us.length = ps.length
  | _, _, _, .nil => rfl
  | _, _, _, .cons _ r => by rw [List.length_cons, List.length_cons, readsAll_size r]
end
abbrev byD : V × PyData → V × PyData → Bool := dataLe false (·.2)
def rSortD (K : PySem.W.Frag) : List V → Hp → VK → Prop := fun vs H Q => ∃ (a : Addr) (xs : List V) (ps : List PyData), vs = [V.ref a] ∧ SqL K H a xs ∧ DpAll K H xs ps ∧ AllAlike ps ∧ Sortable ps ∧ (∀ p ∈ ps, p.depth ≤ 20) ∧
  ∀ p : Addr, H p = none → Q (.ref p) (upd H p (.lst (((xs.zip ps).mergeSort byD).map (·.1))))
section
variable {X : Cx}
theorem cr_sortD (hu : X.A.units + 64 < cLine) : CallR X (.builtin "sorted") (rSortD X.K) := by
  intro pins s σ H xs0 us Q I r h
  obtain ⟨a, xs, ps, rfl, hs, hd, hal, hk, hdep, q⟩ := h
  obtain ⟨vals, rv, hl, hz⟩ := I.list hs
  rw [Vals.ref1 r]
  obtain ⟨as, ra⟩ := Dp.readsAll I ps xs vals hd rv
  obtain ⟨e1, e2⟩ := each_zip rv ra
  have lx : xs.length = ps.length := by rw [rv.length, readsAll_size ra]
  have em : (xs.zip ps).map (·.2) = ps := List.map_snd_zip (by omega)
  refine sorted_data (enc := (·.2)) hl.isList e1 e2 (by rw [em]; exact hal) (by rw [em]; exact hk) (by rw [List.length_zip]; omega) (fun b hb => ?_) fun out hlen ho => ?_
  · have : b.2 ∈ ps := by rw [← em]; exact List.mem_map_of_mem hb
    have := hdep _ this
    omega
  · obtain ⟨ep, he'⟩ := PyProof.Rows.sortedAll_at s.heap vals out.toArray
    have rv2 := vals_each ho
    refine ⟨.ref _, upd H (s.heap.objs.size + 1) (.lst (((xs.zip ps).mergeSort byD).map (·.1))), I.laid (t' := s.toks) (fun _ _ => PyProof.Rows.sortedAll_old) (Nat.le_succ _) ⟨?_, out, ep, rv2, he'⟩, rfl, q _ (I.hok.fresh (Nat.le_succ _))⟩
    rw [rv2.length, hlen, List.length_zip]
    omega
end
/-! readings -/
section
variable {K : PySem.W.Frag}
/-- sorted of tuples of any alike data -/
abbrev byP : D × PyData → D × PyData → Bool := dataLe false (·.2)
abbrev byT : (D × V) × PyData → (D × V) × PyData → Bool := dataLe false (·.2)
def sortDs (ds : List D) (μ : Mu) (R : KD) : Prop := ∃ ps, pyL ds = some ps ∧ AllAlike ps ∧ Sortable ps ∧ (∀ p ∈ ps, p.depth ≤ 20) ∧ R (.lst (((ds.zip ps).mergeSort byP).map (·.1))) μ
def gSortD1 : G1 := fun x μ R => match x with
  | .lst ds => sortDs ds μ R
  | _ => False
theorem repL_maps {H : Hp} {μ : Mu} {α : Type} {f : α → D} {g : α → V} : ∀ {l : List α}, (∀ t ∈ l, Rep K H μ (f t) (g t)) → RepL K H μ (l.map f) (l.map g)
  | [], _ => by
    rw [List.map_nil, List.map_nil]
    exact RepL.nil
  | t :: l, h => by
    rw [List.map_cons, List.map_cons]
    exact RepL.cons (h t List.mem_cons_self) (repL_maps fun s hs => h s (List.mem_cons_of_mem _ hs))
theorem repL_zip {H : Hp} {μ : Mu} : ∀ {ds : List D} {vs : List V} {ps : List PyData}, RepL K H μ ds vs → ∀ t ∈ (ds.zip vs).zip ps, Rep K H μ t.1.1 t.1.2
  | [], _, _, _, t, ht => by simp at ht
  | d :: ds, vs, ps, l, t, ht => by
    unfold RepL at l
    obtain ⟨v, r, rfl, h1, h2⟩ := l
    cases ps with
    | nil => simp at ht
    | cons p ps =>
      rw [List.zip_cons_cons, List.zip_cons_cons] at ht
      rcases List.mem_cons.mp ht with rfl | ht
      · exact h1
      · exact repL_zip h2 t ht
theorem zips_d : ∀ {ds : List D} {vs : List V} {ps : List PyData}, vs.length = ds.length → ((ds.zip vs).zip ps).map (fun t => (t.1.1, t.2)) = ds.zip ps
  | [], _, _, _ => by simp
  | d :: ds, [], _, h => by simp at h
  | d :: ds, v :: vs, [], _ => by simp
  | d :: ds, v :: vs, p :: ps, h => by
    rw [List.zip_cons_cons, List.zip_cons_cons, List.map_cons, List.zip_cons_cons, zips_d (by simpa using h)]
theorem zips_v : ∀ {ds : List D} {vs : List V} {ps : List PyData}, vs.length = ds.length → ((ds.zip vs).zip ps).map (fun t => (t.1.2, t.2)) = vs.zip ps
  | [], vs, _, h => by
    have : vs = [] := List.eq_nil_of_length_eq_zero (by simpa using h)
    subst this
    simp
  | d :: ds, [], _, h => by simp at h
  | d :: ds, v :: vs, [], _ => by simp
  | d :: ds, v :: vs, p :: ps, h => by
    rw [List.zip_cons_cons, List.zip_cons_cons, List.map_cons, List.zip_cons_cons, zips_v (by simpa using h)]
theorem sim_sortD : SimC K (rSortD K) (g1 gSortD1) := sim_g1 fun v d H μ Q R rm rv q f => by
  cases d <;> try exact False.elim q
  rename_i ds
  obtain ⟨ps, hp, ha, hk, hd, q⟩ := q
  obtain ⟨a, vs, rfl, i, _, l⟩ := rep_lst rv
  refine ⟨a, vs, ps, rfl, SqL.of i, RepL.dp _ _ _ l hp, ha, hk, hd, fun p n => ?_⟩
  have hl := l.length
  have e1 := List.map_mergeSort (l := (ds.zip vs).zip ps) (r := byT) (s := byP) (f := fun t => (t.1.1, t.2)) fun _ _ _ _ => rfl
  have e2 := List.map_mergeSort (l := (ds.zip vs).zip ps) (r := byT) (s := byD) (f := fun t => (t.1.2, t.2)) fun _ _ _ _ => rfl
  rw [zips_d hl] at e1
  rw [zips_v hl] at e2
  rw [← e1, List.map_map] at q
  rw [← e2, List.map_map]
  refine fw_lst rm n (repL_maps (f := fun t : (D × V) × PyData => t.1.1) (g := fun t : (D × V) × PyData => t.1.2) fun t ht => ?_) q f
  exact repL_zip l t ((List.mergeSort_perm _ _).mem_iff.mp ht)
end
end DL
set_option Elab.async false
set_option linter.all false
set_option maxRecDepth 100000
namespace DL
open PySem PySem.Spec PyProof.Rows L2
/-! ### len of an instance whose class has a __len__ of its own -/
end DL
set_option Elab.async false
set_option linter.all false
set_option maxRecDepth 100000
namespace K10
open PySem PySem.Spec PyProof.Rows L2 DL
def top (i : Nat) : Stmt := PySem.Challenge.pw_webreckon_k04_whole_rings_and_bonds.main.body.getD i (.Pass ⟨0, 0, 0, 0⟩)
structure Ad where
  is_integer : Addr
  fd_is_integer : FuncData
  is_integer_from : Addr
  fd_is_integer_from : FuncData
  are_letters : Addr
  fd_are_letters : FuncData
  are_places : Addr
  fd_are_places : FuncData
  is_tie : Addr
  fd_is_tie : FuncData
  first_wrong_tie : Addr
  fd_first_wrong_tie : FuncData
  where_no_lot : Addr
  fd_where_no_lot : FuncData
  check_places : Addr
  fd_check_places : FuncData
  check_ties : Addr
  fd_check_ties : FuncData
  check_lot : Addr
  fd_check_lot : FuncData
  check_web : Addr
  fd_check_web : FuncData
  marks : Addr
  fd_marks : FuncData
  check_web_and_lot : Addr
  fd_check_web_and_lot : FuncData
  lot_of_all : Addr
  fd_lot_of_all : FuncData
  without : Addr
  fd_without : FuncData
  outside_of : Addr
  fd_outside_of : FuncData
  lots_within : Addr
  fd_lots_within : FuncData
  all_lots : Addr
  fd_all_lots : FuncData
  all_herds : Addr
  fd_all_herds : FuncData
  crossing : Addr
  fd_crossing : FuncData
  rank_of : Addr
  fd_rank_of : FuncData
  spare_of : Addr
  fd_spare_of : FuncData
  full_rank : Addr
  fd_full_rank : FuncData
  is_ring_lot : Addr
  fd_is_ring_lot : FuncData
  is_bond_lot : Addr
  fd_is_bond_lot : FuncData
  rank : Addr
  fd_rank : FuncData
  spare : Addr
  fd_spare : FuncData
  is_ring : Addr
  fd_is_ring : FuncData
  is_bond : Addr
  fd_is_bond : FuncData
  is_even : Addr
  fd_is_even : FuncData
  is_two_sided : Addr
  fd_is_two_sided : FuncData
  rings : Addr
  fd_rings : FuncData
  bonds : Addr
  fd_bonds : FuncData
  bridges : Addr
  fd_bridges : FuncData
  L_cask : Addr
  fd_L_cask : FuncData
  L_tap : Addr
  fd_L_tap : FuncData
  L_pick : Addr
  fd_L_pick : FuncData
  L_spots : Addr
  fd_L_spots : FuncData
  L_joint : Addr
  fd_L_joint : FuncData
  L_net : Addr
  fd_L_net : FuncData
  L_herds : Addr
  fd_L_herds : FuncData
  L_lots : Addr
  fd_L_lots : FuncData
  L_is_round : Addr
  fd_L_is_round : FuncData
  L_spots_lots : Addr
  fd_L_spots_lots : FuncData
  L_parts : Addr
  fd_L_parts : FuncData
  L_met : Addr
  fd_L_met : FuncData
  L_even_one : Addr
  fd_L_even_one : FuncData
  L_exchanged : Addr
  fd_L_exchanged : FuncData
  L_right : Addr
  fd_L_right : FuncData
  law : Addr
  fd_law : FuncData
  Web : Addr
  Web_init : Addr
  fd_Web_init : FuncData
structure Tx (K : PySem.W.Frag) (mg : Str → Option Value) (A : Ad) : Prop where
  F_is_integer : Fun K "is_integer" "is_integer" (top 12) A.is_integer A.fd_is_integer
  b_is_integer : Binds K A.fd_is_integer ["value"] []
  g_is_integer : mg "is_integer" = some (.ref A.is_integer)
  F_is_integer_from : Fun K "is_integer_from" "is_integer_from" (top 13) A.is_integer_from A.fd_is_integer_from
  b_is_integer_from : Binds K A.fd_is_integer_from ["value", "low", "high"] []
  g_is_integer_from : mg "is_integer_from" = some (.ref A.is_integer_from)
  F_are_letters : Fun K "are_letters" "are_letters" (top 14) A.are_letters A.fd_are_letters
  b_are_letters : Binds K A.fd_are_letters ["value"] []
  g_are_letters : mg "are_letters" = some (.ref A.are_letters)
  F_are_places : Fun K "are_places" "are_places" (top 15) A.are_places A.fd_are_places
  b_are_places : Binds K A.fd_are_places ["value"] []
  g_are_places : mg "are_places" = some (.ref A.are_places)
  F_is_tie : Fun K "is_tie" "is_tie" (top 16) A.is_tie A.fd_is_tie
  b_is_tie : Binds K A.fd_is_tie ["places", "value"] []
  g_is_tie : mg "is_tie" = some (.ref A.is_tie)
  F_first_wrong_tie : Fun K "first_wrong_tie" "first_wrong_tie" (top 17) A.first_wrong_tie A.fd_first_wrong_tie
  b_first_wrong_tie : Binds K A.fd_first_wrong_tie ["places", "ties"] []
  g_first_wrong_tie : mg "first_wrong_tie" = some (.ref A.first_wrong_tie)
  F_where_no_lot : Fun K "where_no_lot" "where_no_lot" (top 19) A.where_no_lot A.fd_where_no_lot
  b_where_no_lot : Binds K A.fd_where_no_lot ["web", "values", "most"] []
  g_where_no_lot : mg "where_no_lot" = some (.ref A.where_no_lot)
  F_check_places : Fun K "check_places" "check_places" (top 20) A.check_places A.fd_check_places
  b_check_places : Binds K A.fd_check_places ["places"] []
  g_check_places : mg "check_places" = some (.ref A.check_places)
  F_check_ties : Fun K "check_ties" "check_ties" (top 21) A.check_ties A.fd_check_ties
  b_check_ties : Binds K A.fd_check_ties ["places", "ties"] []
  g_check_ties : mg "check_ties" = some (.ref A.check_ties)
  F_check_lot : FunD K "check_lot" "check_lot" (defArgs (top 22)) (defBody (top 22)) (defScope (top 22)) [.int (11)] [] A.check_lot A.fd_check_lot
  b_check_lot : ∃ ds, Vals [.int (11)] ds ∧ Binds K A.fd_check_lot ["web", "lot", "most"] ds
  g_check_lot : mg "check_lot" = some (.ref A.check_lot)
  F_check_web : Fun K "check_web" "check_web" (top 25) A.check_web A.fd_check_web
  b_check_web : Binds K A.fd_check_web ["web"] []
  g_check_web : mg "check_web" = some (.ref A.check_web)
  F_marks : Fun K "marks" "marks" (top 26) A.marks A.fd_marks
  b_marks : Binds K A.fd_marks ["web", "lot"] []
  g_marks : mg "marks" = some (.ref A.marks)
  F_check_web_and_lot : Fun K "check_web_and_lot" "check_web_and_lot" (top 28) A.check_web_and_lot A.fd_check_web_and_lot
  b_check_web_and_lot : Binds K A.fd_check_web_and_lot ["web", "lot"] []
  g_check_web_and_lot : mg "check_web_and_lot" = some (.ref A.check_web_and_lot)
  F_lot_of_all : Fun K "lot_of_all" "lot_of_all" (top 29) A.lot_of_all A.fd_lot_of_all
  b_lot_of_all : Binds K A.fd_lot_of_all ["web"] []
  g_lot_of_all : mg "lot_of_all" = some (.ref A.lot_of_all)
  F_without : Fun K "without" "without" (top 30) A.without A.fd_without
  b_without : Binds K A.fd_without ["lot", "index"] []
  g_without : mg "without" = some (.ref A.without)
  F_outside_of : Fun K "outside_of" "outside_of" (top 31) A.outside_of A.fd_outside_of
  b_outside_of : Binds K A.fd_outside_of ["web", "lot"] []
  g_outside_of : mg "outside_of" = some (.ref A.outside_of)
  F_lots_within : Fun K "lots_within" "lots_within" (top 32) A.lots_within A.fd_lots_within
  b_lots_within : Binds K A.fd_lots_within ["lot"] []
  g_lots_within : mg "lots_within" = some (.ref A.lots_within)
  F_all_lots : Fun K "all_lots" "all_lots" (top 33) A.all_lots A.fd_all_lots
  b_all_lots : Binds K A.fd_all_lots ["web"] []
  g_all_lots : mg "all_lots" = some (.ref A.all_lots)
  F_all_herds : Fun K "all_herds" "all_herds" (top 34) A.all_herds A.fd_all_herds
  b_all_herds : Binds K A.fd_all_herds ["web"] []
  g_all_herds : mg "all_herds" = some (.ref A.all_herds)
  F_crossing : Fun K "crossing" "crossing" (top 35) A.crossing A.fd_crossing
  b_crossing : Binds K A.fd_crossing ["web", "herd"] []
  g_crossing : mg "crossing" = some (.ref A.crossing)
  F_rank_of : Fun K "rank_of" "rank_of" (top 36) A.rank_of A.fd_rank_of
  b_rank_of : Binds K A.fd_rank_of ["web", "lot"] []
  g_rank_of : mg "rank_of" = some (.ref A.rank_of)
  F_spare_of : Fun K "spare_of" "spare_of" (top 37) A.spare_of A.fd_spare_of
  b_spare_of : Binds K A.fd_spare_of ["web", "lot"] []
  g_spare_of : mg "spare_of" = some (.ref A.spare_of)
  F_full_rank : Fun K "full_rank" "full_rank" (top 38) A.full_rank A.fd_full_rank
  b_full_rank : Binds K A.fd_full_rank ["web"] []
  g_full_rank : mg "full_rank" = some (.ref A.full_rank)
  F_is_ring_lot : Fun K "is_ring_lot" "is_ring_lot" (top 39) A.is_ring_lot A.fd_is_ring_lot
  b_is_ring_lot : Binds K A.fd_is_ring_lot ["web", "lot"] []
  g_is_ring_lot : mg "is_ring_lot" = some (.ref A.is_ring_lot)
  F_is_bond_lot : Fun K "is_bond_lot" "is_bond_lot" (top 40) A.is_bond_lot A.fd_is_bond_lot
  b_is_bond_lot : Binds K A.fd_is_bond_lot ["web", "lot"] []
  g_is_bond_lot : mg "is_bond_lot" = some (.ref A.is_bond_lot)
  F_rank : Fun K "rank" "rank" (top 41) A.rank A.fd_rank
  b_rank : Binds K A.fd_rank ["web", "lot"] []
  g_rank : mg "rank" = some (.ref A.rank)
  F_spare : Fun K "spare" "spare" (top 42) A.spare A.fd_spare
  b_spare : Binds K A.fd_spare ["web", "lot"] []
  g_spare : mg "spare" = some (.ref A.spare)
  F_is_ring : Fun K "is_ring" "is_ring" (top 43) A.is_ring A.fd_is_ring
  b_is_ring : Binds K A.fd_is_ring ["web", "lot"] []
  g_is_ring : mg "is_ring" = some (.ref A.is_ring)
  F_is_bond : Fun K "is_bond" "is_bond" (top 44) A.is_bond A.fd_is_bond
  b_is_bond : Binds K A.fd_is_bond ["web", "lot"] []
  g_is_bond : mg "is_bond" = some (.ref A.is_bond)
  F_is_even : Fun K "is_even" "is_even" (top 45) A.is_even A.fd_is_even
  b_is_even : Binds K A.fd_is_even ["web", "lot"] []
  g_is_even : mg "is_even" = some (.ref A.is_even)
  F_is_two_sided : Fun K "is_two_sided" "is_two_sided" (top 46) A.is_two_sided A.fd_is_two_sided
  b_is_two_sided : Binds K A.fd_is_two_sided ["web", "lot"] []
  g_is_two_sided : mg "is_two_sided" = some (.ref A.is_two_sided)
  F_rings : Fun K "rings" "rings" (top 47) A.rings A.fd_rings
  b_rings : Binds K A.fd_rings ["web"] []
  g_rings : mg "rings" = some (.ref A.rings)
  F_bonds : Fun K "bonds" "bonds" (top 48) A.bonds A.fd_bonds
  b_bonds : Binds K A.fd_bonds ["web"] []
  g_bonds : mg "bonds" = some (.ref A.bonds)
  F_bridges : Fun K "bridges" "bridges" (top 49) A.bridges A.fd_bridges
  b_bridges : Binds K A.fd_bridges ["web"] []
  g_bridges : mg "bridges" = some (.ref A.bridges)
  F_L_cask : Fun K "_law_cask" "_law_cask" (top 51) A.L_cask A.fd_L_cask
  b_L_cask : Binds K A.fd_L_cask ["_law_cells", "_law_at"] []
  g_L_cask : mg "_law_cask" = some (.ref A.L_cask)
  F_L_tap : Fun K "_law_tap" "_law_tap" (top 52) A.L_tap A.fd_L_tap
  b_L_tap : Binds K A.fd_L_tap ["_law_cask_here", "_law_upto"] []
  g_L_tap : mg "_law_tap" = some (.ref A.L_tap)
  F_L_pick : Fun K "_law_pick" "_law_pick" (top 53) A.L_pick A.fd_L_pick
  b_L_pick : Binds K A.fd_L_pick ["_law_cask_here", "_law_things"] []
  g_L_pick : mg "_law_pick" = some (.ref A.L_pick)
  F_L_spots : Fun K "_law_spots" "_law_spots" (top 54) A.L_spots A.fd_L_spots
  b_L_spots : Binds K A.fd_L_spots ["_law_cask_here", "_law_many_here"] []
  g_L_spots : mg "_law_spots" = some (.ref A.L_spots)
  F_L_joint : Fun K "_law_joint" "_law_joint" (top 55) A.L_joint A.fd_L_joint
  b_L_joint : Binds K A.fd_L_joint ["_law_one", "_law_two"] []
  g_L_joint : mg "_law_joint" = some (.ref A.L_joint)
  F_L_net : Fun K "_law_net" "_law_net" (top 56) A.L_net A.fd_L_net
  b_L_net : Binds K A.fd_L_net ["_law_cask_here", "_law_most_spots", "_law_most_rows"] []
  g_L_net : mg "_law_net" = some (.ref A.L_net)
  F_L_herds : Fun K "_law_herds" "_law_herds" (top 57) A.L_herds A.fd_L_herds
  b_L_herds : Binds K A.fd_L_herds ["_law_spots_here", "_law_rows"] []
  g_L_herds : mg "_law_herds" = some (.ref A.L_herds)
  F_L_lots : Fun K "_law_lots" "_law_lots" (top 58) A.L_lots A.fd_L_lots
  b_L_lots : Binds K A.fd_L_lots ["_law_net_here"] []
  g_L_lots : mg "_law_lots" = some (.ref A.L_lots)
  F_L_is_round : Fun K "_law_is_round" "_law_is_round" (top 59) A.L_is_round A.fd_L_is_round
  b_L_is_round : Binds K A.fd_L_is_round ["_law_net_here", "_law_lot_here"] []
  g_L_is_round : mg "_law_is_round" = some (.ref A.L_is_round)
  F_L_spots_lots : Fun K "_law_spots_lots" "_law_spots_lots" (top 60) A.L_spots_lots A.fd_L_spots_lots
  b_L_spots_lots : Binds K A.fd_L_spots_lots ["_law_net_here"] []
  g_L_spots_lots : mg "_law_spots_lots" = some (.ref A.L_spots_lots)
  F_L_parts : Fun K "_law_parts" "_law_parts" (top 61) A.L_parts A.fd_L_parts
  b_L_parts : Binds K A.fd_L_parts ["_law_net_here", "_law_lot_here"] []
  g_L_parts : mg "_law_parts" = some (.ref A.L_parts)
  F_L_met : Fun K "_law_met" "_law_met" (top 62) A.L_met A.fd_L_met
  b_L_met : Binds K A.fd_L_met ["_law_one", "_law_two"] []
  g_L_met : mg "_law_met" = some (.ref A.L_met)
  F_L_even_one : Fun K "_law_even_one" "_law_even_one" (top 63) A.L_even_one A.fd_L_even_one
  b_L_even_one : Binds K A.fd_L_even_one ["_law_net_here", "_law_lot_here"] []
  g_L_even_one : mg "_law_even_one" = some (.ref A.L_even_one)
  F_L_exchanged : Fun K "_law_exchanged" "_law_exchanged" (top 64) A.L_exchanged A.fd_L_exchanged
  b_L_exchanged : Binds K A.fd_L_exchanged ["_law_lots_here"] []
  g_L_exchanged : mg "_law_exchanged" = some (.ref A.L_exchanged)
  F_L_right : Fun K "_law_right" "_law_right" (top 65) A.L_right A.fd_L_right
  b_L_right : Binds K A.fd_L_right ["_law_cask_here"] []
  g_L_right : mg "_law_right" = some (.ref A.L_right)
  F_law : Fun K "law" "law" (top 66) A.law A.fd_law
  b_law : Binds K A.fd_law ["_law_cells"] []
  g_law : mg "law" = some (.ref A.law)
  z_abs : mg "abs" = none
  z_all : mg "all" = none
  z_any : mg "any" = none
  z_bool : mg "bool" = none
  z_divmod : mg "divmod" = none
  z_enumerate : mg "enumerate" = none
  z_int : mg "int" = none
  z_isinstance : mg "isinstance" = none
  z_len : mg "len" = none
  z_list : mg "list" = none
  z_max : mg "max" = none
  z_min : mg "min" = none
  z_range : mg "range" = none
  z_sorted : mg "sorted" = none
  z_str : mg "str" = none
  z_tuple : mg "tuple" = none
  z_zip : mg "zip" = none
  c_MOST_PLACES : ∃ t, mg "MOST_PLACES" = some (.int (7) t)
  c_MOST_TIES : ∃ t, mg "MOST_TIES" = some (.int (11) t)
  c_LETTERS : ∃ t, mg "LETTERS" = some (.str "abcdefgh" t)
  c_NOWHERE : ∃ t, mg "NOWHERE" = some (.int (-1) t)
  g_Web : mg "Web" = some (.ref A.Web)
  k_Web : Cls K A.Web
  i_Web : IsC K A.Web
  n_places : NoAttr K A.Web "places"
  n_ties : NoAttr K A.Web "ties"
  m_Web : Mk K A.Web A.Web_init
  F_Web_init : Fun K "__init__" "Web.__init__" (inClass (top 24) 0) A.Web_init A.fd_Web_init
  b_Web_init : Binds K A.fd_Web_init ["self", "places", "ties"] []
  kb_is_ring : KBn K A.fd_is_ring ["web", "lot"] 0 ["lot", "web"] (fun _ ws => swp2 ws) (fun _ zs => swp2 zs)
  kb_is_bond : KBn K A.fd_is_bond ["web", "lot"] 0 ["lot", "web"] (fun _ ws => swp2 ws) (fun _ zs => swp2 zs)
  kb_is_even : KBn K A.fd_is_even ["web", "lot"] 0 ["lot", "web"] (fun _ ws => swp2 ws) (fun _ zs => swp2 zs)
  kb_rings : KBn K A.fd_rings ["web"] 0 ["web"] (fun _ ws => ws) (fun _ zs => zs)
  kb_bonds : KBn K A.fd_bonds ["web"] 0 ["web"] (fun _ ws => ws) (fun _ zs => zs)
  kb_is_two_sided : KBn K A.fd_is_two_sided ["web", "lot"] 0 ["lot", "web"] (fun _ ws => swp2 ws) (fun _ zs => swp2 zs)
def dWeb (C : Addr) (p : List Nat) (ts : List Str) : D := .ins C [("places", .str (toS p)), ("ties", .tup (ts.map D.str))]
def dLot (lot : List Nat) : D := dI (lot.map Int.ofNat)
structure OkWeb (p : List Nat) (ts : List Str) : Prop where
  few : p.length ≤ 8
  many : ts.length ≤ 11
  ties : ∀ y ∈ ts, y.cps.size = 2 ∧ (ends y).1 ∈ p ∧ (ends y).2 ∈ p
def tiesOf (ts : List Str) (lot : List Nat) : List (Nat × Nat) := lot.map fun i => ends (ts.getD i Str.empty)
section
variable {P : Program} {w : World} {K : PySem.W.Frag} {mg : Str → Option Value} {base : Heap} {A : Ad}
theorem atK_nat {ds : List D} {j : Nat} {d : D} {R : D → Prop} (h : ds[j]? = some d) (r : R d) : atK ds (j : Int) R := by
  unfold atK
  rw [atI_nat h]
  exact r
theorem lot_at {lot : List Nat} {i : Nat} {x : D} (h : ((lot.map Int.ofNat).map D.int)[i]? = some x) : ∃ k, lot[i]? = some k ∧ x = .int (k : Nat) := by
  rw [List.getElem?_map, List.getElem?_map] at h
  cases e : lot[i]? with
  | none => rw [e] at h; cases h
  | some k =>
    rw [e] at h
    exact ⟨k, rfl, (Option.some.inj h).symm⟩
theorem two_signs {y : Str} (h : y.cps.size = 2) : ∃ a b, y.cps[0]? = some a ∧ y.cps[1]? = some b ∧ ends y = (a, b) := by
  obtain ⟨l⟩ := y
  obtain ⟨l⟩ := l
  match l, h with
  | [a, b], _ => exact ⟨a, b, rfl, rfl, rfl⟩
theorem occ_first' {p : List Nat} {c : Nat} (h : c ∈ p) : Builtin.Str.occurrences (toS p) ⟨#[c]⟩ 0 (toS p).length 1 = p.idxOf c :: [] := by
  have := occ_first (z := toS p) (c := c) (by rw [toS_list]; exact h)
  rw [toS_list] at this
  exact this
def g_marks (C : Addr) : GC := fun ds μ R => ∃ (p : List Nat) (ts : List Str) (lot : List Nat), ds = [dWeb C p ts, dLot lot] ∧ OkWeb p ts ∧ (∀ i ∈ lot, i < ts.length) ∧ R (.str (toS (marksL p (tiesOf ts lot)))) μ
def N26 : List Str := ["web", "lot", "row", "index", "tie", "one", "other"]
theorem sc26 : FnScope N26 ["web", "lot"] (defScope (top 26)) := ⟨rfl, rfl, rfl, by decide +kernel, rfl, by decide +kernel, by decide +kernel⟩
theorem ok_marks (T : Tx K mg A) : FnOk P w K mg base CX0 1 A.marks A.fd_marks ["web", "lot"] (toSp K (g_marks A.Web)) := by
  refine okD T.F_marks sc26 (fun ds μ R h => ?_) ⟨_, fun cdv A0 outer s H E hr =>
    (dss_cons (ds_set sc26.nd (i := 2) rfl (by first | exact Or.inl rfl | exact Or.inr rfl) (de_fld T.k_Web T.n_places (dv 0)))
      (dss_cons (ds_for PassesOwn.never rfl (di_both (dv 1)) (pg_name (i := 3) sc26.nd rfl (by first | exact Or.inl rfl | exact Or.inr rfl)) (sim_nm (i := 3))
      (dss_cons (ds_set sc26.nd (i := 4) rfl (by first | exact Or.inl rfl | exact Or.inr rfl) (de_ix ix_any sim_ix (de_fld T.k_Web T.n_ties (dv 0)) (dv 3) (fun _ _ => rfl)))
      ⟨_, pss_swap (ir := 2) (iw := 0) (it := 4) (io := 5) (iu := 6) T.k_Web T.n_places (by rfl) sc26.nd rfl rfl rfl rfl rfl rfl rfl rfl rfl rfl (by decide) (by decide) (by decide) (by decide) (by decide) (by rfl) (by rfl) T.z_max T.z_min, sim_swap⟩))
      (dss_one (ds_ret (dv 2))))), fun ds μ R h => ?_⟩
  · obtain ⟨p, ts, lot, rfl, _⟩ := h
    rfl
  · obtain ⟨p, ts, lot, rfl, ok, hl, h⟩ := h
    refine ⟨rfl, _, rfl, ?_⟩
    refine ⟨fun i δ' μ' => μ' = μ ∧ ∃ o3 o4 o5 o6, δ' = [some (dWeb A.Web p ts), some (dLot lot), some (.str (toS (marksL p (tiesOf ts (lot.take i))))), o3, o4, o5, o6], ⟨rfl, none, none, none, none, rfl⟩, ?_, ?_⟩
    · rintro i x δ' μ' hx ⟨rfl, o3, o4, o5, o6, rfl⟩
      obtain ⟨k, hk, rfl⟩ := lot_at hx
      have hm : k ∈ lot := List.mem_of_getElem? hk
      have hkt := hl k hm
      obtain ⟨y, hy⟩ : ∃ y, ts[k]? = some y := ⟨ts[k], by simp [hkt]⟩
      have hym : y ∈ ts := List.mem_of_getElem? hy
      obtain ⟨sy, m1, m2⟩ := ok.ties y hym
      have hge : ts.getD k Str.empty = y := by rw [List.getD_eq_getElem?_getD, hy]; rfl
      refine ⟨rfl, _, rfl, ?_⟩
      refine atK_nat (d := .str y) (by rw [List.getElem?_map, hy]; rfl) ?_
      have er : marksL p (tiesOf ts (lot.take (i + 1))) = stepM p (marksL p (tiesOf ts (lot.take i))) (ends y) := by
        unfold marksL tiesOf
        rw [take_succ_get hk, List.map_append, List.foldl_append]
        show stepM p _ (ends (ts.getD k Str.empty)) = _
        rw [hge]
      have hlen : (marksL p (tiesOf ts (lot.take i))).length = p.length := foldl_len p _ p
      generalize marksL p (tiesOf ts (lot.take i)) = r at er hlen
      obtain ⟨c0, c1, e0, e1, ee⟩ := two_signs sy
      have i0 : p.idxOf c0 < p.length := List.idxOf_lt_length_of_mem (by rw [ee] at m1; exact m1)
      have i1 : p.idxOf c1 < p.length := List.idxOf_lt_length_of_mem (by rw [ee] at m2; exact m2)
      have few := ok.few
      refine ⟨toS r, toS p, y, c0, c1, r.getD (p.idxOf c0) 0, r.getD (p.idxOf c1) 0, p.idxOf c0, p.idxOf c1, [], [], _, rfl, rfl, rfl, rfl, e0, e1, ?_, ?_, ?_, ?_, ?_, ?_⟩
      · exact occ_first' (by rw [ee] at m1; exact m1)
      · exact occ_first' (by rw [ee] at m2; exact m2)
      · show r.toArray.size < 1000
        rw [List.size_toArray]
        omega
      · show r.toArray[p.idxOf c0]? = _
        rw [List.getElem?_toArray, List.getD_eq_getElem?_getD, List.getElem?_eq_getElem (by omega)]
        rfl
      · show r.toArray[p.idxOf c1]? = _
        rw [List.getElem?_toArray, List.getD_eq_getElem?_getD, List.getElem?_eq_getElem (by omega)]
        rfl
      · refine ⟨rfl, some (.int (k : Nat)), some (.str y), some (.str ⟨#[r.getD (p.idxOf c0) 0]⟩), some (.str ⟨#[r.getD (p.idxOf c1) 0]⟩), ?_⟩
        show [some (dWeb A.Web p ts), some (dLot lot), some (D.str (swapped (toS r) (r.getD (p.idxOf c0) 0) (r.getD (p.idxOf c1) 0))), some (.int (k : Nat)), some (.str y), some (.str ⟨#[r.getD (p.idxOf c0) 0]⟩), some (.str ⟨#[r.getD (p.idxOf c1) 0]⟩)] = _
        rw [swapped_step (p := p) (y := ends y) (by rw [ee]) (by rw [ee]), er]
    · rintro δ' μ' ⟨rfl, o3, o4, o5, o6, rfl⟩
      have e : lot.take ((lot.map Int.ofNat).map D.int).length = lot := List.take_of_length_le (by simp)
      show R (.str (toS (marksL p (tiesOf ts (lot.take ((lot.map Int.ofNat).map D.int).length))))) μ'
      rw [e]
      exact h
def g_lot_of_all (C : Addr) : GC := fun ds μ R => ∃ (p : List Nat) (ts : List Str), ds = [dWeb C p ts] ∧ OkWeb p ts ∧ R (dLot (List.range ts.length)) μ
theorem upTo_lot (n : Nat) : D.tup (DL.upTo n) = dLot (List.range n) := by
  unfold DL.upTo dLot dI
  rw [List.map_map]
  rfl
def N29 : List Str := ["web"]
theorem sc29 : FnScope N29 ["web"] (defScope (top 29)) := ⟨rfl, rfl, rfl, by decide +kernel, rfl, by decide +kernel, by decide +kernel⟩
theorem ok_lot_of_all (T : Tx K mg A) : FnOk P w K mg base CX0 1 A.lot_of_all A.fd_lot_of_all ["web"] (toSp K (g_lot_of_all A.Web)) := by
  refine okD T.F_lot_of_all sc29 (fun ds μ R h => ?_) ⟨_, fun cdv A0 outer s H E hr =>
    (dss_one (ds_ret (de_tupRg (by rfl) (by rfl) T.z_tuple (by rfl) T.z_range (de_callB cr_len sim_len (by rfl) T.z_len boot_len (da_cons (de_fld T.k_Web T.n_ties (dv 0)) da_nil))))), fun ds μ R h => ?_⟩
  · obtain ⟨p, ts, rfl, _⟩ := h
    rfl
  · obtain ⟨p, ts, rfl, ok, h⟩ := h
    refine ⟨rfl, _, rfl, ?_⟩
    refine ⟨ts.length, by simp, by have := ok.many; omega, ?_⟩
    rw [upTo_lot]
    exact h
def rankOf (p : List Nat) (ts : List Str) (lot : List Nat) : Nat := ((List.zip (marksL p (tiesOf ts lot)) p).filter fun q => decide (q.1 ≠ q.2)).length
def g_rank_of (C : Addr) : GC := fun ds μ R => ∃ (p : List Nat) (ts : List Str) (lot : List Nat), ds = [dWeb C p ts, dLot lot] ∧ OkWeb p ts ∧ (∀ i ∈ lot, i < ts.length) ∧ R (.int (rankOf p ts lot : Nat)) μ
theorem pairs_len {x y : Str} : (pairsS x y).length = min x.cps.toList.length y.cps.toList.length := by
  unfold pairsS
  rw [List.length_zipWith]
theorem pairs_mem {x y : Str} {d : D} (h : d ∈ pairsS x y) : ∃ a b, d = .tup [.str ⟨#[a]⟩, .str ⟨#[b]⟩] := by
  unfold pairsS at h
  generalize x.cps.toList = l at h
  generalize y.cps.toList = m at h
  induction l generalizing m with
  | nil => cases h
  | cons a l ih =>
    cases m with
    | nil => cases h
    | cons b m =>
      rw [List.zipWith_cons_cons] at h
      rcases List.mem_cons.mp h with e | h
      · exact ⟨a, b, e⟩
      · exact ih m h
def unlike : D → Bool
  | .tup [.str a, .str b] => decide (a ≠ b)
  | _ => false
def head1 : D → D
  | .tup (d :: _) => d
  | d => d
theorem pairs_unlike {l p : List Nat} : ((pairsS (toS l) (toS p)).filter unlike).length = ((List.zip l p).filter fun q => decide (q.1 ≠ q.2)).length := by
  unfold pairsS
  rw [toS_list, toS_list]
  induction l generalizing p with
  | nil => rfl
  | cons a l ih =>
    cases p with
    | nil => rfl
    | cons b p =>
      rw [List.zipWith_cons_cons, List.zip_cons_cons]
      by_cases e : a = b
      · subst e
        rw [List.filter_cons_of_neg (by simp [unlike]), List.filter_cons_of_neg (by simp)]
        exact ih
      · rw [List.filter_cons_of_pos (by simp [unlike, e]), List.filter_cons_of_pos (by simp [e]), List.length_cons, List.length_cons, ih]
def N36 : List Str := ["web", "lot", "mark", "place"]
theorem sc36 : FnScope N36 ["web", "lot"] (defScope (top 36)) := ⟨rfl, rfl, rfl, by decide +kernel, rfl, by decide +kernel, by decide +kernel⟩
theorem ok_rank_of (T : Tx K mg A) : FnOk P w K mg base CX0 2 A.rank_of A.fd_rank_of ["web", "lot"] (toSp K (g_rank_of A.Web)) := by
  refine okD T.F_rank_of sc36 (fun ds μ R h => ?_) ⟨_, fun cdv A0 outer s H E hr =>
    (dss_one (ds_ret (de_callB cr_len sim_len (by rfl) T.z_len boot_len (da_cons (de_lc (own := [("mark", 2), ("place", 3)]) (by rfl) sc36.nd (di_zipS (by rfl) T.z_zip (da_cons (de_call ((ok_marks T).mono (by decide)) hr (by rfl) T.g_marks T.F_marks.kp T.b_marks (da_cons (dv 0) (da_cons (dv 1) da_nil))) (da_cons (de_fld T.k_Web T.n_places (dv 0)) da_nil))) (blkOk_by (N := N36) (own := [("mark", 2), ("place", 3)]) (sc := defScope (top 36)) (by decide +kernel)) (fun _ _ _ _ _ => (pg_tup (n := 2) (by rfl) (pgs_cons (pg_name (i := 2) sc36.nd rfl (by first | exact Or.inl rfl | exact Or.inr rfl)) (pgs_cons (pg_name (i := 3) sc36.nd rfl (by first | exact Or.inl rfl | exact Or.inr rfl)) pgs_nil)))) (sim_tupT (n := 2) (sim_consT (sim_nm (i := 2)) (sim_consT (sim_nm (i := 3)) sim_nilT))) (fun _ _ _ _ _ => (dts_one (dt_cmp (op_neA hr.units) sim_ne (dv 2) (dv 3) (nomark _)))) (fun _ _ _ _ _ => (dv 2))) da_nil)))), fun ds μ R h => ?_⟩
  · obtain ⟨p, ts, lot, rfl, _⟩ := h
    rfl
  · obtain ⟨p, ts, lot, rfl, ok, hl, h⟩ := h
    refine ⟨p, ts, lot, rfl, ok, hl, ?_⟩
    refine ⟨rfl, _, rfl, ?_⟩
    show LcB _ _ _ _ _ _ _ _
    refine lcb_pure unlike head1 ?_ ?_ ?_
    · rw [pairs_len, toS_list, toS_list, sizeLine_eq]
      have := ok.few
      omega
    · intro x hx μ' N Y _ hn hy
      obtain ⟨a, b, rfl⟩ := pairs_mem hx
      refine ⟨rfl, ?_⟩
      show if (!decide ((⟨#[a]⟩ : Str) = ⟨#[b]⟩)) = true then Y (.str ⟨#[a]⟩) μ' else N μ'
      by_cases e : (⟨#[a]⟩ : Str) = ⟨#[b]⟩
      · rw [decide_eq_true e]
        exact hn (decide_eq_false fun z => z e)
      · rw [decide_eq_false e]
        exact hy (decide_eq_true e)
    · show R (.int ((((pairsS (toS (marksL p (tiesOf ts lot))) (toS p)).filter unlike).map head1).length : Nat)) μ
      rw [List.length_map, pairs_unlike]
      exact h
def g_spare_of (C : Addr) : GC := fun ds μ R => ∃ (p : List Nat) (ts : List Str) (lot : List Nat), ds = [dWeb C p ts, dLot lot] ∧ OkWeb p ts ∧ (∀ i ∈ lot, i < ts.length) ∧ R (.int ((lot.length : Int) - (rankOf p ts lot : Nat))) μ
def g_full_rank (C : Addr) : GC := fun ds μ R => ∃ (p : List Nat) (ts : List Str), ds = [dWeb C p ts] ∧ OkWeb p ts ∧ R (.int (rankOf p ts (List.range ts.length) : Nat)) μ
def N37 : List Str := ["web", "lot"]
theorem sc37 : FnScope N37 ["web", "lot"] (defScope (top 37)) := ⟨rfl, rfl, rfl, by decide +kernel, rfl, by decide +kernel, by decide +kernel⟩
theorem ok_spare_of (T : Tx K mg A) : FnOk P w K mg base CX0 3 A.spare_of A.fd_spare_of ["web", "lot"] (toSp K (g_spare_of A.Web)) := by
  refine okD T.F_spare_of sc37 (fun ds μ R h => ?_) ⟨_, fun cdv A0 outer s H E hr =>
    (dss_one (ds_ret (de_op op_sub sim_minus (de_callB cr_len sim_len (by rfl) T.z_len boot_len (da_cons (dv 1) da_nil)) (de_call ((ok_rank_of T).mono (by decide)) hr (by rfl) T.g_rank_of T.F_rank_of.kp T.b_rank_of (da_cons (dv 0) (da_cons (dv 1) da_nil)))))), fun ds μ R h => ?_⟩
  · obtain ⟨p, ts, lot, rfl, _⟩ := h
    rfl
  · obtain ⟨p, ts, lot, rfl, ok, hl, h⟩ := h
    refine ⟨p, ts, lot, rfl, ok, hl, ?_⟩
    show R (.int ((((lot.map Int.ofNat).map D.int).length : Int) - (rankOf p ts lot : Nat))) μ
    rw [List.length_map, List.length_map]
    exact h
def N38 : List Str := ["web"]
theorem sc38 : FnScope N38 ["web"] (defScope (top 38)) := ⟨rfl, rfl, rfl, by decide +kernel, rfl, by decide +kernel, by decide +kernel⟩
theorem ok_full_rank (T : Tx K mg A) : FnOk P w K mg base CX0 3 A.full_rank A.fd_full_rank ["web"] (toSp K (g_full_rank A.Web)) := by
  refine okD T.F_full_rank sc38 (fun ds μ R h => ?_) ⟨_, fun cdv A0 outer s H E hr =>
    (dss_one (ds_ret (de_call ((ok_rank_of T).mono (by decide)) hr (by rfl) T.g_rank_of T.F_rank_of.kp T.b_rank_of (da_cons (dv 0) (da_cons (de_call ((ok_lot_of_all T).mono (by decide)) hr (by rfl) T.g_lot_of_all T.F_lot_of_all.kp T.b_lot_of_all (da_cons (dv 0) da_nil)) da_nil))))), fun ds μ R h => ?_⟩
  · obtain ⟨p, ts, rfl, _⟩ := h
    rfl
  · obtain ⟨p, ts, rfl, ok, h⟩ := h
    exact ⟨p, ts, rfl, ok, p, ts, List.range ts.length, rfl, ok, fun i hi => List.mem_range.mp hi, h⟩
theorem perm_map {α β : Type} {f : α → β} {L : List α} {out : List β} (h : out.Perm (L.map f)) : ∃ L' : List α, L'.Perm L ∧ out = L'.map f := by
  generalize e : L.map f = M at h
  induction h generalizing L with
  | nil =>
    have : L = [] := by simpa using e
    subst this
    exact ⟨[], .refl _, rfl⟩
  | cons x p ih =>
    obtain ⟨a, l, rfl, rfl, e2⟩ := List.map_eq_cons_iff.mp e
    obtain ⟨L', p', rfl⟩ := ih e2
    exact ⟨a :: L', p'.cons a, rfl⟩
  | swap x y l =>
    obtain ⟨a, l', rfl, rfl, e2⟩ := List.map_eq_cons_iff.mp e
    obtain ⟨b, l'', rfl, rfl, e3⟩ := List.map_eq_cons_iff.mp e2
    subst e3
    exact ⟨b :: a :: l'', List.Perm.swap _ _ _, rfl⟩
  | trans p q ih1 ih2 =>
    obtain ⟨L2, p2, e2⟩ := ih2 e
    obtain ⟨L1, p1, e1⟩ := ih1 e2.symm
    exact ⟨L1, p1.trans p2, e1⟩
def ltN (a b : List Nat) : Bool := ltI (a.map Int.ofNat) (b.map Int.ofNat)
def lotOf : D → List Nat
  | .tup ds => ds.map fun d => match d with
    | .int i => i.toNat
    | _ => 0
  | _ => []
theorem lotOf_dLot (u : List Nat) : lotOf (dLot u) = u := by
  show ((u.map Int.ofNat).map D.int).map (fun d => match d with
    | .int i => i.toNat
    | _ => 0) = u
  induction u with
  | nil => rfl
  | cons a u ih =>
    rw [List.map_cons, List.map_cons, List.map_cons, ih]
    rfl
def addI (i : Nat) : D → D
  | .tup ds => .tup (ds ++ [.int (i : Nat)])
  | d => d
theorem addI_map (i : Nat) (ws : List (List Nat)) : (ws.map dLot).map (addI i) = (ws.map (· ++ [i])).map dLot := by
  rw [List.map_map, List.map_map]
  refine List.map_congr_left fun u _ => ?_
  show D.tup (((u.map Int.ofNat).map D.int) ++ [.int (i : Nat)]) = dLot (u ++ [i])
  unfold dLot dI
  rw [List.map_append, List.map_append]
  rfl
theorem range_at {n i : Nat} {x : D} (h : ((List.range n).map fun i => D.int (i : Nat))[i]? = some x) : i < n ∧ x = .int (i : Nat) := by
  rw [List.getElem?_map] at h
  by_cases hi : i < n
  · rw [List.getElem?_range hi] at h
    exact ⟨hi, (Option.some.inj h).symm⟩
  · rw [List.getElem?_eq_none (by simp; omega)] at h
    cases h
theorem pow_few {i : Nat} (h : i ≤ 11) : 2 ^ i ≤ 2048 := Nat.pow_le_pow_right (by omega) h
def g_check_web (C : Addr) : GC := fun ds μ R => ∃ (p : List Nat) (ts : List Str), ds = [dWeb C p ts] ∧ R .non μ
def N25 : List Str := ["web"]
theorem sc25 : FnScope N25 ["web"] (defScope (top 25)) := ⟨rfl, rfl, rfl, by decide +kernel, rfl, by decide +kernel, by decide +kernel⟩
theorem ok_check_web (T : Tx K mg A) : FnOk P w K mg base CX0 1 A.check_web A.fd_check_web ["web"] (toSp K (g_check_web A.Web)) := by
  refine okD T.F_check_web sc25 (fun ds μ R h => ?_) ⟨_, fun cdv A0 outer s H E hr =>
    (dss_one (ds_if (dt_not (dt_val (de_isc T.i_Web (by rfl) T.z_isinstance (by rfl) T.g_Web (dv 0)))) (dss_one ds_never) dss_nil)), fun ds μ R h => ?_⟩
  · obtain ⟨p, ts, rfl, _⟩ := h
    rfl
  · obtain ⟨p, ts, rfl, h⟩ := h
    exact ⟨rfl, h⟩
def g_is_integer : GC := g1 fun d μ R => match d with
  | .int _ => R (.bl true) μ
  | _ => False
def N12 : List Str := ["value"]
theorem sc12 : FnScope N12 ["value"] (defScope (top 12)) := ⟨rfl, rfl, rfl, by decide +kernel, rfl, by decide +kernel, by decide +kernel⟩
theorem ok_is_integer (T : Tx K mg A) : FnOk P w K mg base CX0 1 A.is_integer A.fd_is_integer ["value"] (toSp K (g_is_integer)) := by
  refine okD T.F_is_integer sc12 (fun ds μ R h => ?_) ⟨_, fun cdv A0 outer s H E hr =>
    (dss_one (ds_ret (de_and (de_isi (T := "int") (by rfl) T.z_isinstance (by rfl) T.z_int (by decide +kernel) (dv 0)) (de_one (de_not (de_isi (T := "bool") (by rfl) T.z_isinstance (by rfl) T.z_bool (by decide +kernel) (dv 0))))))), fun ds μ R h => ?_⟩
  · match ds, h with
    | [d], h => rfl
  · match ds, h with
    | [d], h =>
      cases d <;> try exact False.elim h
      exact ⟨_, true, rfl, by decide +kernel, ⟨_, false, rfl, by decide +kernel, h⟩⟩
def g_is_integer_from : GC := fun ds μ R => match ds with
  | [.int v, .int lo, .int hi] => R (.bl (decide (lo ≤ v) && decide (v ≤ hi))) μ
  | _ => False
def N13 : List Str := ["value", "low", "high"]
theorem sc13 : FnScope N13 ["value", "low", "high"] (defScope (top 13)) := ⟨rfl, rfl, rfl, by decide +kernel, rfl, by decide +kernel, by decide +kernel⟩
theorem ok_is_integer_from (T : Tx K mg A) : FnOk P w K mg base CX0 2 A.is_integer_from A.fd_is_integer_from ["value", "low", "high"] (toSp K (g_is_integer_from)) := by
  refine okD T.F_is_integer_from sc13 (fun ds μ R h => ?_) ⟨_, fun cdv A0 outer s H E hr =>
    (dss_one (ds_ret (de_and (de_call ((ok_is_integer T).mono (by decide)) hr (by rfl) T.g_is_integer T.F_is_integer.kp T.b_is_integer (da_cons (dv 0) da_nil)) (de_one (de_chain op_leA sim_ord op_leA sim_ord (dv 1) (dv 0) (dv 2)))))), fun ds μ R h => ?_⟩
  · match ds, h with
    | [.int v, .int lo, .int hi], h => rfl
  · match ds, h with
    | [.int v, .int lo, .int hi], h =>
      show if decide (lo ≤ v) = true then R (.bl (decide (v ≤ hi))) μ else R (.bl false) μ
      have h : R (.bl (decide (lo ≤ v) && decide (v ≤ hi))) μ := h
      cases e : decide (lo ≤ v) with
      | true => rw [e] at h; exact h
      | false => rw [e] at h; exact h
structure AscLot (lot : List Nat) (n : Nat) : Prop where
  asc : lot.Pairwise (· < ·)
  few : ∀ i ∈ lot, i < n
def g_check_lot (C : Addr) : GC := fun ds μ R => ∃ (p : List Nat) (ts : List Str) (lot : List Nat), ds = [dWeb C p ts, dLot lot] ∧ AscLot lot ts.length ∧ R .non μ
theorem numbered_at {ds : List D} {i : Nat} {x : D} (h : (DL.numbered ds)[i]? = some x) : ∃ d, ds[i]? = some d ∧ x = .tup [.int (i : Nat), d] := by
  unfold DL.numbered at h
  rw [List.getElem?_mapIdx] at h
  cases e : ds[i]? with
  | none => rw [e] at h; cases h
  | some d =>
    rw [e] at h
    exact ⟨d, rfl, (Option.some.inj h).symm⟩
theorem asc_next {lot : List Nat} (h : lot.Pairwise (· < ·)) {i a b : Nat} (ha : lot[i]? = some a) (hb : lot[i + 1]? = some b) : a < b := by
  obtain ⟨h1, e1⟩ := List.getElem?_eq_some_iff.mp ha
  obtain ⟨h2, e2⟩ := List.getElem?_eq_some_iff.mp hb
  rw [← e1, ← e2]
  exact List.pairwise_iff_getElem.mp h i (i + 1) h1 h2 (Nat.lt_succ_self _)
def g_where_no_lot (C : Addr) : GC := fun ds μ R => ∃ (p : List Nat) (ts : List Str) (lot : List Nat) (m : Nat), ds = [dWeb C p ts, dLot lot, .int (m : Nat)] ∧ AscLot lot ts.length ∧ lot.length ≤ m ∧ R (.int (-1)) μ
def g_check_lotV (C : Addr) : GC := fun ds μ R => ∃ (p : List Nat) (ts : List Str) (lot : List Nat), ds = [dWeb C p ts, dLot lot, .int 11] ∧ AscLot lot ts.length ∧ lot.length ≤ 11 ∧ R .non μ
def N19 : List Str := ["web", "values", "most", "least", "at", "index"]
theorem sc19 : FnScope N19 ["web", "values", "most"] (defScope (top 19)) := ⟨rfl, rfl, rfl, by decide +kernel, rfl, by decide +kernel, by decide +kernel⟩
theorem ok_where_no_lot (T : Tx K mg A) : FnOk P w K mg base CX0 3 A.where_no_lot A.fd_where_no_lot ["web", "values", "most"] (toSp K (g_where_no_lot A.Web)) := by
  refine okD T.F_where_no_lot sc19 (fun ds μ R h => ?_) ⟨_, fun cdv A0 outer s H E hr =>
    (dss_cons (ds_if (dt_not (dt_val (de_isi (T := "tuple") (by rfl) T.z_isinstance (by rfl) T.z_tuple (by decide +kernel) (dv 1)))) (dss_one (ds_ret de_non)) dss_nil)
      (dss_cons (ds_set sc19.nd (i := 3) rfl (by first | exact Or.inl rfl | exact Or.inr rfl) de_int)
      (dss_cons (ds_for PassesOwn.never rfl (di_enumT (by rfl) T.z_enumerate (da_cons (dv 1) da_nil)) (pg_tup (n := 2) (by rfl) (pgs_cons (pg_name (i := 4) sc19.nd rfl (by first | exact Or.inl rfl | exact Or.inr rfl)) (pgs_cons (pg_name (i := 5) sc19.nd rfl (by first | exact Or.inl rfl | exact Or.inr rfl)) pgs_nil))) (sim_tupT (n := 2) (sim_consT (sim_nm (i := 4)) (sim_consT (sim_nm (i := 5)) sim_nilT)))
      (dss_cons (ds_if (dw_or (dt_cmp op_geA sim_ord (dv 4) (dv 2) (nomark _)) (dw_or1 (dt_not (dt_val (de_call ((ok_is_integer_from T).mono (by decide)) hr (by rfl) T.g_is_integer_from T.F_is_integer_from.kp T.b_is_integer_from (da_cons (dv 5) (da_cons (dv 3) (da_cons (de_op op_sub sim_minus (de_callB cr_len sim_len (by rfl) T.z_len boot_len (da_cons (de_fld T.k_Web T.n_ties (dv 0)) da_nil)) de_int) da_nil)))))))).dt (dss_one (ds_ret (dv 4))) dss_nil)
      (dss_one (ds_set sc19.nd (i := 3) rfl (by first | exact Or.inl rfl | exact Or.inr rfl) (de_op op_plus sim_plus (dv 5) de_int)))))
      (dss_one (ds_ret (de_globI (by rfl) T.c_NOWHERE.choose_spec)))))), fun ds μ R h => ?_⟩
  · obtain ⟨p, ts, lot, m, rfl, _⟩ := h
    rfl
  · obtain ⟨p, ts, lot, m, rfl, al, hm, h⟩ := h
    refine ⟨_, true, rfl, by decide +kernel, ?_⟩
    refine ⟨fun i δ' μ' => μ' = μ ∧ ∃ (l : Int) (o3 o4 : Option D), δ' = [some (dWeb A.Web p ts), some (dLot lot), some (.int (m : Nat)), some (.int l), o3, o4] ∧ ∀ k, lot[i]? = some k → l ≤ (k : Int), ⟨rfl, 0, none, none, rfl, fun k _ => by omega⟩, ?_, ?_⟩
    · rintro i x δ' μ' hx ⟨rfl, l, o3, o4, rfl, hle⟩
      obtain ⟨d, hd, rfl⟩ := numbered_at hx
      obtain ⟨k, hk, rfl⟩ := lot_at hd
      have h1 := hle k hk
      have h2 := al.few k (List.mem_of_getElem? hk)
      have hi : i < lot.length := (List.getElem?_eq_some_iff.mp hk).1
      have hn : ¬ decide ((m : Int) ≤ (i : Int)) = true := by
        rw [decide_eq_true_eq]
        omega
      refine ⟨rfl, ?_⟩
      show (if decide ((m : Int) ≤ (i : Int)) = true then _ else _)
      rw [if_neg hn]
      refine ⟨rfl, _, rfl, ?_⟩
      show if (!(decide (l ≤ (k : Int)) && decide ((k : Int) ≤ ((ts.map D.str).length : Int) - 1))) = true then _ else _
      rw [decide_eq_true h1, decide_eq_true (show (k : Int) ≤ ((ts.map D.str).length : Int) - 1 by rw [List.length_map]; omega)]
      refine ⟨rfl, (k : Int) + 1, _, _, rfl, fun k2 hk2 => ?_⟩
      have := asc_next al.asc hk hk2
      omega
    · rintro δ' μ' ⟨rfl, l, o3, o4, rfl, _⟩
      exact h
def N22 : List Str := ["web", "lot", "most", "wrong"]
theorem sc22 : FnScope N22 ["web", "lot", "most"] (defScope (top 22)) := ⟨rfl, rfl, rfl, by decide +kernel, rfl, by decide +kernel, by decide +kernel⟩
theorem ok_check_lot (T : Tx K mg A) : FnOk P w K mg base CX0 4 A.check_lot A.fd_check_lot ["web", "lot", "most"] (toSp K (g_check_lotV A.Web)) := by
  refine okDV T.F_check_lot sc22 (fun ds μ R h => ?_) ⟨_, fun cdv A0 outer s H E hr =>
    (dss_cons (ds_set sc22.nd (i := 3) rfl (by first | exact Or.inl rfl | exact Or.inr rfl) (de_call ((ok_where_no_lot T).mono (by decide)) hr (by rfl) T.g_where_no_lot T.F_where_no_lot.kp T.b_where_no_lot (da_cons (dv 0) (da_cons (dv 1) (da_cons (dv 2) da_nil)))))
      (dss_one (ds_if (dt_cmp (op_neA hr.units) sim_ne (dv 3) (de_globI (by rfl) T.c_NOWHERE.choose_spec) (nomark _)) (dss_one ds_never) dss_nil))), fun ds μ R h => ?_⟩
  · obtain ⟨p, ts, lot, rfl, _⟩ := h
    rfl
  · obtain ⟨p, ts, lot, rfl, al, hm, h⟩ := h
    refine ⟨p, ts, lot, 11, rfl, al, hm, ?_⟩
    exact h
theorem bK_case {c : Bool} {F : Bool → Mu → Prop} {μ : Mu} (h1 : c = true → F true μ) (h2 : c = false → F false μ) : bK F (.bl c) μ := by
  cases c with
  | true => exact h1 rfl
  | false => exact h2 rfl
theorem in_lot {k : Nat} {t : List Nat} {R : Bool → Prop} (h : R (decide (k ∈ t))) : inDs (.int (k : Nat)) ((t.map Int.ofNat).map D.int) R := by
  refine .inl ⟨(k : Int), t.map Int.ofNat, rfl, rfl, ?_⟩
  have e : decide ((k : Int) ∈ t.map Int.ofNat) = decide (k ∈ t) := by
    rw [decide_eq_decide]
    constructor
    · intro h
      obtain ⟨j, hj, e⟩ := List.mem_map.mp h
      have e : j = k := Int.ofNat.inj e
      rw [← e]
      exact hj
    · intro h
      exact List.mem_map.mpr ⟨k, h, rfl⟩
  rw [e]
  exact h
theorem items_lot {lot : List Nat} {x : D} (h : x ∈ (lot.map Int.ofNat).map D.int) : ∃ k, k ∈ lot ∧ x = .int (k : Nat) := by
  obtain ⟨j, hj, e⟩ := List.mem_map.mp h
  obtain ⟨k, hk, e2⟩ := List.mem_map.mp hj
  exact ⟨k, hk, by rw [← e, ← e2]; rfl⟩
def g_is_tie : GC := fun ds μ R => match ds with
  | [.str p, .str v] => ∃ a b, v = ⟨#[a, b]⟩ ∧ a ∈ p.cps.toList ∧ b ∈ p.cps.toList ∧ a ≤ b ∧ R (.bl true) μ
  | _ => False
def N16 : List Str := ["places", "value"]
theorem sc16 : FnScope N16 ["places", "value"] (defScope (top 16)) := ⟨rfl, rfl, rfl, by decide +kernel, rfl, by decide +kernel, by decide +kernel⟩
theorem ok_is_tie (T : Tx K mg A) : FnOk P w K mg base CX0 1 A.is_tie A.fd_is_tie ["places", "value"] (toSp K (g_is_tie)) := by
  refine okD T.F_is_tie sc16 (fun ds μ R h => ?_) ⟨_, fun cdv A0 outer s H E hr =>
    (dss_cons (ds_if (dw_or (dt_not (dt_val (de_isi (T := "str") (by rfl) T.z_isinstance (by rfl) T.z_str (by decide +kernel) (dv 1)))) (dw_or1 (dt_cmp (op_neA hr.units) sim_ne (de_callB cr_len sim_len (by rfl) T.z_len boot_len (da_cons (dv 1) da_nil)) de_int (nomark _)))).dt (dss_one (ds_ret de_bl)) dss_nil)
      (dss_one (ds_ret (de_and (de_cmp op_inA sim_in (de_ix ix_any sim_ix (dv 1) de_int (fun _ _ => rfl)) (dv 0) rfl) (de_and (de_cmp op_inA sim_in (de_ix ix_any sim_ix (dv 1) de_int (fun _ _ => rfl)) (dv 0) rfl) (de_one (de_cmp op_leA sim_ord (de_ix ix_any sim_ix (dv 1) de_int (fun _ _ => rfl)) (de_ix ix_any sim_ix (dv 1) de_int (fun _ _ => rfl)) (nomark _)))))))), fun ds μ R h => ?_⟩
  · match ds, h with
    | [.str p, .str v], h => rfl
  · match ds, h with
    | [.str p, .str v], h =>
      obtain ⟨a, b, rfl, ha, hb, hab, h⟩ := h
      refine ⟨_, true, rfl, by decide +kernel, ?_⟩
      refine ⟨(by show 2 ≤ sizeLine; decide), ?_⟩
      refine ⟨(by show 2 ≤ sizeLine; decide), a, rfl, ?_⟩
      have e1 : decide (a ∈ p.cps.toList) = true := decide_eq_true ha
      have e2 : decide (b ∈ p.cps.toList) = true := decide_eq_true hb
      rw [e1]
      refine ⟨(by show 2 ≤ sizeLine; decide), b, rfl, ?_⟩
      rw [e2]
      refine ⟨(by show 2 ≤ sizeLine; decide), (by show 2 ≤ sizeLine; decide), ?_⟩
      have e3 : (!decide (([b] : List Nat) < [a])) = true := by
        rw [decide_eq_false (fun z => by have := lt_one.mp z; omega)]
        rfl
      show R (.bl (!decide (([b] : List Nat) < [a]))) μ
      rw [e3]
      exact h
structure OkTies (p : List Nat) (ts : List Str) : Prop where
  many : ts.length ≤ 11
  ties : ∀ y ∈ ts, ∃ a b, y = ⟨#[a, b]⟩ ∧ a ∈ p ∧ b ∈ p ∧ a ≤ b
def g_first_wrong_tie : GC := fun ds μ R => ∃ (p : List Nat) (ts : List Str), ds = [.str (toS p), .tup (ts.map D.str)] ∧ OkTies p ts ∧ R .non μ
def N17 : List Str := ["places", "ties", "at", "tie"]
theorem sc17 : FnScope N17 ["places", "ties"] (defScope (top 17)) := ⟨rfl, rfl, rfl, by decide +kernel, rfl, by decide +kernel, by decide +kernel⟩
theorem ok_first_wrong_tie (T : Tx K mg A) : FnOk P w K mg base CX0 2 A.first_wrong_tie A.fd_first_wrong_tie ["places", "ties"] (toSp K (g_first_wrong_tie)) := by
  refine okD T.F_first_wrong_tie sc17 (fun ds μ R h => ?_) ⟨_, fun cdv A0 outer s H E hr =>
    (dss_cons (ds_for PassesOwn.never rfl (di_enumT (by rfl) T.z_enumerate (da_cons (dv 1) da_nil)) (pg_tup (n := 2) (by rfl) (pgs_cons (pg_name (i := 2) sc17.nd rfl (by first | exact Or.inl rfl | exact Or.inr rfl)) (pgs_cons (pg_name (i := 3) sc17.nd rfl (by first | exact Or.inl rfl | exact Or.inr rfl)) pgs_nil))) (sim_tupT (n := 2) (sim_consT (sim_nm (i := 2)) (sim_consT (sim_nm (i := 3)) sim_nilT)))
      (dss_one (ds_if (dw_or (dt_cmp op_geA sim_ord (dv 2) (de_globI (by rfl) T.c_MOST_TIES.choose_spec) (nomark _)) (dw_or1 (dt_not (dt_val (de_call ((ok_is_tie T).mono (by decide)) hr (by rfl) T.g_is_tie T.F_is_tie.kp T.b_is_tie (da_cons (dv 0) (da_cons (dv 3) da_nil))))))).dt (dss_one (ds_ret (dv 2))) dss_nil)))
      (dss_one (ds_ret de_non))), fun ds μ R h => ?_⟩
  · obtain ⟨p, ts, rfl, _⟩ := h
    rfl
  · obtain ⟨p, ts, rfl, ok, h⟩ := h
    refine ⟨fun i δ' μ' => μ' = μ ∧ ∃ o2 o3, δ' = [some (.str (toS p)), some (.tup (ts.map D.str)), o2, o3], ⟨rfl, none, none, rfl⟩, ?_, ?_⟩
    · rintro i x δ' μ' hx ⟨rfl, o2, o3, rfl⟩
      obtain ⟨d, hd, rfl⟩ := numbered_at hx
      rw [List.getElem?_map] at hd
      obtain ⟨y, hy, rfl⟩ : ∃ y, ts[i]? = some y ∧ D.str y = d := by
        cases e : ts[i]? with
        | none => rw [e] at hd; cases hd
        | some t => rw [e] at hd; exact ⟨t, rfl, Option.some.inj hd⟩
      have hi : i < ts.length := (List.getElem?_eq_some_iff.mp hy).1
      have many := ok.many
      obtain ⟨a, b, rfl, ha, hb, hab⟩ := ok.ties y (List.mem_of_getElem? hy)
      refine ⟨rfl, ?_⟩
      have hn : ¬ decide ((11 : Int) ≤ (i : Int)) = true := by
        rw [decide_eq_true_eq]
        omega
      show (if decide ((11 : Int) ≤ (i : Int)) = true then _ else _)
      rw [if_neg hn]
      refine ⟨a, b, rfl, by rw [toS_list]; exact ha, by rw [toS_list]; exact hb, hab, ?_⟩
      exact ⟨rfl, _, _, rfl⟩
    · rintro δ' μ' ⟨rfl, o2, o3, rfl⟩
      exact h
def g_check_ties : GC := g_first_wrong_tie
def N21 : List Str := ["places", "ties", "wrong"]
theorem sc21 : FnScope N21 ["places", "ties"] (defScope (top 21)) := ⟨rfl, rfl, rfl, by decide +kernel, rfl, by decide +kernel, by decide +kernel⟩
theorem ok_check_ties (T : Tx K mg A) : FnOk P w K mg base CX0 3 A.check_ties A.fd_check_ties ["places", "ties"] (toSp K (g_check_ties)) := by
  refine okD T.F_check_ties sc21 (fun ds μ R h => ?_) ⟨_, fun cdv A0 outer s H E hr =>
    (dss_cons (ds_if (dt_not (dt_val (de_isi (T := "tuple") (by rfl) T.z_isinstance (by rfl) T.z_tuple (by decide +kernel) (dv 1)))) (dss_one ds_never) dss_nil)
      (dss_cons (ds_set sc21.nd (i := 2) rfl (by first | exact Or.inl rfl | exact Or.inr rfl) (de_call ((ok_first_wrong_tie T).mono (by decide)) hr (by rfl) T.g_first_wrong_tie T.F_first_wrong_tie.kp T.b_first_wrong_tie (da_cons (dv 0) (da_cons (dv 1) da_nil))))
      (dss_one (ds_if (dt_cmp op_notN sim_notN (dv 2) de_non (nomark _)) (dss_one ds_never) dss_nil)))), fun ds μ R h => ?_⟩
  · obtain ⟨p, ts, rfl, _⟩ := h
    rfl
  · obtain ⟨p, ts, rfl, ok, h⟩ := h
    refine ⟨_, true, rfl, by decide +kernel, ?_⟩
    refine ⟨p, ts, rfl, ok, ?_⟩
    exact h
structure OkPlaces (p : List Nat) : Prop where
  one : 1 ≤ p.length
  few : p.length ≤ 7
  asc : p.Pairwise (· < ·)
  sign : ∀ c ∈ p, 97 ≤ c ∧ c ≤ 104
theorem count_none {c : Nat} : ∀ {l : List Nat}, c ∉ l → PyProof.Rows.cnt c l = 0
  | [], _ => rfl
  | n :: l, h => by
    rw [PyProof.Rows.cnt_cons, if_neg (fun e => h (by rw [e]; exact List.mem_cons_self)), count_none fun q => h (List.mem_cons_of_mem _ q)]
    rfl
theorem cnt_once {c : Nat} : ∀ {l : List Nat}, c ∈ l → l.Pairwise (· ≠ ·) → PyProof.Rows.cnt c l = 1
  | n :: l, h, p => by
    rw [List.pairwise_cons] at p
    rw [PyProof.Rows.cnt_cons]
    by_cases e : n = c
    · subst e
      rw [if_pos rfl, count_none fun q => p.1 n q rfl]
      rfl
    · rw [if_neg e, cnt_once ((List.mem_cons.mp h).resolve_left fun q => e q.symm) p.2]
      rfl
theorem count_once {p : List Nat} {c : Nat} (h : c ∈ p) (u : p.Pairwise (· ≠ ·)) : decide (Txt.count (toS p) ⟨#[c]⟩ = 1) = true := by
  rw [decide_eq_true_eq, count_cnt, toS_list]
  exact cnt_once h u
def g_are_letters : GC := fun ds μ R => ∃ p : List Nat, ds = [.str (toS p)] ∧ OkPlaces p ∧ R (.bl true) μ
def N14 : List Str := ["value", "letter"]
theorem sc14 : FnScope N14 ["value"] (defScope (top 14)) := ⟨rfl, rfl, rfl, by decide +kernel, rfl, by decide +kernel, by decide +kernel⟩
theorem ok_are_letters (T : Tx K mg A) : FnOk P w K mg base CX0 1 A.are_letters A.fd_are_letters ["value"] (toSp K (g_are_letters)) := by
  refine okD T.F_are_letters sc14 (fun ds μ R h => ?_) ⟨_, fun cdv A0 outer s H E hr =>
    (dss_cons (ds_if (dw_or (dt_not (dt_val (de_isi (T := "str") (by rfl) T.z_isinstance (by rfl) T.z_str (by decide +kernel) (dv 0)))) (dw_or1 (dt_cmp op_gtA sim_ord (de_callB cr_len sim_len (by rfl) T.z_len boot_len (da_cons (dv 0) da_nil)) (de_callB cr_len sim_len (by rfl) T.z_len boot_len (da_cons (de_globS (by rfl) T.c_LETTERS.choose_spec) da_nil)) (nomark _)))).dt (dss_one (ds_ret de_bl)) dss_nil)
      (dss_one (ds_ret (de_callB (cr_all (by rfl)) sim_all (by rfl) T.z_all boot_all (da_cons (de_lc (own := [("letter", 1)]) (by rfl) sc14.nd (di_str (dv 0)) (blkOk_by (N := N14) (own := [("letter", 1)]) (sc := defScope (top 14)) (by decide +kernel)) (fun _ _ _ _ _ => (pg_name (i := 1) sc14.nd rfl (by first | exact Or.inl rfl | exact Or.inr rfl))) (sim_nm (i := 1)) (fun _ _ _ _ _ => dts_nil) (fun _ _ _ _ _ => (de_and (de_cmp op_inA sim_in (dv 1) (de_globS (by rfl) T.c_LETTERS.choose_spec) rfl) (de_one (de_cmp (op_eqA hr.units) sim_eq (de_bm PySem.F.plainAttrs_str PySem.F.slot_str_count PySem.F.type_str_count mt_count sim_count ok_str (dv 0) (da_cons (dv 1) da_nil)) de_int (nomark _)))))) da_nil))))), fun ds μ R h => ?_⟩
  · obtain ⟨p, rfl, _⟩ := h
    rfl
  · obtain ⟨p, rfl, ok, h⟩ := h
    have few := ok.few
    refine ⟨_, true, rfl, by decide +kernel, ?_⟩
    have hz : (toS p).length = p.length := by
      show p.toArray.size = p.length
      rw [List.size_toArray]
    have hn : ¬ decide ((("abcdefgh" : Str).length : Int) < ((toS p).length : Int)) = true := by
      rw [decide_eq_true_eq, hz]
      have : ("abcdefgh" : Str).length = 8 := by decide +kernel
      rw [this]
      omega
    refine ⟨by rw [hz, sizeLine_eq]; omega, by decide +kernel, ?_⟩
    show (if decide ((("abcdefgh" : Str).length : Int) < ((toS p).length : Int)) = true then _ else _)
    rw [if_neg hn]
    show LcB _ _ _ _ _ _ _ _
    refine lcb_map (fun _ => .bl true) ?_ ?_ ?_
    · unfold DL.signs
      rw [List.length_map, toS_list, sizeLine_eq]
      omega
    · intro x hx μ2 Y _ hy
      unfold DL.signs at hx
      obtain ⟨c, hc, rfl⟩ := List.mem_map.mp hx
      rw [toS_list] at hc
      have hs := ok.sign c hc
      refine ⟨c, rfl, ?_⟩
      have e1 : decide (c ∈ ("abcdefgh" : Str).cps.toList) = true := by
        have e : ("abcdefgh" : Str).cps.toList = [97, 98, 99, 100, 101, 102, 103, 104] := by decide +kernel
        rw [e, decide_eq_true_eq]
        simp
        omega
      show (if id (decide (c ∈ ("abcdefgh" : Str).cps.toList)) = true then _ else _)
      rw [if_pos (show id (decide (c ∈ ("abcdefgh" : Str).cps.toList)) = true from e1)]
      refine ⟨True.intro, ?_⟩
      show Y (.bl (id (decide (Txt.count (toS p) ⟨#[c]⟩ = 1)))) μ2
      rw [count_once hc (ok.asc.imp fun h => Nat.ne_of_lt h)]
      exact hy
    · unfold DL.signs
      rw [List.map_map]
      refine ⟨List.replicate p.length true, ?_, ?_⟩
      · rw [toS_list, List.map_replicate]
        exact List.map_const'
      · show R (.bl ((List.replicate p.length true).all id)) μ
        have : (List.replicate p.length true).all id = true := by
          rw [List.all_eq_true]
          intro b hb
          rw [List.eq_of_mem_replicate hb]
          rfl
        rw [this]
        exact h
end
end K10
set_option Elab.async false
set_option linter.all false
set_option maxRecDepth 100000
namespace K10
open DL
/-! ### the ranks of both sides -/
/-- how many places have a mark that is not their own -/
def nonFix (r p : List Nat) : Nat := ((List.zip r p).filter fun q => decide (q.1 ≠ q.2)).length
theorem nonFix_nil (r : List Nat) : nonFix r [] = 0 := by cases r <;> rfl
theorem nonFix_cons (a b : Nat) (r p : List Nat) : nonFix (a :: r) (b :: p) = (if a ≠ b then 1 else 0) + nonFix r p := by
  unfold nonFix
  rw [List.zip_cons_cons]
  by_cases e : a = b
  · rw [List.filter_cons_of_neg (by simp [e]), if_neg (by simp [e])]
    omega
  · rw [List.filter_cons_of_pos (by simp [e]), if_pos e, List.length_cons]
    omega
theorem nonFix_self : ∀ p : List Nat, nonFix p p = 0
  | [] => rfl
  | a :: p => by rw [nonFix_cons, nonFix_self p]; simp
/-- one mark put in the place of another one -/
theorem nonFix_map (m n : Nat) : ∀ (r p : List Nat), p.Pairwise (· ≠ ·) → nonFix (r.map fun x => if x = m then n else x) p ≤ nonFix r p + (if m ∈ p then 1 else 0)
  | [], p, _ => by
    show nonFix [] p ≤ _
    unfold nonFix
    simp
  | a :: r, [], _ => by rw [nonFix_nil]; omega
  | a :: r, b :: p, u => by
    rw [List.pairwise_cons] at u
    have ih := nonFix_map m n r p u.2
    rw [List.map_cons, nonFix_cons, nonFix_cons]
    by_cases e : a = m
    · subst e
      rw [if_pos rfl]
      by_cases eb : a = b
      · subst eb
        have : ¬ a ∈ p := fun h => u.1 a h rfl
        rw [if_neg this] at ih
        rw [if_pos List.mem_cons_self]
        split <;> split <;> omega
      · rw [if_pos eb]
        have : (if a ∈ p then 1 else 0) ≤ (if a ∈ b :: p then 1 else 0) := by
          by_cases h : a ∈ p
          · rw [if_pos h, if_pos (List.mem_cons_of_mem _ h)]; omega
          · rw [if_neg h]; omega
        split <;> omega
    · rw [if_neg e]
      have : (if m ∈ p then 1 else 0) ≤ (if m ∈ b :: p then 1 else 0) := by
        by_cases h : m ∈ p
        · rw [if_pos h, if_pos (List.mem_cons_of_mem _ h)]; omega
        · rw [if_neg h]; omega
      omega
theorem nonFix_step {p : List Nat} (u : p.Pairwise (· ≠ ·)) (r : List Nat) (y : Nat × Nat) : nonFix (stepM p r y) p ≤ nonFix r p + 1 := by
  have := nonFix_map (max (r.getD (p.idxOf y.1) 0) (r.getD (p.idxOf y.2) 0)) (min (r.getD (p.idxOf y.1) 0) (r.getD (p.idxOf y.2) 0)) r p u
  unfold stepM
  have h : (if max (r.getD (p.idxOf y.1) 0) (r.getD (p.idxOf y.2) 0) ∈ p then 1 else 0) ≤ 1 := by split <;> omega
  exact Nat.le_trans this (by omega)
theorem marksL_snoc (p : List Nat) (ys : List (Nat × Nat)) (y : Nat × Nat) : marksL p (ys ++ [y]) = stepM p (marksL p ys) y := by
  unfold marksL
  rw [List.foldl_append]
  rfl
theorem nonFix_foldl {p : List Nat} (u : p.Pairwise (· ≠ ·)) : ∀ (ys : List (Nat × Nat)) (r : List Nat), nonFix (ys.foldl (stepM p) r) p ≤ nonFix r p + ys.length
  | [], r => by simp
  | y :: ys, r => by
    have := nonFix_foldl u ys (stepM p r y)
    have h := nonFix_step u r y
    rw [List.foldl_cons, List.length_cons]
    omega
theorem nonFix_le {p : List Nat} (u : p.Pairwise (· ≠ ·)) (ys : List (Nat × Nat)) : nonFix (marksL p ys) p ≤ ys.length := by
  have := nonFix_foldl u ys p
  rw [nonFix_self] at this
  unfold marksL
  omega
/-! each mark is the mark of its own place -/
structure Roots (p r : List Nat) : Prop where
  len : r.length = p.length
  own : ∀ v ∈ r, v ∈ p ∧ r.getD (p.idxOf v) 0 = v
theorem getD_map_ne {l : List Nat} {f : Nat → Nat} {i : Nat} (h : i < l.length) : (l.map f).getD i 0 = f (l.getD i 0) := by
  rw [List.getD_eq_getElem?_getD, List.getD_eq_getElem?_getD, List.getElem?_map, List.getElem?_eq_getElem h]
  rfl
theorem getD_in {l : List Nat} {i : Nat} (h : i < l.length) : l.getD i 0 ∈ l := by
  rw [List.getD_eq_getElem?_getD, List.getElem?_eq_getElem h]
  exact List.getElem_mem h
theorem Roots.step {p r : List Nat} (h : Roots p r) {y : Nat × Nat} (h1 : y.1 ∈ p) (h2 : y.2 ∈ p) : Roots p (stepM p r y) := by
  refine ⟨by rw [stepM_len]; exact h.len, ?_⟩
  have l1 : p.idxOf y.1 < r.length := by rw [h.len]; exact List.idxOf_lt_length_of_mem h1
  have l2 : p.idxOf y.2 < r.length := by rw [h.len]; exact List.idxOf_lt_length_of_mem h2
  have m1 := getD_in l1
  have m2 := getD_in l2
  unfold stepM
  generalize r.getD (p.idxOf y.1) 0 = a at *
  generalize r.getD (p.idxOf y.2) 0 = b at *
  show ∀ v ∈ r.map (fun x => if x = max a b then min a b else x), v ∈ p ∧ (r.map (fun x => if x = max a b then min a b else x)).getD (p.idxOf v) 0 = v
  have mm : min a b ∈ r := by
    by_cases e : a ≤ b
    · rw [Nat.min_eq_left e]; exact m1
    · rw [Nat.min_eq_right (by omega)]; exact m2
  have key : ∀ v ∈ r, (v ≠ max a b ∨ a = b) → v ∈ p ∧ (r.map (fun x => if x = max a b then min a b else x)).getD (p.idxOf v) 0 = v := by
    intro v hv hne
    obtain ⟨k1, k2⟩ := h.own v hv
    refine ⟨k1, ?_⟩
    rw [getD_map_ne (by rw [h.len]; exact List.idxOf_lt_length_of_mem k1), k2]
    by_cases e : v = max a b
    · rw [if_pos e]
      have : a = b := hne.resolve_left fun z => z e
      omega
    · rw [if_neg e]
  intro v hv
  obtain ⟨x, hx, e⟩ := List.mem_map.mp hv
  by_cases ex : x = max a b
  · have e : (if x = max a b then min a b else x) = v := e
    rw [if_pos ex] at e
    subst e
    refine key _ mm ?_
    by_cases z : a = b
    · exact .inr z
    · exact .inl (by omega)
  · have e : (if x = max a b then min a b else x) = v := e
    rw [if_neg ex] at e
    subst e
    exact key _ hx (.inl ex)
theorem idx_get {p : List Nat} (u : p.Pairwise (· ≠ ·)) {i : Nat} (h : i < p.length) : p.idxOf p[i] = i := by
  have hm : p[i] ∈ p := List.getElem_mem h
  have hl := List.idxOf_lt_length_of_mem hm
  have e : p[p.idxOf p[i]] = p[i] := List.getElem_idxOf hl
  rcases Nat.lt_trichotomy (p.idxOf p[i]) i with z | z | z
  · exact absurd e (List.pairwise_iff_getElem.mp u _ _ hl h z)
  · exact z
  · exact absurd e.symm (List.pairwise_iff_getElem.mp u _ _ h hl z)
theorem Roots.start {p : List Nat} (u : p.Pairwise (· ≠ ·)) : Roots p p := by
  refine ⟨rfl, fun v hv => ⟨hv, ?_⟩⟩
  have hl := List.idxOf_lt_length_of_mem hv
  rw [List.getD_eq_getElem?_getD, List.getElem?_eq_getElem hl]
  exact List.getElem_idxOf hl
theorem Roots.foldl {p : List Nat} : ∀ (ys : List (Nat × Nat)) (r : List Nat), (∀ y ∈ ys, y.1 ∈ p ∧ y.2 ∈ p) → Roots p r → Roots p (ys.foldl (stepM p) r)
  | [], r, _, h => h
  | y :: ys, r, hy, h => by
    rw [List.foldl_cons]
    exact Roots.foldl ys _ (fun z hz => hy z (List.mem_cons_of_mem _ hz)) (h.step (hy y List.mem_cons_self).1 (hy y List.mem_cons_self).2)
theorem roots_marks {p : List Nat} (u : p.Pairwise (· ≠ ·)) {ys : List (Nat × Nat)} (hy : ∀ y ∈ ys, y.1 ∈ p ∧ y.2 ∈ p) : Roots p (marksL p ys) := Roots.foldl ys p hy (.start u)
/-! how many unlike marks -/
section
variable {κ : Type} [DecidableEq κ]
theorem nodup_le {α : Type} [DecidableEq α] : ∀ {l m : List α}, l.Nodup → (∀ x ∈ l, x ∈ m) → l.length ≤ m.length
  | [], m, _, _ => Nat.zero_le _
  | a :: l, m, u, h => by
    rw [List.nodup_cons] at u
    have ha : a ∈ m := h a List.mem_cons_self
    have := nodup_le (l := l) (m := m.erase a) u.2 fun x hx => by
      rw [List.mem_erase_of_ne (by rintro rfl; exact u.1 hx)]
      exact h x (List.mem_cons_of_mem _ hx)
    rw [List.length_erase_of_mem ha] at this
    have : 0 < m.length := List.length_pos_of_mem ha
    rw [List.length_cons]
    omega
theorem nodup_same {α : Type} [DecidableEq α] {l m : List α} (u : l.Nodup) (v : m.Nodup) (h : ∀ x, x ∈ l ↔ x ∈ m) : l.length = m.length :=
  Nat.le_antisymm (nodup_le u fun x => (h x).mp) (nodup_le v fun x => (h x).mpr)
end
/-- the places that have their own mark -/
def fixes (r p : List Nat) : List Nat := p.filter fun c => decide (r.getD (p.idxOf c) 0 = c)
theorem fix_count : ∀ (r p : List Nat), r.length = p.length → ((List.zip r p).filter fun q => decide (q.1 = q.2)).length + nonFix r p = p.length
  | [], [], _ => rfl
  | a :: r, b :: p, h => by
    have ih := fix_count r p (by simpa using h)
    rw [nonFix_cons, List.zip_cons_cons, List.length_cons]
    by_cases e : a = b
    · rw [List.filter_cons_of_pos (by simp [e]), List.length_cons, if_neg (by simp [e])]
      omega
    · rw [List.filter_cons_of_neg (by simp [e]), if_pos e]
      omega
theorem fixes_len {r p : List Nat} (u : p.Pairwise (· ≠ ·)) (h : r.length = p.length) : (fixes r p).length = ((List.zip r p).filter fun q => decide (q.1 = q.2)).length := by
  have e : ((List.zip r p).filter fun q => decide (q.1 = q.2)).map (·.2) = fixes r p := by
    have e2 : p = (List.zip r p).map (·.2) := by
      rw [List.map_snd_zip (by omega)]
    unfold fixes
    conv => rhs; rw [show List.filter (fun c => decide (r.getD (p.idxOf c) 0 = c)) p = List.filter (fun c => decide (r.getD (p.idxOf c) 0 = c)) ((List.zip r p).map (·.2)) from by rw [← e2]]
    rw [List.filter_map]
    congr 1
    refine List.filter_congr fun q hq => ?_
    obtain ⟨i, hi, e⟩ := List.getElem_of_mem hq
    rw [List.getElem_zip] at e
    subst e
    rw [List.length_zip] at hi
    show decide (r[i] = p[i]) = decide (r.getD (p.idxOf p[i]) 0 = p[i])
    rw [idx_get u (by omega), List.getD_eq_getElem?_getD, List.getElem?_eq_getElem (by omega)]
    rfl
  rw [← e, List.length_map]
/-! ### all lots, and the woods among them -/
def lotsL : Nat → List (List Nat)
  | 0 => [[]]
  | n + 1 => lotsL n ++ (lotsL n).map (· ++ [n])
theorem lots_in : ∀ (n : Nat), ∀ u ∈ lotsL n, (∀ i ∈ u, i < n) ∧ u.length ≤ n ∧ u.Pairwise (· < ·)
  | 0, u, h => by
    have : u = [] := by simpa [lotsL] using h
    subst this
    exact ⟨fun i hi => (by cases hi), Nat.le_refl _, .nil⟩
  | n + 1, u, h => by
    unfold lotsL at h
    rcases List.mem_append.mp h with h | h
    · obtain ⟨h1, h2, h3⟩ := lots_in n u h
      exact ⟨fun i hi => Nat.lt_succ_of_lt (h1 i hi), Nat.le_succ_of_le h2, h3⟩
    · obtain ⟨v, hv, e⟩ := List.mem_map.mp h
      have e : v ++ [n] = u := e
      subst e
      obtain ⟨h1, h2, h3⟩ := lots_in n v hv
      refine ⟨fun i hi => ?_, ?_, ?_⟩
      · rcases List.mem_append.mp hi with q | q
        · exact Nat.lt_succ_of_lt (h1 i q)
        · rw [List.mem_singleton.mp q]
          exact Nat.lt_succ_self _
      · rw [List.length_append]
        exact Nat.succ_le_succ h2
      · refine List.pairwise_append.mpr ⟨h3, by simp, fun a ha b hb => ?_⟩
        rw [List.mem_singleton.mp hb]
        exact h1 a ha
theorem lots_few : ∀ n, (lotsL n).length = 2 ^ n
  | 0 => rfl
  | n + 1 => by
    unfold lotsL
    rw [List.length_append, List.length_map, lots_few n, Nat.pow_succ]
    omega
end K10
set_option Elab.async false
set_option linter.all false
set_option maxRecDepth 100000
namespace K10
open PySem PySem.Spec PyProof.Rows L2 DL
def sg (c : Nat) : Str := ⟨#[c]⟩
theorem lt_sg {a b : Nat} : ltCps (sg a).cps.toList (sg b).cps.toList = decide (a < b) := by
  rw [ltCps_eq]
  exact decide_eq_decide.mpr lt_one
theorem rising_sg : ∀ (ms : List Nat) (a : Nat), risingS (sg a) (ms.map sg) = true → (a :: ms).Pairwise (· ≤ ·)
  | [], a, _ => by simp
  | x :: ms, a, h => by
    have h : (!ltCps (sg x).cps.toList (sg a).cps.toList && risingS (sg x) (ms.map sg)) = true := h
    rw [Bool.and_eq_true, lt_sg] at h
    have ih := rising_sg ms x h.2
    have h1 : a ≤ x := by
      have := h.1
      simp at this
      exact this
    refine List.pairwise_cons.mpr ⟨fun y hy => ?_, ih⟩
    rcases List.mem_cons.mp hy with e | hy
    · rw [e]; exact h1
    · exact Nat.le_trans h1 ((List.pairwise_cons.mp ih).1 y hy)
theorem sorted_sg {ms : List Nat} (h : sortedS (ms.map sg) = true) : ms.Pairwise (· ≤ ·) := by
  cases ms with
  | nil => exact .nil
  | cons a ms => exact rising_sg ms a h
/-- what sorted leaves of signs -/
theorem sorted_signs {ys : List Str} {f : List Nat} (hp : ys.Perm (f.map sg)) (hs : sortedS ys = true) : ∃ ms : List Nat, ms.Perm f ∧ ms.Pairwise (· ≤ ·) ∧ ys = ms.map sg := by
  obtain ⟨ms, h1, rfl⟩ := perm_map hp
  exact ⟨ms, h1, sorted_sg hs, rfl⟩
theorem sorted_same {ms p : List Nat} (h : ms.Perm p) (hs : ms.Pairwise (· ≤ ·)) (hp : p.Pairwise (· < ·)) : ms = p :=
  h.eq_of_pairwise (fun _ _ _ _ a b => Nat.le_antisymm a b) hs (hp.imp fun h => Nat.le_of_lt h)
theorem join_sg (ms : List Nat) : Txt.join ("" : Str) (ms.map sg) = toS ms := by
  have e0 : ("" : Str) = ⟨#[]⟩ := by decide +kernel
  rw [e0]
  unfold Txt.join
  rw [StrLaws.glued_eq_join]
  have := join_nil_signs (toS ms)
  unfold PyProof.Rows.signs at this
  rw [toS_list] at this
  exact this
theorem sum_sg (ms : List Nat) (k : Nat) : ((ms.map sg).map (·.length)).sum + (ms.map sg).length * k = ms.length + ms.length * k := by
  have : (ms.map sg).map (·.length) = List.replicate ms.length 1 := by
    rw [List.map_map]
    exact List.map_const'
  rw [this, List.length_map]
  simp
section
variable {P : Program} {w : World} {K : PySem.W.Frag} {mg : Str → Option Value} {base : Heap} {A : Ad}
theorem ord_case {h : Int → Int → Bool} {k : List Nat → List Nat → Bool} {i j : Int} {F : Bool → Mu → Prop} {μ : Mu} (h1 : h i j = true → F true μ) (h2 : h i j = false → F false μ) : gOrd h k (.int i) (.int j) μ (bK F) := by
  show bK F (.bl (h i j)) μ
  exact bK_case h1 h2
def g_are_places : GC := g_are_letters
def N15 : List Str := ["value"]
theorem sc15 : FnScope N15 ["value"] (defScope (top 15)) := ⟨rfl, rfl, rfl, by decide +kernel, rfl, by decide +kernel, by decide +kernel⟩
theorem ok_are_places (T : Tx K mg A) : FnOk P w K mg base CX0 2 A.are_places A.fd_are_places ["value"] (toSp K (g_are_places)) := by
  refine okD T.F_are_places sc15 (fun ds μ R h => ?_) ⟨_, fun cdv A0 outer s H E hr =>
    (dss_cons (ds_if (dw_or (dt_not (dt_val (de_call ((ok_are_letters T).mono (by decide)) hr (by rfl) T.g_are_letters T.F_are_letters.kp T.b_are_letters (da_cons (dv 0) da_nil)))) (dw_or1 (dt_not (dt_chain op_leA sim_ord op_leA sim_ord de_int (de_callB cr_len sim_len (by rfl) T.z_len boot_len (da_cons (dv 0) da_nil)) (de_globI (by rfl) T.c_MOST_PLACES.choose_spec))))).dt (dss_one (ds_ret de_bl)) dss_nil)
      (dss_one (ds_ret (de_cmp (op_eqA hr.units) sim_eq (dv 0) (de_bm PySem.F.plainAttrs_str PySem.F.slot_str_join PySem.F.type_str_join mt_join sim_join ok_str de_str (da_cons (de_callB (DL.cr_sortedT (by rfl)) sim_sortedT (by rfl) T.z_sorted boot_sorted (da_cons (dv 0) da_nil)) da_nil)) (nomark _))))), fun ds μ R h => ?_⟩
  · obtain ⟨p, rfl, _⟩ := h
    rfl
  · obtain ⟨p, rfl, ok, h⟩ := h
    have hz : (toS p).length = p.length := by
      show p.toArray.size = p.length
      rw [List.size_toArray]
    have few := ok.few
    refine ⟨p, rfl, ok, ?_⟩
    have e1 : decide ((1 : Int) ≤ ((toS p).length : Int)) = true := by
      rw [decide_eq_true_eq, hz]
      have := ok.one
      omega
    have e2 : decide (((toS p).length : Int) ≤ 7) = true := by
      rw [decide_eq_true_eq, hz]
      omega
    refine ⟨by rw [hz, sizeLine_eq]; omega, ?_⟩
    refine ord_case (fun e => ?_) (fun e => ?_)
    rotate_left
    · exact absurd (e1.symm.trans e) (by decide)
    rw [if_pos rfl]
    unfold gC
    refine ord_case (fun e => ?_) (fun e => ?_)
    rotate_left
    · exact absurd (e2.symm.trans e) (by decide)
    refine ⟨True.intro, ?_⟩
    refine ⟨by show p.toArray.size ≤ sizeLine; rw [List.size_toArray, sizeLine_eq]; omega, fun ys hp hs => ?_⟩
    rw [toS_list] at hp
    obtain ⟨ms, h1, h2, rfl⟩ := sorted_signs (f := p) hp hs
    have := sorted_same h1 h2 ok.asc
    subst this
    refine ⟨_, rfl, by rw [sum_sg]; have : ("" : Str).length = 0 := (by decide +kernel); rw [this]; omega, ?_⟩
    show R (.bl (id (decide (toS ms = Txt.join ("" : Str) (ms.map sg))))) μ
    rw [join_sg, decide_eq_true rfl]
    exact h
def g_check_places : GC := fun ds μ R => ∃ p : List Nat, ds = [.str (toS p)] ∧ OkPlaces p ∧ R .non μ
def N20 : List Str := ["places"]
theorem sc20 : FnScope N20 ["places"] (defScope (top 20)) := ⟨rfl, rfl, rfl, by decide +kernel, rfl, by decide +kernel, by decide +kernel⟩
theorem ok_check_places (T : Tx K mg A) : FnOk P w K mg base CX0 3 A.check_places A.fd_check_places ["places"] (toSp K (g_check_places)) := by
  refine okD T.F_check_places sc20 (fun ds μ R h => ?_) ⟨_, fun cdv A0 outer s H E hr =>
    (dss_one (ds_if (dt_not (dt_val (de_call ((ok_are_places T).mono (by decide)) hr (by rfl) T.g_are_places T.F_are_places.kp T.b_are_places (da_cons (dv 0) da_nil)))) (dss_one ds_never) dss_nil)), fun ds μ R h => ?_⟩
  · obtain ⟨p, rfl, _⟩ := h
    rfl
  · obtain ⟨p, rfl, ok, h⟩ := h
    refine ⟨p, rfl, ok, ?_⟩
    exact h
end
end K10
set_option Elab.async false
set_option linter.all false
set_option maxRecDepth 100000
namespace K10
open PySem PySem.Spec PyProof.Rows L2 DL
section
variable {P : Program} {w : World} {K : PySem.W.Frag} {mg : Str → Option Value} {base : Heap} {A : Ad}
def N24 : List Str := ["self", "places", "ties"]
theorem sc24 : FnScope N24 ["self", "places", "ties"] (defScope (inClass (top 24) 0)) := ⟨rfl, rfl, rfl, by decide +kernel, rfl, by decide +kernel, by decide +kernel⟩
theorem put_ties {x y : D} : dPut "ties" y [(("places" : Str), x)] = [(("places" : Str), x), (("ties" : Str), y)] := by
  have h : ¬ (("places" : Str) = "ties") := by decide +kernel
  show (if ("places" : Str) = "ties" then [(("places" : Str), y)] else (("places" : Str), x) :: dPut "ties" y []) = _
  rw [if_neg h]
  rfl
def g_init (C : Addr) : GC := fun ds μ R => ∃ (a : Addr) (p : List Nat) (ts : List Str), ds = [.adr a, .str (toS p), .tup (ts.map D.str)] ∧ OkPlaces p ∧ OkTies p ts ∧ μ a = some (.ins C []) ∧ R .non (put μ a (.ins C [("places", .str (toS p)), ("ties", .tup (ts.map D.str))]))
theorem ok_Web_init (T : Tx K mg A) : FnOk P w K mg base CX0 4 A.Web_init A.fd_Web_init ["self", "places", "ties"] (toSp K (g_init A.Web)) := by
  refine okD T.F_Web_init sc24 (fun ds μ R h => ?_) ⟨_, fun cdv A0 outer s H E hr =>
    (dss_cons (ds_expr (de_call ((ok_check_places T).mono (by decide)) hr (by rfl) T.g_check_places T.F_check_places.kp T.b_check_places (da_cons (dv 1) da_nil)))
      (dss_cons (ds_expr (de_call ((ok_check_ties T).mono (by decide)) hr (by rfl) T.g_check_ties T.F_check_ties.kp T.b_check_ties (da_cons (dv 1) (da_cons (dv 2) da_nil))))
      (dss_cons (ds_fld T.k_Web T.n_places (dv 0) (dv 1))
      (dss_one (ds_fld T.k_Web T.n_ties (dv 0) (dv 2)))))), fun ds μ R h => ?_⟩
  · obtain ⟨a, p, ts, rfl, _⟩ := h
    rfl
  · obtain ⟨a, p, ts, rfl, op, ot, ha, h⟩ := h
    refine ⟨p, rfl, op, ?_⟩
    refine ⟨p, ts, rfl, ot, ?_⟩
    refine ⟨_, ha, by show 0 < 1000; decide, ?_⟩
    refine ⟨_, put_same, by show 1 < 1000; decide, ?_⟩
    show R .non (put (put μ a _) a (.ins A.Web (dPut "ties" (.tup (ts.map D.str)) [(("places" : Str), .str (toS p))])))
    rw [put_put, put_ties]
    exact h
theorem set_cell {μ : Mu} {a : Addr} {ds ds' : List D} {d : D} {R : Mu → Prop} (k : Nat) (ha : μ a = some (.lst ds)) (hk : k < ds.length) (e : ds.set k d = ds') (r : R (put μ a (.lst ds'))) : setK (.adr a) (.int (k : Nat)) d μ R := by
  subst e
  refine ⟨ds, k, ha, ?_, r⟩
  unfold ixN
  rw [if_pos (by omega), if_pos (by omega)]
  simp
theorem if_case {c : Bool} {X Y : Prop} (h1 : c = true → X) (h2 : c = false → Y) : if c = true then X else Y := by
  cases c with
  | true => exact h1 rfl
  | false => exact h2 rfl
def pot (x y z : Int) : MO := .lst [.int x, .int y, .int z]
theorem ints_at {ns : List Int} {k : Nat} (h : k < ns.length) : ∃ n, (ns.map D.int)[k]? = some (.int n) := ⟨ns[k], by rw [List.getElem?_map, List.getElem?_eq_getElem h]; rfl⟩
theorem ix_cell {μ : Mu} {a : Addr} {ds : List D} {d : D} {R : KD} (j : Nat) (ha : μ a = some (.lst ds)) (h : ds[j]? = some d) (r : R d μ) : gIx (.adr a) (.int (j : Nat)) μ R := by
  unfold gIx
  simp only [ha]
  exact atK_nat h r
theorem toS_len (p : List Nat) : (toS p).length = p.length := by
  show p.toArray.size = p.length
  rw [List.size_toArray]
theorem asc_len {lot : List Nat} {n : Nat} (h : AscLot lot n) : lot.length ≤ n := by
  have u : lot.Nodup := h.asc.imp fun h => Nat.ne_of_lt h
  have := nodup_le (m := List.range n) u fun x hx => List.mem_range.mpr (h.few x hx)
  rw [List.length_range] at this
  exact this
end
end K10
set_option Elab.async false
set_option linter.all false
set_option maxRecDepth 100000
namespace K10
open PySem PySem.Spec PyProof.Rows L2 DL
section
variable {P : Program} {w : World} {K : PySem.W.Frag} {mg : Str → Option Value} {base : Heap} {A : Ad}
def g_L_lots : GC := fun ds μ R => ∃ n : Nat, ds = [.int (n : Nat)] ∧ n ≤ 11 ∧ ∀ out : List (List Nat), out.Perm (lotsL n) → out.Pairwise (fun a b => ltN b a = false) → R (.lst (out.map dLot)) μ
end
end K10
set_option Elab.async false
set_option linter.all false
set_option maxRecDepth 100000
namespace K10
open PySem PySem.Spec PyProof.Rows L2 DL
section
variable {P : Program} {w : World} {K : PySem.W.Frag} {mg : Str → Option Value} {base : Heap} {A : Ad}
/-! the heads of places as a dict -/
structure OkEnds (p : List Nat) (ts : List Str) : Prop where
  ties : ∀ y ∈ ts, y.cps.size = 2 ∧ (ends y).1 ∈ p ∧ (ends y).2 ∈ p
end
end K10
set_option Elab.async false
set_option linter.all false
set_option maxRecDepth 100000
namespace K10
open PySem PySem.Spec PyProof.Rows L2 DL
/-! ### both sides' trees are the same -/
theorem ofNat_inj : ∀ {a b : List Nat}, a.map Int.ofNat = b.map Int.ofNat → a = b
  | [], [], _ => rfl
  | [], _ :: _, h => by simp at h
  | _ :: _, [], h => by simp at h
  | x :: a, y :: b, h => by
    rw [List.map_cons, List.map_cons] at h
    injection h with h1 h2
    rw [Int.ofNat.inj h1, ofNat_inj h2]
theorem ltN_anti (a b : List Nat) (h : ltN a b = false) (h2 : ltN b a = false) : a = b := ofNat_inj (ltI_anti _ _ h h2)
theorem rank_le {p : List Nat} (u : p.Pairwise (· ≠ ·)) (ts : List Str) (lot : List Nat) : rankOf p ts lot ≤ lot.length := by
  have := nonFix_le u (tiesOf ts lot)
  have e : (tiesOf ts lot).length = lot.length := List.length_map _
  rw [e] at this
  exact this
/-! counts of trees with a tie -/
end K10
namespace K10
open PySem PySem.Spec PyProof.Rows L2 DL
section
variable {P : Program} {w : World} {K : PySem.W.Frag} {mg : Str → Option Value} {base : Heap} {A : Ad}
theorem cell_ok {μ : Mu} {a : Addr} {ds : List D} (h : μ a = some (.lst ds)) : okCell (.adr a) μ := by
  unfold okCell
  simp only [h]
end
end K10
set_option Elab.async false
set_option linter.all false
set_option maxRecDepth 100000
namespace K10
open PySem PySem.Spec PyProof.Rows L2 DL
section
variable {P : Program} {w : World} {K : PySem.W.Frag} {mg : Str → Option Value} {base : Heap} {A : Ad}
/-- the pot at a, all else that was there as it was -/
structure Sa (μ μ1 : Mu) (a : Addr) : Prop where
  keep : ∀ c o, c ≠ a → μ c = some o → μ1 c = some o
  has : ∃ x y z, μ1 a = some (pot x y z)
/-- a new cell at b -/
structure Sc (μ μ1 : Mu) (a b : Addr) (l : List D) : Prop where
  at_ : μ1 b = some (.lst l)
  new : μ b = none
  ne : b ≠ a
section
variable {μ μ1 : Mu} {a b c : Addr} {l m : List D}
theorem Sa.draw (s : Sa μ μ1 a) (x y z : Int) : Sa μ (put μ1 a (pot x y z)) a :=
  ⟨fun c o hc e => by rw [put_ne hc]; exact s.keep c o hc e, ⟨x, y, z, put_same⟩⟩
theorem Sc.draw (s : Sc μ μ1 a b l) (x y z : Int) : Sc μ (put μ1 a (pot x y z)) a b l :=
  ⟨by rw [put_ne s.ne]; exact s.at_, s.new, s.ne⟩
theorem Sa.cell (s : Sa μ μ1 a) (n : μ b = none) (ne : b ≠ a) (o : MO) : Sa μ (put μ1 b o) a := by
  obtain ⟨x, y, z, e⟩ := s.has
  refine ⟨fun c o' hc e' => ?_, ⟨x, y, z, by rw [put_ne ne.symm]; exact e⟩⟩
  rw [put_ne (fun q => by rw [q, n] at e'; cases e')]
  exact s.keep c o' hc e'
theorem Sa.new (s : Sa μ μ1 a) (n : μ1 b = none) : μ b = none ∧ b ≠ a := by
  obtain ⟨x, y, z, e⟩ := s.has
  have ne : b ≠ a := fun q => by rw [q, e] at n; cases n
  refine ⟨?_, ne⟩
  cases h : μ b with
  | none => rfl
  | some o =>
    rw [s.keep b o ne h] at n
    cases n
theorem Sc.same (s : Sc μ μ1 a b l) : Sc μ (put μ1 b (.lst m)) a b m := ⟨put_same, s.new, s.ne⟩
theorem Sc.other (s : Sc μ μ1 a b l) {o : MO} (h : b ≠ c) : Sc μ (put μ1 c o) a b l := ⟨by rw [put_ne h]; exact s.at_, s.new, s.ne⟩
theorem Sc.apart {l' : List D} (s : Sc μ μ1 a b l) (n : μ1 c = none) : b ≠ c := fun q => by
  have := s.at_
  rw [q, n] at this
  cases this
theorem Sa.back (s : Sa μ μ1 a) {d : D} {R : KD} (h : ∀ x y z : Int, R d (put μ a (pot x y z))) : freed R d μ1 := by
  obtain ⟨x, y, z, e⟩ := s.has
  refine ⟨d, _, .less fun c o hc => ?_, h x y z⟩
  by_cases q : c = a
  · rw [q, put_same] at hc
    rw [q, e]
    exact hc
  · rw [put_ne q] at hc
    exact s.keep c o q hc
end
def gLenC : G1 := fun x μ R => ∃ a ds, x = .adr a ∧ μ a = some (.lst ds) ∧ R (.int (ds.length : Nat)) μ
theorem sim_lenC {K : PySem.W.Frag} : SimC K (rLenA K) (g1 gLenC) := fun vs ds H μ Q R rm rl q f => by
  match ds, q with
  | [d], q =>
    obtain ⟨a, ds, rfl, e, q⟩ := q
    refine sim_len vs _ H μ Q R rm rl ?_ f
    show gLen1 (.adr a) μ R
    unfold gLen1
    simp only [e]
    exact q
def gTupC : G1 := fun x μ R => ∃ a ds, x = .adr a ∧ μ a = some (.lst ds) ∧ R (.tup ds) μ
theorem sim_tupC {K : PySem.W.Frag} : SimC K (fun xs H Q => ∃ p ys, xs = [.ref p] ∧ ((SqL K H p ys ∧ ∀ l, H l = none → Q (.ref l) (upd H l (.tup ys))) ∨ (SqT K H p ys ∧ Q (.ref p) H))) (g1 gTupC) := fun vs ds H μ Q R rm rl q f => by
  match ds, q with
  | [d], q =>
    obtain ⟨a, ds, rfl, e, q⟩ := q
    refine sim_tuple vs _ H μ Q R rm rl ?_ f
    show gTuple1 (.adr a) μ R
    unfold gTuple1
    simp only [e]
    exact q
def gSrtC : G1 := fun x μ R => ∃ a ss, x = .adr a ∧ μ a = some (.lst (List.map D.str ss)) ∧ ss.length < 64 ∧ ∀ ys : List Str, ys.Perm ss → sortedS ys = true → R (.lst (List.map D.str ys)) μ
theorem sim_srtC {K : PySem.W.Frag} : SimC K (rSortedS K) (g1 gSrtC) := fun vs ds H μ Q R rm rl q f => by
  match ds, q with
  | [d], q =>
    obtain ⟨a, ss, rfl, e, q⟩ := q
    refine sim_sortedS vs _ H μ Q R rm rl ?_ f
    show gSortedS1 (.adr a) μ R
    unfold gSortedS1
    simp only [e]
    exact ⟨ss, rfl, q⟩
theorem erase_map {α β : Type} (f : α → β) : ∀ (l : List α) (i : Nat), (l.map f).eraseIdx i = (l.eraseIdx i).map f
  | [], _ => rfl
  | _ :: _, 0 => rfl
  | a :: l, i + 1 => by
    show f a :: (l.map f).eraseIdx i = f a :: (l.eraseIdx i).map f
    rw [erase_map f l i]
theorem erase_perm {α : Type} : ∀ (l : List α) (i : Nat) (h : i < l.length), (l[i] :: l.eraseIdx i).Perm l
  | a :: l, 0, _ => .refl _
  | a :: l, i + 1, h => by
    have := erase_perm l i (by simpa using h)
    exact (List.Perm.swap _ _ _).trans (this.cons a)
def chs (l : List Nat) : List D := l.map fun c => .str (sg c)
def eight : List Nat := [97, 98, 99, 100, 101, 102, 103, 104]
theorem eight_signs : DL.signs ("abcdefgh" : Str) = chs eight := by
  unfold DL.signs
  have e : ("abcdefgh" : Str).cps.toList = eight := by decide +kernel
  rw [e]
  rfl
def yTie (a b : Nat) : Str := ⟨#[a, b]⟩
structure OkT (p : List Nat) (ts : List Str) : Prop where
  ties : ∀ y ∈ ts, ∃ a b, y = yTie a b ∧ a ∈ p ∧ b ∈ p ∧ a ≤ b
theorem OkT.ok {p : List Nat} {ts : List Str} (h : OkT p ts) (l : ts.length ≤ 11) : OkTies p ts := ⟨l, h.ties⟩
theorem OkT.ends {p : List Nat} {ts : List Str} (h : OkT p ts) : OkEnds p ts := ⟨fun y hy => by
  obtain ⟨a, b, rfl, ha, hb, _⟩ := h.ties y hy
  exact ⟨rfl, ha, hb⟩⟩
theorem OkT.put {p : List Nat} {ts : List Str} (h : OkT p ts) {a b : Nat} (ha : a ∈ p) (hb : b ∈ p) (k : Nat) : OkT p (ts.take k ++ [yTie (min a b) (max a b)] ++ ts.drop k) := ⟨fun y hy => by
  rcases List.mem_append.mp hy with q | q
  · rcases List.mem_append.mp q with q | q
    · exact h.ties y (List.mem_of_mem_take q)
    · rw [List.mem_singleton.mp q]
      have h1 : min a b ∈ p := by
        by_cases e : a ≤ b
        · rw [Nat.min_eq_left e]; exact ha
        · rw [Nat.min_eq_right (by omega)]; exact hb
      have h2 : max a b ∈ p := by
        by_cases e : a ≤ b
        · rw [Nat.max_eq_right e]; exact hb
        · rw [Nat.max_eq_left (by omega)]; exact ha
      exact ⟨_, _, rfl, h1, h2, by omega⟩
  · exact h.ties y (List.mem_of_mem_drop q)⟩
def g_L_parts : GC := fun ds μ R => ∃ (a : Addr) (x y z : Int), ds = [.adr a, .int 4, .int 6] ∧ μ a = some (pot x y z) ∧
  ∀ (p : List Nat) (ts : List Str) (x y z : Int), OkPlaces p → OkT p ts → ts.length ≤ 6 → p.length ≤ 4 → R (.tup [.str (toS p), .tup (ts.map D.str)]) (put μ a (pot x y z))
end
end K10
set_option Elab.async false
set_option linter.all false
set_option maxRecDepth 100000
namespace K10
open PySem PySem.Spec PyProof.Rows L2 DL
section
variable {P : Program} {w : World} {K : PySem.W.Frag} {mg : Str → Option Value} {base : Heap} {A : Ad}
/-! what repr is asked to show -/
structure Sh (d : PyData) (k w : Nat) : Prop where
  lay : PyData.canLay0 d = true
  shrt : PyData.intsShort 13 d = true
  show_ : PyData.showable d = true
  dp : PyData.depth d ≤ k
  wt : PyData.weight d ≤ w
theorem Sh.ok {d : PyData} {k w : Nat} (h : Sh d k w) (hk : k ≤ 20) (hw : w ≤ 2 ^ 20) : ShowOk d := by
  refine ⟨?_, h.shrt, h.show_, PyData.hasDict_of_canLay d h.lay, Nat.le_trans h.dp hk⟩
  unfold PyData.layable0
  rw [h.lay, decide_eq_true (show d.depth ≤ 64 by have := h.dp; omega), decide_eq_true (show d.weight ≤ 2 ^ 20 by have := h.wt; omega)]
  rfl
theorem Sh.many {k w : Nat} : ∀ {xs : List PyData}, (∀ x ∈ xs, Sh x k w) → PyData.canLayAll0 xs = true ∧ PyData.intsShortAll 13 xs = true ∧ PyData.showableAll xs = true ∧ PyData.depthAll xs ≤ k ∧ PyData.weightAll xs ≤ xs.length * (w + 1)
  | [], _ => by
    refine ⟨by unfold PyData.canLayAll0; rfl, by unfold PyData.intsShortAll; rfl, by unfold PyData.showableAll; rfl, by unfold PyData.depthAll; omega, by unfold PyData.weightAll; omega⟩
  | x :: xs, h => by
    have hx := h x List.mem_cons_self
    obtain ⟨h1, h2, h3, h4, h5⟩ := Sh.many (xs := xs) fun y hy => h y (List.mem_cons_of_mem _ hy)
    refine ⟨?_, ?_, ?_, ?_, ?_⟩
    · unfold PyData.canLayAll0
      rw [hx.lay, h1]
      rfl
    · unfold PyData.intsShortAll
      rw [hx.shrt, h2]
      rfl
    · unfold PyData.showableAll
      rw [hx.show_, h3]
      rfl
    · unfold PyData.depthAll
      have := hx.dp
      omega
    · unfold PyData.weightAll
      have := hx.wt
      rw [List.length_cons, Nat.succ_mul]
      omega
theorem Sh.tup {k w n : Nat} {xs : List PyData} (h : ∀ x ∈ xs, Sh x k w) (l : xs.length ≤ n) : Sh (.tuple xs) (k + 1) (n * (w + 1)) := by
  obtain ⟨h1, h2, h3, h4, h5⟩ := Sh.many h
  have := Nat.mul_le_mul_right (w + 1) l
  refine ⟨by unfold PyData.canLay0; exact h1, by unfold PyData.intsShort; exact h2, by unfold PyData.showable; exact h3, by unfold PyData.depth; omega, by unfold PyData.weight; omega⟩
theorem Sh.lst {k w n : Nat} {xs : List PyData} (h : ∀ x ∈ xs, Sh x k w) (l : xs.length ≤ n) : Sh (.list xs) (k + 1) (n * (w + 1)) := by
  obtain ⟨h1, h2, h3, h4, h5⟩ := Sh.many h
  have := Nat.mul_le_mul_right (w + 1) l
  refine ⟨by unfold PyData.canLay0; exact h1, by unfold PyData.intsShort; exact h2, by unfold PyData.showable; exact h3, by unfold PyData.depth; omega, by unfold PyData.weight; omega⟩
theorem Sh.mono {d : PyData} {k w k' w' : Nat} (h : Sh d k w) (hk : k ≤ k') (hw : w ≤ w') : Sh d k' w' := ⟨h.lay, h.shrt, h.show_, Nat.le_trans h.dp hk, Nat.le_trans h.wt hw⟩
theorem log_small {n : Nat} (h : n < 8192) : n.log2 < 13 := by
  by_cases e : n = 0
  · subst e
    decide
  · exact (Nat.log2_lt e).mpr h
theorem Sh.int {n : Nat} (h : n < 8192) : Sh (.int (n : Nat)) 0 13 := by
  have l := log_small h
  refine ⟨by unfold PyData.canLay0; rfl, ?_, ?_, by unfold PyData.depth; omega, ?_⟩
  · unfold PyData.intsShort
    rw [decide_eq_true_eq]
    exact PyData.shown_int_le (by show n < 10 ^ 12; omega)
  · unfold PyData.showable
    rw [decide_eq_true_eq]
    show n.log2 < 1920
    omega
  · unfold PyData.weight
    split
    · omega
    · show n.log2 + 1 ≤ 13
      omega
theorem Sh.str {x : Str} (h : ∀ c ∈ x.cps.toList, c < 0x110000) (l : x.cps.size ≤ 13) : Sh (.str x) 0 13 := by
  refine ⟨?_, by unfold PyData.intsShort; rfl, by unfold PyData.showable; rfl, by unfold PyData.depth; omega, by unfold PyData.weight; exact l⟩
  unfold PyData.canLay0 PyData.strOk
  rw [Array.all_eq_true]
  intro i hi
  have := h _ (Array.getElem_mem_toList hi)
  simpa using this
def pLot (u : List Nat) : PyData := .tuple (u.map fun k => .int (k : Nat))
theorem pyL_map {α : Type} {f : α → D} {g : α → PyData} : ∀ {l : List α}, (∀ x ∈ l, py (f x) = some (g x)) → pyL (l.map f) = some (l.map g)
  | [], _ => by
    rw [List.map_nil, List.map_nil]
    unfold pyL
    rfl
  | a :: l, h => by
    rw [List.map_cons, List.map_cons]
    unfold pyL
    rw [h a List.mem_cons_self, pyL_map fun x hx => h x (List.mem_cons_of_mem _ hx)]
theorem py_lot (u : List Nat) : py (dLot u) = some (pLot u) := by
  unfold dLot dI py
  rw [List.map_map, pyL_map (g := fun k : Nat => PyData.int (k : Nat)) fun x _ => by
    show py (.int (x : Nat)) = _
    unfold py
    rfl]
  rfl
/-! the counts that the law compares -/
theorem OkT.web {p : List Nat} {ts : List Str} (h : OkT p ts) (hp : OkPlaces p) (l : ts.length ≤ 11) : OkWeb p ts := ⟨by have := hp.few; omega, l, h.ends.ties⟩
theorem py_int (i : Int) : py (.int i) = some (.int i) := by unfold py; rfl
theorem Sh.shaped {d : PyData} {k w : Nat} (h : Sh d k w) (hk : k ≤ 64) : SeqAt.shaped d = true := by
  unfold SeqAt.shaped
  rw [h.lay, decide_eq_true (Nat.le_trans h.dp hk)]
  rfl
theorem Sh.eqv {d : PyData} {k w : Nat} (h : Sh d k w) : (!PyData.eqv d d) = false := by
  rw [SeqAt.eqv_refl d h.lay]
  rfl
def g_L_right : GC := fun ds μ R => ∃ (a : Addr) (x y z : Int), ds = [.adr a] ∧ μ a = some (pot x y z) ∧ ∀ x y z : Int, R (.bl true) (put μ a (pot x y z))
end
end K10
set_option Elab.async false
set_option linter.all false
set_option maxRecDepth 100000
namespace K10
open PySem PySem.Spec PyProof.Rows L2 DL
/-! ### a tree there is -/
theorem step_same {p r : List Nat} {y : Nat × Nat} (e : r.getD (p.idxOf y.1) 0 = r.getD (p.idxOf y.2) 0) : stepM p r y = r := by
  unfold stepM
  rw [e]
  have : (fun x : Nat => if x = max (r.getD (p.idxOf y.2) 0) (r.getD (p.idxOf y.2) 0) then min (r.getD (p.idxOf y.2) 0) (r.getD (p.idxOf y.2) 0) else x) = fun x => x := by
    funext x
    split
    · rename_i h
      rw [h]
      omega
    · rfl
  show r.map (fun x : Nat => if x = max (r.getD (p.idxOf y.2) 0) (r.getD (p.idxOf y.2) 0) then min (r.getD (p.idxOf y.2) 0) (r.getD (p.idxOf y.2) 0) else x) = r
  rw [this, List.map_id']
theorem step_up {p r : List Nat} (u : p.Pairwise (· ≠ ·)) (h : Roots p r) {y : Nat × Nat} (h1 : y.1 ∈ p) (h2 : y.2 ∈ p) (ne : r.getD (p.idxOf y.1) 0 ≠ r.getD (p.idxOf y.2) 0) : nonFix r p + 1 ≤ nonFix (stepM p r y) p := by
  have e1 := fix_count r p h.len
  have hs := h.step h1 h2
  have e2 := fix_count (stepM p r y) p hs.len
  rw [← fixes_len u h.len] at e1
  rw [← fixes_len u hs.len] at e2
  have l1 : p.idxOf y.1 < r.length := by rw [h.len]; exact List.idxOf_lt_length_of_mem h1
  have l2 : p.idxOf y.2 < r.length := by rw [h.len]; exact List.idxOf_lt_length_of_mem h2
  obtain ⟨a1, a2⟩ := h.own _ (getD_in l1)
  obtain ⟨b1, b2⟩ := h.own _ (getD_in l2)
  have key : ∀ c, c ∈ p → (stepM p r y).getD (p.idxOf c) 0 = (fun x => if x = max (r.getD (p.idxOf y.1) 0) (r.getD (p.idxOf y.2) 0) then min (r.getD (p.idxOf y.1) 0) (r.getD (p.idxOf y.2) 0) else x) (r.getD (p.idxOf c) 0) := fun c hc => by
    unfold stepM
    exact getD_map_ne (by rw [h.len]; exact List.idxOf_lt_length_of_mem hc)
  generalize r.getD (p.idxOf y.1) 0 = a at *
  generalize r.getD (p.idxOf y.2) 0 = b at *
  have mx : max a b ∈ p ∧ r.getD (p.idxOf (max a b)) 0 = max a b := by
    rcases Nat.le_total a b with q | q
    · rw [Nat.max_eq_right q]
      exact ⟨b1, b2⟩
    · rw [Nat.max_eq_left q]
      exact ⟨a1, a2⟩
  have mn : r.getD (p.idxOf (min a b)) 0 = min a b := by
    rcases Nat.le_total a b with q | q
    · rw [Nat.min_eq_left q]
      exact a2
    · rw [Nat.min_eq_right q]
      exact b2
  have lt : min a b < max a b := by omega
  have un : p.Nodup := u
  have := nodup_le (l := max a b :: fixes (stepM p r y) p) (m := fixes r p) (by
    refine List.nodup_cons.mpr ⟨fun hm => ?_, un.filter _⟩
    obtain ⟨k1, k2⟩ := List.mem_filter.mp hm
    have k2 := of_decide_eq_true k2
    rw [key _ k1, mx.2] at k2
    have k2 : (if max a b = max a b then min a b else max a b) = max a b := k2
    rw [if_pos rfl] at k2
    omega) (fun c hc => by
    rcases List.mem_cons.mp hc with e | hc
    · rw [e]
      exact List.mem_filter.mpr ⟨mx.1, decide_eq_true mx.2⟩
    · obtain ⟨k1, k2⟩ := List.mem_filter.mp hc
      have k2 := of_decide_eq_true k2
      rw [key _ k1] at k2
      have k2 : (if r.getD (p.idxOf c) 0 = max a b then min a b else r.getD (p.idxOf c) 0) = c := k2
      refine List.mem_filter.mpr ⟨k1, decide_eq_true ?_⟩
      by_cases e : r.getD (p.idxOf c) 0 = max a b
      · rw [if_pos e] at k2
        rw [← k2, mn] at e
        omega
      · rwa [if_neg e] at k2)
  rw [List.length_cons] at this
  omega
theorem ties_snoc (ts : List Str) (lot : List Nat) (i : Nat) : tiesOf ts (lot ++ [i]) = tiesOf ts lot ++ [ends (ts.getD i Str.empty)] := by
  unfold tiesOf
  rw [List.map_append]
  rfl
end K10
set_option Elab.async false
set_option linter.all false
set_option maxRecDepth 100000
namespace K10
open PySem PySem.Spec PyProof.Rows L2 DL
/-! ### marks tell what is joined, whatever the order of the ties -/
def markOf (p r : List Nat) (a : Nat) : Nat := r.getD (p.idxOf a) 0
inductive Conn (ys : List (Nat × Nat)) : Nat → Nat → Prop
  | refl (a : Nat) : Conn ys a a
  | tie {y : Nat × Nat} (h : y ∈ ys) : Conn ys y.1 y.2
  | symm {a b : Nat} (h : Conn ys a b) : Conn ys b a
  | trans {a b c : Nat} (h : Conn ys a b) (k : Conn ys b c) : Conn ys a c
theorem Conn.mono {ys zs : List (Nat × Nat)} (s : ∀ y ∈ ys, y ∈ zs) {a b : Nat} (h : Conn ys a b) : Conn zs a b := by
  induction h with
  | refl a => exact .refl a
  | tie h => exact .tie (s _ h)
  | symm _ ih => exact ih.symm
  | trans _ _ i1 i2 => exact i1.trans i2
theorem mark_step {p r : List Nat} (hl : r.length = p.length) {y : Nat × Nat} {a : Nat} (ha : a ∈ p) :
    markOf p (stepM p r y) a = if markOf p r a = max (markOf p r y.1) (markOf p r y.2) then min (markOf p r y.1) (markOf p r y.2) else markOf p r a := by
  unfold markOf stepM
  rw [getD_map_ne (by rw [hl]; exact List.idxOf_lt_length_of_mem ha)]
theorem mark_self {p : List Nat} {a : Nat} (ha : a ∈ p) : markOf p p a = a := by
  unfold markOf
  rw [List.getD_eq_getElem?_getD, List.getElem?_eq_getElem (List.idxOf_lt_length_of_mem ha), List.getElem_idxOf]
  rfl
theorem marks_len (p : List Nat) (ys : List (Nat × Nat)) : (marksL p ys).length = p.length := foldl_len p ys p
theorem snoc_ind {α : Type} {P : List α → Prop} (h0 : P []) (h1 : ∀ l a, P l → P (l ++ [a])) : ∀ l, P l := fun l => by
  have : ∀ (n : Nat) (l : List α), l.length = n → P l := by
    intro n
    induction n with
    | zero => intro l hl; rw [List.eq_nil_of_length_eq_zero hl]; exact h0
    | succ n ih =>
      intro l hl
      have hn : l ≠ [] := fun e => by rw [e] at hl; cases hl
      rw [← List.dropLast_concat_getLast hn]
      exact h1 _ _ (ih _ (by rw [List.length_dropLast, hl]; rfl))
  exact this l.length l rfl
def InP (p : List Nat) (ys : List (Nat × Nat)) : Prop := ∀ y ∈ ys, y.1 ∈ p ∧ y.2 ∈ p
theorem InP.left {p : List Nat} {ys : List (Nat × Nat)} {y : Nat × Nat} (h : InP p (ys ++ [y])) : InP p ys := fun z hz => h z (List.mem_append.mpr (.inl hz))
theorem InP.last {p : List Nat} {ys : List (Nat × Nat)} {y : Nat × Nat} (h : InP p (ys ++ [y])) : y.1 ∈ p ∧ y.2 ∈ p := h y (List.mem_append.mpr (.inr (List.mem_singleton.mpr rfl)))
/-- ties join their ends -/
theorem tie_marks {p : List Nat} : ∀ ys, InP p ys → ∀ y ∈ ys, markOf p (marksL p ys) y.1 = markOf p (marksL p ys) y.2 := by
  refine snoc_ind (P := fun ys => InP p ys → ∀ y ∈ ys, markOf p (marksL p ys) y.1 = markOf p (marksL p ys) y.2) (fun _ y hy => by cases hy) ?_
  intro ys z ih hp y hy
  obtain ⟨m1, m2⟩ := hp y hy
  rw [marksL_snoc, mark_step (marks_len p ys) m1, mark_step (marks_len p ys) m2]
  rcases List.mem_append.mp hy with q | q
  · rw [ih hp.left y q]
  · rw [List.mem_singleton.mp q]
    generalize markOf p (marksL p ys) z.1 = a
    generalize markOf p (marksL p ys) z.2 = b
    split <;> split <;> omega
theorem conn_marks {p : List Nat} {ys : List (Nat × Nat)} (hp : InP p ys) {a b : Nat} (h : Conn ys a b) : markOf p (marksL p ys) a = markOf p (marksL p ys) b := by
  induction h with
  | refl a => rfl
  | tie h => exact tie_marks ys hp _ h
  | symm _ ih => exact ih.symm
  | trans _ _ i1 i2 => exact i1.trans i2
theorem marks_conn {p : List Nat} : ∀ ys, InP p ys → ∀ a b, a ∈ p → b ∈ p → markOf p (marksL p ys) a = markOf p (marksL p ys) b → Conn ys a b := by
  refine snoc_ind (P := fun ys => InP p ys → ∀ a b, a ∈ p → b ∈ p → markOf p (marksL p ys) a = markOf p (marksL p ys) b → Conn ys a b) ?_ ?_
  · intro _ a b ha hb e
    have e : markOf p p a = markOf p p b := e
    rw [mark_self ha, mark_self hb] at e
    rw [e]
    exact .refl b
  · intro ys z ih hp a b ha hb e
    have sub : ∀ y ∈ ys, y ∈ ys ++ [z] := fun y hy => List.mem_append.mpr (.inl hy)
    obtain ⟨z1, z2⟩ := hp.last
    have hz : Conn (ys ++ [z]) z.1 z.2 := .tie (List.mem_append.mpr (.inr (List.mem_singleton.mpr rfl)))
    rw [marksL_snoc, mark_step (marks_len p ys) ha, mark_step (marks_len p ys) hb] at e
    have key : ∀ c d, c ∈ p → d ∈ p → markOf p (marksL p ys) c = markOf p (marksL p ys) d → Conn (ys ++ [z]) c d := fun c d hc hd h => (ih hp.left c d hc hd h).mono sub
    have ka1 := key a z.1 ha z1
    have ka2 := key a z.2 ha z2
    have kb1 := key b z.1 hb z1
    have kb2 := key b z.2 hb z2
    have kab := key a b ha hb
    generalize markOf p (marksL p ys) a = x at e ka1 ka2 kab
    generalize markOf p (marksL p ys) b = y at e kb1 kb2 kab
    generalize markOf p (marksL p ys) z.1 = m at e ka1 ka2 kb1 kb2
    generalize markOf p (marksL p ys) z.2 = n at e ka1 ka2 kb1 kb2
    by_cases exy : x = y
    · exact kab exy
    · have h : (x = m ∧ y = n) ∨ (x = n ∧ y = m) := by
        split at e <;> split at e <;> omega
      rcases h with ⟨h1, h2⟩ | ⟨h1, h2⟩
      · exact ((ka1 h1).trans hz).trans (kb2 h2).symm
      · exact ((ka2 h1).trans hz.symm).trans (kb1 h2).symm
theorem mark_le {p : List Nat} : ∀ ys, InP p ys → ∀ a ∈ p, markOf p (marksL p ys) a ≤ a := by
  refine snoc_ind (P := fun ys => InP p ys → ∀ a ∈ p, markOf p (marksL p ys) a ≤ a) (fun _ a ha => by show markOf p p a ≤ a; rw [mark_self ha]; exact Nat.le_refl _) ?_
  intro ys z ih hp a ha
  rw [marksL_snoc, mark_step (marks_len p ys) ha]
  have := ih hp.left a ha
  split <;> omega
theorem mark_root {p : List Nat} (u : p.Pairwise (· ≠ ·)) {ys : List (Nat × Nat)} (hp : InP p ys) {a : Nat} (ha : a ∈ p) : markOf p (marksL p ys) a ∈ p ∧ markOf p (marksL p ys) (markOf p (marksL p ys) a) = markOf p (marksL p ys) a :=
  (roots_marks u hp).own _ (getD_in (by rw [marks_len]; exact List.idxOf_lt_length_of_mem ha))
/-- the marks hang on what is joined alone -/
theorem same_marks {p : List Nat} (u : p.Pairwise (· ≠ ·)) {ys zs : List (Nat × Nat)} (hy : InP p ys) (hz : InP p zs) (h1 : ∀ y ∈ ys, y ∈ zs) (h2 : ∀ y ∈ zs, y ∈ ys) : marksL p ys = marksL p zs := by
  have le : ∀ {ys zs : List (Nat × Nat)}, InP p ys → InP p zs → (∀ y ∈ ys, y ∈ zs) → ∀ a ∈ p, markOf p (marksL p zs) a ≤ markOf p (marksL p ys) a := fun {ys zs} hy hz s a ha => by
    obtain ⟨r1, r2⟩ := mark_root u hy ha
    have c := (marks_conn ys hy a _ ha r1 r2.symm).mono s
    rw [conn_marks hz c]
    exact mark_le zs hz _ r1
  apply List.ext_getElem (by rw [marks_len, marks_len])
  intro i h3 h4
  have hi : i < p.length := by rwa [marks_len] at h3
  have e := Nat.le_antisymm (le hz hy h2 p[i] (List.getElem_mem hi)) (le hy hz h1 p[i] (List.getElem_mem hi))
  unfold markOf at e
  rw [idx_get u hi, List.getD_eq_getElem?_getD, List.getD_eq_getElem?_getD, List.getElem?_eq_getElem h3, List.getElem?_eq_getElem h4] at e
  exact e
/-! ### ranks of lots in any order -/
def Ends (p : List Nat) (ts : List Str) : Prop := ∀ y ∈ ts, (ends y).1 ∈ p ∧ (ends y).2 ∈ p
theorem ties_in {p : List Nat} {ts : List Str} (he : Ends p ts) {v : List Nat} (hv : ∀ k ∈ v, k < ts.length) : InP p (tiesOf ts v) := fun y hy => by
  obtain ⟨i, hi, e⟩ := List.mem_map.mp hy
  have hi2 := hv i hi
  have : ts.getD i Str.empty = ts[i] := by rw [List.getD_eq_getElem?_getD, List.getElem?_eq_getElem hi2]; rfl
  rw [← e, this]
  exact he _ (List.getElem_mem _)
theorem lot_marks {p : List Nat} (u : p.Pairwise (· ≠ ·)) {ts : List Str} (he : Ends p ts) {v w : List Nat} (hv : ∀ k ∈ v, k < ts.length) (hw : ∀ k ∈ w, k < ts.length) (h1 : ∀ k ∈ v, k ∈ w) (h2 : ∀ k ∈ w, k ∈ v) : marksL p (tiesOf ts v) = marksL p (tiesOf ts w) := by
  refine same_marks u (ties_in he hv) (ties_in he hw) (fun y hy => ?_) (fun y hy => ?_)
  · obtain ⟨i, hi, e⟩ := List.mem_map.mp hy
    exact List.mem_map.mpr ⟨i, h1 i hi, e⟩
  · obtain ⟨i, hi, e⟩ := List.mem_map.mp hy
    exact List.mem_map.mpr ⟨i, h2 i hi, e⟩
theorem lot_rank {p : List Nat} (u : p.Pairwise (· ≠ ·)) {ts : List Str} (he : Ends p ts) {v w : List Nat} (hv : ∀ k ∈ v, k < ts.length) (hw : ∀ k ∈ w, k < ts.length) (h1 : ∀ k ∈ v, k ∈ w) (h2 : ∀ k ∈ w, k ∈ v) : rankOf p ts v = rankOf p ts w := by
  show nonFix (marksL p (tiesOf ts v)) p = nonFix (marksL p (tiesOf ts w)) p
  rw [lot_marks u he hv hw h1 h2]
/-- whether a tie's ends are not joined by a lot -/
def partsL (p : List Nat) (ts : List Str) (v : List Nat) (k : Nat) : Bool := decide (markOf p (marksL p (tiesOf ts v)) (ends (ts.getD k Str.empty)).1 ≠ markOf p (marksL p (tiesOf ts v)) (ends (ts.getD k Str.empty)).2)
theorem rank_more {p : List Nat} (u : p.Pairwise (· ≠ ·)) {ts : List Str} (he : Ends p ts) {v : List Nat} {k : Nat} (hv : ∀ j ∈ v, j < ts.length) (hk : k < ts.length) : rankOf p ts (v ++ [k]) = rankOf p ts v + if partsL p ts v k = true then 1 else 0 := by
  have et : ts.getD k Str.empty = ts[k] := by rw [List.getD_eq_getElem?_getD, List.getElem?_eq_getElem hk]; rfl
  obtain ⟨m1, m2⟩ := he _ (List.getElem_mem hk)
  show nonFix (marksL p (tiesOf ts (v ++ [k]))) p = nonFix (marksL p (tiesOf ts v)) p + _
  rw [ties_snoc, marksL_snoc]
  by_cases c : markOf p (marksL p (tiesOf ts v)) (ends (ts.getD k Str.empty)).1 = markOf p (marksL p (tiesOf ts v)) (ends (ts.getD k Str.empty)).2
  · have hf : partsL p ts v k = false := decide_eq_false (fun h => h c)
    rw [hf, step_same c]
    rfl
  · have hf : partsL p ts v k = true := decide_eq_true c
    rw [hf, if_pos rfl]
    refine Nat.le_antisymm ?_ ?_
    · have := nonFix_step u (marksL p (tiesOf ts v)) (ends (ts.getD k Str.empty))
      exact this
    · rw [et] at c ⊢
      exact step_up u (roots_marks u (ties_in he hv)) m1 m2 c
theorem rank_sub {p : List Nat} (u : p.Pairwise (· ≠ ·)) {ts : List Str} (he : Ends p ts) (v : List Nat) (hv : ∀ j ∈ v, j < ts.length) : ∀ w : List Nat, (∀ j ∈ w, j < ts.length) → rankOf p ts v ≤ rankOf p ts (v ++ w) := by
  refine snoc_ind (P := fun w => (∀ j ∈ w, j < ts.length) → rankOf p ts v ≤ rankOf p ts (v ++ w)) (fun _ => by rw [List.append_nil]; exact Nat.le_refl _) ?_
  intro w k ih hw
  have h1 := ih fun j hj => hw j (List.mem_append.mpr (.inl hj))
  rw [← List.append_assoc, rank_more u he (fun j hj => (List.mem_append.mp hj).elim (hv j) fun q => hw j (List.mem_append.mpr (.inl q))) (hw k (List.mem_append.mpr (.inr (List.mem_singleton.mpr rfl))))]
  omega
/-- ties that part nothing leave the rank -/
theorem rank_same {p : List Nat} (u : p.Pairwise (· ≠ ·)) {ts : List Str} (he : Ends p ts) (v : List Nat) (hv : ∀ j ∈ v, j < ts.length) : ∀ w : List Nat, (∀ j ∈ w, j < ts.length) → (∀ j ∈ w, partsL p ts v j = false) → marksL p (tiesOf ts (v ++ w)) = marksL p (tiesOf ts v) := by
  refine snoc_ind (P := fun w => (∀ j ∈ w, j < ts.length) → (∀ j ∈ w, partsL p ts v j = false) → marksL p (tiesOf ts (v ++ w)) = marksL p (tiesOf ts v)) (fun _ _ => by rw [List.append_nil]) ?_
  intro w k ih hw hn
  have e := ih (fun j hj => hw j (List.mem_append.mpr (.inl hj))) (fun j hj => hn j (List.mem_append.mpr (.inl hj)))
  rw [← List.append_assoc, ties_snoc, marksL_snoc, e]
  have := hn k (List.mem_append.mpr (.inr (List.mem_singleton.mpr rfl)))
  have := of_decide_eq_false this
  exact step_same (Classical.not_not.mp this)
/-! ### trees, and exchanges -/
structure IsTree (p : List Nat) (ts : List Str) (r : Nat) (v : List Nat) : Prop where
  asc : v.Pairwise (· < ·)
  few : ∀ k ∈ v, k < ts.length
  len : v.length = r
  rank : rankOf p ts v = r
theorem IsTree.nodup {p : List Nat} {ts : List Str} {r : Nat} {v : List Nat} (h : IsTree p ts r v) : v.Nodup := h.asc.imp fun h => Nat.ne_of_lt h
theorem lots_all : ∀ (n : Nat) (v : List Nat), v.Pairwise (· < ·) → (∀ k ∈ v, k < n) → v ∈ lotsL n
  | 0, v, _, h => by
    have : v = [] := List.eq_nil_iff_forall_not_mem.mpr fun k hk => Nat.not_lt_zero _ (h k hk)
    rw [this]
    exact List.mem_singleton.mpr rfl
  | n + 1, v, ha, h => by
    by_cases hn : n ∈ v
    · have ne : v ≠ [] := fun e => by rw [e] at hn; cases hn
      have ev := List.dropLast_concat_getLast ne
      have hl := h _ (List.getLast_mem ne)
      rw [← ev, List.pairwise_append] at ha
      have last : v.getLast ne = n := by
        rw [← ev] at hn
        rcases List.mem_append.mp hn with q | q
        · have := ha.2.2 n q _ (List.mem_singleton.mpr rfl)
          omega
        · exact (List.mem_singleton.mp q).symm
      refine List.mem_append.mpr (.inr (List.mem_map.mpr ⟨v.dropLast, lots_all n _ ha.1 (fun k hk => ?_), by rw [← last]; exact ev⟩))
      have := ha.2.2 k hk _ (List.mem_singleton.mpr rfl)
      omega
    · refine List.mem_append.mpr (.inl (lots_all n v ha fun k hk => ?_))
      have := h k hk
      have : k ≠ n := fun e => hn (e ▸ hk)
      omega
def wout (v : List Nat) (o : Nat) : List Nat := v.filter fun k => decide (k ≠ o)
theorem wout_mem {v : List Nat} {o k : Nat} : k ∈ wout v o ↔ k ∈ v ∧ k ≠ o := by
  unfold wout
  rw [List.mem_filter, decide_eq_true_eq]
theorem wout_len {v : List Nat} (u : v.Nodup) {o : Nat} (ho : o ∈ v) : (wout v o).length + 1 = v.length := by
  have e : (wout v o).length + 1 = (o :: wout v o).length := rfl
  rw [e]
  refine nodup_same (List.nodup_cons.mpr ⟨fun h => (wout_mem.mp h).2 rfl, u.filter _⟩) u fun x => ?_
  rw [List.mem_cons, wout_mem]
  constructor
  · rintro (rfl | h)
    · exact ho
    · exact h.1
  · intro h
    by_cases e : x = o
    · exact .inl e
    · exact .inr ⟨h, e⟩
section
variable {p : List Nat} {ts : List Str} {r : Nat}
theorem IsTree.less (u : p.Pairwise (· ≠ ·)) (he : Ends p ts) {v : List Nat} (h : IsTree p ts r v) {o : Nat} (ho : o ∈ v) : rankOf p ts (wout v o) + 1 = r ∧ partsL p ts (wout v o) o = true := by
  have hf : ∀ k ∈ wout v o, k < ts.length := fun k hk => h.few k (wout_mem.mp hk).1
  have e : rankOf p ts (wout v o ++ [o]) = r := by
    rw [← h.rank]
    refine lot_rank u he (fun k hk => ?_) h.few (fun k hk => ?_) (fun k hk => ?_)
    · rcases List.mem_append.mp hk with q | q
      · exact hf k q
      · rw [List.mem_singleton.mp q]; exact h.few o ho
    · rcases List.mem_append.mp hk with q | q
      · exact (wout_mem.mp q).1
      · rw [List.mem_singleton.mp q]; exact ho
    · by_cases e : k = o
      · exact List.mem_append.mpr (.inr (List.mem_singleton.mpr e))
      · exact List.mem_append.mpr (.inl (wout_mem.mpr ⟨hk, e⟩))
  rw [rank_more u he hf (h.few o ho)] at e
  have h1 := rank_le u ts (wout v o)
  have h2 := wout_len h.nodup ho
  have h3 := h.len
  cases c : partsL p ts (wout v o) o with
  | true => rw [c, if_pos rfl] at e; exact ⟨e, rfl⟩
  | false => rw [c] at e; simp at e; omega
/-- the other ties -/
def outs (v : List Nat) (n : Nat) : List Nat := (List.range n).filter fun k => decide (k ∉ v)
end
end K10
set_option Elab.async false
set_option linter.all false
set_option maxRecDepth 100000
namespace K10
open PySem PySem.Spec PyProof.Rows L2 DL
section
variable {P : Program} {w : World} {K : PySem.W.Frag} {mg : Str → Option Value} {base : Heap} {A : Ad}
/-! ### lots with a condition -/
def onK (q : Nat → Bool) : D → Bool
  | .int k => q k.toNat
  | _ => false
theorem filt_lot {q : Nat → Bool} {v : List Nat} : ((((v.map Int.ofNat).map D.int).filter (onK q)).map id) = ((v.filter q).map Int.ofNat).map D.int := by
  rw [List.map_id, List.filter_map, List.filter_map]
  rfl
theorem range_lot (n : Nat) : ((List.range n).map fun i => D.int (i : Nat)) = ((List.range n).map Int.ofNat).map D.int := by
  rw [List.map_map]
  rfl
theorem OkWeb.ends {p : List Nat} {ts : List Str} (ok : OkWeb p ts) : Ends p ts := fun y hy => (ok.ties y hy).2
theorem ne_nat {j o : Nat} : (!decide ((j : Int) = (o : Int))) = decide (j ≠ o) := by
  by_cases e : j = o
  · subst e
    simp
  · have : ¬ ((j : Int) = (o : Int)) := by omega
    rw [decide_eq_false this, decide_eq_true e]
    rfl
def g_without : GC := fun ds μ R => ∃ (v : List Nat) (o : Nat), ds = [dLot v, .int (o : Nat)] ∧ v.length ≤ 1000 ∧ R (dLot (wout v o)) μ
def N30 : List Str := ["lot", "index", "other"]
theorem sc30 : FnScope N30 ["lot", "index"] (defScope (top 30)) := ⟨rfl, rfl, rfl, by decide +kernel, rfl, by decide +kernel, by decide +kernel⟩
theorem ok_without (T : Tx K mg A) : FnOk P w K mg base CX0 1 A.without A.fd_without ["lot", "index"] (toSp K (g_without)) := by
  refine okD T.F_without sc30 (fun ds μ R h => ?_) ⟨_, fun cdv A0 outer s H E hr =>
    (dss_one (ds_ret (de_callTy call_tuple_of sim_tuple (by rfl) T.z_tuple boot_tuple (da_cons (de_lc (own := [("other", 2)]) (by rfl) sc30.nd (di_both (dv 0)) (blkOk_by (N := N30) (own := [("other", 2)]) (sc := defScope (top 30)) (by decide +kernel)) (fun _ _ _ _ _ => (pg_name (i := 2) sc30.nd rfl (by first | exact Or.inl rfl | exact Or.inr rfl))) (sim_nm (i := 2)) (fun _ _ _ _ _ => (dts_one (dt_cmp (op_neA hr.units) sim_ne (dv 2) (dv 1) (nomark _)))) (fun _ _ _ _ _ => (dv 2))) da_nil)))), fun ds μ R h => ?_⟩
  · obtain ⟨v, o, rfl, _⟩ := h
    rfl
  · obtain ⟨v, o, rfl, hv, h⟩ := h
    show LcB _ _ _ _ _ _ _ _
    refine lcb_pure (onK fun k => decide (k ≠ o)) id ?_ ?_ ?_
    · rw [List.length_map, List.length_map, sizeLine_eq]
      omega
    · intro x hx μ2 N Y _ hN hY
      obtain ⟨j, hj, rfl⟩ := items_lot hx
      refine if_case (c := !decide ((j : Int) = (o : Int))) (fun e => hY ?_) (fun e => hN ?_)
      · rw [ne_nat] at e
        exact e
      · rw [ne_nat] at e
        exact e
    · rw [filt_lot]
      exact h
def g_outside_of (C : Addr) : GC := fun ds μ R => ∃ (p : List Nat) (ts : List Str) (v : List Nat), ds = [dWeb C p ts, dLot v] ∧ ts.length ≤ 11 ∧ R (dLot (outs v ts.length)) μ
theorem int_mem {j : Nat} {v : List Nat} : decide ((j : Int) ∈ v.map Int.ofNat) = decide (j ∈ v) := by
  refine decide_eq_decide.mpr ⟨fun h => ?_, fun h => List.mem_map.mpr ⟨j, h, rfl⟩⟩
  obtain ⟨i, hi, e⟩ := List.mem_map.mp h
  have e : i = j := Int.ofNat.inj e
  rw [← e]
  exact hi
theorem not_mem {j : Nat} {v : List Nat} : (!decide (j ∈ v)) = decide (j ∉ v) := by
  by_cases e : j ∈ v
  · rw [decide_eq_true e, decide_eq_false (fun h => h e)]
    rfl
  · rw [decide_eq_false e, decide_eq_true e]
    rfl
def N31 : List Str := ["web", "lot", "index"]
theorem sc31 : FnScope N31 ["web", "lot"] (defScope (top 31)) := ⟨rfl, rfl, rfl, by decide +kernel, rfl, by decide +kernel, by decide +kernel⟩
theorem ok_outside_of (T : Tx K mg A) : FnOk P w K mg base CX0 1 A.outside_of A.fd_outside_of ["web", "lot"] (toSp K (g_outside_of A.Web)) := by
  refine okD T.F_outside_of sc31 (fun ds μ R h => ?_) ⟨_, fun cdv A0 outer s H E hr =>
    (dss_one (ds_ret (de_callTy call_tuple_of sim_tuple (by rfl) T.z_tuple boot_tuple (da_cons (de_lc (own := [("index", 2)]) (by rfl) sc31.nd (di_range (by rfl) T.z_range (da_cons (de_callB cr_len sim_len (by rfl) T.z_len boot_len (da_cons (de_fld T.k_Web T.n_ties (dv 0)) da_nil)) da_nil)) (blkOk_by (N := N31) (own := [("index", 2)]) (sc := defScope (top 31)) (by decide +kernel)) (fun _ _ _ _ _ => (pg_name (i := 2) sc31.nd rfl (by first | exact Or.inl rfl | exact Or.inr rfl))) (sim_nm (i := 2)) (fun _ _ _ _ _ => (dts_one (dt_cmp op_notInA sim_notIn (dv 2) (dv 1) rfl))) (fun _ _ _ _ _ => (dv 2))) da_nil)))), fun ds μ R h => ?_⟩
  · obtain ⟨p, ts, v, rfl, _⟩ := h
    rfl
  · obtain ⟨p, ts, v, rfl, few, h⟩ := h
    have lt : (ts.map D.str).length = ts.length := List.length_map _
    refine ⟨rfl, _, rfl, ⟨by rw [lt]; omega, by rw [lt]; omega⟩, ?_⟩
    show LcB _ _ _ _ _ _ _ _
    have en : (((ts.map D.str).length : Nat) : Int).toNat = ts.length := by rw [lt]; exact Int.toNat_natCast _
    rw [en, range_lot]
    refine lcb_pure (onK fun k => decide (k ∉ v)) id ?_ ?_ ?_
    · rw [List.length_map, List.length_map, List.length_range, sizeLine_eq]
      omega
    · intro x hx μ2 N Y _ hN hY
      obtain ⟨j, hj, rfl⟩ := items_lot hx
      refine Or.inl ⟨(j : Int), v.map Int.ofNat, rfl, rfl, ?_⟩
      refine if_case (c := !decide ((j : Int) ∈ v.map Int.ofNat)) (fun e => hY ?_) (fun e => hN ?_)
      · rw [int_mem, not_mem] at e
        exact e
      · rw [int_mem, not_mem] at e
        exact e
    · rw [filt_lot]
      exact h
end
end K10
set_option Elab.async false
set_option linter.all false
set_option maxRecDepth 100000
namespace K10
open DL
/-! ### ranks alone: early and late elements, and all lots (Crapo, Tutte) -/
def Lt (n : Nat) (v : List Nat) : Prop := ∀ k ∈ v, k < n
structure Mat (n : Nat) (ρ : List Nat → Nat) : Prop where
  nil : ρ [] = 0
  mem : ∀ v w, Lt n v → Lt n w → (∀ k, k ∈ v ↔ k ∈ w) → ρ v = ρ w
  step : ∀ v k, Lt n v → k < n → ρ (v ++ [k]) = ρ v ∨ ρ (v ++ [k]) = ρ v + 1
  clo : ∀ v w k, Lt n v → Lt n w → (∀ j ∈ v, j ∈ w) → k < n → ρ (v ++ [k]) = ρ v → ρ (w ++ [k]) = ρ w
theorem Lt.snoc {n : Nat} {v : List Nat} (h : Lt n v) {k : Nat} (hk : k < n) : Lt n (v ++ [k]) := fun j hj => by
  rcases List.mem_append.mp hj with q | q
  · exact h j q
  · rw [List.mem_singleton.mp q]; exact hk
theorem Lt.wout {n : Nat} {v : List Nat} (h : Lt n v) (o : Nat) : Lt n (wout v o) := fun j hj => h j (wout_mem.mp hj).1
section
variable {n : Nat} {ρ : List Nat → Nat}
theorem Mat.le (M : Mat n ρ) {v : List Nat} (hv : Lt n v) {k : Nat} (hk : k < n) : ρ v ≤ ρ (v ++ [k]) := by
  rcases M.step v k hv hk with h | h <;> omega
theorem Mat.le1 (M : Mat n ρ) {v : List Nat} (hv : Lt n v) {k : Nat} (hk : k < n) : ρ (v ++ [k]) ≤ ρ v + 1 := by
  rcases M.step v k hv hk with h | h <;> omega
theorem Mat.len (M : Mat n ρ) : ∀ v : List Nat, Lt n v → ρ v ≤ v.length := by
  refine snoc_ind (P := fun v => Lt n v → ρ v ≤ v.length) (fun _ => by rw [M.nil]; exact Nat.zero_le _) ?_
  intro v k ih hv
  have h0 : Lt n v := fun j hj => hv j (List.mem_append.mpr (.inl hj))
  have h1 := M.le1 h0 (hv k (List.mem_append.mpr (.inr (List.mem_singleton.mpr rfl))))
  have h2 := ih h0
  rw [List.length_append, List.length_singleton]
  omega
/-- what adds nothing one by one, adds nothing at all -/
theorem Mat.same (M : Mat n ρ) (v : List Nat) (hv : Lt n v) : ∀ w : List Nat, Lt n w → (∀ k ∈ w, ρ (v ++ [k]) = ρ v) → ρ (v ++ w) = ρ v := by
  refine snoc_ind (P := fun w => Lt n w → (∀ k ∈ w, ρ (v ++ [k]) = ρ v) → ρ (v ++ w) = ρ v) (fun _ _ => by rw [List.append_nil]) ?_
  intro w k ih hw h
  have hw0 : Lt n w := fun j hj => hw j (List.mem_append.mpr (.inl hj))
  have hk : k < n := hw k (List.mem_append.mpr (.inr (List.mem_singleton.mpr rfl)))
  have e := ih hw0 fun j hj => h j (List.mem_append.mpr (.inl hj))
  rw [← List.append_assoc, M.clo v (v ++ w) k hv (fun j hj => (List.mem_append.mp hj).elim (hv j) (hw0 j)) (fun j hj => List.mem_append.mpr (.inl hj)) hk (h k (List.mem_append.mpr (.inr (List.mem_singleton.mpr rfl))))]
  exact e
theorem Mat.swap (M : Mat n ρ) {v : List Nat} (hv : Lt n v) {j k : Nat} (hj : j < n) (hk : k < n) : ρ (v ++ [j] ++ [k]) = ρ (v ++ [k] ++ [j]) :=
  M.mem _ _ ((hv.snoc hj).snoc hk) ((hv.snoc hk).snoc hj) fun i => by simp only [List.mem_append, List.mem_singleton]; constructor <;> (rintro ((h | h) | h) <;> simp [h])
end
/-! ### trees, exchanges -/
def full (ρ : List Nat → Nat) (n : Nat) : Nat := ρ (List.range n)
theorem outs_mem {v : List Nat} {n k : Nat} : k ∈ outs v n ↔ k < n ∧ k ∉ v := by
  unfold outs
  rw [List.mem_filter, List.mem_range, decide_eq_true_eq]
structure TreeR (ρ : List Nat → Nat) (n : Nat) (v : List Nat) : Prop where
  asc : v.Pairwise (· < ·)
  lt : Lt n v
  len : v.length = ρ v
  top : ρ v = full ρ n
section
variable {n : Nat} {ρ : List Nat → Nat}
theorem TreeR.nodup {v : List Nat} (h : TreeR ρ n v) : v.Nodup := h.asc.imp fun h => Nat.ne_of_lt h
theorem wout_back (M : Mat n ρ) {v : List Nat} (hv : Lt n v) {o : Nat} (ho : o ∈ v) : ρ (wout v o ++ [o]) = ρ v :=
  M.mem _ _ ((hv.wout o).snoc (hv o ho)) hv fun k => by
    rw [List.mem_append, List.mem_singleton, wout_mem]
    constructor
    · rintro (h | h)
      · exact h.1
      · rw [h]; exact ho
    · intro h
      by_cases e : k = o
      · exact .inr e
      · exact .inl ⟨h, e⟩
theorem TreeR.less (M : Mat n ρ) {v : List Nat} (h : TreeR ρ n v) {o : Nat} (ho : o ∈ v) : ρ (wout v o) + 1 = full ρ n := by
  have h1 := M.len _ (h.lt.wout o)
  have h2 := wout_len h.nodup ho
  have h3 := wout_back M h.lt ho
  have h4 := M.le1 (h.lt.wout o) (h.lt o ho)
  have h5 := h.len
  have h6 := h.top
  omega
end
/-! ### choosing -/
def ch : Nat → Nat → Nat
  | _, 0 => 1
  | 0, _ + 1 => 0
  | m + 1, k + 1 => ch m k + ch m (k + 1)
def cnt (ρ : List Nat → Nat) (n a b : Nat) : Nat := ((lotsL n).filter fun v => decide (a + ρ v = full ρ n ∧ v.length = ρ v + b)).length
end K10
set_option Elab.async false
set_option linter.all false
set_option maxRecDepth 100000
namespace K10
open PySem PySem.Spec PyProof.Rows L2 DL
section
variable {P : Program} {w : World} {K : PySem.W.Frag} {mg : Str → Option Value} {base : Heap} {A : Ad}
/-! ### the law's own exchanges -/
theorem IsTree.size {p : List Nat} {ts : List Str} {r : Nat} {v : List Nat} (h : IsTree p ts r v) : v.length ≤ ts.length := asc_len ⟨h.asc, h.few⟩
end
end K10
set_option Elab.async false
set_option linter.all false
set_option maxRecDepth 100000
namespace K10
open PySem PySem.Spec PyProof.Rows L2 DL
section
variable {P : Program} {w : World} {K : PySem.W.Frag} {mg : Str → Option Value} {base : Heap} {A : Ad}
/-! ### lengths -/
structure OkLen (n : Nat) (ns : List Int) : Prop where
  len : ns.length = n
  lo : ∀ v ∈ ns, -1000000000 ≤ v
  hi : ∀ v ∈ ns, v ≤ 1000000000
end
end K10
set_option Elab.async false
set_option linter.all false
set_option maxRecDepth 100000
namespace K10
open PySem PySem.Spec PyProof.Rows L2 DL
/-! ### what a lot joins -/
section
variable {p : List Nat} {ts : List Str} {r : Nat}
def In (ts : List Str) (v : List Nat) : Prop := ∀ k ∈ v, k < ts.length
theorem parts_conn (u : p.Pairwise (· ≠ ·)) (he : Ends p ts) {v : List Nat} (hv : In ts v) {k : Nat} (hk : k < ts.length) : partsL p ts v k = false ↔ Conn (tiesOf ts v) (ends (ts.getD k Str.empty)).1 (ends (ts.getD k Str.empty)).2 := by
  have et : ts.getD k Str.empty = ts[k] := by rw [List.getD_eq_getElem?_getD, List.getElem?_eq_getElem hk]; rfl
  obtain ⟨m1, m2⟩ := he _ (List.getElem_mem hk)
  rw [← et] at m1 m2
  constructor
  · intro h
    exact marks_conn _ (ties_in he hv) _ _ m1 m2 (Classical.not_not.mp (of_decide_eq_false h))
  · intro h
    exact decide_eq_false fun q => q (conn_marks (ties_in he hv) h)
theorem parts_mono (u : p.Pairwise (· ≠ ·)) (he : Ends p ts) {v w : List Nat} (hv : In ts v) (hw : In ts w) (s : ∀ k ∈ v, k ∈ w) {k : Nat} (hk : k < ts.length) (h : partsL p ts v k = false) : partsL p ts w k = false := by
  refine (parts_conn u he hw hk).mpr (((parts_conn u he hv hk).mp h).mono fun y hy => ?_)
  obtain ⟨i, hi, e⟩ := List.mem_map.mp hy
  exact List.mem_map.mpr ⟨i, s i hi, e⟩
theorem rank_full (u : p.Pairwise (· ≠ ·)) (he : Ends p ts) {v : List Nat} (hv : In ts v) : rankOf p ts v ≤ rankOf p ts (List.range ts.length) := by
  have hr : In ts (List.range ts.length) := fun k hk => List.mem_range.mp hk
  refine Nat.le_trans (rank_sub u he v hv _ hr) (Nat.le_of_eq (lot_rank u he (fun k hk => (List.mem_append.mp hk).elim (hv k) (hr k)) hr (fun k hk => ?_) fun k hk => List.mem_append.mpr (.inr hk)))
  rcases List.mem_append.mp hk with q | q
  · exact List.mem_range.mpr (hv k q)
  · exact q
theorem in_snoc {v : List Nat} (hv : In ts v) {k : Nat} (hk : k < ts.length) : In ts (v ++ [k]) := fun j hj => by
  rcases List.mem_append.mp hj with q | q
  · exact hv j q
  · rw [List.mem_singleton.mp q]; exact hk
theorem in_wout {v : List Nat} (hv : In ts v) (o : Nat) : In ts (wout v o) := fun j hj => hv j (wout_mem.mp hj).1
end
/-! ### sums of lengths -/
def ins (a : Nat) : List Nat → List Nat
  | [] => [a]
  | b :: l => if a ≤ b then a :: b :: l else b :: ins a l
/-! ### least trees and one tie -/
end K10
set_option Elab.async false
set_option linter.all false
set_option maxRecDepth 100000
namespace K10
open PySem PySem.Spec PyProof.Rows L2 DL
/-! ### the numbers of trees by early and late elements hang on the counts of lots alone -/
section
variable {α : Type}
def wt (X : List α) (κ : α → Nat) (h : α → Nat) (k : Nat) : Nat := ((X.filter fun x => decide (κ x = k)).map h).sum
end
/-! ### lots of ties in another order -/
/-! ### webs -/
section
variable {p : List Nat} {ts : List Str}
theorem lots_nodup : ∀ n, (lotsL n).Nodup
  | 0 => by simp [lotsL]
  | n + 1 => by
    refine List.nodup_append.mpr ⟨lots_nodup n, List.pairwise_map.mpr ((lots_nodup n).imp fun h e => h (List.append_cancel_right e)), fun v hv w hw => ?_⟩
    obtain ⟨x, hx, rfl⟩ := List.mem_map.mp hw
    intro e
    have := (lots_in n v hv).1 n (by rw [e]; exact List.mem_append.mpr (.inr (List.mem_singleton.mpr rfl)))
    omega
/-! ### the program's early and late ties -/
end
end K10
set_option Elab.async false
set_option linter.all false
set_option maxRecDepth 100000
namespace K10
open PySem PySem.Spec PyProof.Rows L2 DL
section
variable {P : Program} {w : World} {K : PySem.W.Frag} {mg : Str → Option Value} {base : Heap} {A : Ad}
/-! ### early and late ties, as the program tells them -/
/-! ### rows of numbers, each a cell -/
structure Rows (μ ν : Mu) (as : List Addr) (rs : List (List Nat)) : Prop where
  len : as.length = rs.length
  at_ : ∀ (i : Nat) (a : Addr) (r : List Nat), as[i]? = some a → rs[i]? = some r → ν a = some (.lst ((r.map Int.ofNat).map D.int))
  new : ∀ a ∈ as, μ a = none
  old : ∀ b, b ∉ as → ν b = μ b
  nod : as.Nodup
theorem Rows.start (μ : Mu) : Rows μ μ [] [] := ⟨rfl, fun i a r h => by simp at h, fun a h => (List.not_mem_nil h).elim, fun _ _ => rfl, .nil⟩
theorem Rows.has {μ ν : Mu} {as : List Addr} {rs : List (List Nat)} (h : Rows μ ν as rs) {a : Addr} (ha : a ∈ as) : ν a ≠ none := by
  obtain ⟨i, hi, e⟩ := List.getElem_of_mem ha
  have h1 : as[i]? = some a := by rw [List.getElem?_eq_getElem hi, e]
  have h2 : rs[i]? = some (rs[i]'(by rw [← h.len]; exact hi)) := List.getElem?_eq_getElem _
  rw [h.at_ i a _ h1 h2]
  simp
theorem Rows.snoc {μ ν : Mu} {as : List Addr} {rs : List (List Nat)} (h : Rows μ ν as rs) {c : Addr} (nc : ν c = none) (r : List Nat) : Rows μ (put ν c (.lst ((r.map Int.ofNat).map D.int))) (as ++ [c]) (rs ++ [r]) := by
  have cas : c ∉ as := fun z => h.has z nc
  refine ⟨by rw [List.length_append, List.length_append, h.len]; rfl, fun i a r' ha hr => ?_, fun a ha => ?_, fun b hb => ?_, ?_⟩
  · by_cases hi : i < as.length
    · rw [List.getElem?_append_left hi] at ha
      rw [List.getElem?_append_left (by rw [← h.len]; exact hi)] at hr
      have hm := List.mem_of_getElem? ha
      rw [put_ne (fun (z : a = c) => cas (z ▸ hm))]
      exact h.at_ i a r' ha hr
    · have e : i = as.length := by
        have := (List.getElem?_eq_some_iff.mp ha).1
        rw [List.length_append, List.length_singleton] at this
        omega
      subst e
      rw [List.getElem?_append_right (Nat.le_refl _), Nat.sub_self] at ha
      rw [List.getElem?_append_right (by rw [h.len]; exact Nat.le_refl _), h.len, Nat.sub_self] at hr
      have ea : c = a := by simpa using ha
      have er : r = r' := by simpa using hr
      rw [← ea, ← er]
      exact put_same
  · rcases List.mem_append.mp ha with q | q
    · exact h.new a q
    · rw [List.mem_singleton.mp q, ← h.old c cas]
      exact nc
  · have b1 : b ∉ as := fun z => hb (List.mem_append.mpr (.inl z))
    have b2 : b ≠ c := fun z => hb (List.mem_append.mpr (.inr (List.mem_singleton.mpr z)))
    rw [put_ne b2]
    exact h.old b b1
  · exact List.nodup_append.mpr ⟨h.nod, by simp, fun a ha b hb => by
      rw [List.mem_singleton.mp hb]
      exact fun z => cas (z ▸ ha)⟩
theorem Rows.keep {μ ν : Mu} {as : List Addr} {rs : List (List Nat)} (h : Rows μ ν as rs) : ∀ c o, μ c = some o → ν c = some o := fun c o e => by
  rw [h.old c fun z => by rw [h.new c z] at e; cases e]
  exact e
/-! ### the rows of numbers of trees -/
end
end K10
set_option Elab.async false
set_option linter.all false
set_option maxRecDepth 100000
namespace K10
open DL
/-! ### sums over 0 .. m - 1 -/
def S (f : Nat → Int) : Nat → Int
  | 0 => 0
  | m + 1 => S f m + f m
/-! ### signs, choosing, the shifted row -/
def sgn (k : Nat) : Int := if k % 2 = 0 then 1 else -1
/-- a row of numbers of powers of x - 1, as one of powers of x -/
def shS (f : Nat → Int) (m l : Nat) : Int := S (fun p => sgn (p + l) * f p * (ch p l : Nat)) m
/-- both sides shifted -/
def tabS (c : Nat → Nat → Int) (m n i j : Nat) : Int := shS (fun p => shS (c p) n j) m i
/-! ### the shifted table of what trees give -/
/-! ### the greatest common divisor by turns -/
end K10
set_option Elab.async false
set_option linter.all false
set_option maxRecDepth 100000
namespace K10
open PySem PySem.Spec PyProof.Rows L2 DL
section
variable {P : Program} {w : World} {K : PySem.W.Frag} {mg : Str → Option Value} {base : Heap} {A : Ad}
/-! ### counts of lots -/
def lotsOf (v : List Nat) : List (List Nat) := v.foldl (fun L i => L ++ L.map (· ++ [i])) [[]]
theorem lotsOf_snoc (v : List Nat) (k : Nat) : lotsOf (v ++ [k]) = lotsOf v ++ (lotsOf v).map (· ++ [k]) := by
  unfold lotsOf
  rw [List.foldl_append]
  rfl
theorem lotsOf_few : ∀ v : List Nat, (lotsOf v).length = 2 ^ v.length := by
  refine snoc_ind (P := fun v => (lotsOf v).length = 2 ^ v.length) rfl ?_
  intro w k ih
  rw [lotsOf_snoc, List.length_append, List.length_map, ih, List.length_append, List.length_singleton, Nat.pow_succ]
  omega
theorem lotsOf_len : ∀ v : List Nat, ∀ u ∈ lotsOf v, u.length ≤ v.length := by
  refine snoc_ind (P := fun v => ∀ u ∈ lotsOf v, u.length ≤ v.length) (fun u hu => by rw [List.mem_singleton.mp hu]; exact Nat.le_refl _) ?_
  intro w k ih u hu
  rw [lotsOf_snoc] at hu
  rw [List.length_append, List.length_singleton]
  rcases List.mem_append.mp hu with h | h
  · exact Nat.le_succ_of_le (ih u h)
  · obtain ⟨x, hx, rfl⟩ := List.mem_map.mp h
    have := ih x hx
    rw [List.length_append, List.length_singleton]
    omega
theorem lotsOf_range : ∀ n : Nat, lotsOf (List.range n) = lotsL n
  | 0 => rfl
  | n + 1 => by
    rw [List.range_succ, lotsOf_snoc, lotsOf_range n]
    rfl
def g_lots_within : GC := fun ds μ R => ∃ v : List Nat, ds = [dLot v] ∧ v.length ≤ 11 ∧ R (.lst ((lotsOf v).map dLot)) μ
def g_all_lots (C : Addr) : GC := fun ds μ R => ∃ (p : List Nat) (ts : List Str), ds = [dWeb C p ts] ∧ OkWeb p ts ∧ R (.lst ((lotsL ts.length).map dLot)) μ
def N32 : List Str := ["lot", "lots", "index", "shorter"]
theorem sc32 : FnScope N32 ["lot"] (defScope (top 32)) := ⟨rfl, rfl, rfl, by decide +kernel, rfl, by decide +kernel, by decide +kernel⟩
theorem ok_lots_within (T : Tx K mg A) : FnOk P w K mg base CX0 1 A.lots_within A.fd_lots_within ["lot"] (toSp K (g_lots_within)) := by
  refine okD T.F_lots_within sc32 (fun ds μ R h => ?_) ⟨_, fun cdv A0 outer s H E hr =>
    (dss_cons (ds_set sc32.nd (i := 1) rfl (by first | exact Or.inl rfl | exact Or.inr rfl) (de_lst (da_cons (de_tup da_nil) da_nil)))
      (dss_cons (ds_for PassesOwn.never rfl (di_both (dv 0)) (pg_name (i := 2) sc32.nd rfl (by first | exact Or.inl rfl | exact Or.inr rfl)) (sim_nm (i := 2))
      (dss_one (ds_set sc32.nd (i := 1) rfl (by first | exact Or.inl rfl | exact Or.inr rfl) (de_op op_plus sim_plus (dv 1) (de_lc (own := [("shorter", 3)]) (by rfl) sc32.nd (di_both (dv 1)) (blkOk_by (N := N32) (own := [("shorter", 3)]) (sc := defScope (top 32)) (by decide +kernel)) (fun _ _ _ _ _ => (pg_name (i := 3) sc32.nd rfl (by first | exact Or.inl rfl | exact Or.inr rfl))) (sim_nm (i := 3)) (fun _ _ _ _ _ => dts_nil) (fun _ _ _ _ _ => (de_op op_plus sim_plus (dv 3) (de_tup (da_cons (dv 2) da_nil)))))))))
      (dss_one (ds_ret (dv 1))))), fun ds μ R h => ?_⟩
  · obtain ⟨v, rfl, _⟩ := h
    rfl
  · obtain ⟨v, rfl, few0, h⟩ := h
    refine ⟨by show 0 ≤ sizeLine; decide, by show 1 ≤ sizeLine; decide, ?_⟩
    refine ⟨fun i δ' μ' => μ' = μ ∧ ∃ o2 o3, δ' = [some (dLot v), some (.lst ((lotsOf (v.take i)).map dLot)), o2, o3], ⟨rfl, none, none, rfl⟩, ?_, ?_⟩
    · rintro i x δ' μ' hx ⟨rfl, o2, o3, rfl⟩
      obtain ⟨k, hk, rfl⟩ := lot_at hx
      have hi : i < v.length := (List.getElem?_eq_some_iff.mp hk).1
      have lk : (v.take i).length = i := by rw [List.length_take]; omega
      have few : (lotsOf (v.take i)).length ≤ 2048 := by
        rw [lotsOf_few, lk]
        exact pow_few (by omega)
      show LcB _ _ _ _ _ _ _ _
      refine lcb_map (addI k) ?_ ?_ ?_
      · rw [List.length_map, sizeLine_eq]
        omega
      · intro x hx μ2 Y _ hy
        obtain ⟨u, hu, rfl⟩ := List.mem_map.mp hx
        have u2 := lotsOf_len _ u hu
        refine ⟨by show 1 ≤ sizeLine; decide, ?_, hy⟩
        show ((u.map Int.ofNat).map D.int).length + 1 ≤ sizeLine
        rw [List.length_map, List.length_map, sizeLine_eq]
        omega
      · rw [addI_map]
        refine ⟨by rw [List.length_map, List.length_map, List.length_map, sizeLine_eq]; omega, rfl, some (.int (k : Nat)), o3, ?_⟩
        show _ = [some (dLot v), some (.lst ((lotsOf (v.take (i + 1))).map dLot)), some (.int (k : Nat)), o3]
        rw [take_succ_get hk, lotsOf_snoc, List.map_append]
        rfl
    · rintro δ' μ' ⟨rfl, o2, o3, rfl⟩
      have en : ((v.map Int.ofNat).map D.int).length = v.length := by simp
      rw [en, List.take_length]
      exact h
def N33 : List Str := ["web"]
theorem sc33 : FnScope N33 ["web"] (defScope (top 33)) := ⟨rfl, rfl, rfl, by decide +kernel, rfl, by decide +kernel, by decide +kernel⟩
theorem ok_all_lots (T : Tx K mg A) : FnOk P w K mg base CX0 2 A.all_lots A.fd_all_lots ["web"] (toSp K (g_all_lots A.Web)) := by
  refine okD T.F_all_lots sc33 (fun ds μ R h => ?_) ⟨_, fun cdv A0 outer s H E hr =>
    (dss_one (ds_ret (de_call ((ok_lots_within T).mono (by decide)) hr (by rfl) T.g_lots_within T.F_lots_within.kp T.b_lots_within (da_cons (de_call ((ok_lot_of_all T).mono (by decide)) hr (by rfl) T.g_lot_of_all T.F_lot_of_all.kp T.b_lot_of_all (da_cons (dv 0) da_nil)) da_nil)))), fun ds μ R h => ?_⟩
  · obtain ⟨p, ts, rfl, _⟩ := h
    rfl
  · obtain ⟨p, ts, rfl, ok, h⟩ := h
    refine ⟨p, ts, rfl, ok, ?_⟩
    refine ⟨List.range ts.length, rfl, by rw [List.length_range]; exact ok.many, ?_⟩
    rw [lotsOf_range]
    exact h
/-! ### the table -/
end
end K10
set_option Elab.async false
set_option linter.all false
set_option maxRecDepth 100000
namespace K10
open PySem PySem.Spec PyProof.Rows L2 DL
section
variable {P : Program} {w : World} {K : PySem.W.Frag} {mg : Str → Option Value} {base : Heap} {A : Ad}
/-! ### the table's numbers are numbers of trees -/
/-! ### fractions -/
def cntF (p : List Nat) (ts : List Str) (a b : Nat) : Int := (cnt (rankOf p ts) ts.length a b : Nat)
end
end K10
set_option Elab.async false
set_option linter.all false
set_option maxRecDepth 100000
set_option Elab.async false
set_option linter.all false
set_option maxRecDepth 100000
namespace K10
open PySem PySem.Spec PyProof.Rows L2 DL
section
variable {P : Program} {w : World} {K : PySem.W.Frag} {mg : Str → Option Value} {base : Heap} {A : Ad}
/-! ### powers and sums by the law -/
def Bd (x : Int) (k : Nat) : Prop := x.natAbs ≤ 2 ^ k
theorem Bd.range {x : Int} (a : Bd x 21) : -(2 ^ 64) < x ∧ x < 2 ^ 64 := by
  unfold Bd at a
  omega
end
end K10
set_option Elab.async false
set_option linter.all false
set_option maxRecDepth 100000
set_option Elab.async false
set_option linter.all false
set_option maxRecDepth 100000
namespace K10
open PySem PySem.Spec PyProof.Rows L2 DL PySem.W
/-! ### herds -/
def subsL (v : List Nat) : List (List Nat) := v.foldl (fun L i => L ++ L.map (· ++ [i])) [[]]
theorem subs_snoc (v : List Nat) (k : Nat) : subsL (v ++ [k]) = subsL v ++ (subsL v).map (· ++ [k]) := by
  unfold subsL
  rw [List.foldl_append]
  rfl
theorem subs_few : ∀ v : List Nat, (subsL v).length = 2 ^ v.length := by
  refine snoc_ind (P := fun v => (subsL v).length = 2 ^ v.length) rfl ?_
  intro w k ih
  rw [subs_snoc, List.length_append, List.length_map, ih, List.length_append, List.length_singleton, Nat.pow_succ]
  omega
theorem subs_mem : ∀ v : List Nat, ∀ h, h ∈ subsL v ↔ h.Sublist v := by
  refine snoc_ind (P := fun v => ∀ h, h ∈ subsL v ↔ h.Sublist v) (fun h => ?_) ?_
  · constructor
    · intro q
      rw [List.mem_singleton.mp q]
      exact List.Sublist.refl _
    · intro q
      rw [List.sublist_nil.mp q]
      exact List.mem_singleton.mpr rfl
  · intro w k ih h
    rw [subs_snoc, List.mem_append, List.mem_map, List.sublist_append_iff]
    constructor
    · rintro (q | ⟨g, q, rfl⟩)
      · exact ⟨h, [], (List.append_nil _).symm, (ih h).mp q, List.nil_sublist _⟩
      · exact ⟨g, [k], rfl, (ih g).mp q, List.Sublist.refl _⟩
    · rintro ⟨a, b, rfl, qa, qb⟩
      cases b with
      | nil =>
        rw [List.append_nil]
        exact .inl ((ih a).mpr qa)
      | cons x t =>
        have l := qb.length_le
        have e : t = [] := List.eq_nil_of_length_eq_zero (by rw [List.length_cons, List.length_singleton] at l; omega)
        subst e
        have m : x ∈ [k] := qb.subset List.mem_cons_self
        rw [List.mem_singleton.mp m]
        exact .inr ⟨a, (ih a).mpr qa, rfl⟩
theorem subs_len {v h : List Nat} (q : h ∈ subsL v) : h.length ≤ v.length := ((subs_mem v h).mp q).length_le
/-- ties that cross a herd's border -/
def crB (h : List Nat) (y : Str) : Bool := decide ((ends y).1 ∈ h) != decide ((ends y).2 ∈ h)
def nx (ts : List Str) (h : List Nat) : Nat := (ts.filter (crB h)).length
def crossL (ts : List Str) (h : List Nat) : List Nat := (List.range ts.length).filter fun i => crB h (ts.getD i Str.empty)
theorem cross_len (ts : List Str) (h : List Nat) : (crossL ts h).length = nx ts h := by
  have e : (List.range ts.length).map (fun k => ts.getD k Str.empty) = ts := by
    apply List.ext_getElem?
    intro i
    rw [List.getElem?_map]
    by_cases hi : i < ts.length
    · rw [List.getElem?_range hi, List.getElem?_eq_getElem hi]
      show some (ts.getD i Str.empty) = _
      rw [List.getD_eq_getElem?_getD, List.getElem?_eq_getElem hi]
      rfl
    · rw [List.getElem?_eq_none (by simp; omega), List.getElem?_eq_none (by omega)]
      rfl
  unfold crossL nx
  conv => rhs; rw [← e]
  rw [List.filter_map, List.length_map]
  rfl
theorem nx_le (ts : List Str) (h : List Nat) : nx ts h ≤ ts.length := List.length_filter_le _ _
/-! ### marks as a function -/
def stepF (μ : Nat → Nat) (y : Nat × Nat) : Nat → Nat := fun c => if μ c = max (μ y.1) (μ y.2) then min (μ y.1) (μ y.2) else μ c
def marksF (μ : Nat → Nat) (ys : List (Nat × Nat)) : Nat → Nat := ys.foldl stepF μ
/-! ### the least of some numbers -/
/-! ### the least of some data, the order of herds -/
end K10
set_option Elab.async false
set_option linter.all false
set_option maxRecDepth 100000
namespace DL
open PySem PySem.Spec PyProof.Rows L2
/-! ### a text times a number -/
end DL
set_option Elab.async false
set_option linter.all false
set_option maxRecDepth 100000
namespace K10
open PySem PySem.Spec PyProof.Rows L2 DL
section
variable {P : Program} {w : World} {K : PySem.W.Frag} {mg : Str → Option Value} {base : Heap} {A : Ad}
/-! ### herds, ties that cross -/
def dHerd (h : List Nat) : D := .str (toS h)
theorem toS_inj {a b : List Nat} (h : toS a = toS b) : a = b := by
  have := congrArg (fun z : Str => z.cps.toList) h
  simpa [toS] using this
theorem toS_add (h : List Nat) (c : Nat) : toS h ++ (⟨#[c]⟩ : Str) = toS (h ++ [c]) := by
  show (⟨h.toArray ++ #[c]⟩ : Str) = ⟨(h ++ [c]).toArray⟩
  congr 1
  simp
def addC (c : Nat) : D → D
  | .str z => .str (z ++ ⟨#[c]⟩)
  | d => d
theorem signs_at {p : List Nat} {i : Nat} {x : D} (h : (DL.signs (toS p))[i]? = some x) : ∃ c, p[i]? = some c ∧ x = .str ⟨#[c]⟩ := by
  unfold DL.signs at h
  rw [List.getElem?_map, toS_list] at h
  cases e : p[i]? with
  | none => rw [e] at h; cases h
  | some c =>
    rw [e] at h
    exact ⟨c, rfl, (Option.some.inj h).symm⟩
theorem signs_len (p : List Nat) : (DL.signs (toS p)).length = p.length := by
  unfold DL.signs
  rw [List.length_map, toS_list]
theorem cross_more {ts : List Str} {hh : List Nat} {i : Nat} {y : Str} (h : ts[i]? = some y) : crossL (ts.take (i + 1)) hh = crossL (ts.take i) hh ++ if crB hh y = true then [i] else [] := by
  have hi : i < ts.length := (List.getElem?_eq_some_iff.mp h).1
  unfold crossL
  have l1 : (ts.take (i + 1)).length = i + 1 := by rw [List.length_take]; omega
  have l0 : (ts.take i).length = i := by rw [List.length_take]; omega
  rw [l1, l0, List.range_succ, List.filter_append]
  congr 1
  · refine List.filter_congr fun k hk => ?_
    have hk := List.mem_range.mp hk
    rw [List.getD_eq_getElem?_getD, List.getD_eq_getElem?_getD, List.getElem?_take, List.getElem?_take, if_pos (by omega), if_pos hk]
  · have e : (ts.take (i + 1)).getD i Str.empty = y := by
      rw [List.getD_eq_getElem?_getD, List.getElem?_take, if_pos (by omega), h]
      rfl
    rw [List.filter_cons, e, List.filter_nil]
def g_all_herds (C : Addr) : GC := fun ds μ R => ∃ (p : List Nat) (ts : List Str), ds = [dWeb C p ts] ∧ p.length ≤ 8 ∧ R (.lst ((subsL p).map dHerd)) μ
def N34 : List Str := ["web", "herds", "place", "herd"]
theorem sc34 : FnScope N34 ["web"] (defScope (top 34)) := ⟨rfl, rfl, rfl, by decide +kernel, rfl, by decide +kernel, by decide +kernel⟩
theorem ok_all_herds (T : Tx K mg A) : FnOk P w K mg base CX0 1 A.all_herds A.fd_all_herds ["web"] (toSp K (g_all_herds A.Web)) := by
  refine okD T.F_all_herds sc34 (fun ds μ R h => ?_) ⟨_, fun cdv A0 outer s H E hr =>
    (dss_cons (ds_set sc34.nd (i := 1) rfl (by first | exact Or.inl rfl | exact Or.inr rfl) (de_lst (da_cons de_str da_nil)))
      (dss_cons (ds_for PassesOwn.never rfl (di_str (de_fld T.k_Web T.n_places (dv 0))) (pg_name (i := 2) sc34.nd rfl (by first | exact Or.inl rfl | exact Or.inr rfl)) (sim_nm (i := 2))
      (dss_one (ds_set sc34.nd (i := 1) rfl (by first | exact Or.inl rfl | exact Or.inr rfl) (de_op op_plus sim_plus (dv 1) (de_lc (own := [("herd", 3)]) (by rfl) sc34.nd (di_both (dv 1)) (blkOk_by (N := N34) (own := [("herd", 3)]) (sc := defScope (top 34)) (by decide +kernel)) (fun _ _ _ _ _ => (pg_name (i := 3) sc34.nd rfl (by first | exact Or.inl rfl | exact Or.inr rfl))) (sim_nm (i := 3)) (fun _ _ _ _ _ => dts_nil) (fun _ _ _ _ _ => (de_op op_plus sim_plus (dv 3) (dv 2))))))))
      (dss_one (ds_ret (dv 1))))), fun ds μ R h => ?_⟩
  · obtain ⟨p, ts, rfl, _⟩ := h
    rfl
  · obtain ⟨p, ts, rfl, few, h⟩ := h
    refine ⟨by show 1 ≤ sizeLine; decide, ?_⟩
    have e0 : ("" : Str) = toS [] := by decide +kernel
    refine ⟨rfl, _, rfl, ?_⟩
    refine ⟨fun i δ' μ' => μ' = μ ∧ ∃ o2 o3, δ' = [some (dWeb A.Web p ts), some (.lst ((subsL (p.take i)).map dHerd)), o2, o3], ⟨rfl, none, none, by rw [e0]; rfl⟩, ?_, ?_⟩
    · rintro i x δ' μ' hx ⟨rfl, o2, o3, rfl⟩
      obtain ⟨c, hc, rfl⟩ := signs_at hx
      have hi : i < p.length := (List.getElem?_eq_some_iff.mp hc).1
      have fw : (subsL (p.take i)).length ≤ 256 := by
        rw [subs_few, List.length_take]
        exact Nat.le_trans (Nat.pow_le_pow_right (by decide) (show min i p.length ≤ 8 by omega)) (by decide)
      show LcB _ _ _ _ _ _ _ _
      refine lcb_map (addC c) ?_ ?_ ?_
      · rw [List.length_map, sizeLine_eq]
        omega
      · intro x hx μ2 Y _ hy
        obtain ⟨h2, hh, rfl⟩ := List.mem_map.mp hx
        have := subs_len hh
        rw [List.length_take] at this
        refine ⟨?_, hy⟩
        show h2.toArray.size + 1 ≤ sizeLine
        rw [List.size_toArray, sizeLine_eq]
        omega
      · have em : ((subsL (p.take i)).map dHerd).map (addC c) = ((subsL (p.take i)).map (· ++ [c])).map dHerd := by
          rw [List.map_map, List.map_map]
          refine List.map_congr_left fun h2 _ => ?_
          show D.str (toS h2 ++ ⟨#[c]⟩) = D.str (toS (h2 ++ [c]))
          rw [toS_add]
        rw [em]
        refine ⟨by rw [List.length_map, List.length_map, List.length_map, sizeLine_eq]; omega, rfl, some (.str ⟨#[c]⟩), o3, ?_⟩
        show _ = [some (dWeb A.Web p ts), some (.lst ((subsL (p.take (i + 1))).map dHerd)), some (.str ⟨#[c]⟩), o3]
        rw [take_succ_get hc, subs_snoc, List.map_append]
        rfl
    · rintro δ' μ' ⟨rfl, o2, o3, rfl⟩
      rw [signs_len, List.take_length]
      exact h
def g_crossing (C : Addr) : GC := fun ds μ R => ∃ (p : List Nat) (ts : List Str) (h : List Nat), ds = [dWeb C p ts, dHerd h] ∧ OkWeb p ts ∧ R (dLot (crossL ts h)) μ
def N35 : List Str := ["web", "herd", "lot", "index", "tie"]
theorem sc35 : FnScope N35 ["web", "herd"] (defScope (top 35)) := ⟨rfl, rfl, rfl, by decide +kernel, rfl, by decide +kernel, by decide +kernel⟩
theorem ok_crossing (T : Tx K mg A) : FnOk P w K mg base CX0 1 A.crossing A.fd_crossing ["web", "herd"] (toSp K (g_crossing A.Web)) := by
  refine okDF T.F_crossing sc35 (fun ds μ R h => ?_) ⟨_, fun cdv A0 outer s H E hr =>
    (dss_cons (ds_set sc35.nd (i := 2) rfl (by first | exact Or.inl rfl | exact Or.inr rfl) (de_cell da_nil))
      (dss_cons (ds_for PassesOwn.never rfl (di_enumT (by rfl) T.z_enumerate (da_cons (de_fld T.k_Web T.n_ties (dv 0)) da_nil)) (pg_tup (n := 2) (by rfl) (pgs_cons (pg_name (i := 3) sc35.nd rfl (by first | exact Or.inl rfl | exact Or.inr rfl)) (pgs_cons (pg_name (i := 4) sc35.nd rfl (by first | exact Or.inl rfl | exact Or.inr rfl)) pgs_nil))) (sim_tupT (n := 2) (sim_consT (sim_nm (i := 3)) (sim_consT (sim_nm (i := 4)) sim_nilT)))
      (dss_one (ds_if (dt_cmp (op_neA hr.units) sim_ne (de_cmp op_inA sim_in (de_ix ix_any sim_ix (dv 4) de_int (fun _ _ => rfl)) (dv 1) rfl) (de_cmp op_inA sim_in (de_ix ix_any sim_ix (dv 4) de_int (fun _ _ => rfl)) (dv 1) rfl) (nomark _)) (dss_one (ds_expr (de_bm PySem.F.plainAttrs_list PySem.F.slot_list_append PySem.F.type_list_append mt_append sim_append ok_cell (dv 2) (da_cons (dv 3) da_nil)))) dss_nil)))
      (dss_one (ds_ret (de_callTy call_tuple_of sim_tupC (by rfl) T.z_tuple boot_tuple (da_cons (dv 2) da_nil)))))), fun ds μ R h => ?_⟩
  · obtain ⟨p, ts, hh, rfl, _⟩ := h
    rfl
  · obtain ⟨p, ts, hh, rfl, ok, h⟩ := h
    refine ⟨by show 0 ≤ sizeLine; decide, fun b nb => ?_⟩
    refine ⟨rfl, _, rfl, ?_⟩
    refine ⟨fun i δ' μ' => μ' = put μ b (.lst (((crossL (ts.take i) hh).map Int.ofNat).map D.int)) ∧ ∃ o3 o4, δ' = [some (dWeb A.Web p ts), some (dHerd hh), some (.adr b), o3, o4], ⟨rfl, none, none, rfl⟩, ?_, ?_⟩
    · rintro i x δ' μ' hx ⟨rfl, o3, o4, rfl⟩
      obtain ⟨d, hd, rfl⟩ := numbered_at hx
      rw [List.getElem?_map] at hd
      obtain ⟨y, hy, rfl⟩ : ∃ y, ts[i]? = some y ∧ D.str y = d := by
        cases e : ts[i]? with
        | none => rw [e] at hd; cases hd
        | some t => rw [e] at hd; exact ⟨t, rfl, Option.some.inj hd⟩
      have hi : i < ts.length := (List.getElem?_eq_some_iff.mp hy).1
      have many := ok.many
      obtain ⟨sy, m1, m2⟩ := ok.ties y (List.mem_of_getElem? hy)
      obtain ⟨c0, c1, e0, e1, ee⟩ := two_signs sy
      have a0 : L2.atI y.cps.toList (0 : Int) = some c0 := by rw [← Array.getElem?_toList] at e0; exact atI_nat e0
      have a1 : L2.atI y.cps.toList (1 : Int) = some c1 := by rw [← Array.getElem?_toList] at e1; exact atI_nat e1
      have cb : crB hh y = !decide (decide (c0 ∈ hh) = decide (c1 ∈ hh)) := by
        unfold crB
        rw [ee]
        cases decide (c0 ∈ hh) <;> cases decide (c1 ∈ hh) <;> rfl
      refine ⟨rfl, ?_⟩
      refine ⟨by show y.cps.size ≤ sizeLine; rw [sizeLine_eq]; omega, ?_⟩
      rw [a0]
      refine ⟨c0, rfl, ?_⟩
      refine ⟨by show y.cps.size ≤ sizeLine; rw [sizeLine_eq]; omega, ?_⟩
      rw [a1]
      refine ⟨c1, rfl, ?_⟩
      rw [toS_list]
      have lb : (((crossL (ts.take i) hh).map Int.ofNat).map D.int).length < sizeLine := by
        rw [List.length_map, List.length_map, cross_len, sizeLine_eq]
        have := nx_le (ts.take i) hh
        rw [List.length_take] at this
        omega
      refine if_case (c := !decide (decide (c0 ∈ hh) = decide (c1 ∈ hh))) (fun e => ?_) (fun e => ?_)
      · refine ⟨cell_ok put_same, ?_⟩
        refine ⟨_, put_same, lb, ?_⟩
        refine ⟨?_, some (.int (i : Nat)), some (.str y), rfl⟩
        rw [put_put, cross_more hy, if_pos (cb.trans e), List.map_append, List.map_append]
        rfl
      · refine ⟨?_, some (.int (i : Nat)), some (.str y), rfl⟩
        rw [cross_more hy, if_neg (by rw [cb, e]; exact Bool.false_ne_true), List.append_nil]
    · rintro δ' μ' ⟨rfl, o3, o4, rfl⟩
      have ln : (DL.numbered (ts.map D.str)).length = ts.length := by unfold DL.numbered; rw [List.length_mapIdx, List.length_map]
      rw [ln, List.take_length]
      refine ⟨b, _, rfl, put_same, ?_⟩
      refine ⟨_, μ, .less fun c o e => ?_, h⟩
      rw [put_ne (fun q => by rw [q, nb] at e; cases e)]
      exact e
end
end K10
set_option Elab.async false
set_option linter.all false
set_option maxRecDepth 100000
namespace K10
open PySem PySem.Spec PyProof.Rows L2 DL
/-! ### marks as a function of the place; a tie shut -/
/-- the lesser end for the greater one -/
def ren (l g x : Nat) : Nat := if x = g then l else x
def Rn (l g : Nat) (y z : Nat × Nat) : Prop := z = (ren l g y.1, ren l g y.2) ∨ z = (ren l g y.2, ren l g y.1)
inductive Rns (l g : Nat) : List (Nat × Nat) → List (Nat × Nat) → Prop where
  | nil : Rns l g [] []
  | cons {y z : Nat × Nat} {ys zs : List (Nat × Nat)} : Rn l g y z → Rns l g ys zs → Rns l g (y :: ys) (z :: zs)
structure Shutting (l g : Nat) (μ ν : Nat → Nat) : Prop where
  same : ∀ c, c ≠ g → μ c = ν c
  both : μ g = μ l
  none : ∀ c, μ c ≠ g
theorem Shutting.at_ {l g : Nat} {μ ν : Nat → Nat} (h : Shutting l g μ ν) (hn : l ≠ g) (x : Nat) : ν (ren l g x) = μ x := by
  unfold ren
  split
  · rename_i e
    rw [e, h.both, h.same l hn]
  · rename_i e
    exact (h.same x e).symm
theorem Shutting.step {l g : Nat} {μ ν : Nat → Nat} (h : Shutting l g μ ν) (hn : l ≠ g) {y z : Nat × Nat} (r : Rn l g y z) : Shutting l g (stepF μ y) (stepF ν z) := by
  have key : ∀ c, stepF ν z c = if ν c = max (μ y.1) (μ y.2) then min (μ y.1) (μ y.2) else ν c := fun c => by
    unfold stepF
    rcases r with rfl | rfl
    · rw [h.at_ hn, h.at_ hn]
    · rw [h.at_ hn, h.at_ hn, Nat.max_comm, Nat.min_comm]
  refine ⟨fun c hc => ?_, ?_, fun c => ?_⟩
  · rw [key, ← h.same c hc]
    rfl
  · unfold stepF
    rw [h.both]
  · unfold stepF
    split
    · have h1 := h.none y.1
      have h2 := h.none y.2
      omega
    · exact h.none c
theorem Shutting.run {l g : Nat} (hn : l ≠ g) : ∀ (ys zs : List (Nat × Nat)) (μ ν : Nat → Nat), Shutting l g μ ν → Rns l g ys zs → Shutting l g (marksF μ ys) (marksF ν zs)
  | [], [], _, _, h, _ => h
  | y :: ys, z :: zs, μ, ν, h, .cons r t => Shutting.run hn ys zs _ _ (h.step hn r) t
/-! ### the table's numbers, whatever the bounds -/
end K10
set_option Elab.async false
set_option linter.all false
set_option maxRecDepth 100000
namespace K10
open PySem PySem.Spec PyProof.Rows L2 DL
/-! ### lots of ties of a web with a tie cut or shut -/
/-! ### the table's numbers -/
def tw (p : List Nat) (ts : List Str) (i j : Nat) : Int := tabS (cntF p ts) 12 12 i j
end K10
set_option Elab.async false
set_option linter.all false
set_option maxRecDepth 100000
namespace DL
open PySem PySem.Spec PyProof.Rows L2
/-! ### a cell that nobody changes any more goes on as a plain list, before a statement -/
/-! ### range of two numbers -/
end DL
set_option Elab.async false
set_option linter.all false
set_option maxRecDepth 100000
namespace DL
open PySem PySem.Spec PyProof.Rows L2
/-! ### zip of a tuple and a list -/
end DL
set_option Elab.async false
set_option linter.all false
set_option maxRecDepth 100000
namespace DL
open PySem PySem.Spec PyProof.Rows L2
/-! ### a plain list, some times over -/
end DL
set_option Elab.async false
set_option linter.all false
set_option maxRecDepth 100000
namespace K10
open PySem PySem.Spec PyProof.Rows L2 DL
section
variable {P : Program} {w : World} {K : PySem.W.Frag} {mg : Str → Option Value} {base : Heap} {A : Ad}
/-! ### len of a web, by its own def; slices of texts -/
theorem OkT.snoc {p : List Nat} {ts : List Str} (h : OkT p ts) {a b : Nat} (ha : a ∈ p) (hb : b ∈ p) (k : a ≤ b) : OkT p (ts ++ [yTie a b]) := ⟨fun y hy => by
  rcases List.mem_append.mp hy with q | q
  · exact h.ties y q
  · rw [List.mem_singleton.mp q]
    exact ⟨a, b, rfl, ha, hb, k⟩⟩
theorem mm_in {p : List Nat} {a b : Nat} (ha : a ∈ p) (hb : b ∈ p) : min a b ∈ p ∧ max a b ∈ p ∧ min a b ≤ max a b := by
  by_cases e : a ≤ b
  · rw [Nat.min_eq_left e, Nat.max_eq_right e]; exact ⟨ha, hb, e⟩
  · rw [Nat.min_eq_right (by omega), Nat.max_eq_left (by omega)]; exact ⟨hb, ha, by omega⟩
/-! ### letters in order; rank and spare of a lot -/
def g_check_web_and_lot (C : Addr) : GC := fun ds μ R => ∃ (p : List Nat) (ts : List Str) (lot : List Nat), ds = [dWeb C p ts, dLot lot] ∧ OkWeb p ts ∧ AscLot lot ts.length ∧ lot.length ≤ 11 ∧ R .non μ
def g_rank (C : Addr) : GC := fun ds μ R => ∃ (p : List Nat) (ts : List Str) (lot : List Nat), ds = [dWeb C p ts, dLot lot] ∧ OkWeb p ts ∧ AscLot lot ts.length ∧ lot.length ≤ 11 ∧ (∀ i ∈ lot, i < ts.length) ∧ R (.int (rankOf p ts lot : Nat)) μ
def g_spare (C : Addr) : GC := fun ds μ R => ∃ (p : List Nat) (ts : List Str) (lot : List Nat), ds = [dWeb C p ts, dLot lot] ∧ OkWeb p ts ∧ AscLot lot ts.length ∧ lot.length ≤ 11 ∧ (∀ i ∈ lot, i < ts.length) ∧ R (.int ((lot.length : Int) - (rankOf p ts lot : Nat))) μ
def N28 : List Str := ["web", "lot"]
theorem sc28 : FnScope N28 ["web", "lot"] (defScope (top 28)) := ⟨rfl, rfl, rfl, by decide +kernel, rfl, by decide +kernel, by decide +kernel⟩
theorem ok_check_web_and_lot (T : Tx K mg A) : FnOk P w K mg base CX0 5 A.check_web_and_lot A.fd_check_web_and_lot ["web", "lot"] (toSp K (g_check_web_and_lot A.Web)) := by
  refine okD T.F_check_web_and_lot sc28 (fun ds μ R h => ?_) ⟨_, fun cdv A0 outer s H E hr =>
    (dss_cons (ds_expr (de_call ((ok_check_web T).mono (by decide)) hr (by rfl) T.g_check_web T.F_check_web.kp T.b_check_web (da_cons (dv 0) da_nil)))
      (dss_one (ds_expr (de_callV (dd := [11]) ((ok_check_lot T).mono (by decide)) hr (by rfl) T.g_check_lot T.F_check_lot.kp T.b_check_lot (da_cons (dv 0) (da_cons (dv 1) da_nil)))))), fun ds μ R h => ?_⟩
  · obtain ⟨p, ts, lot, rfl, _⟩ := h
    rfl
  · obtain ⟨p, ts, lot, rfl, ok, al, l11, h⟩ := h
    refine ⟨p, ts, rfl, ?_⟩
    exact ⟨p, ts, lot, rfl, al, l11, h⟩
def N41 : List Str := ["web", "lot"]
theorem sc41 : FnScope N41 ["web", "lot"] (defScope (top 41)) := ⟨rfl, rfl, rfl, by decide +kernel, rfl, by decide +kernel, by decide +kernel⟩
theorem ok_rank (T : Tx K mg A) : FnOk P w K mg base CX0 6 A.rank A.fd_rank ["web", "lot"] (toSp K (g_rank A.Web)) := by
  refine okD T.F_rank sc41 (fun ds μ R h => ?_) ⟨_, fun cdv A0 outer s H E hr =>
    (dss_cons (ds_expr (de_call ((ok_check_web_and_lot T).mono (by decide)) hr (by rfl) T.g_check_web_and_lot T.F_check_web_and_lot.kp T.b_check_web_and_lot (da_cons (dv 0) (da_cons (dv 1) da_nil))))
      (dss_one (ds_ret (de_call ((ok_rank_of T).mono (by decide)) hr (by rfl) T.g_rank_of T.F_rank_of.kp T.b_rank_of (da_cons (dv 0) (da_cons (dv 1) da_nil)))))), fun ds μ R h => ?_⟩
  · obtain ⟨p, ts, lot, rfl, _⟩ := h
    rfl
  · obtain ⟨p, ts, lot, rfl, ok, al, l11, hi, h⟩ := h
    refine ⟨p, ts, lot, rfl, ok, al, l11, ?_⟩
    exact ⟨p, ts, lot, rfl, ok, hi, h⟩
def N42 : List Str := ["web", "lot"]
theorem sc42 : FnScope N42 ["web", "lot"] (defScope (top 42)) := ⟨rfl, rfl, rfl, by decide +kernel, rfl, by decide +kernel, by decide +kernel⟩
theorem ok_spare (T : Tx K mg A) : FnOk P w K mg base CX0 6 A.spare A.fd_spare ["web", "lot"] (toSp K (g_spare A.Web)) := by
  refine okD T.F_spare sc42 (fun ds μ R h => ?_) ⟨_, fun cdv A0 outer s H E hr =>
    (dss_cons (ds_expr (de_call ((ok_check_web_and_lot T).mono (by decide)) hr (by rfl) T.g_check_web_and_lot T.F_check_web_and_lot.kp T.b_check_web_and_lot (da_cons (dv 0) (da_cons (dv 1) da_nil))))
      (dss_one (ds_ret (de_call ((ok_spare_of T).mono (by decide)) hr (by rfl) T.g_spare_of T.F_spare_of.kp T.b_spare_of (da_cons (dv 0) (da_cons (dv 1) da_nil)))))), fun ds μ R h => ?_⟩
  · obtain ⟨p, ts, lot, rfl, _⟩ := h
    rfl
  · obtain ⟨p, ts, lot, rfl, ok, al, l11, hi, h⟩ := h
    refine ⟨p, ts, lot, rfl, ok, al, l11, ?_⟩
    exact ⟨p, ts, lot, rfl, ok, hi, h⟩
end
end K10
set_option Elab.async false
set_option linter.all false
set_option maxRecDepth 100000
namespace DL
open PySem PySem.Spec PyProof.Rows L2
/-! ### a text of two signs unpacked: two new texts, their tokens told -/
end DL
set_option Elab.async false
set_option linter.all false
set_option maxRecDepth 100000
namespace DL
open PySem PySem.Spec PyProof.Rows L2
/-! ### t.index(d), t a tuple of data -/
/-! ### a, b = a text of two signs -/
end DL
set_option Elab.async false
set_option linter.all false
set_option maxRecDepth 100000
namespace K10
open PySem PySem.Spec PyProof.Rows L2 DL
section
variable {P : Program} {w : World} {K : PySem.W.Frag} {mg : Str → Option Value} {base : Heap} {A : Ad}
/-! ### draws of the casks -/
theorem nc1 : (2147482873 : Int) ≠ 0 := by decide
theorem nc2 : (39019 : Int) ≠ 0 := by decide
def gIxC : G2 := fun x y μ R => ∃ (a : Addr) (k : Nat) (ds : List D) (d : D), x = .adr a ∧ y = .int (k : Nat) ∧ μ a = some (.lst ds) ∧ ds[k]? = some d ∧ R d μ
theorem sim_ixC {K : PySem.W.Frag} : SimO K (rIxA K) gIxC := fun x y dx dy H μ Q R rm rx ry q f => by
  obtain ⟨a, k, ds, d, rfl, rfl, h1, h2, q⟩ := q
  exact sim_ix x y _ _ H μ Q R rm rx ry (ix_cell k h1 h2 q) f
def g_L_cask : GC := fun ds μ R => ∃ (ns : List Int) (k : Nat), ds = [.seq (ns.map D.int), .int (k : Nat)] ∧ ns.length ≤ 1000 ∧ ∀ (x y z : Int) (a : Addr), μ a = none → R (.adr a) (put μ a (pot x y z))
def N51 : List Str := ["_law_cells", "_law_at", "_law_own", "_law_mixed", "_law_k"]
theorem sc51 : FnScope N51 ["_law_cells", "_law_at"] (defScope (top 51)) := ⟨rfl, rfl, rfl, by decide +kernel, rfl, by decide +kernel, by decide +kernel⟩
theorem ok_L_cask (T : Tx K mg A) : FnOk P w K mg base CX0 1 A.L_cask A.fd_L_cask ["_law_cells", "_law_at"] (toSp K (g_L_cask)) := by
  refine okD T.F_L_cask sc51 (fun ds μ R h => ?_) ⟨_, fun cdv A0 outer s H E hr =>
    (dss_cons (ds_set sc51.nd (i := 2) rfl (by first | exact Or.inl rfl | exact Or.inr rfl) (de_if (dt_cmp op_ltA sim_ord (dv 1) (de_callB cr_len sim_len (by rfl) T.z_len boot_len (da_cons (dv 0) da_nil)) (nomark _)) (de_ix ix_any sim_ix (dv 0) (dv 1) (fun _ _ => rfl)) de_int))
      (dss_cons (ds_set sc51.nd (i := 3) rfl (by first | exact Or.inl rfl | exact Or.inr rfl) (de_op op_plus sim_plus de_int (de_op op_mul sim_mul de_int (dv 1))))
      (dss_cons (ds_for PassesOwn.never rfl (di_range (by rfl) T.z_range (da_cons (de_callB (call_min2 (by rfl)) sim_min2 (by rfl) T.z_min boot_min (da_cons (de_callB cr_len sim_len (by rfl) T.z_len boot_len (da_cons (dv 0) da_nil)) (da_cons de_int da_nil))) da_nil)) (pg_name (i := 4) sc51.nd rfl (by first | exact Or.inl rfl | exact Or.inr rfl)) (sim_nm (i := 4))
      (dss_one (ds_set sc51.nd (i := 3) rfl (by first | exact Or.inl rfl | exact Or.inr rfl) (de_op op_modN sim_mod (de_callTy call_int1 sim_int (by rfl) T.z_int boot_int (da_cons (de_op op_plus sim_plus (de_op op_plus sim_plus (de_op op_mul sim_mul (dv 3) (de_op op_plus sim_plus de_int (de_op op_mul sim_mul de_int (dv 4)))) (de_op op_mul sim_mul de_int (de_ix ix_any sim_ix (dv 0) (dv 4) (fun _ _ => rfl)))) de_int) da_nil)) de_int))))
      (dss_one (ds_ret (de_cell (da_cons (de_if (dw_or (dt_cmp op_ltA sim_ord (dv 2) de_int (nomark _)) (dw_or1 (dt_cmp op_geA sim_ord (dv 2) (de_op op_pow sim_pow de_int de_int) (nomark _)))).dt (de_callB call_abs sim_abs (by rfl) T.z_abs boot_abs (da_cons (dv 2) da_nil)) de_int) (da_cons (de_op op_modN sim_mod (de_callTy call_int1 sim_int (by rfl) T.z_int boot_int (da_cons (de_op op_plus sim_plus (de_op op_mul sim_mul (dv 3) de_int) (de_op op_mul sim_mul (dv 2) de_int)) da_nil)) de_int) (da_cons de_int da_nil))))))))), fun ds μ R h => ?_⟩
  · obtain ⟨ns, k, rfl, _⟩ := h
    rfl
  · obtain ⟨ns, k, rfl, ln, h⟩ := h
    refine if_case (c := decide ((k : Int) < ((ns.map D.int).length : Int))) (fun e => ?a) (fun e => ?b)
    case' a =>
      have e := of_decide_eq_true e
      have hk : k < ns.length := by
        have : ((ns.map D.int).length : Int) = ns.length := by rw [List.length_map]
        omega
      obtain ⟨n, hn⟩ := ints_at hk
      apply atK_nat hn
    all_goals
      refine ⟨Or.inl ⟨by decide, by decide⟩, ?_⟩
      refine ⟨⟨?_, ?_⟩, ?_⟩
      · split <;> omega
      · split <;> omega
      refine ⟨fun i δ' μ' => μ' = μ ∧ ∃ (c2 c : Int) (o4 : Option D), δ' = [some (.seq (ns.map D.int)), some (.int (k : Nat)), some (.int c2), some (.int c), o4], ⟨rfl, _, _, none, rfl⟩, ?_, ?_⟩
      · rintro i x δ' μ' hx ⟨rfl, c2, c, o4, rfl⟩
        obtain ⟨hi, rfl⟩ := range_at hx
        have hi : i < ns.length ∧ i < 8 := by
          have e1 : (((ns.map D.int).length : Nat) : Int) = ns.length := by rw [List.length_map]
          rw [e1] at hi
          split at hi <;> omega
        obtain ⟨n, hn⟩ := ints_at hi.1
        refine ⟨Or.inl ⟨by decide, by decide⟩, ?_⟩
        refine ⟨Or.inr ⟨by omega, by omega⟩, ?_⟩
        apply atK_nat hn
        refine ⟨Or.inl ⟨by decide, by decide⟩, ?_⟩
        refine ⟨nc1, ?_⟩
        exact ⟨rfl, _, _, _, rfl⟩
      · rintro δ' μ' ⟨rfl, n, c, o4, rfl⟩
        refine if_case (c := decide (n < 0)) (fun e => ?_) (fun e => ?_)
        · refine ⟨Or.inr ⟨by decide, by decide⟩, Or.inr ⟨by decide, by decide⟩, ?_⟩
          refine ⟨nc1, ?_⟩
          refine ⟨by show 3 ≤ sizeLine; decide, fun a na => ?_⟩
          exact h _ _ _ a na
        · refine ⟨⟨by decide, by decide, by decide⟩, ?_⟩
          refine if_case (c := decide ((10 : Int) ^ (18 : Int).toNat ≤ n)) (fun e => ?_) (fun e => ?_)
          · refine ⟨Or.inr ⟨by decide, by decide⟩, Or.inr ⟨by decide, by decide⟩, ?_⟩
            refine ⟨nc1, ?_⟩
            refine ⟨by show 3 ≤ sizeLine; decide, fun a na => ?_⟩
            exact h _ _ _ a na
          · refine ⟨Or.inr ⟨by decide, by decide⟩, Or.inr ⟨by decide, by decide⟩, ?_⟩
            refine ⟨nc1, ?_⟩
            refine ⟨by show 3 ≤ sizeLine; decide, fun a na => ?_⟩
            exact h _ _ _ a na
def g_L_tapW : GC := fun ds μ R => ∃ (a : Addr) (x y z m : Int), ds = [.adr a, .int m] ∧ μ a = some (pot x y z) ∧ 0 < m ∧ m < 1073741824 ∧ ∀ (d : Nat) (x y z : Int), (d : Int) < m → R (.int (d : Nat)) (put μ a (pot x y z))
def N52 : List Str := ["_law_cask_here", "_law_upto", "_law_figure", "_law_mixed"]
theorem sc52 : FnScope N52 ["_law_cask_here", "_law_upto"] (defScope (top 52)) := ⟨rfl, rfl, rfl, by decide +kernel, rfl, by decide +kernel, by decide +kernel⟩
theorem ok_L_tap (T : Tx K mg A) : FnOk P w K mg base CX0 1 A.L_tap A.fd_L_tap ["_law_cask_here", "_law_upto"] (toSp K (g_L_tapW)) := by
  refine okD T.F_L_tap sc52 (fun ds μ R h => ?_) ⟨_, fun cdv A0 outer s H E hr =>
    (dss_cons (ds_if (dt_cmp op_gtA sim_ord (de_ix ix_any sim_ix (dv 0) de_int (fun _ _ => rfl)) de_int (nomark _)) (dss_cons (ds_asgH (de_callB call_divmodW sim_divmodW2 (by rfl) T.z_divmod boot_divmod (da_cons (de_ix ix_any sim_ix (dv 0) de_int (fun _ _ => rfl)) (da_cons (dv 1) da_nil))) (pg_tup (n := 2) (by rfl) (pgs_cons (pg_subD (dv 0) de_int) (pgs_cons (pg_name (i := 2) sc52.nd rfl (by first | exact Or.inl rfl | exact Or.inr rfl)) pgs_nil))) (simH_tup (n := 2) (simH_cons simH_subD (simH_cons (simH_nm (i := 2)) simH_nil))))
      (dss_one (ds_ret (dv 2)))) dss_nil)
      (dss_cons (ds_asgH (de_op op_plus sim_plus (de_ix ix_any sim_ix (dv 0) de_int (fun _ _ => rfl)) de_int) (pg_subD (dv 0) de_int) simH_subD)
      (dss_cons (ds_set sc52.nd (i := 3) rfl (by first | exact Or.inl rfl | exact Or.inr rfl) (de_op op_mul sim_mul (de_ix ix_any sim_ix (dv 0) de_int (fun _ _ => rfl)) (de_op op_plus sim_plus (de_op op_modN sim_mod (de_callTy call_int1 sim_int (by rfl) T.z_int boot_int (da_cons (de_op op_fdivN sim_fdiv (de_ix ix_any sim_ix (dv 0) de_int (fun _ _ => rfl)) de_int) da_nil)) de_int) de_int)))
      (dss_cons (ds_asgH (de_op op_modN sim_mod (de_callTy call_int1 sim_int (by rfl) T.z_int boot_int (da_cons (de_op op_plus sim_plus (de_op op_plus sim_plus (dv 3) (de_op op_mul sim_mul de_int (de_ix ix_any sim_ix (dv 0) de_int (fun _ _ => rfl)))) de_int) da_nil)) de_int) (pg_subD (dv 0) de_int) simH_subD)
      (dss_one (ds_ret (de_op op_modN sim_mod (de_callTy call_int1 sim_int (by rfl) T.z_int boot_int (da_cons (de_op op_fdivN sim_fdiv (de_ix ix_any sim_ix (dv 0) de_int (fun _ _ => rfl)) de_int) da_nil)) (dv 1)))))))), fun ds μ R h => ?_⟩
  · obtain ⟨a, x, y, z, m, rfl, _⟩ := h
    rfl
  · obtain ⟨a, x, y, z, m, rfl, ha, m0, m1, h⟩ := h
    have mn : m ≠ 0 := by omega
    apply ix_cell 0 ha rfl
    refine if_case (c := decide (0 < x)) (fun e => ?_) (fun e => ?_)
    · apply ix_cell 0 ha rfl
      refine ⟨⟨m0, by omega⟩, ?_⟩
      refine ⟨rfl, _, 0, ha, rfl, ?_⟩
      show R (.int (x % m)) (put μ a (pot (x / m) y z))
      have hn : 0 ≤ x % m := Int.emod_nonneg _ (by omega)
      have hl : x % m < m := Int.emod_lt_of_pos _ m0
      have := h (x % m).toNat (x / m) y z (by omega)
      rw [Int.toNat_of_nonneg hn] at this
      exact this
    · apply ix_cell 2 ha rfl
      apply set_cell (ds' := [.int x, .int y, .int (z + 1)]) 2 ha (by show 2 < 3; omega) rfl
      have h1 : put μ a (.lst [.int x, .int y, .int (z + 1)]) a = some (.lst [.int x, .int y, .int (z + 1)]) := put_same
      generalize hμ : put μ a (.lst [.int x, .int y, .int (z + 1)]) = μ1 at h1 ⊢
      dsimp only
      apply ix_cell 1 h1 rfl
      apply ix_cell 1 h1 rfl
      refine ⟨⟨by decide, by decide⟩, ?_⟩
      refine ⟨nc2, ?_⟩
      have f0 : 0 ≤ (y.fdiv 8).fmod 39019 := Int.fmod_nonneg_of_pos _ (by decide)
      have f1 : (y.fdiv 8).fmod 39019 < 39019 := Int.fmod_lt_of_pos _ (by decide)
      refine ⟨Or.inr ⟨by omega, by omega⟩, ?_⟩
      apply ix_cell 2 h1 rfl
      refine ⟨Or.inl ⟨by decide, by decide⟩, nc1, ?_⟩
      obtain ⟨y1, hy⟩ : ∃ y1, (y * ((y.fdiv 8).fmod 39019 + 71) + 10061 * (z + 1) + 31).fmod 2147482873 = y1 := ⟨_, rfl⟩
      apply set_cell (ds' := [.int x, .int y1, .int (z + 1)]) 1 h1 (by show 1 < 3; omega) (by rw [← hy]; rfl)
      rw [← hμ, put_put]
      have h2 : put μ a (.lst [.int x, .int y1, .int (z + 1)]) a = some (.lst [.int x, .int y1, .int (z + 1)]) := put_same
      generalize hμ2 : put μ a (.lst [.int x, .int y1, .int (z + 1)]) = μ2 at h2 ⊢
      dsimp only
      apply ix_cell 1 h2 rfl
      refine ⟨⟨by decide, by decide⟩, ?_⟩
      refine ⟨mn, ?_⟩
      show R (.int ((y1.fdiv 8192).fmod m)) μ2
      rw [← hμ2]
      have hn : 0 ≤ (y1.fdiv 8192).fmod m := Int.fmod_nonneg_of_pos _ m0
      have hl : (y1.fdiv 8192).fmod m < m := Int.fmod_lt_of_pos _ m0
      have := h ((y1.fdiv 8192).fmod m).toNat x y1 (z + 1) (by omega)
      rw [Int.toNat_of_nonneg hn] at this
      exact this
/-- one of the things of a list -/
def g_L_pick : GC := fun ds μ R => ∃ (a : Addr) (x y z : Int) (l : List D), ds = [.adr a, .lst l] ∧ μ a = some (pot x y z) ∧ 1 ≤ l.length ∧ l.length ≤ 5000 ∧ ∀ (d : D) (x y z : Int), d ∈ l → R d (put μ a (pot x y z))
def N53 : List Str := ["_law_cask_here", "_law_things"]
theorem sc53 : FnScope N53 ["_law_cask_here", "_law_things"] (defScope (top 53)) := ⟨rfl, rfl, rfl, by decide +kernel, rfl, by decide +kernel, by decide +kernel⟩
theorem ok_L_pick (T : Tx K mg A) : FnOk P w K mg base CX0 2 A.L_pick A.fd_L_pick ["_law_cask_here", "_law_things"] (toSp K (g_L_pick)) := by
  refine okD T.F_L_pick sc53 (fun ds μ R h => ?_) ⟨_, fun cdv A0 outer s H E hr =>
    (dss_one (ds_ret (de_ix ix_any sim_ix (dv 1) (de_call ((ok_L_tap T).mono (by decide)) hr (by rfl) T.g_L_tap T.F_L_tap.kp T.b_L_tap (da_cons (dv 0) (da_cons (de_callB cr_len sim_len (by rfl) T.z_len boot_len (da_cons (dv 1) da_nil)) da_nil))) (fun _ _ => rfl)))), fun ds μ R h => ?_⟩
  · obtain ⟨a, x, y, z, l, rfl, _⟩ := h
    rfl
  · obtain ⟨a, x, y, z, l, rfl, ha, l1, l2, h⟩ := h
    refine ⟨a, x, y, z, _, rfl, ha, by omega, by omega, fun v x y z hv => ?_⟩
    have hv : v < l.length := by omega
    exact atK_nat (List.getElem?_eq_getElem hv) (h _ _ _ _ (List.getElem_mem hv))
def g_L_spots : GC := fun ds μ R => ∃ (a : Addr) (x y z : Int) (n : Nat), ds = [.adr a, .int (n : Nat)] ∧ μ a = some (pot x y z) ∧ 1 ≤ n ∧ n ≤ 7 ∧ ∀ (p : List Nat) (x y z : Int), OkPlaces p → p.length = n → R (.str (toS p)) (put μ a (pot x y z))
def N54 : List Str := ["_law_cask_here", "_law_many_here", "_law_rest", "_law_found", "_law_turn"]
theorem sc54 : FnScope N54 ["_law_cask_here", "_law_many_here"] (defScope (top 54)) := ⟨rfl, rfl, rfl, by decide +kernel, rfl, by decide +kernel, by decide +kernel⟩
theorem ok_L_spots (T : Tx K mg A) : FnOk P w K mg base CX0 3 A.L_spots A.fd_L_spots ["_law_cask_here", "_law_many_here"] (toSp K (g_L_spots)) := by
  refine okDF T.F_L_spots sc54 (fun ds μ R h => ?_) ⟨_, fun cdv A0 outer s H E hr =>
    (dss_cons (ds_par (i := 2) (j := 3) (by rfl) sc54.nd rfl rfl (by decide) rfl rfl (da_cons (de_callTy (call_listS (by rfl)) sim_listSC (by rfl) T.z_list boot_list (da_cons de_str da_nil)) (da_cons (de_cell da_nil) da_nil)) (by rfl))
      (dss_cons (ds_for PassesOwn.never rfl (di_range (by rfl) T.z_range (da_cons (dv 1) da_nil)) (pg_name (i := 4) sc54.nd rfl (by first | exact Or.inl rfl | exact Or.inr rfl)) (sim_nm (i := 4))
      (dss_one (ds_expr (de_bm PySem.F.plainAttrs_list PySem.F.slot_list_append PySem.F.type_list_append mt_append sim_append ok_cell (dv 3) (da_cons (de_bm PySem.F.plainAttrs_list PySem.F.slot_list_pop PySem.F.type_list_pop mt_popAt sim_popAt ok_cell (dv 2) (da_cons (de_call ((ok_L_tap T).mono (by decide)) hr (by rfl) T.g_L_tap T.F_L_tap.kp T.b_L_tap (da_cons (dv 0) (da_cons (de_callB cr_len sim_lenC (by rfl) T.z_len boot_len (da_cons (dv 2) da_nil)) da_nil))) da_nil)) da_nil)))))
      (dss_one (ds_ret (de_bm PySem.F.plainAttrs_str PySem.F.slot_str_join PySem.F.type_str_join mt_join sim_join ok_str de_str (da_cons (de_callB cr_sortedS sim_srtC (by rfl) T.z_sorted boot_sorted (da_cons (dv 3) da_nil)) da_nil)))))), fun ds μ R h => ?_⟩
  · obtain ⟨a, x, y, z, n, rfl, _⟩ := h
    rfl
  · obtain ⟨a, x, y, z, n, rfl, ha, n1, n7, h⟩ := h
    have sl8 : ("abcdefgh" : Str).length ≤ sizeLine := by
      have e : ("abcdefgh" : Str).length = 8 := by decide +kernel
      rw [e, sizeLine_eq]
      omega
    have z0 : 0 ≤ sizeLine := by decide
    have s0 : Sa μ μ a := ⟨fun c o _ e => e, ⟨x, y, z, ha⟩⟩
    refine ⟨sl8, fun b1 m1' => ?_⟩
    obtain ⟨m1, e1⟩ := s0.new m1'
    have s1 : Sa μ (put μ b1 (.lst (DL.signs ("abcdefgh" : Str)))) a := s0.cell m1 e1 _
    have c1 : Sc μ (put μ b1 (.lst (DL.signs ("abcdefgh" : Str)))) a b1 (chs eight) := ⟨by rw [put_same, eight_signs], m1, e1⟩
    generalize put μ b1 (.lst (DL.signs ("abcdefgh" : Str))) = μ1 at s1 c1 ⊢
    refine ⟨z0, fun b2 n2 => ?_⟩
    obtain ⟨m2, e2⟩ := s1.new n2
    have d12 : b1 ≠ b2 := c1.apart (l' := []) n2
    have s2 := s1.cell m2 e2 (.lst [])
    have c1 := c1.other (o := .lst []) d12
    have c2 : Sc μ (put μ1 b2 (.lst [])) a b2 (chs []) := ⟨put_same, m2, e2⟩
    generalize put μ1 b2 (.lst []) = μ2 at s2 c1 c2 ⊢
    refine ⟨⟨by omega, by omega⟩, ?_⟩
    have en : ((List.range ((n : Nat) : Int).toNat).map fun i => D.int (i : Nat)).length = n := by
      rw [List.length_map, List.length_range]
      omega
    refine ⟨fun i δ' μ' => ∃ (pl fo : List Nat) (o4 : Option D), Sa μ μ' a ∧ Sc μ μ' a b1 (chs pl) ∧ Sc μ μ' a b2 (chs fo) ∧ (pl ++ fo).Perm eight ∧ fo.length = i ∧
      δ' = [some (.adr a), some (.int (n : Nat)), some (.adr b1), some (.adr b2), o4], ⟨eight, [], none, s2, c1, c2, by rw [List.append_nil], rfl, rfl⟩, ?_, ?_⟩
    · rintro i it δ' μ' hi ⟨pl, fo, o4, s, k1, k2, hp, hl, rfl⟩
      obtain ⟨hi, rfl⟩ := range_at hi
      have hi : i < n := by omega
      have hpl : pl.length + fo.length = 8 := by
        have := hp.length_eq
        rw [List.length_append] at this
        exact this
      refine ⟨cell_ok k2.at_, ?_⟩
      refine ⟨cell_ok k1.at_, ?_⟩
      refine ⟨_, _, rfl, k1.at_, ?_⟩
      obtain ⟨px, py, pz, hpot⟩ := s.has
      have lc : (chs pl).length = pl.length := List.length_map _
      refine ⟨a, px, py, pz, _, rfl, hpot, by rw [lc]; omega, by rw [lc]; omega, fun v x y z hv => ?_⟩
      rw [lc] at hv
      have hv : v < pl.length := by omega
      have s := s.draw x y z
      have k1 := k1.draw x y z
      have k2 := k2.draw x y z
      generalize put μ' a (pot x y z) = μ5 at s k1 k2 ⊢
      refine ⟨_, k1.at_, by omega, by omega, .str (sg pl[v]), ?_, ?_⟩
      · show (chs pl)[v]? = _
        unfold chs
        rw [List.getElem?_map, List.getElem?_eq_getElem hv]
        rfl
      · have ee : (chs pl).eraseIdx ((v : Int)).toNat = chs (pl.eraseIdx v) := by
          unfold chs
          rw [erase_map]
          rfl
        rw [ee]
        have s := s.cell k1.new k1.ne (.lst (chs (pl.eraseIdx v)))
        have k2 := k2.other (o := .lst (chs (pl.eraseIdx v))) d12.symm
        have k1 := k1.same (m := chs (pl.eraseIdx v))
        generalize put μ5 b1 (.lst (chs (pl.eraseIdx v))) = μ6 at s k1 k2 ⊢
        refine ⟨_, k2.at_, by unfold chs; rw [List.length_map, sizeLine_eq]; omega, ?_⟩
        have ef : chs fo ++ [.str (sg pl[v])] = chs (fo ++ [pl[v]]) := by
          unfold chs
          rw [List.map_append]
          rfl
        rw [ef]
        refine ⟨pl.eraseIdx v, fo ++ [pl[v]], _, s.cell k2.new k2.ne _, k1.other d12, k2.same, ?_, by rw [List.length_append, hl]; rfl, rfl⟩
        refine .trans ?_ hp
        have p1 : (pl[v] :: pl.eraseIdx v).Perm pl := erase_perm pl v hv
        refine .trans ?_ (p1.append_right fo)
        rw [← List.append_assoc]
        exact List.perm_append_comm.trans (by simp)
    · rintro δ' μ' ⟨pl, fo, o4, s, k1, k2, hp, hl, rfl⟩
      rw [en] at hl
      refine ⟨trivial, ?_⟩
      refine ⟨_, fo.map sg, rfl, by rw [k2.at_]; unfold chs; rw [List.map_map]; rfl, by rw [List.length_map]; omega, fun ys hy hs => ?_⟩
      obtain ⟨p, q1, q2, rfl⟩ := sorted_signs hy hs
      have hpl : p.length = n := by rw [q1.length_eq, hl]
      have nod : (pl ++ fo).Nodup := hp.nodup_iff.mpr (by decide)
      have nf : fo.Nodup := (List.nodup_append.mp nod).2.1
      have np : p.Nodup := q1.nodup_iff.mpr nf
      have asc : p.Pairwise (· < ·) := by
        have := List.Pairwise.and q2 np
        exact this.imp fun h => Nat.lt_of_le_of_ne h.1 h.2
      have op : OkPlaces p := by
        refine ⟨by omega, by omega, asc, fun c hc => ?_⟩
        have : c ∈ eight := hp.subset (List.mem_append_right _ (q1.subset hc))
        simp [eight] at this
        omega
      have e0 : ("" : Str).length = 0 := by decide +kernel
      refine ⟨_, rfl, by rw [sum_sg, e0]; omega, ?_⟩
      rw [join_sg]
      exact s.back fun x y z => h p x y z op hpl
def g_L_joint : GC := fun ds μ R => ∃ c d : Nat, ds = [.str (sg c), .str (sg d)] ∧ R (.str (yTie (min c d) (max c d))) μ
def N55 : List Str := ["_law_one", "_law_two"]
theorem sc55 : FnScope N55 ["_law_one", "_law_two"] (defScope (top 55)) := ⟨rfl, rfl, rfl, by decide +kernel, rfl, by decide +kernel, by decide +kernel⟩
theorem ok_L_joint (T : Tx K mg A) : FnOk P w K mg base CX0 1 A.L_joint A.fd_L_joint ["_law_one", "_law_two"] (toSp K (g_L_joint)) := by
  refine okD T.F_L_joint sc55 (fun ds μ R h => ?_) ⟨_, fun cdv A0 outer s H E hr =>
    (dss_one (ds_ret (de_if (dt_cmp op_leA sim_ord (dv 0) (dv 1) (nomark _)) (de_op op_plus sim_plus (dv 0) (dv 1)) (de_op op_plus sim_plus (dv 1) (dv 0))))), fun ds μ R h => ?_⟩
  · obtain ⟨c, d, rfl, _⟩ := h
    rfl
  · obtain ⟨c, d, rfl, h⟩ := h
    have e : ((sg d).cps.toList < (sg c).cps.toList) ↔ d < c := by
      show [d] < [c] ↔ _
      rw [List.cons_lt_cons_iff]
      exact ⟨fun h => h.elim id fun h => absurd h.2 (List.not_lt_nil _), .inl⟩
    refine if_case (c := !decide ((sg d).cps.toList < (sg c).cps.toList)) (fun q => ?_) (fun q => ?_)
    · have q : c ≤ d := by
        simp [e] at q
        omega
      refine ⟨by show 1 + 1 ≤ sizeLine; decide, ?_⟩
      rw [Nat.min_eq_left q, Nat.max_eq_right q] at h
      exact h
    · have q : d ≤ c := by
        simp [e] at q
        omega
      refine ⟨by show 1 + 1 ≤ sizeLine; decide, ?_⟩
      rw [Nat.min_eq_right q, Nat.max_eq_left q] at h
      exact h
theorem _root_.DL.Into.tup2 {x d d' : D} {μ μ' : Mu} (h : Into d μ d' μ') : Into (.tup [x, d]) μ (.tup [x, d']) μ' := ⟨fun K H v rm r => by
  obtain ⟨a, vs, rfl, im, rl⟩ := rep_tup r
  unfold RepL at rl
  obtain ⟨vx, r, rfl, rx, rl⟩ := rl
  unfold RepL at rl
  obtain ⟨vd, r, rfl, rd, rl⟩ := rl
  obtain ⟨k, rm', r2⟩ := h.ok K H vd rm rd
  refine ⟨k, rm', ?_⟩
  unfold RepL at rl
  subst rl
  unfold Rep
  exact ⟨a, _, rfl, im.mono k, RepL.cons (rx.mono k) (RepL.cons r2 RepL.nil)⟩⟩
theorem Sa.out {μ μ1 : Mu} {a b : Addr} {l : List D} (s : Sa μ μ1 a) (c : Sc μ μ1 a b l) : ∃ μ2 : Mu, Into (.adr b) μ1 (.lst l) μ2 ∧ ∃ x y z, μ2 = put μ a (pot x y z) := by
  obtain ⟨x, y, z, e⟩ := s.has
  refine ⟨put μ a (pot x y z), .trans (.frz c.at_) (.less fun d o hd => ?_), x, y, z, rfl⟩
  by_cases q : d = a
  · rw [q, put_same] at hd
    rw [q, del_ne c.ne.symm, e]
    exact hd
  · rw [put_ne q] at hd
    have nb : d ≠ b := fun z => by rw [z, c.new] at hd; cases hd
    rw [del_ne nb]
    exact s.keep d o q hd
def dNet (p : List Nat) (ts : List Str) : D := .tup [.str (toS p), .lst (ts.map D.str)]
def g_L_net : GC := fun ds μ R => ∃ (a : Addr) (x y z : Int) (most many : Nat), ds = [.adr a, .int (most : Nat), .int (many : Nat)] ∧ μ a = some (pot x y z) ∧ 1 ≤ most ∧ most ≤ 7 ∧ many ≤ 11 ∧
  ∀ (p : List Nat) (ts : List Str) (x y z : Int), OkPlaces p → OkT p ts → p.length ≤ most → ts.length ≤ many → R (dNet p ts) (put μ a (pot x y z))
theorem chs_in {p : List Nat} {d : D} (h : d ∈ chs p) : ∃ c, c ∈ p ∧ d = .str (sg c) := by
  obtain ⟨c, hc, rfl⟩ := List.mem_map.mp h
  exact ⟨c, hc, rfl⟩
theorem signs_chs (p : List Nat) : DL.signs (toS p) = chs p := by
  unfold DL.signs chs
  rw [toS_list]
  rfl
theorem OkT.setLast {p : List Nat} {ts : List Str} (h : OkT p ts) {y : Str} (hy : y ∈ ts) (k : Nat) : OkT p (ts.set k y) := ⟨fun z hz => by
  rcases List.mem_or_eq_of_mem_set hz with q | q
  · exact h.ties z q
  · rw [q]; exact h.ties y hy⟩
def N56 : List Str := ["_law_cask_here", "_law_most_spots", "_law_most_rows", "_law_spots_here", "_law_rows", "_law_turn"]
theorem sc56 : FnScope N56 ["_law_cask_here", "_law_most_spots", "_law_most_rows"] (defScope (top 56)) := ⟨rfl, rfl, rfl, by decide +kernel, rfl, by decide +kernel, by decide +kernel⟩
theorem ok_L_net (T : Tx K mg A) : FnOk P w K mg base CX0 4 A.L_net A.fd_L_net ["_law_cask_here", "_law_most_spots", "_law_most_rows"] (toSp K (g_L_net)) := by
  refine okDF T.F_L_net sc56 (fun ds μ R h => ?_) ⟨_, fun cdv A0 outer s H E hr =>
    (dss_cons (ds_set sc56.nd (i := 3) rfl (by first | exact Or.inl rfl | exact Or.inr rfl) (de_call ((ok_L_spots T).mono (by decide)) hr (by rfl) T.g_L_spots T.F_L_spots.kp T.b_L_spots (da_cons (dv 0) (da_cons (de_op op_plus sim_plus de_int (de_call ((ok_L_tap T).mono (by decide)) hr (by rfl) T.g_L_tap T.F_L_tap.kp T.b_L_tap (da_cons (dv 0) (da_cons (dv 1) da_nil)))) da_nil))))
      (dss_cons (ds_set sc56.nd (i := 4) rfl (by first | exact Or.inl rfl | exact Or.inr rfl) (de_cell da_nil))
      (dss_cons (ds_for PassesOwn.never rfl (di_range (by rfl) T.z_range (da_cons (de_call ((ok_L_tap T).mono (by decide)) hr (by rfl) T.g_L_tap T.F_L_tap.kp T.b_L_tap (da_cons (dv 0) (da_cons (de_op op_plus sim_plus (dv 2) de_int) da_nil))) da_nil)) (pg_name (i := 5) sc56.nd rfl (by first | exact Or.inl rfl | exact Or.inr rfl)) (sim_nm (i := 5))
      (dss_cons (ds_expr (de_bm PySem.F.plainAttrs_list PySem.F.slot_list_append PySem.F.type_list_append mt_append sim_append ok_cell (dv 4) (da_cons (de_call ((ok_L_joint T).mono (by decide)) hr (by rfl) T.g_L_joint T.F_L_joint.kp T.b_L_joint (da_cons (de_call ((ok_L_pick T).mono (by decide)) hr (by rfl) T.g_L_pick T.F_L_pick.kp T.b_L_pick (da_cons (dv 0) (da_cons (de_callTy (call_listS (by rfl)) sim_listS (by rfl) T.z_list boot_list (da_cons (dv 3) da_nil)) da_nil))) (da_cons (de_call ((ok_L_pick T).mono (by decide)) hr (by rfl) T.g_L_pick T.F_L_pick.kp T.b_L_pick (da_cons (dv 0) (da_cons (de_callTy (call_listS (by rfl)) sim_listS (by rfl) T.z_list boot_list (da_cons (dv 3) da_nil)) da_nil))) da_nil))) da_nil)))
      (dss_one (ds_if (dt_cmp (op_eqA hr.units) sim_eq (de_call ((ok_L_tap T).mono (by decide)) hr (by rfl) T.g_L_tap T.F_L_tap.kp T.b_L_tap (da_cons (dv 0) (da_cons de_int da_nil))) de_int (nomark _)) (dss_one (ds_asgH (de_ix ix_any sim_ixC (dv 4) de_int (fun _ _ => rfl)) (pg_subD (dv 4) (de_un un_neg sim_neg de_int)) simH_subD)) dss_nil))))
      (dss_one (ds_ret (de_tup (da_cons (dv 3) (da_cons (dv 4) da_nil)))))))), fun ds μ R h => ?_⟩
  · obtain ⟨a, x, y, z, most, many, rfl, _⟩ := h
    rfl
  · obtain ⟨a, x, y, z, most, many, rfl, ha, hm1, hm2, hmm, h⟩ := h
    have z0 : 0 ≤ sizeLine := by decide
    have s0 : Sa μ μ a := ⟨fun c o _ e => e, ⟨x, y, z, ha⟩⟩
    refine ⟨a, x, y, z, _, rfl, ha, by omega, by omega, fun d x y z hd => ?_⟩
    have s1 := s0.draw x y z
    generalize put μ a (pot x y z) = μ1 at s1 ⊢
    obtain ⟨px, py, pz, hpot⟩ := s1.has
    refine ⟨a, px, py, pz, 1 + d, congrArg (fun q => [D.adr a, D.int q]) (by omega), hpot, by omega, by omega, fun p x y z op hpl => ?_⟩
    have s1 := s1.draw x y z
    generalize put μ1 a (pot x y z) = μ2 at s1 ⊢
    have p1 := op.one
    refine ⟨z0, fun b2 n2 => ?_⟩
    obtain ⟨m2, e2⟩ := s1.new n2
    have s2 := s1.cell m2 e2 (.lst [])
    have c2 : Sc μ (put μ2 b2 (.lst [])) a b2 (([] : List Str).map D.str) := ⟨put_same, m2, e2⟩
    generalize put μ2 b2 (.lst []) = μ3 at s2 c2 ⊢
    obtain ⟨px, py, pz, hpot⟩ := s2.has
    refine ⟨a, px, py, pz, _, rfl, hpot, by omega, by omega, fun n x y z hn => ?_⟩
    have s2 := s2.draw x y z
    have c2 := c2.draw x y z
    generalize put μ3 a (pot x y z) = μ4 at s2 c2 ⊢
    have hn : n ≤ many := by omega
    refine ⟨⟨by omega, by omega⟩, ?_⟩
    have en : ((n : Nat) : Int).toNat = n := Int.toNat_natCast _
    rw [en]
    have lc : (chs p).length = p.length := List.length_map _
    have tl : (toS p).length ≤ sizeLine := by rw [toS_len, sizeLine_eq]; omega
    refine ⟨fun i δ' μ' => ∃ (ts : List Str) (o5 : Option D), Sa μ μ' a ∧ Sc μ μ' a b2 (ts.map D.str) ∧ OkT p ts ∧ ts.length = i ∧
      δ' = [some (.adr a), some (.int (most : Nat)), some (.int (many : Nat)), some (.str (toS p)), some (.adr b2), o5], ⟨[], none, s2, c2, ⟨fun y hy => by cases hy⟩, rfl, rfl⟩, ?_, ?_⟩
    · rintro i it δ' μ' hi ⟨ts, o5, s, k2, ot, ht, rfl⟩
      obtain ⟨hi, rfl⟩ := range_at hi
      refine ⟨cell_ok k2.at_, ?_⟩
      refine ⟨tl, ?_⟩
      rw [signs_chs]
      obtain ⟨px, py, pz, hpot⟩ := s.has
      refine ⟨a, px, py, pz, _, rfl, hpot, by rw [lc]; omega, by rw [lc]; omega, fun d1 x y z hd1 => ?_⟩
      obtain ⟨ca, hca, rfl⟩ := chs_in hd1
      have s := s.draw x y z
      have k2 := k2.draw x y z
      generalize put μ' a (pot x y z) = μ7 at s k2 ⊢
      refine ⟨tl, ?_⟩
      rw [signs_chs]
      obtain ⟨px, py, pz, hpot⟩ := s.has
      refine ⟨a, px, py, pz, _, rfl, hpot, by rw [lc]; omega, by rw [lc]; omega, fun d2 x y z hd2 => ?_⟩
      obtain ⟨cb, hcb, rfl⟩ := chs_in hd2
      have s := s.draw x y z
      have k2 := k2.draw x y z
      generalize put μ7 a (pot x y z) = μ8 at s k2 ⊢
      obtain ⟨q1, q2, q3⟩ := mm_in hca hcb
      refine ⟨_, _, rfl, ?_⟩
      have ef : ts.map D.str ++ [.str (yTie (min ca cb) (max ca cb))] = (ts ++ [yTie (min ca cb) (max ca cb)]).map D.str := by
        rw [List.map_append]
        rfl
      refine ⟨_, k2.at_, by rw [List.length_map, sizeLine_eq]; omega, ?_⟩
      rw [ef]
      have s := s.cell k2.new k2.ne (.lst ((ts ++ [yTie (min ca cb) (max ca cb)]).map D.str))
      have k2 := k2.same (m := (ts ++ [yTie (min ca cb) (max ca cb)]).map D.str)
      have ot := ot.snoc q1 q2 q3
      have lt : (ts ++ [yTie (min ca cb) (max ca cb)]).length = i + 1 := by rw [List.length_append, ht]; rfl
      generalize ts ++ [yTie (min ca cb) (max ca cb)] = us at s k2 ot lt ⊢
      generalize put μ8 b2 (.lst (us.map D.str)) = μ9 at s k2 ⊢
      obtain ⟨px, py, pz, hpot⟩ := s.has
      refine ⟨a, px, py, pz, _, rfl, hpot, by decide, by decide, fun w x y z hw => ?_⟩
      have s := s.draw x y z
      have k2 := k2.draw x y z
      generalize put μ9 a (pot x y z) = μ10 at s k2 ⊢
      refine if_case (c := decide ((w : Int) = 0)) (fun e => ?_) (fun e => ?_)
      · have h0 : us[0]? = some us[0] := List.getElem?_eq_getElem (by omega)
        refine ⟨b2, 0, us.map D.str, .str us[0], rfl, rfl, k2.at_, by rw [List.getElem?_map, h0]; rfl, ?_⟩
        refine ⟨us.map D.str, i, k2.at_, ?_, ?_⟩
        · rw [List.length_map, lt]
          unfold ixN
          rw [if_neg (by omega), if_pos (by omega)]
          congr 1
          omega
        · have es : (us.map D.str).set i (.str us[0]) = (us.set i us[0]).map D.str := (List.map_set).symm
          rw [es]
          exact ⟨_, _, s.cell k2.new k2.ne _, k2.same, ot.setLast (List.getElem_mem _) i, by rw [List.length_set]; exact lt, rfl⟩
      · exact ⟨us, _, s, k2, ot, lt, rfl⟩
    · rintro δ' μ' ⟨ts, o5, s, k2, ot, ht, rfl⟩
      rw [List.length_map, List.length_range] at ht
      refine ⟨by show 2 ≤ sizeLine; decide, ?_⟩
      obtain ⟨μ5, i5, x, y, z, rfl⟩ := s.out k2
      exact ⟨_, _, i5.tup2, h p ts x y z op ot (by omega) (by omega)⟩
end
end K10
set_option Elab.async false
set_option linter.all false
set_option maxRecDepth 100000
namespace K10
open PySem PySem.Spec PyProof.Rows L2 DL
section
variable {p : List Nat} {ts : List Str}
/-! ### ranks of two lots -/
theorem rank_len (u : p.Pairwise (· ≠ ·)) (he : Ends p ts) : ∀ w : List Nat, In ts w → rankOf p ts w ≤ w.length := by
  intro w hw
  have := nonFix_le u (tiesOf ts w)
  show nonFix (marksL p (tiesOf ts w)) p ≤ w.length
  unfold tiesOf at this
  rw [List.length_map] at this
  exact this
theorem rank_app (u : p.Pairwise (· ≠ ·)) (he : Ends p ts) {a : List Nat} (ha : In ts a) : ∀ w : List Nat, In ts w → rankOf p ts (a ++ w) ≤ rankOf p ts a + w.length := by
  refine snoc_ind (P := fun w => In ts w → rankOf p ts (a ++ w) ≤ rankOf p ts a + w.length) (fun _ => by rw [List.append_nil]; omega) ?_
  intro w k ih hw
  have hw' : In ts w := fun j hj => hw j (List.mem_append.mpr (.inl hj))
  have hk : k < ts.length := hw k (List.mem_append.mpr (.inr (List.mem_singleton.mpr rfl)))
  have := ih hw'
  rw [← List.append_assoc, rank_more u he (fun j hj => (List.mem_append.mp hj).elim (ha j) (hw' j)) hk, List.length_append, List.length_singleton]
  split <;> omega
theorem rank_out (u : p.Pairwise (· ≠ ·)) (he : Ends p ts) {v : List Nat} (hv : In ts v) (nd : v.Nodup) {k : Nat} (hk : k ∈ v) : rankOf p ts v = rankOf p ts (wout v k) + if partsL p ts (wout v k) k = true then 1 else 0 := by
  rw [← rank_more u he (in_wout hv k) (hv k hk)]
  refine lot_rank u he hv (in_snoc (in_wout hv k) (hv k hk)) (fun j hj => ?_) fun j hj => ?_
  · by_cases e : j = k
    · exact List.mem_append.mpr (.inr (List.mem_singleton.mpr e))
    · exact List.mem_append.mpr (.inl (wout_mem.mpr ⟨hj, e⟩))
  · rcases List.mem_append.mp hj with q | q
    · exact (wout_mem.mp q).1
    · rw [List.mem_singleton.mp q]; exact hk
/-! ### rings -/
def ringB (p : List Nat) (ts : List Str) (v : List Nat) : Bool := decide (v.length = rankOf p ts v + 1) && v.all fun k => decide ((wout v k).length = rankOf p ts (wout v k))
theorem ring_len {v : List Nat} (h : ringB p ts v = true) : v.length = rankOf p ts v + 1 := by
  unfold ringB at h
  rw [Bool.and_eq_true] at h
  exact of_decide_eq_true h.1
theorem wout_asc {v : List Nat} (a : v.Pairwise (· < ·)) (k : Nat) : (wout v k).Pairwise (· < ·) := a.filter _
/-- a lot with a spare tie has a ring within it -/
theorem ring_within (u : p.Pairwise (· ≠ ·)) (he : Ends p ts) : ∀ (n : Nat) (v : List Nat), v.length = n → v.Pairwise (· < ·) → In ts v → v.length ≠ rankOf p ts v → ∃ r, r.Pairwise (· < ·) ∧ (∀ k ∈ r, k ∈ v) ∧ ringB p ts r = true
  | n, v, hn, hv, hi, hs => by
    have nd : v.Nodup := hv.imp fun h => Nat.ne_of_lt h
    have le := rank_len u he v hi
    by_cases q : ∀ k ∈ v, (wout v k).length = rankOf p ts (wout v k)
    · refine ⟨v, hv, fun k hk => hk, ?_⟩
      unfold ringB
      rw [Bool.and_eq_true]
      refine ⟨decide_eq_true ?_, List.all_eq_true.mpr fun k hk => decide_eq_true (q k hk)⟩
      have hne : v ≠ [] := fun e => by
        rw [e] at hs le
        exact hs (Nat.le_antisymm (Nat.zero_le _) le)
      obtain ⟨k, hk⟩ := List.exists_mem_of_ne_nil v hne
      have h1 := rank_out u he hi nd hk
      have h2 := wout_len nd hk
      have h3 := q k hk
      split at h1 <;> omega
    · have : ∃ k ∈ v, (wout v k).length ≠ rankOf p ts (wout v k) := by
        apply Classical.byContradiction
        intro z
        exact q fun k hk => Classical.byContradiction fun y => z ⟨k, hk, y⟩
      obtain ⟨k, hk, hq⟩ := this
      have h2 := wout_len nd hk
      match n, hn with
      | 0, hn => omega
      | n + 1, hn =>
        obtain ⟨r, a, b, c⟩ := ring_within u he n (wout v k) (by omega) (wout_asc hv k) (in_wout hi k) hq
        exact ⟨r, a, fun j hj => (wout_mem.mp (b j hj)).1, c⟩
theorem spare_mono (u : p.Pairwise (· ≠ ·)) (he : Ends p ts) {r v : List Nat} (nr : r.Nodup) (nv : v.Nodup) (hv : In ts v) (s : ∀ k ∈ r, k ∈ v) : r.length + rankOf p ts v ≤ v.length + rankOf p ts r := by
  have hr : In ts r := fun k hk => hv k (s k hk)
  have ho : In ts (v.filter fun k => decide (k ∉ r)) := fun k hk => hv k (List.mem_filter.mp hk).1
  have h1 := rank_app u he hr _ ho
  have e : rankOf p ts (r ++ v.filter fun k => decide (k ∉ r)) = rankOf p ts v := lot_rank u he (fun k hk => (List.mem_append.mp hk).elim (hr k) (ho k)) hv (fun k hk => (List.mem_append.mp hk).elim (s k) fun z => (List.mem_filter.mp z).1) fun k hk => by
    by_cases q : k ∈ r
    · exact List.mem_append.mpr (.inl q)
    · exact List.mem_append.mpr (.inr (List.mem_filter.mpr ⟨hk, decide_eq_true q⟩))
  have h2 : (r ++ v.filter fun k => decide (k ∉ r)).length ≤ v.length := by
    refine nodup_le (List.nodup_append.mpr ⟨nr, nv.filter _, fun a ha b hb e => ?_⟩) fun k hk => (List.mem_append.mp hk).elim (s k) fun z => (List.mem_filter.mp z).1
    subst e
    exact of_decide_eq_true (List.mem_filter.mp hb).2 ha
  rw [List.length_append] at h2
  rw [e] at h1
  omega
/-! ### bonds -/
def bondB (p : List Nat) (ts : List Str) (v : List Nat) : Bool := decide (rankOf p ts (outs v ts.length) + 1 = rankOf p ts (List.range ts.length)) && v.all fun k => decide (rankOf p ts (outs v ts.length ++ [k]) = rankOf p ts (List.range ts.length))
theorem in_outs (ts : List Str) (v : List Nat) : In ts (outs v ts.length) := fun k hk => (outs_mem.mp hk).1
theorem bond_rank {v : List Nat} (h : bondB p ts v = true) : rankOf p ts (outs v ts.length) + 1 = rankOf p ts (List.range ts.length) := by
  unfold bondB at h
  rw [Bool.and_eq_true] at h
  exact of_decide_eq_true h.1
theorem bond_miss (u : p.Pairwise (· ≠ ·)) (he : Ends p ts) : ∀ (n : Nat) (w : List Nat), (outs w ts.length).length = n → In ts w → rankOf p ts w ≠ rankOf p ts (List.range ts.length) → ∃ b, b ∈ lotsL ts.length ∧ (∀ k ∈ b, k ∉ w) ∧ bondB p ts b = true
  | n, w, hn, hi, hs => by
    have hr : In ts (List.range ts.length) := fun k hk => List.mem_range.mp hk
    have le := rank_full u he hi
    by_cases q : ∀ k ∈ outs w ts.length, rankOf p ts (w ++ [k]) = rankOf p ts (List.range ts.length)
    · have hne : outs w ts.length ≠ [] := fun e => hs (lot_rank u he hi hr (fun k hk => List.mem_range.mpr (hi k hk)) fun k hk => by
        apply Classical.byContradiction
        intro z
        have : k ∈ outs w ts.length := outs_mem.mpr ⟨List.mem_range.mp hk, z⟩
        rw [e] at this
        cases this)
      obtain ⟨k, hk⟩ := List.exists_mem_of_ne_nil _ hne
      have h1 := rank_more u he hi (outs_mem.mp hk).1
      rw [q k hk] at h1
      refine ⟨outs w ts.length, lots_all _ _ (List.pairwise_lt_range.filter _) (in_outs ts w), fun j hj => (outs_mem.mp hj).2, ?_⟩
      have io : ∀ j, j ∈ outs (outs w ts.length) ts.length ↔ j ∈ w := fun j => by
        rw [outs_mem, outs_mem]
        constructor
        · intro ⟨a, b⟩
          exact Classical.byContradiction fun z => b ⟨a, z⟩
        · intro h
          exact ⟨hi j h, fun z => z.2 h⟩
      have e1 : rankOf p ts (outs (outs w ts.length) ts.length) = rankOf p ts w := lot_rank u he (in_outs ts _) hi (fun j hj => (io j).mp hj) fun j hj => (io j).mpr hj
      unfold bondB
      rw [Bool.and_eq_true, e1]
      refine ⟨decide_eq_true (by split at h1 <;> omega), List.all_eq_true.mpr fun j hj => decide_eq_true ?_⟩
      rw [← q j hj]
      have hj' := (outs_mem.mp hj).1
      exact lot_rank u he (in_snoc (in_outs ts _) hj') (in_snoc hi hj') (fun i hx => by
        rcases List.mem_append.mp hx with z | z
        · exact List.mem_append.mpr (.inl ((io i).mp z))
        · exact List.mem_append.mpr (.inr z)) fun i hx => by
        rcases List.mem_append.mp hx with z | z
        · exact List.mem_append.mpr (.inl ((io i).mpr z))
        · exact List.mem_append.mpr (.inr z)
    · have : ∃ k ∈ outs w ts.length, rankOf p ts (w ++ [k]) ≠ rankOf p ts (List.range ts.length) := by
        apply Classical.byContradiction
        intro z
        exact q fun k hk => Classical.byContradiction fun y => z ⟨k, hk, y⟩
      obtain ⟨k, hk, hq⟩ := this
      obtain ⟨kn, kw⟩ := outs_mem.mp hk
      have less : (outs (w ++ [k]) ts.length).length < (outs w ts.length).length := by
        have e : outs (w ++ [k]) ts.length = wout (outs w ts.length) k := by
          unfold outs wout
          rw [List.filter_filter]
          refine List.filter_congr fun j _ => ?_
          by_cases e1 : j ∈ w <;> by_cases e2 : j = k <;> simp [e1, e2]
        have := wout_len (v := outs w ts.length) ((List.nodup_range).filter _) hk
        rw [e]
        omega
      match n, hn with
      | 0, hn => omega
      | n + 1, hn =>
        obtain ⟨b, h1, h2, h3⟩ := bond_miss u he (outs (w ++ [k]) ts.length).length (w ++ [k]) rfl (in_snoc hi kn) hq
        exact ⟨b, h1, fun j hj z => h2 j hj (List.mem_append.mpr (.inl z)), h3⟩
termination_by n => n
decreasing_by omega
end
/-! ### herds -/
def herdOf (p : List Nat) (ys : List (Nat × Nat)) (a : Nat) : List Nat := p.filter fun c => decide (markOf p (marksL p ys) c = markOf p (marksL p ys) a)
structure Herds (p : List Nat) (ys : List (Nat × Nat)) (hs : List (List Nat)) : Prop where
  nod : hs.Nodup
  all : ∀ h, h ∈ hs ↔ ∃ a, a ∈ p ∧ h = herdOf p ys a
theorem herd_mem {p : List Nat} {ys : List (Nat × Nat)} {a c : Nat} : c ∈ herdOf p ys a ↔ c ∈ p ∧ markOf p (marksL p ys) c = markOf p (marksL p ys) a := by
  unfold herdOf
  rw [List.mem_filter, decide_eq_true_iff]
theorem herd_self {p : List Nat} {ys : List (Nat × Nat)} {a : Nat} (ha : a ∈ p) : a ∈ herdOf p ys a := herd_mem.mpr ⟨ha, rfl⟩
theorem herd_eq {p : List Nat} {ys : List (Nat × Nat)} {a b : Nat} (hb : b ∈ p) : herdOf p ys a = herdOf p ys b ↔ markOf p (marksL p ys) a = markOf p (marksL p ys) b := by
  constructor
  · intro h
    have : b ∈ herdOf p ys a := by rw [h]; exact herd_self hb
    exact (herd_mem.mp this).2.symm
  · intro h
    unfold herdOf
    rw [h]
theorem Herds.perm {p : List Nat} {ys : List (Nat × Nat)} {hs gs : List (List Nat)} (h : Herds p ys hs) (g : Herds p ys gs) : hs.Perm gs := (List.perm_ext_iff_of_nodup h.nod g.nod).mpr fun x => by rw [h.all, g.all]
/-- the herds in the order of their marks -/
def herdsL (p : List Nat) (ys : List (Nat × Nat)) : List (List Nat) := (fixes (marksL p ys) p).map (herdOf p ys)
theorem fix_mem {p : List Nat} {r : List Nat} {c : Nat} : c ∈ fixes r p ↔ c ∈ p ∧ markOf p r c = c := by
  unfold fixes markOf
  rw [List.mem_filter, decide_eq_true_iff]
theorem herdsL_are {p : List Nat} (u : p.Pairwise (· ≠ ·)) {ys : List (Nat × Nat)} (hy : InP p ys) : Herds p ys (herdsL p ys) := by
  refine ⟨?_, fun h => ?_⟩
  · unfold herdsL
    refine List.pairwise_map.mpr ?_
    have nd : (fixes (marksL p ys) p).Pairwise (· ≠ ·) := u.filter _
    refine (List.Pairwise.and_mem.mp nd).imp fun {a b} ⟨ha, hb, ne⟩ e => ne ?_
    have := (herd_eq (fix_mem.mp hb).1).mp e
    rw [(fix_mem.mp ha).2, (fix_mem.mp hb).2] at this
    exact this
  · unfold herdsL
    rw [List.mem_map]
    constructor
    · rintro ⟨a, ha, rfl⟩
      exact ⟨a, (fix_mem.mp ha).1, rfl⟩
    · rintro ⟨a, ha, rfl⟩
      obtain ⟨m1, m2⟩ := mark_root u hy ha
      exact ⟨_, fix_mem.mpr ⟨m1, m2⟩, (herd_eq ha).mpr m2⟩
theorem herdsL_len {p : List Nat} (u : p.Pairwise (· ≠ ·)) (ys : List (Nat × Nat)) : (herdsL p ys).length + nonFix (marksL p ys) p = p.length := by
  unfold herdsL
  rw [List.length_map, fixes_len u (marks_len p ys)]
  exact fix_count _ _ (marks_len p ys)
theorem herds_len {p : List Nat} (u : p.Pairwise (· ≠ ·)) {ys : List (Nat × Nat)} (hy : InP p ys) {hs : List (List Nat)} (h : Herds p ys hs) : hs.length + nonFix (marksL p ys) p = p.length := by
  rw [(h.perm (herdsL_are u hy)).length_eq]
  exact herdsL_len u ys
/-- a tie more -/
theorem herds_step {p : List Nat} (u : p.Pairwise (· < ·)) {ys : List (Nat × Nat)} {y : Nat × Nat} (hy : InP p (ys ++ [y])) {hs : List (List Nat)} (h : Herds p ys hs) {m : List Nat}
    (hm : m.Perm ((hs.filter fun h => decide (y.1 ∈ h) || decide (y.2 ∈ h)).flatten)) (as : m.Pairwise (· ≤ ·)) : Herds p (ys ++ [y]) ((hs.filter fun h => decide (h ∉ hs.filter fun h => decide (y.1 ∈ h) || decide (y.2 ∈ h))) ++ [m]) := by
  have un : p.Pairwise (· ≠ ·) := u.imp fun h => Nat.ne_of_lt h
  obtain ⟨y1, y2⟩ := hy.last
  have hy0 := hy.left
  have near : ∀ x, x ∈ hs.filter (fun h => decide (y.1 ∈ h) || decide (y.2 ∈ h)) ↔ x = herdOf p ys y.1 ∨ x = herdOf p ys y.2 := fun x => by
    rw [List.mem_filter, Bool.or_eq_true, decide_eq_true_iff, decide_eq_true_iff, h.all]
    constructor
    · rintro ⟨⟨a, ha, rfl⟩, q | q⟩
      · exact .inl ((herd_eq y1).mpr (herd_mem.mp q).2.symm)
      · exact .inr ((herd_eq y2).mpr (herd_mem.mp q).2.symm)
    · rintro (rfl | rfl)
      · exact ⟨⟨_, y1, rfl⟩, .inl (herd_self y1)⟩
      · exact ⟨⟨_, y2, rfl⟩, .inr (herd_self y2)⟩
  -- the herd that is made
  let N := p.filter fun c => decide (markOf p (marksL p ys) c = markOf p (marksL p ys) y.1) || decide (markOf p (marksL p ys) c = markOf p (marksL p ys) y.2)
  have nf : ((hs.filter fun h => decide (y.1 ∈ h) || decide (y.2 ∈ h)).flatten).Nodup := by
    refine List.pairwise_flatten.mpr ⟨fun l hl => ?_, ?_⟩
    · rcases (near l).mp hl with rfl | rfl <;> exact un.filter _
    · have nd : (hs.filter fun h => decide (y.1 ∈ h) || decide (y.2 ∈ h)).Nodup := h.nod.filter _
      refine (List.Pairwise.and_mem.mp nd).imp fun {a b} ⟨ha, hb, ne⟩ => ?_
      obtain ⟨c, hc, rfl⟩ := (h.all a).mp (List.mem_filter.mp ha).1
      obtain ⟨d, hd, rfl⟩ := (h.all b).mp (List.mem_filter.mp hb).1
      intro x hx x2 hx2 ex
      subst ex
      have e1 := (herd_mem.mp hx).2
      have e2 := (herd_mem.mp hx2).2
      exact ne ((herd_eq hd).mpr (e1.symm.trans e2))
  have em : m = N := by
    have mem : ∀ c, c ∈ m ↔ c ∈ N := fun c => by
      rw [hm.mem_iff, List.mem_flatten]
      show _ ↔ c ∈ p.filter _
      rw [List.mem_filter, Bool.or_eq_true, decide_eq_true_iff, decide_eq_true_iff]
      constructor
      · rintro ⟨l, hl, hc⟩
        rcases (near l).mp hl with rfl | rfl
        · exact ⟨(herd_mem.mp hc).1, .inl (herd_mem.mp hc).2⟩
        · exact ⟨(herd_mem.mp hc).1, .inr (herd_mem.mp hc).2⟩
      · rintro ⟨hc, q | q⟩
        · exact ⟨_, (near _).mpr (.inl rfl), herd_mem.mpr ⟨hc, q⟩⟩
        · exact ⟨_, (near _).mpr (.inr rfl), herd_mem.mpr ⟨hc, q⟩⟩
    have pm : m.Perm N := (List.perm_ext_iff_of_nodup (hm.nodup_iff.mpr nf) (un.filter _)).mpr mem
    exact pm.eq_of_pairwise (fun _ _ _ _ a b => Nat.le_antisymm a b) as ((u.filter _).imp fun h => Nat.le_of_lt h)
  -- the marks behind the step
  have mk : ∀ c, c ∈ p → markOf p (marksL p (ys ++ [y])) c = if markOf p (marksL p ys) c = max (markOf p (marksL p ys) y.1) (markOf p (marksL p ys) y.2) then min (markOf p (marksL p ys) y.1) (markOf p (marksL p ys) y.2) else markOf p (marksL p ys) c := fun c hc => by
    rw [marksL_snoc]
    exact mark_step (marks_len p ys) hc
  have joined : ∀ a, a ∈ p → (markOf p (marksL p ys) a = markOf p (marksL p ys) y.1 ∨ markOf p (marksL p ys) a = markOf p (marksL p ys) y.2) → herdOf p (ys ++ [y]) a = N := fun a ha q => by
    refine List.filter_congr fun c hc => ?_
    rw [mk c hc, mk a ha, ← Bool.decide_or]
    refine decide_eq_decide.mpr ?_
    generalize markOf p (marksL p ys) c = x at *
    generalize markOf p (marksL p ys) a = z at *
    generalize markOf p (marksL p ys) y.1 = r at *
    generalize markOf p (marksL p ys) y.2 = s at *
    constructor
    · intro hh
      split at hh <;> split at hh <;> omega
    · intro hh
      split <;> split <;> omega
  have apart : ∀ a, a ∈ p → ¬ (markOf p (marksL p ys) a = markOf p (marksL p ys) y.1 ∨ markOf p (marksL p ys) a = markOf p (marksL p ys) y.2) → herdOf p (ys ++ [y]) a = herdOf p ys a := fun a ha q => by
    refine List.filter_congr fun c hc => ?_
    rw [mk c hc, mk a ha]
    refine decide_eq_decide.mpr ?_
    generalize markOf p (marksL p ys) c = x at *
    generalize markOf p (marksL p ys) a = z at *
    generalize markOf p (marksL p ys) y.1 = r at *
    generalize markOf p (marksL p ys) y.2 = s at *
    constructor
    · intro hh
      split at hh <;> split at hh <;> omega
    · intro hh
      split <;> split <;> omega
  have isNear : ∀ a, a ∈ p → (herdOf p ys a ∈ hs.filter (fun h => decide (y.1 ∈ h) || decide (y.2 ∈ h)) ↔ (markOf p (marksL p ys) a = markOf p (marksL p ys) y.1 ∨ markOf p (marksL p ys) a = markOf p (marksL p ys) y.2)) := fun a ha => by
    rw [near, herd_eq y1, herd_eq y2]
  have hN : N = herdOf p (ys ++ [y]) y.1 := (joined _ y1 (.inl rfl)).symm
  refine ⟨?_, fun x => ?_⟩
  · rw [List.nodup_append]
    refine ⟨h.nod.filter _, (List.pairwise_singleton _ _), fun a ha b hb e => ?_⟩
    rw [List.mem_singleton.mp hb, em] at e
    obtain ⟨h1, h2⟩ := List.mem_filter.mp ha
    obtain ⟨c, hc, rfl⟩ := (h.all a).mp h1
    have h2 := of_decide_eq_true h2
    refine h2 ((isNear c hc).mpr ?_)
    have : c ∈ N := by rw [← e]; exact herd_self hc
    have := (List.mem_filter.mp this).2
    rw [Bool.or_eq_true, decide_eq_true_iff, decide_eq_true_iff] at this
    exact this
  · rw [List.mem_append, List.mem_singleton, List.mem_filter, decide_eq_true_iff, h.all, em]
    constructor
    · rintro (⟨⟨a, ha, rfl⟩, q⟩ | rfl)
      · exact ⟨a, ha, (apart a ha fun z => q ((isNear a ha).mpr z)).symm⟩
      · exact ⟨_, y1, hN⟩
    · rintro ⟨a, ha, rfl⟩
      by_cases q : (markOf p (marksL p ys) a = markOf p (marksL p ys) y.1 ∨ markOf p (marksL p ys) a = markOf p (marksL p ys) y.2)
      · exact .inr (joined a ha q)
      · rw [apart a ha q]
        exact .inl ⟨⟨a, ha, rfl⟩, fun z => q ((isNear a ha).mp z)⟩
theorem herds_start {p : List Nat} (u : p.Pairwise (· ≠ ·)) : Herds p [] (p.map fun c => [c]) := by
  have e : ∀ a, a ∈ p → herdOf p [] a = [a] := fun a ha => by
    have : ∀ c, c ∈ p → (decide (markOf p (marksL p []) c = markOf p (marksL p []) a)) = decide (c = a) := fun c hc => by
      show decide (markOf p p c = markOf p p a) = _
      rw [mark_self hc, mark_self ha]
    unfold herdOf
    rw [List.filter_congr this]
    have h1 : (p.filter fun c => decide (c = a)).Nodup := u.filter _
    have h2 : ∀ c, c ∈ p.filter (fun c => decide (c = a)) ↔ c ∈ [a] := fun c => by
      rw [List.mem_filter, decide_eq_true_iff, List.mem_singleton]
      exact ⟨fun h => h.2, fun h => ⟨by rw [h]; exact ha, h⟩⟩
    exact List.perm_singleton.mp ((List.perm_ext_iff_of_nodup h1 (List.pairwise_singleton _ a)).mpr h2)
  refine ⟨List.pairwise_map.mpr (u.imp fun h z => h (by cases z; rfl)), fun x => ?_⟩
  rw [List.mem_map]
  constructor
  · rintro ⟨a, ha, rfl⟩
    exact ⟨a, ha, (e a ha).symm⟩
  · rintro ⟨a, ha, rfl⟩
    exact ⟨a, ha, (e a ha).symm⟩
/-! ### herds in the order of texts -/
theorem herd_head {p : List Nat} (u : p.Pairwise (· < ·)) {ys : List (Nat × Nat)} (hy : InP p ys) {a : Nat} (ha : a ∈ fixes (marksL p ys) p) : ∃ r, herdOf p ys a = a :: r := by
  obtain ⟨hp, hm⟩ := fix_mem.mp ha
  have hs := herd_self (ys := ys) hp
  cases q : herdOf p ys a with
  | nil => rw [q] at hs; cases hs
  | cons b r =>
    have asc : (herdOf p ys a).Pairwise (· < ·) := u.filter _
    have hb : b ∈ herdOf p ys a := by rw [q]; exact List.mem_cons_self
    obtain ⟨b1, b2⟩ := herd_mem.mp hb
    have le := mark_le ys hy b b1
    rw [b2, hm] at le
    rw [q] at hs asc
    rcases List.mem_cons.mp hs with e | e
    · rw [e]; exact ⟨r, rfl⟩
    · have := (List.pairwise_cons.mp asc).1 a e
      omega
theorem herdsL_asc {p : List Nat} (u : p.Pairwise (· < ·)) {ys : List (Nat × Nat)} (hy : InP p ys) : (herdsL p ys).Pairwise (· < ·) := by
  unfold herdsL
  refine List.pairwise_map.mpr ?_
  have asc : (fixes (marksL p ys) p).Pairwise (· < ·) := u.filter _
  refine (List.Pairwise.and_mem.mp asc).imp fun {a b} ⟨ha, hb, lt⟩ => ?_
  obtain ⟨r, e1⟩ := herd_head u hy ha
  obtain ⟨s, e2⟩ := herd_head u hy hb
  rw [e1, e2]
  exact List.cons_lt_cons_iff.mpr (.inl lt)
theorem ltCps_lt : ∀ a b : List Nat, ltCps a b = decide (a < b)
  | [], [] => by simp [ltCps]
  | [], _ :: _ => by simp [ltCps]
  | _ :: _, [] => by simp [ltCps]
  | a :: r, b :: t => by
    unfold ltCps
    rw [ltCps_lt r t, Bool.eq_iff_iff]
    simp [List.cons_lt_cons_iff]
theorem rising_le : ∀ (hs : List (List Nat)) (a : List Nat), risingS (toS a) (hs.map toS) = true → (a :: hs).Pairwise fun a b => ¬ b < a
  | [], a, _ => by simp
  | b :: hs, a, h => by
    have h : (!ltCps (toS b).cps.toList (toS a).cps.toList && risingS (toS b) (hs.map toS)) = true := h
    rw [Bool.and_eq_true, toS_list, toS_list, ltCps_lt] at h
    have ih := rising_le hs b h.2
    have h1 : ¬ b < a := by simpa using h.1
    refine List.pairwise_cons.mpr ⟨fun c hc => ?_, ih⟩
    rcases List.mem_cons.mp hc with e | hc
    · rw [e]; exact h1
    · have h2 := (List.pairwise_cons.mp ih).1 c hc
      exact List.not_lt.mpr (List.le_trans (List.not_lt.mp h1) (List.not_lt.mp h2))
theorem sorted_herds {p : List Nat} (u : p.Pairwise (· < ·)) {ys : List (Nat × Nat)} (hy : InP p ys) {hs : List (List Nat)} (h : Herds p ys hs) {zs : List Str} (hz : zs.Perm (hs.map toS)) (ss : sortedS zs = true) : zs = (herdsL p ys).map toS := by
  have un : p.Pairwise (· ≠ ·) := u.imp fun h => Nat.ne_of_lt h
  obtain ⟨ms, h1, rfl⟩ := perm_map hz
  have pm := h1.trans (h.perm (herdsL_are un hy))
  have le : ms.Pairwise fun a b => ¬ b < a := by
    cases ms with
    | nil => exact .nil
    | cons a ms => exact rising_le ms a ss
  have : ms = herdsL p ys := pm.eq_of_pairwise (fun a b _ _ h1 h2 => List.le_antisymm (List.not_lt.mp h1) (List.not_lt.mp h2)) le ((herdsL_asc u hy).imp fun h => List.lt_asymm h)
  rw [this]
end K10
set_option Elab.async false
set_option linter.all false
set_option maxRecDepth 100000
namespace DL
open PySem PySem.W PySem.Spec PyProof.Rows L2
/-! ### dict comprehensions over data; tuple(d.values()) -/
/-! ### tuple(d.values()) -/
end DL
set_option Elab.async false
set_option linter.all false
set_option maxRecDepth 100000
namespace K10
open PySem PySem.Spec PyProof.Rows L2 DL
section
variable {P : Program} {w : World} {K : PySem.W.Frag} {mg : Str → Option Value} {base : Heap} {A : Ad}
/-! ### pieces -/
/-! ### rings and bonds, as the program tells them -/
def g_is_ring_lot (C : Addr) : GC := fun ds μ R => ∃ (p : List Nat) (ts : List Str) (lot : List Nat), ds = [dWeb C p ts, dLot lot] ∧ OkWeb p ts ∧ lot.length ≤ 11 ∧ (∀ i ∈ lot, i < ts.length) ∧ R (.bl (ringB p ts lot)) μ
def N39 : List Str := ["web", "lot", "index"]
theorem sc39 : FnScope N39 ["web", "lot"] (defScope (top 39)) := ⟨rfl, rfl, rfl, by decide +kernel, rfl, by decide +kernel, by decide +kernel⟩
theorem ok_is_ring_lot (T : Tx K mg A) : FnOk P w K mg base CX0 5 A.is_ring_lot A.fd_is_ring_lot ["web", "lot"] (toSp K (g_is_ring_lot A.Web)) := by
  refine okD T.F_is_ring_lot sc39 (fun ds μ R h => ?_) ⟨_, fun cdv A0 outer s H E hr =>
    (dss_cons (ds_if (dt_cmp (op_neA hr.units) sim_ne (de_call ((ok_spare_of T).mono (by decide)) hr (by rfl) T.g_spare_of T.F_spare_of.kp T.b_spare_of (da_cons (dv 0) (da_cons (dv 1) da_nil))) de_int (nomark _)) (dss_one (ds_ret de_bl)) dss_nil)
      (dss_one (ds_ret (de_callB (cr_all (by rfl)) sim_all (by rfl) T.z_all boot_all (da_cons (de_lc (own := [("index", 2)]) (by rfl) sc39.nd (di_both (dv 1)) (blkOk_by (N := N39) (own := [("index", 2)]) (sc := defScope (top 39)) (by decide +kernel)) (fun _ _ _ _ _ => (pg_name (i := 2) sc39.nd rfl (by first | exact Or.inl rfl | exact Or.inr rfl))) (sim_nm (i := 2)) (fun _ _ _ _ _ => dts_nil) (fun _ _ _ _ _ => (de_cmp (op_eqA hr.units) sim_eq (de_call ((ok_spare_of T).mono (by decide)) hr (by rfl) T.g_spare_of T.F_spare_of.kp T.b_spare_of (da_cons (dv 0) (da_cons (de_call ((ok_without T).mono (by decide)) hr (by rfl) T.g_without T.F_without.kp T.b_without (da_cons (dv 1) (da_cons (dv 2) da_nil))) da_nil))) de_int (nomark _)))) da_nil))))), fun ds μ R h => ?_⟩
  · obtain ⟨p, ts, lot, rfl, _⟩ := h
    rfl
  · obtain ⟨p, ts, lot, rfl, ok, l11, hl, h⟩ := h
    refine ⟨p, ts, lot, rfl, ok, hl, ?_⟩
    refine if_case (c := !decide ((lot.length : Int) - (rankOf p ts lot : Nat) = 1)) (fun e => ?_) (fun e => ?_)
    · have e : ¬ (lot.length : Int) - (rankOf p ts lot : Nat) = 1 := by simpa using e
      unfold ringB at h
      rw [decide_eq_false (by omega), Bool.false_and] at h
      exact h
    · have e : (lot.length : Int) - (rankOf p ts lot : Nat) = 1 := by simpa using e
      unfold ringB at h
      rw [decide_eq_true (by omega), Bool.true_and] at h
      show LcB _ _ _ _ _ _ _ _
      refine lcb_map (fun d => match d with | .int j => .bl (decide ((wout lot j.toNat).length = rankOf p ts (wout lot j.toNat))) | d => d) ?_ ?_ ?_
      · rw [List.length_map, List.length_map, sizeLine_eq]
        omega
      · intro x hx μ2 Y _ hy
        obtain ⟨j, hj, rfl⟩ := items_lot hx
        refine ⟨lot, j, rfl, by omega, ?_⟩
        refine ⟨p, ts, wout lot j, rfl, ok, fun i hi => hl i (wout_mem.mp hi).1, ?_⟩
        have e : (decide (((wout lot j).length : Int) - (rankOf p ts (wout lot j) : Nat) = 0)) = decide ((wout lot j).length = rankOf p ts (wout lot j)) := decide_eq_decide.mpr ⟨fun h => by omega, fun h => by omega⟩
        show Y (.bl (decide (((wout lot j).length : Int) - (rankOf p ts (wout lot j) : Nat) = 0))) μ2
        rw [e]
        exact hy
      · refine ⟨lot.map fun k => decide ((wout lot k).length = rankOf p ts (wout lot k)), ?_, ?_⟩
        · rw [List.map_map, List.map_map, List.map_map]
          rfl
        · show R (.bl ((lot.map _).all id)) μ
          rw [List.all_map]
          exact h
end
end K10
set_option Elab.async false
set_option linter.all false
set_option maxRecDepth 100000
namespace K10
open PySem PySem.Spec PyProof.Rows L2 DL
section
variable {P : Program} {w : World} {K : PySem.W.Frag} {mg : Str → Option Value} {base : Heap} {A : Ad}
/-! ### bonds, rings and bonds listed, woods and holds -/
def g_is_bond_lotW (C : Addr) : GC := fun ds μ R => ∃ (p : List Nat) (ts : List Str) (lot : List Nat), ds = [dWeb C p ts, dLot lot] ∧ OkWeb p ts ∧ lot.length ≤ 11 ∧ (∀ i ∈ lot, i < ts.length) ∧ R (.bl (bondB p ts lot)) μ
def N40 : List Str := ["web", "lot", "rest", "rank_of_all", "index"]
theorem sc40 : FnScope N40 ["web", "lot"] (defScope (top 40)) := ⟨rfl, rfl, rfl, by decide +kernel, rfl, by decide +kernel, by decide +kernel⟩
theorem ok_is_bond_lot (T : Tx K mg A) : FnOk P w K mg base CX0 5 A.is_bond_lot A.fd_is_bond_lot ["web", "lot"] (toSp K (g_is_bond_lotW A.Web)) := by
  refine okD T.F_is_bond_lot sc40 (fun ds μ R h => ?_) ⟨_, fun cdv A0 outer s H E hr =>
    (dss_cons (ds_set sc40.nd (i := 2) rfl (by first | exact Or.inl rfl | exact Or.inr rfl) (de_call ((ok_outside_of T).mono (by decide)) hr (by rfl) T.g_outside_of T.F_outside_of.kp T.b_outside_of (da_cons (dv 0) (da_cons (dv 1) da_nil))))
      (dss_cons (ds_set sc40.nd (i := 3) rfl (by first | exact Or.inl rfl | exact Or.inr rfl) (de_call ((ok_full_rank T).mono (by decide)) hr (by rfl) T.g_full_rank T.F_full_rank.kp T.b_full_rank (da_cons (dv 0) da_nil)))
      (dss_cons (ds_if (dt_cmp (op_neA hr.units) sim_ne (de_call ((ok_rank_of T).mono (by decide)) hr (by rfl) T.g_rank_of T.F_rank_of.kp T.b_rank_of (da_cons (dv 0) (da_cons (dv 2) da_nil))) (de_op op_sub sim_minus (dv 3) de_int) (nomark _)) (dss_one (ds_ret de_bl)) dss_nil)
      (dss_one (ds_ret (de_callB (cr_all (by rfl)) sim_all (by rfl) T.z_all boot_all (da_cons (de_lc (own := [("index", 4)]) (by rfl) sc40.nd (di_both (dv 1)) (blkOk_by (N := N40) (own := [("index", 4)]) (sc := defScope (top 40)) (by decide +kernel)) (fun _ _ _ _ _ => (pg_name (i := 4) sc40.nd rfl (by first | exact Or.inl rfl | exact Or.inr rfl))) (sim_nm (i := 4)) (fun _ _ _ _ _ => dts_nil) (fun _ _ _ _ _ => (de_cmp (op_eqA hr.units) sim_eq (de_call ((ok_rank_of T).mono (by decide)) hr (by rfl) T.g_rank_of T.F_rank_of.kp T.b_rank_of (da_cons (dv 0) (da_cons (de_op op_plus sim_plus (dv 2) (de_tup (da_cons (dv 4) da_nil))) da_nil))) (dv 3) (nomark _)))) da_nil))))))), fun ds μ R h => ?_⟩
  · obtain ⟨p, ts, lot, rfl, _⟩ := h
    rfl
  · obtain ⟨p, ts, lot, rfl, ok, l11, hl, h⟩ := h
    have few := ok.many
    have lo : (outs lot ts.length).length ≤ 11 := by
      refine Nat.le_trans (List.length_filter_le _ _) ?_
      rw [List.length_range]
      exact few
    refine ⟨p, ts, lot, rfl, few, ?_⟩
    refine ⟨p, ts, rfl, ok, ?_⟩
    refine ⟨p, ts, outs lot ts.length, rfl, ok, in_outs ts lot, ?_⟩
    refine if_case (c := !decide ((rankOf p ts (outs lot ts.length) : Int) = (rankOf p ts (List.range ts.length) : Nat) - 1)) (fun e => ?_) (fun e => ?_)
    · have e : ¬ (rankOf p ts (outs lot ts.length) : Int) = (rankOf p ts (List.range ts.length) : Nat) - 1 := by simpa using e
      unfold bondB at h
      rw [decide_eq_false (by omega), Bool.false_and] at h
      exact h
    · have e : (rankOf p ts (outs lot ts.length) : Int) = (rankOf p ts (List.range ts.length) : Nat) - 1 := by simpa using e
      unfold bondB at h
      rw [decide_eq_true (by omega), Bool.true_and] at h
      show LcB _ _ _ _ _ _ _ _
      refine lcb_map (fun d => match d with | .int j => .bl (decide (rankOf p ts (outs lot ts.length ++ [j.toNat]) = rankOf p ts (List.range ts.length))) | d => d) ?_ ?_ ?_
      · rw [List.length_map, List.length_map, sizeLine_eq]
        omega
      · intro x hx μ2 Y _ hy
        obtain ⟨j, hj, rfl⟩ := items_lot hx
        refine ⟨by show 1 ≤ sizeLine; decide, ?_⟩
        refine ⟨by rw [List.length_map, List.length_map, sizeLine_eq]; show (outs lot ts.length).length + 1 ≤ _; omega, ?_⟩
        refine ⟨p, ts, outs lot ts.length ++ [j], by show [_, D.tup (((outs lot ts.length).map Int.ofNat).map D.int ++ [D.int (j : Nat)])] = _; unfold dLot dI; rw [List.map_append, List.map_append]; rfl, ok, fun i hi => ?_, ?_⟩
        · rcases List.mem_append.mp hi with z | z
          · exact in_outs ts lot i z
          · rw [List.mem_singleton.mp z]; exact hl j hj
        · show Y (.bl (decide ((rankOf p ts (outs lot ts.length ++ [j]) : Int) = (rankOf p ts (List.range ts.length) : Nat)))) μ2
          have e : (decide ((rankOf p ts (outs lot ts.length ++ [j]) : Int) = (rankOf p ts (List.range ts.length) : Nat))) = decide (rankOf p ts (outs lot ts.length ++ [j]) = rankOf p ts (List.range ts.length)) := decide_eq_decide.mpr ⟨fun h => by omega, fun h => by omega⟩
          rw [e]
          exact hy
      · refine ⟨lot.map fun k => decide (rankOf p ts (outs lot ts.length ++ [k]) = rankOf p ts (List.range ts.length)), ?_, ?_⟩
        · rw [List.map_map, List.map_map, List.map_map]
          rfl
        · show R (.bl ((lot.map _).all id)) μ
          rw [List.all_map]
          exact h
/-- lots of one kind, ascending -/
structure Listed (q : List Nat → Bool) (n : Nat) (out : List (List Nat)) : Prop where
  perm : out.Perm ((lotsL n).filter q)
  asc : out.Pairwise (fun a b => ltN b a = false)
theorem Listed.mem {q : List Nat → Bool} {n : Nat} {out : List (List Nat)} (h : Listed q n out) {v : List Nat} : v ∈ out ↔ v ∈ lotsL n ∧ q v = true := by
  rw [h.perm.mem_iff, List.mem_filter]
theorem Listed.few {q : List Nat → Bool} {n : Nat} {out : List (List Nat)} (h : Listed q n out) (hn : n ≤ 11) : out.length ≤ 2048 := by
  have h1 := h.perm.length_eq
  have h2 := List.length_filter_le q (lotsL n)
  have h3 := pow_few hn
  rw [lots_few] at h2
  omega
theorem Listed.one {q : List Nat → Bool} {n : Nat} {out out' : List (List Nat)} (h : Listed q n out) (k : Listed q n out') : out = out' :=
  (h.perm.trans k.perm.symm).eq_of_pairwise (fun _ _ _ _ a b => ltN_anti _ _ b a) h.asc k.asc
theorem sort_lots {q : List Nat → Bool} {n : Nat} (q0 : q [] = false) {μ : Mu} {R : KD} (h : ∀ out, Listed q n out → R (.lst (out.map dLot)) μ) : sortI (((lotsL n).filter q).map dLot) μ R := by
  refine ⟨((lotsL n).filter q).map (fun u => u.map Int.ofNat), by rw [List.map_map]; rfl, .inl fun ns hns => ?_, fun out hp hw => ?_⟩
  · obtain ⟨u, hu, rfl⟩ := List.mem_map.mp hns
    intro e
    rw [List.map_eq_nil_iff] at e
    rw [e] at hu
    have := (List.mem_filter.mp hu).2
    rw [q0] at this
    cases this
  · obtain ⟨L', p', rfl⟩ := perm_map hp
    have hw' : L'.Pairwise (fun a b => ltN b a = false) := List.pairwise_map.mp hw
    have := h L' ⟨p', hw'⟩
    show R (.lst ((L'.map (fun u => u.map Int.ofNat)).map dI)) μ
    rw [List.map_map]
    exact this
theorem ring_nil (p : List Nat) (ts : List Str) : ringB p ts [] = false := by
  unfold ringB
  rw [decide_eq_false (by show ¬ 0 = _ + 1; omega)]
  rfl
theorem bond_nil (p : List Nat) (ts : List Str) : bondB p ts [] = false := by
  have e : outs [] ts.length = List.range ts.length := by
    unfold outs
    exact List.filter_eq_self.mpr fun a _ => by simp
  unfold bondB
  rw [e, decide_eq_false (by omega)]
  rfl
theorem lots_filtered {n : Nat} {q : List Nat → Bool} (f : D → Bool) (h : ∀ u, f (dLot u) = q u) : ((lotsL n).map dLot).filter f = ((lotsL n).filter q).map dLot := by
  rw [List.filter_map]
  congr 1
  exact List.filter_congr fun u _ => h u
def g_rings (C : Addr) : GC := fun ds μ R => ∃ (p : List Nat) (ts : List Str), ds = [dWeb C p ts] ∧ OkWeb p ts ∧ ∀ out, Listed (ringB p ts) ts.length out → R (.tup (out.map dLot)) μ
def g_bonds (C : Addr) : GC := fun ds μ R => ∃ (p : List Nat) (ts : List Str), ds = [dWeb C p ts] ∧ OkWeb p ts ∧ ∀ out, Listed (bondB p ts) ts.length out → R (.tup (out.map dLot)) μ
def N47 : List Str := ["web", "lot"]
theorem sc47 : FnScope N47 ["web"] (defScope (top 47)) := ⟨rfl, rfl, rfl, by decide +kernel, rfl, by decide +kernel, by decide +kernel⟩
theorem ok_rings (T : Tx K mg A) : FnOk P w K mg base CX0 7 A.rings A.fd_rings ["web"] (toSp K (g_rings A.Web)) := by
  refine okD T.F_rings sc47 (fun ds μ R h => ?_) ⟨_, fun cdv A0 outer s H E hr =>
    (dss_cons (ds_expr (de_call ((ok_check_web T).mono (by decide)) hr (by rfl) T.g_check_web T.F_check_web.kp T.b_check_web (da_cons (dv 0) da_nil)))
      (dss_one (ds_ret (de_callTy call_tuple_of sim_tuple (by rfl) T.z_tuple boot_tuple (da_cons (de_callB (cr_sortI hr.units) sim_sortI (by rfl) T.z_sorted boot_sorted (da_cons (de_lc (own := [("lot", 1)]) (by rfl) sc47.nd (di_both (de_call ((ok_all_lots T).mono (by decide)) hr (by rfl) T.g_all_lots T.F_all_lots.kp T.b_all_lots (da_cons (dv 0) da_nil))) (blkOk_by (N := N47) (own := [("lot", 1)]) (sc := defScope (top 47)) (by decide +kernel)) (fun _ _ _ _ _ => (pg_name (i := 1) sc47.nd rfl (by first | exact Or.inl rfl | exact Or.inr rfl))) (sim_nm (i := 1)) (fun _ _ _ _ _ => (dts_one (dt_val (de_call ((ok_is_ring_lot T).mono (by decide)) hr (by rfl) T.g_is_ring_lot T.F_is_ring_lot.kp T.b_is_ring_lot (da_cons (dv 0) (da_cons (dv 1) da_nil)))))) (fun _ _ _ _ _ => (dv 1))) da_nil)) da_nil))))), fun ds μ R h => ?_⟩
  · obtain ⟨p, ts, rfl, _⟩ := h
    rfl
  · obtain ⟨p, ts, rfl, ok, h⟩ := h
    have few := ok.many
    have l4 : (lotsL ts.length).length ≤ 2048 := by rw [lots_few]; exact pow_few few
    refine ⟨p, ts, rfl, ?_⟩
    refine ⟨p, ts, rfl, ok, ?_⟩
    show LcB _ _ _ _ _ _ _ _
    refine lcb_pure (fun d => ringB p ts (lotOf d)) id ?_ ?_ ?_
    · rw [List.length_map, sizeLine_eq]
      omega
    · intro x hx μ2 N Y _ hN hY
      obtain ⟨u, hu, rfl⟩ := List.mem_map.mp hx
      obtain ⟨u1, u2, _⟩ := lots_in _ u hu
      refine ⟨p, ts, u, rfl, ok, by omega, u1, ?_⟩
      have e : ringB p ts (lotOf (dLot u)) = ringB p ts u := by rw [lotOf_dLot]
      rw [e] at hN hY
      exact if_case (c := ringB p ts u) (fun e => hY e) (fun e => hN e)
    · rw [lots_filtered (q := ringB p ts) _ (fun u => by rw [lotOf_dLot]), List.map_id]
      show sortI (((lotsL ts.length).filter (ringB p ts)).map dLot) μ fun x μ1 => gTuple1 x μ1 R
      refine sort_lots (ring_nil p ts) fun out ho => ?_
      exact h out ho
def N48 : List Str := ["web", "lot"]
theorem sc48 : FnScope N48 ["web"] (defScope (top 48)) := ⟨rfl, rfl, rfl, by decide +kernel, rfl, by decide +kernel, by decide +kernel⟩
theorem ok_bonds (T : Tx K mg A) : FnOk P w K mg base CX0 7 A.bonds A.fd_bonds ["web"] (toSp K (g_bonds A.Web)) := by
  refine okD T.F_bonds sc48 (fun ds μ R h => ?_) ⟨_, fun cdv A0 outer s H E hr =>
    (dss_cons (ds_expr (de_call ((ok_check_web T).mono (by decide)) hr (by rfl) T.g_check_web T.F_check_web.kp T.b_check_web (da_cons (dv 0) da_nil)))
      (dss_one (ds_ret (de_callTy call_tuple_of sim_tuple (by rfl) T.z_tuple boot_tuple (da_cons (de_callB (cr_sortI hr.units) sim_sortI (by rfl) T.z_sorted boot_sorted (da_cons (de_lc (own := [("lot", 1)]) (by rfl) sc48.nd (di_both (de_call ((ok_all_lots T).mono (by decide)) hr (by rfl) T.g_all_lots T.F_all_lots.kp T.b_all_lots (da_cons (dv 0) da_nil))) (blkOk_by (N := N48) (own := [("lot", 1)]) (sc := defScope (top 48)) (by decide +kernel)) (fun _ _ _ _ _ => (pg_name (i := 1) sc48.nd rfl (by first | exact Or.inl rfl | exact Or.inr rfl))) (sim_nm (i := 1)) (fun _ _ _ _ _ => (dts_one (dt_val (de_call ((ok_is_bond_lot T).mono (by decide)) hr (by rfl) T.g_is_bond_lot T.F_is_bond_lot.kp T.b_is_bond_lot (da_cons (dv 0) (da_cons (dv 1) da_nil)))))) (fun _ _ _ _ _ => (dv 1))) da_nil)) da_nil))))), fun ds μ R h => ?_⟩
  · obtain ⟨p, ts, rfl, _⟩ := h
    rfl
  · obtain ⟨p, ts, rfl, ok, h⟩ := h
    have few := ok.many
    have l4 : (lotsL ts.length).length ≤ 2048 := by rw [lots_few]; exact pow_few few
    refine ⟨p, ts, rfl, ?_⟩
    refine ⟨p, ts, rfl, ok, ?_⟩
    show LcB _ _ _ _ _ _ _ _
    refine lcb_pure (fun d => bondB p ts (lotOf d)) id ?_ ?_ ?_
    · rw [List.length_map, sizeLine_eq]
      omega
    · intro x hx μ2 N Y _ hN hY
      obtain ⟨u, hu, rfl⟩ := List.mem_map.mp hx
      obtain ⟨u1, u2, _⟩ := lots_in _ u hu
      refine ⟨p, ts, u, rfl, ok, by omega, u1, ?_⟩
      have e : bondB p ts (lotOf (dLot u)) = bondB p ts u := by rw [lotOf_dLot]
      rw [e] at hN hY
      exact if_case (c := bondB p ts u) (fun e => hY e) (fun e => hN e)
    · rw [lots_filtered (q := bondB p ts) _ (fun u => by rw [lotOf_dLot]), List.map_id]
      show sortI (((lotsL ts.length).filter (bondB p ts)).map dLot) μ fun x μ1 => gTuple1 x μ1 R
      refine sort_lots (bond_nil p ts) fun out ho => ?_
      exact h out ho
/-! ### the law's own lots -/
def dP (u : List Nat) : D := .tup [.int (u.length : Nat), dLot u]
def pP (u : List Nat) : PyData := .tuple [.int (u.length : Nat), pLot u]
theorem py_dP (u : List Nat) : py (dP u) = some (pP u) := by
  have h := py_lot u
  unfold dP pP
  unfold py pyL pyL pyL
  rw [h, py_int]
  rfl
theorem alike_lots (u v : List Nat) : PySem.W.alike (pLot u) (pLot v) = true := by
  unfold pLot
  unfold PySem.W.alike
  induction u generalizing v with
  | nil => unfold PySem.W.alikeAll; cases v <;> rfl
  | cons a u ih =>
    cases v with
    | nil => unfold PySem.W.alikeAll; rfl
    | cons b v =>
      rw [List.map_cons, List.map_cons]
      unfold PySem.W.alikeAll
      rw [ih]
      unfold PySem.W.alike
      rfl
theorem alike_P (u v : List Nat) : PySem.W.alike (pP u) (pP v) = true := by
  have := alike_lots u v
  unfold pP
  unfold PySem.W.alike PySem.W.alikeAll PySem.W.alikeAll PySem.W.alikeAll
  rw [this]
  unfold PySem.W.alike
  rfl
theorem dep_lots : ∀ u : List Nat, PyData.depthAll (u.map fun k => PyData.int (k : Nat)) = 0
  | [] => by
    rw [List.map_nil]
    unfold PyData.depthAll
    rfl
  | a :: u => by
    rw [List.map_cons]
    unfold PyData.depthAll
    rw [dep_lots u]
    unfold PyData.depth
    rfl
theorem dep_P (u : List Nat) : (pP u).depth ≤ 20 := by
  unfold pP pLot
  unfold PyData.depth PyData.depthAll PyData.depthAll PyData.depthAll
  unfold PyData.depth
  rw [dep_lots]
  decide
def sndL (d : D) : D := match d with
  | .tup [_, e] => e
  | d => d
def g_L_lotsN : GC := fun ds μ R => ∃ (p : List Nat) (ts : List Str), ds = [dNet p ts] ∧ ts.length ≤ 11 ∧ ∀ out : List (List Nat), out.Perm (lotsL ts.length) → R (.lst (out.map dLot)) μ
def N58 : List Str := ["_law_net_here", "_law_found", "_law_k", "_law_pair", "_law_lot_here", "_law_each"]
theorem sc58 : FnScope N58 ["_law_net_here"] (defScope (top 58)) := ⟨rfl, rfl, rfl, by decide +kernel, rfl, by decide +kernel, by decide +kernel⟩
theorem ok_L_lots (T : Tx K mg A) : FnOk P w K mg base CX0 2 A.L_lots A.fd_L_lots ["_law_net_here"] (toSp K (g_L_lotsN)) := by
  refine okD T.F_L_lots sc58 (fun ds μ R h => ?_) ⟨_, fun cdv A0 outer s H E hr =>
    (dss_cons (ds_set sc58.nd (i := 1) rfl (by first | exact Or.inl rfl | exact Or.inr rfl) (de_lst (da_cons (de_tup da_nil) da_nil)))
      (dss_cons (ds_for PassesOwn.never rfl (di_range (by rfl) T.z_range (da_cons (de_callB cr_len sim_len (by rfl) T.z_len boot_len (da_cons (de_ix ix_any sim_ix (dv 0) de_int (fun _ _ => rfl)) da_nil)) da_nil)) (pg_name (i := 2) sc58.nd rfl (by first | exact Or.inl rfl | exact Or.inr rfl)) (sim_nm (i := 2))
      (dss_one (ds_set sc58.nd (i := 1) rfl (by first | exact Or.inl rfl | exact Or.inr rfl) (de_op op_plus sim_plus (dv 1) (de_lc (own := [("_law_lot_here", 4)]) (by rfl) sc58.nd (di_both (dv 1)) (blkOk_by (N := N58) (own := [("_law_lot_here", 4)]) (sc := defScope (top 58)) (by decide +kernel)) (fun _ _ _ _ _ => (pg_name (i := 4) sc58.nd rfl (by first | exact Or.inl rfl | exact Or.inr rfl))) (sim_nm (i := 4)) (fun _ _ _ _ _ => dts_nil) (fun _ _ _ _ _ => (de_op op_plus sim_plus (dv 4) (de_tup (da_cons (dv 2) da_nil)))))))))
      (dss_one (ds_ret (de_lc (own := [("_law_pair", 3)]) (by rfl) sc58.nd (di_both (de_callB (cr_sortD hr.units) sim_sortD (by rfl) T.z_sorted boot_sorted (da_cons (de_lc (own := [("_law_each", 5)]) (by rfl) sc58.nd (di_both (dv 1)) (blkOk_by (N := N58) (own := [("_law_each", 5)]) (sc := defScope (top 58)) (by decide +kernel)) (fun _ _ _ _ _ => (pg_name (i := 5) sc58.nd rfl (by first | exact Or.inl rfl | exact Or.inr rfl))) (sim_nm (i := 5)) (fun _ _ _ _ _ => dts_nil) (fun _ _ _ _ _ => (de_tup (da_cons (de_callB cr_len sim_len (by rfl) T.z_len boot_len (da_cons (dv 5) da_nil)) (da_cons (dv 5) da_nil))))) da_nil))) (blkOk_by (N := N58) (own := [("_law_pair", 3)]) (sc := defScope (top 58)) (by decide +kernel)) (fun _ _ _ _ _ => (pg_name (i := 3) sc58.nd rfl (by first | exact Or.inl rfl | exact Or.inr rfl))) (sim_nm (i := 3)) (fun _ _ _ _ _ => dts_nil) (fun _ _ _ _ _ => (de_ix ix_any sim_ix (dv 3) de_int (fun _ _ => rfl)))))))), fun ds μ R h => ?_⟩
  · obtain ⟨p, ts, rfl, _⟩ := h
    rfl
  · obtain ⟨p, ts, rfl, hn, h⟩ := h
    refine ⟨by show 0 ≤ sizeLine; decide, by show 1 ≤ sizeLine; decide, ?_⟩
    have lt : (ts.map D.str).length = ts.length := List.length_map _
    refine ⟨⟨by rw [lt]; omega, by rw [lt]; omega⟩, ?_⟩
    have en : (((ts.map D.str).length : Nat) : Int).toNat = ts.length := by rw [lt]; exact Int.toNat_natCast _
    rw [en]
    refine ⟨fun i δ' μ' => μ' = μ ∧ ∃ o2 o3 o4 o5, δ' = [some (dNet p ts), some (.lst ((lotsL i).map dLot)), o2, o3, o4, o5], ⟨rfl, none, none, none, none, rfl⟩, ?_, ?_⟩
    · rintro i x δ' μ' hx ⟨rfl, o2, o3, o4, o5, rfl⟩
      obtain ⟨hi, rfl⟩ := range_at hx
      have few : (lotsL i).length ≤ 2048 := by
        rw [lots_few]
        exact pow_few (by omega)
      show LcB _ _ _ _ _ _ _ _
      refine lcb_map (addI i) ?_ ?_ ?_
      · rw [List.length_map, sizeLine_eq]
        omega
      · intro x hx μ2 Y _ hy
        obtain ⟨u, hu, rfl⟩ := List.mem_map.mp hx
        obtain ⟨_, u2, _⟩ := lots_in i u hu
        refine ⟨by show 1 ≤ sizeLine; decide, ?_, hy⟩
        show ((u.map Int.ofNat).map D.int).length + 1 ≤ sizeLine
        rw [List.length_map, List.length_map, sizeLine_eq]
        omega
      · rw [addI_map]
        refine ⟨by rw [List.length_map, List.length_map, List.length_map, sizeLine_eq]; omega, rfl, some (.int (i : Nat)), o3, o4, o5, ?_⟩
        show _ = [some (dNet p ts), some (.lst ((lotsL i ++ (lotsL i).map (· ++ [i])).map dLot)), some (.int (i : Nat)), o3, o4, o5]
        rw [List.map_append]
        rfl
    · rintro δ' μ' ⟨rfl, o2, o3, o4, o5, rfl⟩
      have few : (lotsL ts.length).length ≤ 2048 := by
        rw [lots_few]
        exact pow_few hn
      have el : ((List.range ts.length).map fun i => D.int (i : Nat)).length = ts.length := by simp
      rw [el]
      show LcB _ _ _ _ _ _ _ _
      refine lcb_map (fun d => dP (lotOf d)) ?_ ?_ ?_
      · rw [List.length_map, sizeLine_eq]
        omega
      · intro x hx μ2 Y _ hy
        obtain ⟨u, hu, rfl⟩ := List.mem_map.mp hx
        rw [lotOf_dLot] at hy
        refine ⟨by show 2 ≤ sizeLine; decide, ?_⟩
        have e : ((u.map Int.ofNat).map D.int).length = u.length := by rw [List.length_map, List.length_map]
        rw [e]
        exact hy
      · have em : ((lotsL ts.length).map dLot).map (fun d => dP (lotOf d)) = (lotsL ts.length).map dP := by
          rw [List.map_map]
          refine List.map_congr_left fun u _ => ?_
          show dP (lotOf (dLot u)) = dP u
          rw [lotOf_dLot]
        rw [em]
        refine ⟨(lotsL ts.length).map pP, pyL_map fun u _ => py_dP u, PySem.W.AllAlike.of alike_P, PySem.W.Sortable.tuples fun u => ⟨_, _, rfl⟩, fun x hx => ?_, ?_⟩
        · obtain ⟨u, _, rfl⟩ := List.mem_map.mp hx
          exact dep_P u
        · have ez : ((lotsL ts.length).map dP).zip ((lotsL ts.length).map pP) = (lotsL ts.length).map fun u => (dP u, pP u) := List.zip_map' ..
          rw [ez]
          obtain ⟨L, hL, e⟩ := perm_map (List.mergeSort_perm ((lotsL ts.length).map fun u => (dP u, pP u)) byP)
          rw [e, List.map_map]
          have em2 : L.map ((fun x => x.1) ∘ fun u => (dP u, pP u)) = L.map dP := rfl
          rw [em2]
          have lL : L.length ≤ 2048 := by rw [hL.length_eq]; exact few
          show LcB _ _ _ _ _ _ _ _
          refine lcb_map sndL ?_ ?_ ?_
          · rw [List.length_map, sizeLine_eq]
            omega
          · intro x hx μ2 Y _ hy
            obtain ⟨u, hu, rfl⟩ := List.mem_map.mp hx
            exact hy
          · have em3 : (L.map dP).map sndL = L.map dLot := by rw [List.map_map]; rfl
            rw [em3]
            exact h L hL
end
end K10
set_option Elab.async false
set_option linter.all false
set_option maxRecDepth 100000
set_option Elab.async false
set_option linter.all false
set_option maxRecDepth 100000
namespace K10
open PySem PySem.Spec PyProof.Rows L2 DL
section
variable {P : Program} {w : World} {K : PySem.W.Frag} {mg : Str → Option Value} {base : Heap} {A : Ad}
/-! ### the law's own lengths -/
theorem OkLen.snoc {n : Nat} {ns : List Int} {d : Int} (h : OkLen n ns) (h1 : -1000000000 ≤ d) (h2 : d ≤ 1000000000) : OkLen (n + 1) (ns ++ [d]) := by
  refine ⟨by rw [List.length_append, h.len]; rfl, fun v hv => ?_, fun v hv => ?_⟩
  · rcases List.mem_append.mp hv with q | q
    · exact h.lo v q
    · rw [List.mem_singleton.mp q]; exact h1
  · rcases List.mem_append.mp hv with q | q
    · exact h.hi v q
    · rw [List.mem_singleton.mp q]; exact h2
end
end K10
set_option Elab.async false
set_option linter.all false
set_option maxRecDepth 100000
set_option Elab.async false
set_option linter.all false
set_option maxRecDepth 100000
namespace K10
open PySem PySem.Spec PyProof.Rows L2 DL
section
variable {P : Program} {w : World} {K : PySem.W.Frag} {mg : Str → Option Value} {base : Heap} {A : Ad}
/-! ### the law's lengths, least trees, one length put -/
theorem OkLen.set {n : Nat} {ns : List Int} (h : OkLen n ns) {e : Nat} {c : Int} (h1 : -1000000000 ≤ c) (h2 : c ≤ 1000000000) : OkLen n (ns.set e c) := by
  refine ⟨by rw [List.length_set]; exact h.len, fun v hv => ?_, fun v hv => ?_⟩
  · rcases List.mem_or_eq_of_mem_set hv with q | q
    · exact h.lo v q
    · rw [q]; exact h1
  · rcases List.mem_or_eq_of_mem_set hv with q | q
    · exact h.hi v q
    · rw [q]; exact h2
end
end K10
set_option Elab.async false
set_option linter.all false
set_option maxRecDepth 100000
set_option Elab.async false
set_option linter.all false
set_option maxRecDepth 100000
set_option Elab.async false
set_option linter.all false
set_option maxRecDepth 100000
namespace K10
open PySem PySem.Spec PyProof.Rows L2 DL
section
variable {P : Program} {w : World} {K : PySem.W.Frag} {mg : Str → Option Value} {base : Heap} {A : Ad}
/-! ### two tables added -/
def inB (i j : Nat) : D → Bool
  | .tup rows => decide (i < rows.length) && (match rows.getD 0 .non with | .tup r => decide (j < r.length) | _ => false)
  | _ => false
end
end K10
set_option Elab.async false
set_option linter.all false
set_option maxRecDepth 100000
namespace K10
open PySem PySem.Spec PyProof.Rows L2 DL
section
variable {P : Program} {w : World} {K : PySem.W.Frag} {mg : Str → Option Value} {base : Heap} {A : Ad}
/-! ### a tie shut -/
def cutAt (ts : List Str) (k : Nat) : List Str := ts.take k ++ ts.drop (k + 1)
theorem OkT.less {p : List Nat} {ts : List Str} (h : OkT p ts) (k : Nat) : OkT p (cutAt ts k) := ⟨fun y hy => by
  rcases List.mem_append.mp hy with q | q
  · exact h.ties y (List.mem_of_mem_take q)
  · exact h.ties y (List.mem_of_mem_drop q)⟩
/-! ### the table by cutting and shutting -/
end
end K10
set_option Elab.async false
set_option linter.all false
set_option maxRecDepth 100000
namespace DL
open PySem PySem.Spec PyProof.Rows L2
/-! ### e.replace of texts that two cells hold, their tokens known -/
/-! ### o.f walked, o a plain name; what cells hold stays -/
end DL
set_option Elab.async false
set_option linter.all false
set_option maxRecDepth 100000
namespace DL
open PySem PySem.Spec PyProof.Rows L2
end DL
set_option Elab.async false
set_option linter.all false
set_option maxRecDepth 100000
namespace DL
open PySem PySem.Spec PyProof.Rows L2
end DL
set_option Elab.async false
set_option linter.all false
set_option maxRecDepth 100000
set_option Elab.async false
set_option linter.all false
set_option maxRecDepth 100000
set_option Elab.async false
set_option linter.all false
set_option maxRecDepth 100000
namespace K10
open PySem PySem.Spec PyProof.Rows L2 DL
/-! ### the least of two parts -/
def LeastI (S : List Int) (m : Int) : Prop := m ∈ S ∧ ∀ y ∈ S, m ≤ y
theorem LeastI.one {S : List Int} {m n : Int} (h : LeastI S m) (k : LeastI S n) : m = n := by
  have := h.2 n k.1
  have := k.2 m h.1
  omega
theorem LeastI.perm {S S' : List Int} {m : Int} (e : S.Perm S') (h : LeastI S m) : LeastI S' m := ⟨e.subset h.1, fun y hy => h.2 y (e.symm.subset hy)⟩
theorem LeastI.some : ∀ {S : List Int}, S ≠ [] → ∃ m, LeastI S m
  | [], h => absurd rfl h
  | [a], _ => ⟨a, List.mem_singleton.mpr rfl, fun y hy => by rw [List.mem_singleton.mp hy]; exact Int.le_refl _⟩
  | a :: b :: l, _ => by
    obtain ⟨m, h1, h2⟩ := LeastI.some (S := b :: l) (List.cons_ne_nil _ _)
    by_cases q : a ≤ m
    · exact ⟨a, List.mem_cons_self, fun y hy => (List.mem_cons.mp hy).elim (fun e => by rw [e]; exact Int.le_refl _) fun z => by have := h2 y z; omega⟩
    · exact ⟨m, List.mem_cons_of_mem _ h1, fun y hy => (List.mem_cons.mp hy).elim (fun e => by rw [e]; omega) (h2 y)⟩
theorem LeastI.add {S : List Int} {m : Int} (h : LeastI S m) (c : Int) : LeastI (S.map (· + c)) (m + c) ∧ (S.map (· + c)).count (m + c) = S.count m := by
  refine ⟨⟨List.mem_map.mpr ⟨m, h.1, rfl⟩, fun y hy => ?_⟩, ?_⟩
  · obtain ⟨z, hz, rfl⟩ := List.mem_map.mp hy
    have := h.2 z hz
    omega
  · rw [List.count_eq_countP, List.countP_map, List.count_eq_countP]
    refine List.countP_congr fun x _ => ?_
    show ((x + c == m + c) = true) ↔ ((x == m) = true)
    rw [beq_iff_eq, beq_iff_eq]
    omega
end K10
set_option Elab.async false
set_option linter.all false
set_option maxRecDepth 100000
namespace K10
open PySem PySem.Spec PyProof.Rows L2 DL
section
variable {p : List Nat} {ts : List Str}
/-! ### rings through a tie; strong elimination -/
/-- a ring as what it has -/
structure Ring (p : List Nat) (ts : List Str) (c : List Nat) : Prop where
  lot : c ∈ lotsL ts.length
  ring : ringB p ts c = true
theorem Ring.few {c : List Nat} (h : Ring p ts c) : In ts c := (lots_in _ _ h.lot).1
theorem Ring.asc {c : List Nat} (h : Ring p ts c) : c.Pairwise (· < ·) := (lots_in _ _ h.lot).2.2
theorem Ring.nod {c : List Nat} (h : Ring p ts c) : c.Nodup := h.asc.imp fun h => Nat.ne_of_lt h
theorem Ring.less {c : List Nat} (h : Ring p ts c) {k : Nat} (hk : k ∈ c) : (wout c k).length = rankOf p ts (wout c k) := by
  have := h.ring
  unfold ringB at this
  rw [Bool.and_eq_true, List.all_eq_true] at this
  exact of_decide_eq_true (this.2 k hk)
/-- each tie of a ring joins what the others join -/
theorem Ring.closed (u : p.Pairwise (· ≠ ·)) (he : Ends p ts) {c : List Nat} (h : Ring p ts c) {k : Nat} (hk : k ∈ c) : partsL p ts (wout c k) k = false := by
  have h1 := rank_out u he h.few h.nod hk
  have h2 := ring_len h.ring
  have h3 := wout_len h.nod hk
  have h4 := h.less hk
  cases q : partsL p ts (wout c k) k with
  | false => rfl
  | true =>
    rw [q, if_pos rfl] at h1
    omega
theorem parts_same (u : p.Pairwise (· ≠ ·)) (he : Ends p ts) {v w : List Nat} (hv : In ts v) (hw : In ts w) (h : marksL p (tiesOf ts v) = marksL p (tiesOf ts w)) (k : Nat) : partsL p ts v k = partsL p ts w k := by
  unfold partsL
  rw [h]
/-- a tie joined by a lot is in a ring of it and ties of the lot -/
theorem ring_through (u : p.Pairwise (· ≠ ·)) (he : Ends p ts) {k : Nat} (hk : k < ts.length) : ∀ (n : Nat) (w : List Nat), w.length = n → w.Pairwise (· < ·) → In ts w → k ∉ w → partsL p ts w k = false → ∃ c, Ring p ts c ∧ k ∈ c ∧ ∀ j ∈ c, j = k ∨ j ∈ w
  | n, w, hn, hw, hi, kw, hp => by
    have nd : w.Nodup := hw.imp fun h => Nat.ne_of_lt h
    by_cases q : ∃ j ∈ w, partsL p ts (wout w j) k = false
    · obtain ⟨j, hj, hq⟩ := q
      have := wout_len nd hj
      match n, hn with
      | 0, hn => omega
      | n + 1, hn =>
        obtain ⟨c, h1, h2, h3⟩ := ring_through u he hk n (wout w j) (by omega) (wout_asc hw j) (in_wout hi j) (fun z => kw (wout_mem.mp z).1) hq
        exact ⟨c, h1, h2, fun i hx => (h3 i hx).imp id fun z => (wout_mem.mp z).1⟩
    · have q : ∀ j ∈ w, partsL p ts (wout w j) k = true := fun j hj => by
        cases e : partsL p ts (wout w j) k with
        | true => rfl
        | false => exact absurd ⟨j, hj, e⟩ q
      -- the lot is a wood
      have wood : rankOf p ts w = w.length := by
        apply Classical.byContradiction
        intro ne
        obtain ⟨r, r1, r2, r3⟩ := ring_within u he _ w rfl hw hi (fun e => ne e.symm)
        have rg : Ring p ts r := ⟨lots_all _ r r1 fun j hj => hi j (r2 j hj), r3⟩
        have rne : r ≠ [] := fun e => by
          have := ring_len r3
          rw [e] at this
          simp at this
        obtain ⟨j, hj⟩ := List.exists_mem_of_ne_nil r rne
        have hjw := r2 j hj
        have c1 : partsL p ts (wout w j) j = false := parts_mono u he (in_wout rg.few j) (in_wout hi j) (fun i hx => wout_mem.mpr ⟨r2 i (wout_mem.mp hx).1, (wout_mem.mp hx).2⟩) (hi j hjw) (rg.closed u he hj)
        have c2 : marksL p (tiesOf ts (wout w j ++ [j])) = marksL p (tiesOf ts (wout w j)) := rank_same u he _ (in_wout hi j) [j] (fun i hx => by rw [List.mem_singleton.mp hx]; exact hi j hjw) fun i hx => by rw [List.mem_singleton.mp hx]; exact c1
        have c3 : marksL p (tiesOf ts w) = marksL p (tiesOf ts (wout w j ++ [j])) := lot_marks u he hi (in_snoc (in_wout hi j) (hi j hjw)) (fun i hx => by
          by_cases e : i = j
          · exact List.mem_append.mpr (.inr (List.mem_singleton.mpr e))
          · exact List.mem_append.mpr (.inl (wout_mem.mpr ⟨hx, e⟩))) fun i hx => by
          rcases List.mem_append.mp hx with z | z
          · exact (wout_mem.mp z).1
          · rw [List.mem_singleton.mp z]; exact hjw
        have := parts_same u he hi (in_wout hi j) (c3.trans c2) k
        rw [hp, q j hjw] at this
        cases this
      -- the ring
      let c := (List.range ts.length).filter fun j => decide (j = k ∨ j ∈ w)
      have cm : ∀ j, j ∈ c ↔ j = k ∨ j ∈ w := fun j => by
        show j ∈ (List.range ts.length).filter _ ↔ _
        rw [List.mem_filter, decide_eq_true_iff, List.mem_range]
        exact ⟨fun h => h.2, fun h => ⟨h.elim (fun e => by rw [e]; exact hk) (hi j), h⟩⟩
      have ca : c.Pairwise (· < ·) := List.pairwise_lt_range.filter _
      have ci : In ts c := fun j hj => ((cm j).mp hj).elim (fun e => by rw [e]; exact hk) (hi j)
      have cn : c.Nodup := ca.imp fun h => Nat.ne_of_lt h
      have ik : In ts (w ++ [k]) := in_snoc hi hk
      have pm : c.Perm (w ++ [k]) := (List.perm_ext_iff_of_nodup cn (List.nodup_append.mpr ⟨nd, List.pairwise_singleton _ _, fun a ha b hb e => by
        rw [List.mem_singleton.mp hb] at e
        subst e
        exact kw ha⟩)).mpr fun j => by
        rw [cm, List.mem_append, List.mem_singleton]
        exact Or.comm
      have cr : rankOf p ts c = rankOf p ts w := by
        rw [lot_rank u he ci ik (fun j hj => pm.subset hj) (fun j hj => pm.symm.subset hj), rank_more u he hi hk, hp, if_neg Bool.false_ne_true]
        rfl
      have cl : c.length = w.length + 1 := by rw [pm.length_eq, List.length_append]; rfl
      have kc : k ∈ c := (cm k).mpr (.inl rfl)
      refine ⟨c, ⟨lots_all _ c ca ci, ?_⟩, kc, fun j hj => (cm j).mp hj⟩
      unfold ringB
      rw [Bool.and_eq_true]
      refine ⟨decide_eq_true (by omega), List.all_eq_true.mpr fun j hj => decide_eq_true ?_⟩
      have lj := wout_len cn hj
      rcases (cm j).mp hj with e | hjw
      · subst e
        have : rankOf p ts (wout c j) = rankOf p ts w := lot_rank u he (in_wout ci j) hi (fun i hx => ((cm i).mp (wout_mem.mp hx).1).resolve_left (wout_mem.mp hx).2) fun i hx => wout_mem.mpr ⟨(cm i).mpr (.inr hx), fun e => kw (e ▸ hx)⟩
        omega
      · have jk : j ≠ k := fun e => kw (e ▸ hjw)
        have ij : In ts (wout w j ++ [k]) := in_snoc (in_wout hi j) hk
        have e1 : rankOf p ts (wout c j) = rankOf p ts (wout w j ++ [k]) := lot_rank u he (in_wout ci j) ij (fun i hx => by
          obtain ⟨h1, h2⟩ := wout_mem.mp hx
          rcases (cm i).mp h1 with e | z
          · exact List.mem_append.mpr (.inr (List.mem_singleton.mpr e))
          · exact List.mem_append.mpr (.inl (wout_mem.mpr ⟨z, h2⟩))) fun i hx => by
          rcases List.mem_append.mp hx with z | z
          · exact wout_mem.mpr ⟨(cm i).mpr (.inr (wout_mem.mp z).1), (wout_mem.mp z).2⟩
          · rw [List.mem_singleton.mp z]
            exact wout_mem.mpr ⟨kc, fun e => jk e.symm⟩
        have e2 := rank_more u he (in_wout hi j) hk
        rw [q j hjw, if_pos rfl] at e2
        have e3 := rank_out u he hi nd hjw
        have e4 := wout_len nd hjw
        have e5 := rank_len u he _ (in_wout hi j)
        split at e3 <;> omega
/-- strong elimination -/
theorem ring_swap (u : p.Pairwise (· ≠ ·)) (he : Ends p ts) {c d : List Nat} (hc : Ring p ts c) (hd : Ring p ts d) {e f : Nat} (ec : e ∈ c) (ed : e ∈ d) (fc : f ∈ c) (fd : f ∉ d) :
    ∃ r, Ring p ts r ∧ f ∈ r ∧ ∀ j ∈ r, (j ∈ c ∨ j ∈ d) ∧ j ≠ e := by
  let w := (List.range ts.length).filter fun j => decide ((j ∈ c ∨ j ∈ d) ∧ j ≠ e ∧ j ≠ f)
  have wm : ∀ j, j ∈ w ↔ (j ∈ c ∨ j ∈ d) ∧ j ≠ e ∧ j ≠ f := fun j => by
    show j ∈ (List.range ts.length).filter _ ↔ _
    rw [List.mem_filter, decide_eq_true_iff, List.mem_range]
    exact ⟨fun h => h.2, fun h => ⟨h.1.elim (hc.few j) (hd.few j), h⟩⟩
  have wi : In ts w := fun j hj => ((wm j).mp hj).1.elim (hc.few j) (hd.few j)
  have ef : e ≠ f := fun z => fd (z ▸ ed)
  have he1 : partsL p ts w e = false := parts_mono u he (in_wout hd.few e) wi (fun j hj => by
    obtain ⟨h1, h2⟩ := wout_mem.mp hj
    exact (wm j).mpr ⟨.inr h1, h2, fun z => fd (z ▸ h1)⟩) (hd.few e ed) (hd.closed u he ed)
  have he2 : marksL p (tiesOf ts (w ++ [e])) = marksL p (tiesOf ts w) := rank_same u he w wi [e] (fun i hx => by rw [List.mem_singleton.mp hx]; exact hd.few e ed) fun i hx => by rw [List.mem_singleton.mp hx]; exact he1
  have we : In ts (w ++ [e]) := in_snoc wi (hd.few e ed)
  have hf1 : partsL p ts (w ++ [e]) f = false := parts_mono u he (in_wout hc.few f) we (fun j hj => by
    obtain ⟨h1, h2⟩ := wout_mem.mp hj
    by_cases z : j = e
    · exact List.mem_append.mpr (.inr (List.mem_singleton.mpr z))
    · exact List.mem_append.mpr (.inl ((wm j).mpr ⟨.inl h1, z, h2⟩))) (hc.few f fc) (hc.closed u he fc)
  have hf2 : partsL p ts w f = false := by rw [← parts_same u he we wi he2 f]; exact hf1
  obtain ⟨r, h1, h2, h3⟩ := ring_through u he (hc.few f fc) _ w rfl (List.pairwise_lt_range.filter _) wi (fun z => ((wm f).mp z).2.2 rfl) hf2
  refine ⟨r, h1, h2, fun j hj => ?_⟩
  rcases h3 j hj with z | z
  · rw [z]; exact ⟨.inl fc, fun q => ef q.symm⟩
  · exact ⟨((wm j).mp z).1, ((wm j).mp z).2.1⟩
theorem wout_nod {c : List Nat} (h : c.Nodup) (e : Nat) : (wout c e).Nodup := h.filter _
/-- rings that meet join their ties in one -/
theorem rings_meet (u : p.Pairwise (· ≠ ·)) (he : Ends p ts) : ∀ (n : Nat) (c d : List Nat) (a b : Nat), ((List.range ts.length).filter fun j => decide (j ∈ c ∨ j ∈ d)).length = n → Ring p ts c → Ring p ts d → a ∈ c → b ∈ d → (∃ e, e ∈ c ∧ e ∈ d) → ∃ r, Ring p ts r ∧ a ∈ r ∧ b ∈ r
  | n, c, d, a, b, hn, hc, hd, ac, bd, ⟨e, ec, ed⟩ => by
    by_cases ad : a ∈ d
    · exact ⟨d, hd, ad, bd⟩
    by_cases bc : b ∈ c
    · exact ⟨c, hc, ac, bc⟩
    obtain ⟨r, r1, r2, r3⟩ := ring_swap u he hc hd ec ed ac ad
    by_cases br : b ∈ r
    · exact ⟨r, r1, r2, br⟩
    -- r is not within c
    have : ∃ g, g ∈ r ∧ g ∉ c := by
      apply Classical.byContradiction
      intro z
      have z : ∀ g ∈ r, g ∈ c := fun g hg => Classical.byContradiction fun q => z ⟨g, hg, q⟩
      have s : ∀ g ∈ r, g ∈ wout c e := fun g hg => wout_mem.mpr ⟨z g hg, (r3 g hg).2⟩
      have h1 := spare_mono u he r1.nod (wout_nod hc.nod e) (in_wout hc.few e) s
      have h2 := ring_len r1.ring
      have h3 := hc.less ec
      omega
    obtain ⟨g, gr, gc⟩ := this
    have gd : g ∈ d := (r3 g gr).1.resolve_left gc
    obtain ⟨s, s1, s2, s3⟩ := ring_swap u he hd r1 gd gr bd br
    -- s meets c, and lies within c and d without g
    have sub : ∀ j ∈ s, (j ∈ c ∨ j ∈ d) ∧ j ≠ g := fun j hj => ⟨(s3 j hj).1.elim .inr fun z => (r3 j z).1, (s3 j hj).2⟩
    have meets : ∃ x, x ∈ c ∧ x ∈ s := by
      apply Classical.byContradiction
      intro z
      have z : ∀ j ∈ s, j ∈ wout d g := fun j hj => wout_mem.mpr ⟨(sub j hj).1.resolve_left fun q => z ⟨j, q, hj⟩, (sub j hj).2⟩
      have h1 := spare_mono u he s1.nod (wout_nod hd.nod g) (in_wout hd.few g) z
      have h2 := ring_len s1.ring
      have h3 := hd.less gd
      omega
    have less : ((List.range ts.length).filter fun j => decide (j ∈ c ∨ j ∈ s)).length < ((List.range ts.length).filter fun j => decide (j ∈ c ∨ j ∈ d)).length := by
      have nd : ((List.range ts.length).filter fun j => decide (j ∈ c ∨ j ∈ d)).Nodup := List.nodup_range.filter _
      have gm : g ∈ (List.range ts.length).filter fun j => decide (j ∈ c ∨ j ∈ d) := List.mem_filter.mpr ⟨List.mem_range.mpr (hd.few g gd), decide_eq_true (.inr gd)⟩
      have w1 := wout_len nd gm
      have := nodup_le (l := (List.range ts.length).filter fun j => decide (j ∈ c ∨ j ∈ s)) (m := wout ((List.range ts.length).filter fun j => decide (j ∈ c ∨ j ∈ d)) g) (List.nodup_range.filter _) fun x hx => by
        obtain ⟨x1, x2⟩ := List.mem_filter.mp hx
        have x2 := of_decide_eq_true x2
        refine wout_mem.mpr ⟨List.mem_filter.mpr ⟨x1, decide_eq_true (x2.elim .inl fun z => (sub x z).1)⟩, fun e => ?_⟩
        rcases x2 with z | z
        · exact gc (e ▸ z)
        · exact (sub x z).2 e
      omega
    exact rings_meet u he _ c s a b rfl hc s1 ac s2 meets
termination_by n => n
decreasing_by omega
/-- two ties in one ring, or the same -/
def Linked (p : List Nat) (ts : List Str) (a b : Nat) : Prop := a = b ∨ ∃ r, Ring p ts r ∧ a ∈ r ∧ b ∈ r
theorem Linked.symm {a b : Nat} (h : Linked p ts a b) : Linked p ts b a := h.imp Eq.symm fun ⟨r, h1, h2, h3⟩ => ⟨r, h1, h3, h2⟩
theorem Linked.trans (u : p.Pairwise (· ≠ ·)) (he : Ends p ts) {a b c : Nat} (h : Linked p ts a b) (k : Linked p ts b c) : Linked p ts a c := by
  rcases h with e | ⟨r, r1, r2, r3⟩
  · rw [e]; exact k
  rcases k with e | ⟨s, s1, s2, s3⟩
  · rw [← e]; exact .inr ⟨r, r1, r2, r3⟩
  exact .inr (rings_meet u he _ r s a c rfl r1 s1 r2 s3 ⟨b, r3, s2⟩)
/-! ### what no ring crosses parts the ranks -/
end
end K10
set_option Elab.async false
set_option linter.all false
set_option exponentiation.threshold 2000
set_option maxRecDepth 100000
set_option Elab.async false
set_option linter.all false
set_option maxRecDepth 100000
set_option Elab.async false
set_option linter.all false
set_option maxRecDepth 100000
namespace K10
open PySem PySem.Spec PyProof.Rows L2 DL
/-! ### sums over the parts of a list -/
section
variable {α : Type}
def sm (f : List α → Int) : List α → Int
  | [] => f []
  | a :: l => sm f l + sm (fun s => f (a :: s)) l
end
/-! ### the value's top, over a lot of ties -/
end K10
set_option Elab.async false
set_option linter.all false
set_option maxRecDepth 100000
namespace K10
open PySem PySem.Spec PyProof.Rows L2 DL
section
variable {p : List Nat} {ts : List Str}
/-! ### blocks -/
structure BMarks (p : List Nat) (ts : List Str) (f : Nat → Nat) : Prop where
  iff : ∀ j k, j < ts.length → k < ts.length → (f j = f k ↔ Linked p ts j k)
  le : ∀ k, k < ts.length → f k ≤ k
  idem : ∀ k, k < ts.length → f (f k) = f k
theorem BMarks.one {f g : Nat → Nat} (hf : BMarks p ts f) (hg : BMarks p ts g) : ∀ k, k < ts.length → f k = g k := by
  have half : ∀ {f g : Nat → Nat}, BMarks p ts f → BMarks p ts g → ∀ k, k < ts.length → g k ≤ f k := fun {f g} hf hg k hk => by
    have l := hf.le k hk
    have h1 := (hf.iff (f k) k (by omega) hk).mp (hf.idem k hk)
    have h2 := (hg.iff (f k) k (by omega) hk).mpr h1
    have h3 := hg.le (f k) (by omega)
    omega
  intro k hk
  have := half hf hg k hk
  have := half hg hf k hk
  omega
/-- the marks while rings are gone through -/
structure BStep (p : List Nat) (ts : List Str) (rs : List (List Nat)) (f : Nat → Nat) : Prop where
  sound : ∀ j k, j < ts.length → k < ts.length → f j = f k → Linked p ts j k
  all : ∀ r ∈ rs, ∀ j ∈ r, ∀ k ∈ r, f j = f k
  le : ∀ k, k < ts.length → f k ≤ k
  idem : ∀ k, k < ts.length → f (f k) = f k
theorem BStep.start : BStep p ts [] id := ⟨fun j k _ _ h => .inl h, fun r hr => (by cases hr), fun k _ => Nat.le_refl k, fun k _ => rfl⟩
def joinF (f : Nat → Nat) (r : List Nat) (m : Nat) (k : Nat) : Nat := if f k ∈ r.map f then m else f k
theorem BStep.step (u : p.Pairwise (· ≠ ·)) (he : Ends p ts) {rs : List (List Nat)} {f : Nat → Nat} (h : BStep p ts rs f) {r : List Nat} (hr : Ring p ts r) {m : Nat} (hm : m ∈ r.map f) (least : ∀ x ∈ r.map f, m ≤ x) : BStep p ts (rs ++ [r]) (joinF f r m) := by
  obtain ⟨a0, ha0, ea0⟩ := List.mem_map.mp hm
  have inR : ∀ {k}, f k ∈ r.map f → ∃ a, a ∈ r ∧ f a = f k := fun {k} hk => List.mem_map.mp hk
  refine ⟨fun j k hj hk e => ?_, fun s hs j hj k hk => ?_, fun k hk => ?_, fun k hk => ?_⟩
  · unfold joinF at e
    by_cases q1 : f j ∈ r.map f <;> by_cases q2 : f k ∈ r.map f
    · obtain ⟨a, a1, a2⟩ := inR q1
      obtain ⟨b, b1, b2⟩ := inR q2
      have l1 := h.sound j a hj (hr.few a a1) a2.symm
      have l2 := h.sound b k (hr.few b b1) hk b2
      exact (l1.trans u he (.inr ⟨r, hr, a1, b1⟩)).trans u he l2
    · rw [if_pos q1, if_neg q2] at e
      exact absurd (e ▸ hm) q2
    · rw [if_neg q1, if_pos q2] at e
      exact absurd (e.symm ▸ hm) q1
    · rw [if_neg q1, if_neg q2] at e
      exact h.sound j k hj hk e
  · unfold joinF
    rcases List.mem_append.mp hs with q | q
    · rw [h.all s q j hj k hk]
    · rw [List.mem_singleton.mp q] at hj hk
      rw [if_pos (List.mem_map.mpr ⟨j, hj, rfl⟩), if_pos (List.mem_map.mpr ⟨k, hk, rfl⟩)]
  · unfold joinF
    have := h.le k hk
    split
    · rename_i q
      have := least _ q
      omega
    · exact this
  · unfold joinF
    by_cases q : f k ∈ r.map f
    · rw [if_pos q]
      have e : f m = m := by rw [← ea0, h.idem a0 (hr.few a0 ha0)]
      rw [e, if_pos hm]
    · rw [if_neg q, h.idem k hk, if_neg q]
/-! ### the product over blocks -/
/-! ### fractions in lowest terms -/
end
end K10
set_option Elab.async false
set_option linter.all false
set_option maxRecDepth 100000
namespace DL
open PySem PySem.Spec PyProof.Rows L2
/-! ### data that can be compared -/
structure Lay (d : D) (p : PyData) (n : Nat) : Prop where
  py : DL.py d = some p
  lay : p.canLay0 = true
  dep : p.depth ≤ n
structure LayL (ds : List D) (ps : List PyData) (n : Nat) : Prop where
  py : DL.pyL ds = some ps
  lay : PyData.canLayAll0 ps = true
  dep : PyData.depthAll ps ≤ n
theorem lay_int (i : Int) (n : Nat) : Lay (.int i) (.int i) n := ⟨by unfold DL.py; rfl, by unfold PyData.canLay0; rfl, by unfold PyData.depth; omega⟩
theorem lay_bl (b : Bool) (n : Nat) : Lay (.bl b) (.bool b) n := ⟨by unfold DL.py; rfl, by unfold PyData.canLay0; rfl, by unfold PyData.depth; omega⟩
theorem lay_str {x : Str} (h : x.cps.all (· < 0x110000) = true) (n : Nat) : Lay (.str x) (.str x) n := ⟨by unfold DL.py; rfl, by unfold PyData.canLay0; exact h, by unfold PyData.depth; omega⟩
theorem layL_nil (n : Nat) : LayL [] [] n := ⟨by unfold DL.pyL; rfl, by unfold PyData.canLayAll0; rfl, by unfold PyData.depthAll; omega⟩
theorem layL_cons {d : D} {p : PyData} {ds : List D} {ps : List PyData} {n : Nat} (h : Lay d p n) (k : LayL ds ps n) : LayL (d :: ds) (p :: ps) n := by
  refine ⟨?_, ?_, ?_⟩
  · unfold DL.pyL
    rw [h.py, k.py]
  · unfold PyData.canLayAll0
    rw [h.lay, k.lay]
    rfl
  · unfold PyData.depthAll
    have := h.dep
    have := k.dep
    omega
theorem lay_tup {ds : List D} {ps : List PyData} {n : Nat} (k : LayL ds ps n) : Lay (.tup ds) (.tuple ps) (n + 1) := by
  refine ⟨?_, ?_, ?_⟩
  · unfold DL.py
    rw [k.py]
    rfl
  · unfold PyData.canLay0
    exact k.lay
  · unfold PyData.depth
    have := k.dep
    omega
theorem lay_lst {ds : List D} {ps : List PyData} {n : Nat} (k : LayL ds ps n) : Lay (.lst ds) (.list ps) (n + 1) := by
  refine ⟨?_, ?_, ?_⟩
  · unfold DL.py
    rw [k.py]
    rfl
  · unfold PyData.canLay0
    exact k.lay
  · unfold PyData.depth
    have := k.dep
    omega
theorem layL_map {α : Type} {f : α → D} {g : α → PyData} {n : Nat} : ∀ {l : List α}, (∀ x ∈ l, Lay (f x) (g x) n) → LayL (l.map f) (l.map g) n
  | [], _ => layL_nil n
  | a :: l, h => layL_cons (h a List.mem_cons_self) (layL_map fun x hx => h x (List.mem_cons_of_mem _ hx))
theorem Lay.shaped {d : D} {p : PyData} {n : Nat} (h : Lay d p n) (hn : n ≤ 64) : SeqAt.shaped p = true := by
  unfold SeqAt.shaped
  rw [h.lay, decide_eq_true (Nat.le_trans h.dep hn)]
  rfl
theorem Lay.cmp {d d' : D} {p p' : PyData} {n m : Nat} (h : Lay d p n) (h' : Lay d' p' m) (hn : n ≤ 64) (hm : m ≤ 64) {k : Bool → Bool} {μ : Mu} {R : KD} (q : R (.bl (k (PyData.eqv p p'))) μ) : gEqD k d d' μ R :=
  ⟨p, p', h.py, h'.py, h.shaped hn, h'.shaped hm, q⟩
/-- compared with itself -/
theorem Lay.same {d : D} {p : PyData} {n : Nat} (h : Lay d p n) (hn : n ≤ 64) {k : Bool → Bool} {μ : Mu} {R : KD} (q : R (.bl (k true)) μ) : gEqD k d d μ R :=
  h.cmp h hn hn (by rw [SeqAt.eqv_refl _ h.lay]; exact q)
theorem eqv_nil (ps : List PyData) : PyData.eqv (.list ps) (.list []) = decide (ps = []) := by
  cases ps with
  | nil => rw [decide_eq_true rfl]; unfold PyData.eqv PyData.eqvAll; rfl
  | cons p ps => rw [decide_eq_false (List.cons_ne_nil _ _)]; unfold PyData.eqv PyData.eqvAll; rfl
/-- a list compared with the empty one -/
theorem LayL.none {ds : List D} {ps : List PyData} {n : Nat} (h : LayL ds ps n) (hn : n + 1 ≤ 64) {k : Bool → Bool} {μ : Mu} {R : KD} (q : R (.bl (k (decide (ds = [])))) μ) : gEqD k (.lst ds) (.lst []) μ R := by
  refine (lay_lst h).cmp (lay_lst (layL_nil 0)) hn (by omega) ?_
  rw [eqv_nil]
  have e : (decide (ps = [])) = decide (ds = []) := by
    refine decide_eq_decide.mpr ?_
    have p := h.py
    cases ds with
    | nil =>
      unfold DL.pyL at p
      exact ⟨fun _ => rfl, fun _ => (Option.some.inj p).symm⟩
    | cons d ds =>
      constructor
      · intro e
        subst e
        unfold DL.pyL at p
        split at p <;> cases p
      · intro e
        cases e
  rw [e]
  exact q
/-- a lot -/
theorem layL_ints (l : List Int) (n : Nat) : LayL (l.map D.int) (l.map PyData.int) n := layL_map fun x _ => lay_int x n
end DL
set_option Elab.async false
set_option linter.all false
set_option maxRecDepth 100000
namespace DL
open PySem PySem.Spec PyProof.Rows L2
/-! ### a tuple, a list as a test -/
end DL
set_option Elab.async false
set_option linter.all false
set_option maxRecDepth 100000
namespace K10
open PySem PySem.Spec PyProof.Rows L2 DL
section
variable {P : Program} {w : World} {K : PySem.W.Frag} {mg : Str → Option Value} {base : Heap} {A : Ad}
/-! ### a tie put; bridges; blocks; the value at small numbers -/
def g_bridges (C : Addr) : GC := fun ds μ R => ∃ (p : List Nat) (ts : List Str), ds = [dWeb C p ts] ∧ OkWeb p ts ∧ R (dLot ((List.range ts.length).filter fun k => bondB p ts [k])) μ
def N49 : List Str := ["web", "index"]
theorem sc49 : FnScope N49 ["web"] (defScope (top 49)) := ⟨rfl, rfl, rfl, by decide +kernel, rfl, by decide +kernel, by decide +kernel⟩
theorem ok_bridges (T : Tx K mg A) : FnOk P w K mg base CX0 6 A.bridges A.fd_bridges ["web"] (toSp K (g_bridges A.Web)) := by
  refine okD T.F_bridges sc49 (fun ds μ R h => ?_) ⟨_, fun cdv A0 outer s H E hr =>
    (dss_cons (ds_expr (de_call ((ok_check_web T).mono (by decide)) hr (by rfl) T.g_check_web T.F_check_web.kp T.b_check_web (da_cons (dv 0) da_nil)))
      (dss_one (ds_ret (de_callTy call_tuple_of sim_tuple (by rfl) T.z_tuple boot_tuple (da_cons (de_lc (own := [("index", 1)]) (by rfl) sc49.nd (di_range (by rfl) T.z_range (da_cons (de_callB cr_len sim_len (by rfl) T.z_len boot_len (da_cons (de_fld T.k_Web T.n_ties (dv 0)) da_nil)) da_nil)) (blkOk_by (N := N49) (own := [("index", 1)]) (sc := defScope (top 49)) (by decide +kernel)) (fun _ _ _ _ _ => (pg_name (i := 1) sc49.nd rfl (by first | exact Or.inl rfl | exact Or.inr rfl))) (sim_nm (i := 1)) (fun _ _ _ _ _ => (dts_one (dt_val (de_call ((ok_is_bond_lot T).mono (by decide)) hr (by rfl) T.g_is_bond_lot T.F_is_bond_lot.kp T.b_is_bond_lot (da_cons (dv 0) (da_cons (de_tup (da_cons (dv 1) da_nil)) da_nil)))))) (fun _ _ _ _ _ => (dv 1))) da_nil))))), fun ds μ R h => ?_⟩
  · obtain ⟨p, ts, rfl, _⟩ := h
    rfl
  · obtain ⟨p, ts, rfl, ok, h⟩ := h
    have few := ok.many
    have lt : (ts.map D.str).length = ts.length := List.length_map _
    refine ⟨p, ts, rfl, ?_⟩
    refine ⟨rfl, _, rfl, ⟨by rw [lt]; omega, by rw [lt]; omega⟩, ?_⟩
    have en : (((ts.map D.str).length : Nat) : Int).toNat = ts.length := by rw [lt]; exact Int.toNat_natCast _
    show LcB _ _ _ _ _ _ _ _
    rw [en, range_lot]
    refine lcb_pure (onK fun k => bondB p ts [k]) id ?_ ?_ ?_
    · rw [List.length_map, List.length_map, List.length_range, sizeLine_eq]
      omega
    · intro x hx μ2 N Y _ hN hY
      obtain ⟨j, hj, rfl⟩ := items_lot hx
      have hj := List.mem_range.mp hj
      refine ⟨by show 1 ≤ sizeLine; decide, ?_⟩
      refine ⟨p, ts, [j], rfl, ok, (show 1 ≤ 11 by decide), fun i hi => by rw [List.mem_singleton.mp hi]; exact hj, ?_⟩
      exact if_case (c := bondB p ts [j]) (fun e => hY e) (fun e => hN e)
    · rw [filt_lot]
      exact h
end
end K10
set_option Elab.async false
set_option linter.all false
set_option maxRecDepth 100000
namespace K10
open PySem PySem.Spec PyProof.Rows L2 DL
/-! ## lots over two elements: even ones, two-sided ones, rings, bonds -/
def bx {α : Type} : List α → (α → Bool) → Bool
  | [], _ => false
  | a :: l, f => f a ^^ bx l f
section
variable {α β : Type}
theorem bx_xor {f g : α → Bool} : ∀ {l : List α}, bx l (fun a => f a ^^ g a) = (bx l f ^^ bx l g)
  | [] => rfl
  | a :: l => by
    show ((f a ^^ g a) ^^ bx l fun a => f a ^^ g a) = ((f a ^^ bx l f) ^^ (g a ^^ bx l g))
    rw [bx_xor]
    cases f a <;> cases g a <;> cases bx l f <;> cases bx l g <;> rfl
theorem bx_and {f : α → Bool} {b : Bool} : ∀ {l : List α}, bx l (fun a => b && f a) = (b && bx l f)
  | [] => by cases b <;> rfl
  | a :: l => by
    show ((b && f a) ^^ bx l fun a => b && f a) = (b && (f a ^^ bx l f))
    rw [bx_and]
    cases b <;> cases f a <;> cases bx l f <;> rfl
theorem bx_congr {f g : α → Bool} : ∀ {l : List α}, (∀ a ∈ l, f a = g a) → bx l f = bx l g
  | [], _ => rfl
  | a :: l, h => by
    show (f a ^^ bx l f) = (g a ^^ bx l g)
    rw [h a List.mem_cons_self, bx_congr fun b hb => h b (List.mem_cons_of_mem _ hb)]
theorem bx_false : ∀ {l : List α}, bx l (fun _ => false) = false
  | [] => rfl
  | a :: l => by
    show (false ^^ bx l fun _ => false) = false
    rw [bx_false]
    rfl
theorem bx_swap {f : α → β → Bool} {m : List β} : ∀ {l : List α}, bx l (fun a => bx m (f a)) = bx m (fun b => bx l (fun a => f a b))
  | [] => bx_false.symm
  | a :: l => by
    show (bx m (f a) ^^ bx l fun a => bx m (f a)) = bx m (fun b => f a b ^^ bx l (fun a => f a b))
    rw [bx_swap, ← bx_xor]
theorem bx_count {f : α → Bool} : ∀ {l : List α}, bx l f = decide ((l.filter f).length % 2 = 1)
  | [] => rfl
  | a :: l => by
    have ih := bx_count (f := f) (l := l)
    show (f a ^^ bx l f) = _
    rw [ih, List.filter_cons]
    by_cases e : f a = true
    · rw [if_pos e, e, List.length_cons, Bool.eq_iff_iff]
      simp
      omega
    · rw [if_neg e, Bool.eq_false_iff.mpr e]
      cases decide ((l.filter f).length % 2 = 1) <;> rfl
theorem bx_off {h : Nat → Bool} {a : Nat} : ∀ {l : List Nat}, a ∉ l → bx l (fun c => decide (a = c) && h c) = false
  | [], _ => rfl
  | c :: l, n => by
    show ((decide (a = c) && h c) ^^ _) = false
    rw [decide_eq_false fun z => n (by rw [z]; exact List.mem_cons_self), bx_off fun z => n (List.mem_cons_of_mem _ z)]
    rfl
theorem bx_one {h : Nat → Bool} {a : Nat} : ∀ {l : List Nat}, l.Pairwise (· ≠ ·) → a ∈ l → bx l (fun c => decide (a = c) && h c) = h a
  | [], _, m => by cases m
  | c :: l, u, m => by
    have u := List.pairwise_cons.mp u
    show ((decide (a = c) && h c) ^^ _) = h a
    by_cases e : a = c
    · subst e
      rw [bx_off fun z => u.1 a z rfl, decide_eq_true rfl]
      cases h a <;> rfl
    · rw [decide_eq_false e, bx_one u.2 ((List.mem_cons.mp m).resolve_left e)]
      cases h a <;> rfl
theorem bx_filter {f g : α → Bool} : ∀ {l : List α}, bx (l.filter f) g = bx l fun a => f a && g a
  | [] => rfl
  | a :: l => by
    rw [List.filter_cons]
    by_cases e : f a = true
    · rw [if_pos e]
      show (g a ^^ bx (l.filter f) g) = ((f a && g a) ^^ _)
      rw [bx_filter, e, Bool.true_and]
    · rw [if_neg e]
      show _ = ((f a && g a) ^^ _)
      rw [bx_filter, Bool.eq_false_iff.mpr e, Bool.false_and, Bool.false_xor]
end
section
variable {p : List Nat} {ts : List Str}
def u1 (ts : List Str) (k : Nat) : Nat := (ends (ts.getD k Str.empty)).1
def u2 (ts : List Str) (k : Nat) : Nat := (ends (ts.getD k Str.empty)).2
def inc (ts : List Str) (k c : Nat) : Bool := decide (u1 ts k = c) ^^ decide (u2 ts k = c)
/-- whether the place is an end an odd number of times -/
def dg (ts : List Str) (v : Nat → Bool) (c : Nat) : Bool := bx (List.range ts.length) fun k => v k && inc ts k c
def cr (ts : List Str) (h : Nat → Bool) (k : Nat) : Bool := h (u1 ts k) ^^ h (u2 ts k)
def dot (ts : List Str) (v w : Nat → Bool) : Bool := bx (List.range ts.length) fun k => v k && w k
def EvenF (p : List Nat) (ts : List Str) (v : Nat → Bool) : Prop := ∀ c ∈ p, dg ts v c = false
theorem ends_at (he : Ends p ts) {k : Nat} (hk : k < ts.length) : u1 ts k ∈ p ∧ u2 ts k ∈ p := by
  have et : ts.getD k Str.empty = ts[k] := by rw [List.getD_eq_getElem?_getD, List.getElem?_eq_getElem hk]; rfl
  unfold u1 u2
  rw [et]
  exact he _ (List.getElem_mem hk)
theorem range_ne {n : Nat} : (List.range n).Pairwise (· ≠ ·) := List.nodup_range
theorem orthF (u : p.Pairwise (· ≠ ·)) (he : Ends p ts) {v h : Nat → Bool} : dot ts v (cr ts h) = bx p fun c => h c && dg ts v c := by
  have e1 : dot ts v (cr ts h) = bx (List.range ts.length) fun k => bx p fun c => h c && (v k && inc ts k c) := by
    unfold dot
    refine bx_congr fun k hk => ?_
    obtain ⟨m1, m2⟩ := ends_at he (List.mem_range.mp hk)
    unfold cr inc
    try dsimp only
    rw [← bx_one (h := h) u m1, ← bx_one (h := h) u m2, ← bx_xor, ← bx_and]
    refine bx_congr fun c _ => ?_
    try dsimp only
    cases v k <;> cases h c <;> cases decide (u1 ts k = c) <;> cases decide (u2 ts k = c) <;> rfl
  rw [e1, bx_swap]
  refine bx_congr fun c _ => ?_
  unfold dg
  rw [bx_and]
theorem even_cut (u : p.Pairwise (· ≠ ·)) (he : Ends p ts) {v h : Nat → Bool} (e : EvenF p ts v) : dot ts v (cr ts h) = false := by
  rw [orthF u he]
  refine (bx_congr fun c hc => ?_).trans bx_false
  rw [e c hc, Bool.and_false]
theorem dg_xor {v w : Nat → Bool} {c : Nat} : dg ts (fun k => v k ^^ w k) c = (dg ts v c ^^ dg ts w c) := by
  unfold dg
  rw [← bx_xor]
  refine bx_congr fun k _ => ?_
  try dsimp only
  cases v k <;> cases w k <;> cases inc ts k c <;> rfl
theorem dot_congr {v w x : Nat → Bool} (h : ∀ k, k < ts.length → w k = x k) : dot ts v w = dot ts v x := by
  unfold dot
  exact bx_congr fun k hk => by rw [h k (List.mem_range.mp hk)]
theorem dg_congr {v w : Nat → Bool} {c : Nat} (h : ∀ k, k < ts.length → v k = w k) : dg ts v c = dg ts w c := by
  unfold dg
  exact bx_congr fun k hk => by rw [h k (List.mem_range.mp hk)]
theorem cr_xor {h g : Nat → Bool} {k : Nat} : cr ts (fun c => h c ^^ g c) k = (cr ts h k ^^ cr ts g k) := by
  unfold cr
  dsimp only
  cases h (u1 ts k) <;> cases h (u2 ts k) <;> cases g (u1 ts k) <;> cases g (u2 ts k) <;> rfl
theorem dg_one {k c : Nat} (hk : k < ts.length) : dg ts (fun j => decide (k = j)) c = inc ts k c := by
  unfold dg
  exact bx_one (h := fun j => inc ts j c) range_ne (List.mem_range.mpr hk)
theorem dg_none {c : Nat} : dg ts (fun _ => false) c = false := by
  unfold dg
  refine (bx_congr fun k _ => ?_).trans bx_false
  rfl
/-- what is joined is joined by a lot whose odd ends are these -/
theorem way_lot {w : List Nat} (hw : In ts w) {a b : Nat} (h : Conn (tiesOf ts w) a b) : ∃ s : Nat → Bool, (∀ k, s k = true → k ∈ w) ∧ ∀ c, dg ts s c = (decide (a = c) ^^ decide (b = c)) := by
  induction h with
  | refl a => exact ⟨fun _ => false, (fun k z => by cases z), fun c => by rw [dg_none]; cases decide (a = c) <;> rfl⟩
  | tie hy =>
    obtain ⟨k, hk, rfl⟩ := List.mem_map.mp hy
    refine ⟨fun j => decide (k = j), fun j z => by rw [← of_decide_eq_true z]; exact hk, fun c => ?_⟩
    rw [dg_one (hw k hk)]
    rfl
  | symm _ ih =>
    obtain ⟨s, h1, h2⟩ := ih
    exact ⟨s, h1, fun c => by rw [h2, Bool.xor_comm]⟩
  | trans _ _ i1 i2 =>
    rename_i a b d _ _
    obtain ⟨s, h1, h2⟩ := i1
    obtain ⟨t, h3, h4⟩ := i2
    refine ⟨fun k => s k ^^ t k, fun k z => ?_, fun c => ?_⟩
    · by_cases q : s k = true
      · exact h1 k q
      · refine h3 k ?_
        have z : (s k ^^ t k) = true := z
        rw [Bool.eq_false_iff.mpr q, Bool.false_xor] at z
        exact z
    · rw [dg_xor, h2, h4]
      cases decide (a = c) <;> cases decide (b = c) <;> cases decide (d = c) <;> rfl
theorem conn_closed {ys : List (Nat × Nat)} {Y : Nat → Bool} (h : ∀ y ∈ ys, Y y.1 = Y y.2) {a b : Nat} (c : Conn ys a b) : Y a = Y b := by
  induction c with
  | refl a => rfl
  | tie hy => exact h _ hy
  | symm _ ih => exact ih.symm
  | trans _ _ i1 i2 => exact i1.trans i2
theorem odd_joined (u : p.Pairwise (· ≠ ·)) (he : Ends p ts) {w : List Nat} {s : Nat → Bool} {a b : Nat} (ha : a ∈ p) (hb : b ∈ p) (hs : ∀ k, k < ts.length → s k = true → k ∈ w) (h : ∀ c ∈ p, dg ts s c = (decide (a = c) ^^ decide (b = c))) : Conn (tiesOf ts w) a b := by
  classical
  have d0 : dot ts s (cr ts fun c => decide (Conn (tiesOf ts w) a c)) = false := by
    unfold dot
    refine (bx_congr fun k hk => ?_).trans bx_false
    by_cases q : s k = true
    · have hm := hs k (List.mem_range.mp hk) q
      have t : Conn (tiesOf ts w) (u1 ts k) (u2 ts k) := .tie (List.mem_map.mpr ⟨k, hm, rfl⟩)
      have : cr ts (fun c => decide (Conn (tiesOf ts w) a c)) k = false := by
        unfold cr
        try dsimp only
        rw [show decide (Conn (tiesOf ts w) a (u1 ts k)) = decide (Conn (tiesOf ts w) a (u2 ts k)) from decide_eq_decide.mpr ⟨fun z => z.trans t, fun z => z.trans t.symm⟩]
        exact Bool.xor_self _
      rw [this, Bool.and_false]
    · rw [Bool.eq_false_iff.mpr q, Bool.false_and]
  rw [orthF u he] at d0
  have d1 : (bx p fun c => decide (Conn (tiesOf ts w) a c) && dg ts s c) = (decide (Conn (tiesOf ts w) a a) ^^ decide (Conn (tiesOf ts w) a b)) := by
    rw [← bx_one (h := fun c => decide (Conn (tiesOf ts w) a c)) u ha, ← bx_one (h := fun c => decide (Conn (tiesOf ts w) a c)) u hb, ← bx_xor]
    refine bx_congr fun c hc => ?_
    rw [h c hc]
    cases decide (Conn (tiesOf ts w) a c) <;> cases decide (a = c) <;> cases decide (b = c) <;> rfl
  rw [d1, decide_eq_true (Conn.refl a)] at d0
  by_cases q : Conn (tiesOf ts w) a b
  · exact q
  · rw [decide_eq_false q] at d0
    cases d0
def cf (v : List Nat) : Nat → Bool := fun k => decide (k ∈ v)
theorem even_rank (u : p.Pairwise (· ≠ ·)) (he : Ends p ts) {z : List Nat} (ha : z.Pairwise (· < ·)) (hi : In ts z) (ne : z ≠ []) (ev : EvenF p ts (cf z)) : z.length ≠ rankOf p ts z := by
  rcases List.eq_nil_or_concat z with e | ⟨w, k, e⟩
  · exact absurd e ne
  rw [List.concat_eq_append] at e
  subst e
  have hw : In ts w := fun j hj => hi j (List.mem_append_left _ hj)
  have hk : k < ts.length := hi k (List.mem_append_right _ (List.mem_singleton.mpr rfl))
  have kn : k ∉ w := fun z => by
    have := (List.pairwise_append.mp ha).2.2 k z k (List.mem_singleton.mpr rfl)
    omega
  obtain ⟨m1, m2⟩ := ends_at he hk
  have pf : partsL p ts w k = false := by
    refine (parts_conn u he hw hk).mpr (odd_joined u he m1 m2 (s := cf w) (fun j _ q => of_decide_eq_true q) fun c hc => ?_)
    have e1 : dg ts (cf (w ++ [k])) c = (dg ts (cf w) c ^^ inc ts k c) := by
      rw [← dg_one hk, ← dg_xor]
      refine dg_congr fun j _ => ?_
      unfold cf
      by_cases q : k = j
      · subst q
        rw [decide_eq_true (List.mem_append_right w (List.mem_singleton.mpr rfl)), decide_eq_false kn, decide_eq_true rfl]
        rfl
      · rw [decide_eq_false q, Bool.xor_false]
        refine decide_eq_decide.mpr ⟨fun z => ?_, fun z => List.mem_append_left _ z⟩
        rcases List.mem_append.mp z with z | z
        · exact z
        · exact absurd (List.mem_singleton.mp z).symm q
    have e2 := ev c hc
    rw [e1] at e2
    unfold inc at e2
    show dg ts (cf w) c = (decide (u1 ts k = c) ^^ decide (u2 ts k = c))
    revert e2
    cases dg ts (cf w) c <;> cases decide (u1 ts k = c) <;> cases decide (u2 ts k = c) <;> simp
  have h1 := rank_more u he hw hk
  rw [pf] at h1
  have h2 := rank_len u he w hw
  rw [h1, List.length_append, List.length_singleton]
  simp
  omega
theorem ring_even (u : p.Pairwise (· ≠ ·)) (he : Ends p ts) {r : List Nat} (h : Ring p ts r) : EvenF p ts (cf r) := by
  have hlen := ring_len h.ring
  cases r with
  | nil => cases hlen
  | cons k r0 =>
    have hkr : k ∈ k :: r0 := List.mem_cons_self
    generalize k :: r0 = r at h hlen hkr
    have hk := h.few k hkr
    have hwo : In ts (wout r k) := fun j hj => h.few j (wout_mem.mp hj).1
    have cn := (parts_conn u he hwo hk).mp (h.closed u he hkr)
    obtain ⟨s, hs, hd⟩ := way_lot hwo cn
    have sk : s k = false := Bool.eq_false_iff.mpr fun z => (wout_mem.mp (hs k z)).2 rfl
    have zev : EvenF p ts (fun j => s j ^^ decide (k = j)) := fun c hc => by
      rw [dg_xor, hd, dg_one hk]
      exact Bool.xor_self _
    have zin : ∀ j, (s j ^^ decide (k = j)) = true → j ∈ r := fun j z => by
      by_cases q : k = j
      · rw [← q]; exact hkr
      · rw [decide_eq_false q, Bool.xor_false] at z
        exact (wout_mem.mp (hs j z)).1
    have all : ∀ j ∈ r, (s j ^^ decide (k = j)) = true := fun j hj => by
      apply Classical.byContradiction
      intro nz
      have zl : cf (r.filter fun i => s i ^^ decide (k = i)) = fun i => s i ^^ decide (k = i) := by
        funext i
        unfold cf
        rw [Bool.eq_iff_iff, decide_eq_true_iff, List.mem_filter]
        exact ⟨fun z => z.2, fun z => ⟨zin i z, z⟩⟩
      have kz : k ∈ r.filter fun i => s i ^^ decide (k = i) := List.mem_filter.mpr ⟨hkr, by rw [sk, decide_eq_true rfl]; rfl⟩
      have hi : In ts (r.filter fun i => s i ^^ decide (k = i)) := fun i hi => h.few i (List.mem_filter.mp hi).1
      have nr := even_rank u he (h.asc.filter _) hi (List.ne_nil_of_mem kz) (by rw [zl]; exact zev)
      have sub : ∀ i ∈ r.filter (fun i => s i ^^ decide (k = i)), i ∈ wout r j := fun i hi => by
        obtain ⟨m1, m2⟩ := List.mem_filter.mp hi
        exact wout_mem.mpr ⟨m1, fun e => nz (by rw [← e]; exact m2)⟩
      have hj2 : In ts (wout r j) := fun i hi => h.few i (wout_mem.mp hi).1
      have sm := spare_mono u he (h.nod.filter _) (wout_nod h.nod j) hj2 sub
      have hl := h.less hj
      have rl := rank_len u he _ hi
      omega
    intro c hc
    rw [← zev c hc]
    refine dg_congr fun j _ => ?_
    unfold cf
    by_cases q : j ∈ r
    · rw [decide_eq_true q, all j q]
    · rw [decide_eq_false q]
      exact (Bool.eq_false_iff.mpr fun z => q (zin j z)).symm
end
end K10
set_option Elab.async false
set_option linter.all false
set_option maxRecDepth 100000
namespace K10
open PySem PySem.Spec PyProof.Rows L2 DL
section
variable {p : List Nat} {ts : List Str}
/-! ## bonds are cuts; cuts are made of bonds -/
structure Bond (p : List Nat) (ts : List Str) (v : List Nat) : Prop where
  lot : v ∈ lotsL ts.length
  bond : bondB p ts v = true
theorem Bond.few {v : List Nat} (h : Bond p ts v) : In ts v := (lots_in _ _ h.lot).1
theorem in_range (ts : List Str) : In ts (List.range ts.length) := fun k hk => List.mem_range.mp hk
theorem bond_cut (u : p.Pairwise (· ≠ ·)) (he : Ends p ts) {v : List Nat} (h : Bond p ts v) : ∃ g : Nat → Bool, ∀ k, k < ts.length → cf v k = cr ts g k := by
  classical
  have hb := h.bond
  unfold bondB at hb
  rw [Bool.and_eq_true, decide_eq_true_iff, List.all_eq_true] at hb
  obtain ⟨hb1, hb2⟩ := hb
  have io := in_outs ts v
  have part : ∀ k ∈ v, partsL p ts (outs v ts.length) k = true := fun k hk => by
    have h1 := rank_more u he io (h.few k hk)
    have h2 := of_decide_eq_true (hb2 k hk)
    apply Classical.byContradiction
    intro q
    rw [if_neg q] at h1
    omega
  cases hv : v with
  | nil =>
    exfalso
    have e : outs v ts.length = List.range ts.length := by
      unfold outs
      refine List.filter_eq_self.mpr fun k _ => decide_eq_true ?_
      rw [hv]
      exact List.not_mem_nil
    rw [e] at hb1
    omega
  | cons k0 v0 =>
    have k0v : k0 ∈ v := by rw [hv]; exact List.mem_cons_self
    rw [← hv]
    have hk0 := h.few k0 k0v
    refine ⟨fun c => decide (Conn (tiesOf ts (outs v ts.length)) (u1 ts k0) c), fun k hk => ?_⟩
    unfold cf cr
    try dsimp only
    by_cases q : k ∈ v
    · rw [decide_eq_true q]
      have pk := part k q
      have nc : ¬ Conn (tiesOf ts (outs v ts.length)) (u1 ts k) (u2 ts k) := fun z => by
        rw [(parts_conn u he io hk).mpr z] at pk
        cases pk
      -- with the first tie of the bond all is joined
      have i1 : In ts (outs v ts.length ++ [k0]) := in_snoc io hk0
      have full := of_decide_eq_true (hb2 k0 k0v)
      have pj : partsL p ts (outs v ts.length ++ [k0]) k = false := by
        apply Classical.byContradiction
        intro z
        have h1 := rank_more u he i1 hk
        rw [if_pos (by simpa using z)] at h1
        have h2 := rank_full u he (in_snoc i1 hk)
        omega
      have cj := (parts_conn u he i1 hk).mp pj
      have reach : ∀ a b, Conn (tiesOf ts (outs v ts.length ++ [k0])) a b → ¬ Conn (tiesOf ts (outs v ts.length)) a b → ¬ Conn (tiesOf ts (outs v ts.length)) (u1 ts k0) a → Conn (tiesOf ts (outs v ts.length)) a (u2 ts k0) := fun a b cab nab n1 => by
        apply Classical.byContradiction
        intro n2
        have cl : ∀ y ∈ tiesOf ts (outs v ts.length ++ [k0]), decide (Conn (tiesOf ts (outs v ts.length)) a y.1) = decide (Conn (tiesOf ts (outs v ts.length)) a y.2) := fun y hy => by
          obtain ⟨j, hj, rfl⟩ := List.mem_map.mp hy
          rcases List.mem_append.mp hj with z | z
          · have t : Conn (tiesOf ts (outs v ts.length)) (u1 ts j) (u2 ts j) := .tie (List.mem_map.mpr ⟨j, z, rfl⟩)
            exact decide_eq_decide.mpr ⟨fun c => c.trans t, fun c => c.trans t.symm⟩
          · rw [List.mem_singleton.mp z]
            show decide (Conn _ a (u1 ts k0)) = decide (Conn _ a (u2 ts k0))
            rw [decide_eq_false (fun c => n1 c.symm), decide_eq_false n2]
        have := conn_closed (Y := fun c => decide (Conn (tiesOf ts (outs v ts.length)) a c)) cl cab
        rw [decide_eq_true (Conn.refl a), decide_eq_false nab] at this
        cases this
      by_cases q1 : Conn (tiesOf ts (outs v ts.length)) (u1 ts k0) (u1 ts k)
      · rw [decide_eq_true q1, decide_eq_false fun q2 => nc (q1.symm.trans q2)]
        rfl
      · by_cases q2 : Conn (tiesOf ts (outs v ts.length)) (u1 ts k0) (u2 ts k)
        · rw [decide_eq_false q1, decide_eq_true q2]
          rfl
        · exact absurd ((reach _ _ cj nc q1).trans (reach _ _ cj.symm (fun z => nc z.symm) q2).symm) nc
    · rw [decide_eq_false q]
      have hm : k ∈ outs v ts.length := outs_mem.mpr ⟨hk, q⟩
      have t : Conn (tiesOf ts (outs v ts.length)) (u1 ts k) (u2 ts k) := .tie (List.mem_map.mpr ⟨k, hm, rfl⟩)
      rw [show decide (Conn (tiesOf ts (outs v ts.length)) (u1 ts k0) (u1 ts k)) = decide (Conn (tiesOf ts (outs v ts.length)) (u1 ts k0) (u2 ts k)) from decide_eq_decide.mpr ⟨fun z => z.trans t, fun z => z.trans t.symm⟩]
      exact (Bool.xor_self _).symm
theorem cut_bond (u : p.Pairwise (· ≠ ·)) (he : Ends p ts) {h : Nat → Bool} {k0 : Nat} (hk : k0 < ts.length) (c : cr ts h k0 = true) : ∃ b, Bond p ts b ∧ ∀ k ∈ b, cr ts h k = true := by
  have hi : In ts ((List.range ts.length).filter fun k => !cr ts h k) := fun k hk => List.mem_range.mp (List.mem_filter.mp hk).1
  have nr : rankOf p ts ((List.range ts.length).filter fun k => !cr ts h k) ≠ rankOf p ts (List.range ts.length) := fun e => by
    have pk : partsL p ts ((List.range ts.length).filter fun k => !cr ts h k) k0 = false := by
      apply Classical.byContradiction
      intro z
      have h1 := rank_more u he hi hk
      rw [if_pos (by simpa using z)] at h1
      have h2 := rank_full u he (in_snoc hi hk)
      omega
    have cn := (parts_conn u he hi hk).mp pk
    have := conn_closed (Y := h) (fun y hy => by
      obtain ⟨j, hj, rfl⟩ := List.mem_map.mp hy
      have := (List.mem_filter.mp hj).2
      have this : (!(h (u1 ts j) ^^ h (u2 ts j))) = true := this
      show h (u1 ts j) = h (u2 ts j)
      revert this
      cases h (u1 ts j) <;> cases h (u2 ts j) <;> simp) cn
    have c : (h (u1 ts k0) ^^ h (u2 ts k0)) = true := c
    have this : h (u1 ts k0) = h (u2 ts k0) := this
    rw [this, Bool.xor_self] at c
    cases c
  obtain ⟨b, b1, b2, b3⟩ := bond_miss u he _ _ rfl hi nr
  refine ⟨b, ⟨b1, b3⟩, fun k kb => ?_⟩
  apply Classical.byContradiction
  intro z
  refine b2 k kb (List.mem_filter.mpr ⟨List.mem_range.mpr ((lots_in _ _ b1).1 k kb), ?_⟩)
  rw [Bool.eq_false_iff.mpr z]
  rfl
theorem some_of {v : Nat → Bool} (h : ¬ ∀ k, k < ts.length → v k = false) : ∃ k, k < ts.length ∧ v k = true := by
  apply Classical.byContradiction
  intro n
  refine h fun k hk => ?_
  apply Classical.byContradiction
  intro z
  exact n ⟨k, hk, by simpa using z⟩
def CutF (ts : List Str) (v : Nat → Bool) : Prop := ∃ h : Nat → Bool, ∀ k, k < ts.length → v k = cr ts h k
end
end K10
set_option Elab.async false
set_option linter.all false
set_option maxRecDepth 100000
namespace K10
open PySem PySem.Spec PyProof.Rows L2 DL
/-! ## lots both even and two-sided; the value at -1, -1 -/
section
variable {p : List Nat} {ts : List Str}
/-! ### lots as lists -/
/-- the lot of a web that has just these ties -/
def lotF (n : Nat) (v : Nat → Bool) : List Nat := (List.range n).filter v
theorem lotF_in {n : Nat} {v : Nat → Bool} : lotF n v ∈ lotsL n := lots_all _ _ (List.pairwise_lt_range.filter _) fun k hk => List.mem_range.mp (List.mem_filter.mp hk).1
theorem lotF_mem {n : Nat} {v : Nat → Bool} {k : Nat} : k ∈ lotF n v ↔ k < n ∧ v k = true := by
  unfold lotF
  rw [List.mem_filter, List.mem_range]
theorem cf_lotF {n : Nat} {v : Nat → Bool} {k : Nat} (hk : k < n) : cf (lotF n v) k = v k := by
  unfold cf
  rw [Bool.eq_iff_iff, decide_eq_true_iff, lotF_mem]
  exact ⟨fun z => z.2, fun z => ⟨hk, z⟩⟩
theorem lot_ext {n : Nat} {v w : List Nat} (hv : v ∈ lotsL n) (hw : w ∈ lotsL n) (h : ∀ k, k < n → cf v k = cf w k) : v = w := by
  have hv := lots_in n v hv
  have hw := lots_in n w hw
  have m : ∀ k, k ∈ v ↔ k ∈ w := fun k => by
    by_cases q : k < n
    · exact decide_eq_decide.mp (h k q)
    · exact ⟨fun z => absurd (hv.1 k z) q, fun z => absurd (hw.1 k z) q⟩
  exact ((List.perm_ext_iff_of_nodup (hv.2.2.imp fun h => Nat.ne_of_lt h) (hw.2.2.imp fun h => Nat.ne_of_lt h)).mpr m).eq_of_pairwise (fun a b _ _ h1 h2 => by omega) hv.2.2 hw.2.2
/-- the ties that just one of two lots has -/
def sd (n : Nat) (v w : List Nat) : List Nat := lotF n fun k => cf v k ^^ cf w k
theorem sd_at {n : Nat} {v w : List Nat} {k : Nat} (hk : k < n) : cf (sd n v w) k = (cf v k ^^ cf w k) := cf_lotF hk
theorem sd_sd {n : Nat} {v w : List Nat} (hv : v ∈ lotsL n) : sd n (sd n v w) w = v := by
  refine lot_ext lotF_in hv fun k hk => ?_
  rw [sd_at hk, sd_at hk]
  cases cf v k <;> cases cf w k <;> rfl
theorem half {n : Nat} {L : List (List Nat)} {w : List Nat} {P : List Nat → Bool} (nd : L.Nodup) (hl : ∀ v ∈ L, v ∈ lotsL n) (cl : ∀ v ∈ L, sd n v w ∈ L) (fl : ∀ v ∈ L, P (sd n v w) = !P v) : L.length = 2 * (L.filter P).length := by
  have le : ∀ Q : List Nat → Bool, (∀ v ∈ L, Q (sd n v w) = !Q v) → (L.filter Q).length ≤ (L.filter fun v => !Q v).length := fun Q fq => by
    have h := List.Nodup.length_le_of_subset (l₁ := (L.filter Q).map fun v => sd n v w) (l₂ := L.filter fun v => !Q v) ?_ ?_
    · rwa [List.length_map] at h
    · refine List.pairwise_map.mpr ?_
      have := nd.filter Q
      refine List.Pairwise.imp_of_mem (fun {a b} ha hb h e => h ?_) this
      rw [← sd_sd (w := w) (hl a (List.mem_filter.mp ha).1), e, sd_sd (hl b (List.mem_filter.mp hb).1)]
    · intro x hx
      obtain ⟨v, hv, rfl⟩ := List.mem_map.mp hx
      obtain ⟨m1, m2⟩ := List.mem_filter.mp hv
      exact List.mem_filter.mpr ⟨cl v m1, by rw [fq v m1, m2]; rfl⟩
  have h1 := le P fl
  have h2 := le (fun v => !P v) fun v hv => by rw [fl v hv]
  have e : (L.filter fun v => !!P v) = L.filter P := List.filter_congr fun v _ => Bool.not_not _
  rw [e] at h2
  have h3 : (L.filter P).length + (L.filter fun v => !P v).length = L.length := by
    have := (List.filter_append_perm P L).length_eq
    rwa [List.length_append] at this
  omega
open Classical in
/-- even lots within a lot -/
noncomputable def evIn (p : List Nat) (ts : List Str) (s : List Nat) : List (List Nat) := (lotsL ts.length).filter fun z => decide (EvenF p ts (cf z) ∧ ∀ k ∈ z, k ∈ s)
open Classical in
/-- cuts outside a lot -/
noncomputable def cuOut (ts : List Str) (s : List Nat) : List (List Nat) := (lotsL ts.length).filter fun z => decide (CutF ts (cf z) ∧ ∀ k ∈ z, k ∉ s)
open Classical in
theorem evIn_mem {s z : List Nat} : z ∈ evIn p ts s ↔ z ∈ lotsL ts.length ∧ EvenF p ts (cf z) ∧ ∀ k ∈ z, k ∈ s := by
  unfold evIn
  rw [List.mem_filter, decide_eq_true_iff]
open Classical in
theorem cuOut_mem {s z : List Nat} : z ∈ cuOut ts s ↔ z ∈ lotsL ts.length ∧ CutF ts (cf z) ∧ ∀ k ∈ z, k ∉ s := by
  unfold cuOut
  rw [List.mem_filter, decide_eq_true_iff]
open Classical in
theorem evIn_nod {s : List Nat} : (evIn p ts s).Nodup := by
  unfold evIn
  exact (lots_nodup _).filter _
open Classical in
theorem cuOut_nod {s : List Nat} : (cuOut ts s).Nodup := by
  unfold cuOut
  exact (lots_nodup _).filter _
theorem same_len {α : Type} {L M : List α} (hL : L.Nodup) (hM : M.Nodup) (h : ∀ x, x ∈ L ↔ x ∈ M) : L.length = M.length :=
  ((List.perm_ext_iff_of_nodup hL hM).mpr h).length_eq
theorem even_sd {v w : List Nat} (hv : EvenF p ts (cf v)) (hw : EvenF p ts (cf w)) : EvenF p ts (cf (sd ts.length v w)) := fun c hc => by
  rw [dg_congr fun k hk => sd_at hk, dg_xor, hv c hc, hw c hc]
  rfl
theorem cut_sd {v w : List Nat} (hv : CutF ts (cf v)) (hw : CutF ts (cf w)) : CutF ts (cf (sd ts.length v w)) := by
  obtain ⟨h, hh⟩ := hv
  obtain ⟨g, hg⟩ := hw
  exact ⟨fun c => h c ^^ g c, fun k hk => by rw [sd_at hk, hh k hk, hg k hk, cr_xor]⟩
theorem even_count (u : p.Pairwise (· ≠ ·)) (he : Ends p ts) : ∀ (n : Nat) (s : List Nat), s.length = n → s.Nodup → In ts s → (evIn p ts s).length = 2 ^ (s.length - rankOf p ts s)
  | 0, s, hn, nd, hi => by
    have e : s = [] := List.length_eq_zero_iff.mp hn
    subst e
    have : evIn p ts [] = [[]] := by
      have h1 : ∀ z, z ∈ evIn p ts [] ↔ z = [] := fun z => by
        rw [evIn_mem]
        constructor
        · rintro ⟨_, _, h⟩
          exact List.eq_nil_iff_forall_not_mem.mpr fun k hk => absurd (h k hk) List.not_mem_nil
        · rintro rfl
          refine ⟨lots_all _ _ .nil (fun k hk => by cases hk), fun c _ => ?_, fun k hk => hk⟩
          exact dg_none
      have h2 := (List.perm_ext_iff_of_nodup (evIn_nod (p := p) (ts := ts) (s := [])) (List.nodup_cons.mpr ⟨List.not_mem_nil, List.nodup_nil⟩ : ([[]] : List (List Nat)).Nodup)).mpr fun z => by rw [h1, List.mem_singleton]
      exact List.perm_singleton.mp h2
    rw [this]
    show 1 = 2 ^ (0 - _)
    rw [Nat.zero_sub]
  | n + 1, s, hn, nd, hi => by
    rcases List.eq_nil_or_concat s with e | ⟨w, k, e⟩
    · rw [e] at hn; cases hn
    rw [List.concat_eq_append] at e
    subst e
    have hw : In ts w := fun j hj => hi j (List.mem_append_left _ hj)
    have hk : k < ts.length := hi k (List.mem_append_right _ (List.mem_singleton.mpr rfl))
    have ndw := (List.nodup_append.mp nd).1
    have kn : k ∉ w := fun z => (List.nodup_append.mp nd).2.2 k z k (List.mem_singleton.mpr rfl) rfl
    have lw : w.length = n := by rw [List.length_append] at hn; exact Nat.succ.inj hn
    have ih := even_count u he n w lw ndw hw
    have rm := rank_more u he hw hk
    have rl := rank_len u he w hw
    obtain ⟨m1, m2⟩ := ends_at he hk
    have split : ∀ z : List Nat, (∀ j ∈ z, j ∈ w ++ [k]) → k ∉ z → ∀ j ∈ z, j ∈ w := fun z hz nk j hj => by
      rcases List.mem_append.mp (hz j hj) with q | q
      · exact q
      · exact absurd (by rw [← List.mem_singleton.mp q]; exact hj) nk
    rw [List.length_append, List.length_singleton, rm]
    by_cases pk : partsL p ts w k = true
    · rw [if_pos pk]
      have : (evIn p ts (w ++ [k])).length = (evIn p ts w).length := same_len evIn_nod evIn_nod fun z => by
        rw [evIn_mem, evIn_mem]
        refine ⟨fun ⟨h1, h2, h3⟩ => ⟨h1, h2, split z h3 fun kz => ?_⟩, fun ⟨h1, h2, h3⟩ => ⟨h1, h2, fun j hj => List.mem_append_left _ (h3 j hj)⟩⟩
        have cn : Conn (tiesOf ts w) (u1 ts k) (u2 ts k) := odd_joined u he m1 m2 (s := fun j => cf z j ^^ decide (k = j)) (fun j _ q => by
          by_cases jk : k = j
          · subst jk
            rw [show cf z k = true from decide_eq_true kz, decide_eq_true rfl] at q
            cases q
          · rw [decide_eq_false jk, Bool.xor_false] at q
            rcases List.mem_append.mp (h3 j (of_decide_eq_true q)) with t | t
            · exact t
            · exact absurd (List.mem_singleton.mp t).symm jk) fun c hc => by
          rw [dg_xor, h2 c hc, dg_one hk, Bool.false_xor]
          rfl
        rw [(parts_conn u he hw hk).mpr cn] at pk
        cases pk
      rw [this, ih]
      congr 1
      omega
    · rw [if_neg pk]
      have pf : partsL p ts w k = false := Bool.eq_false_iff.mpr pk
      obtain ⟨s0, hs, hd⟩ := way_lot hw ((parts_conn u he hw hk).mp pf)
      have sk : s0 k = false := Bool.eq_false_iff.mpr fun z => kn (hs k z)
      have zk : cf (lotF ts.length fun j => s0 j ^^ decide (k = j)) k = true := by rw [cf_lotF hk, sk, decide_eq_true rfl]; rfl
      have zev : EvenF p ts (cf (lotF ts.length fun j => s0 j ^^ decide (k = j))) := fun c hc => by
        rw [dg_congr fun j hj => cf_lotF hj, dg_xor, hd, dg_one hk]
        exact Bool.xor_self _
      have zin : ∀ j ∈ lotF ts.length fun j => s0 j ^^ decide (k = j), j ∈ w ++ [k] := fun j hj => by
        obtain ⟨_, q⟩ := lotF_mem.mp hj
        by_cases jk : k = j
        · rw [← jk]; exact List.mem_append_right _ (List.mem_singleton.mpr rfl)
        · rw [decide_eq_false jk, Bool.xor_false] at q
          exact List.mem_append_left _ (hs j q)
      have hf := half (n := ts.length) (L := evIn p ts (w ++ [k])) (w := lotF ts.length fun j => s0 j ^^ decide (k = j)) (P := fun z => !cf z k) evIn_nod (fun v hv => (evIn_mem.mp hv).1) (fun v hv => by
        obtain ⟨h1, h2, h3⟩ := evIn_mem.mp hv
        refine evIn_mem.mpr ⟨lotF_in, even_sd h2 zev, fun j hj => ?_⟩
        obtain ⟨jl, q⟩ := lotF_mem.mp hj
        by_cases jv : j ∈ v
        · exact h3 j jv
        · rw [show cf v j = false from decide_eq_false jv, Bool.false_xor] at q
          exact zin j (of_decide_eq_true q)) (fun v hv => by rw [sd_at hk, zk]; cases cf v k <;> rfl)
      rw [hf]
      have : ((evIn p ts (w ++ [k])).filter fun z => !cf z k).length = (evIn p ts w).length := same_len (evIn_nod.filter _) evIn_nod fun z => by
        rw [List.mem_filter, evIn_mem, evIn_mem]
        constructor
        · rintro ⟨⟨h1, h2, h3⟩, h4⟩
          refine ⟨h1, h2, split z h3 fun kz => ?_⟩
          rw [show cf z k = true from decide_eq_true kz] at h4
          cases h4
        · rintro ⟨h1, h2, h3⟩
          refine ⟨⟨h1, h2, fun j hj => List.mem_append_left _ (h3 j hj)⟩, ?_⟩
          rw [show cf z k = false from decide_eq_false fun kz => kn (h3 k kz)]
          rfl
      rw [this, ih, Nat.mul_comm, ← Nat.pow_succ]
      congr 1
      omega
theorem cut_more (u : p.Pairwise (· ≠ ·)) (he : Ends p ts) {s : List Nat} (hs : In ts s) {k : Nat} (hk : k < ts.length) : (cuOut ts s).length * 2 ^ rankOf p ts s = (cuOut ts (s ++ [k])).length * 2 ^ rankOf p ts (s ++ [k]) := by
  classical
  have out : ∀ z, z ∈ cuOut ts (s ++ [k]) ↔ z ∈ cuOut ts s ∧ k ∉ z := fun z => by
    rw [cuOut_mem, cuOut_mem]
    constructor
    · rintro ⟨h1, h2, h3⟩
      exact ⟨⟨h1, h2, fun j hj q => h3 j hj (List.mem_append_left _ q)⟩, fun q => h3 k q (List.mem_append_right _ (List.mem_singleton.mpr rfl))⟩
    · rintro ⟨⟨h1, h2, h3⟩, h4⟩
      refine ⟨h1, h2, fun j hj q => ?_⟩
      rcases List.mem_append.mp q with q | q
      · exact h3 j hj q
      · exact h4 (by rw [← List.mem_singleton.mp q]; exact hj)
  rw [rank_more u he hs hk]
  by_cases pk : partsL p ts s k = true
  · rw [if_pos pk]
    have avoid : ∀ j, j ∈ s → cr ts (fun c => decide (Conn (tiesOf ts s) (u1 ts k) c)) j = false := fun j hj => by
      have t : Conn (tiesOf ts s) (u1 ts j) (u2 ts j) := .tie (List.mem_map.mpr ⟨j, hj, rfl⟩)
      unfold cr
      try dsimp only
      rw [show decide (Conn (tiesOf ts s) (u1 ts k) (u1 ts j)) = decide (Conn (tiesOf ts s) (u1 ts k) (u2 ts j)) from decide_eq_decide.mpr ⟨fun z => z.trans t, fun z => z.trans t.symm⟩]
      exact Bool.xor_self _
    have has : cr ts (fun c => decide (Conn (tiesOf ts s) (u1 ts k) c)) k = true := by
      have nc : ¬ Conn (tiesOf ts s) (u1 ts k) (u2 ts k) := fun z => by
        rw [(parts_conn u he hs hk).mpr z] at pk
        cases pk
      unfold cr
      try dsimp only
      rw [decide_eq_true (Conn.refl _), decide_eq_false nc]
      rfl
    have hf := half (n := ts.length) (L := cuOut ts s) (w := lotF ts.length (cr ts fun c => decide (Conn (tiesOf ts s) (u1 ts k) c))) (P := fun z => !cf z k) cuOut_nod (fun v hv => (cuOut_mem.mp hv).1) (fun v hv => by
      obtain ⟨h1, h2, h3⟩ := cuOut_mem.mp hv
      refine cuOut_mem.mpr ⟨lotF_in, cut_sd h2 ⟨_, fun j hj => cf_lotF hj⟩, fun j hj js => ?_⟩
      obtain ⟨jl, q⟩ := lotF_mem.mp hj
      rw [cf_lotF jl, avoid j js, Bool.xor_false] at q
      exact h3 j (of_decide_eq_true q) js) (fun v hv => by rw [sd_at hk, cf_lotF hk, has]; cases cf v k <;> rfl)
    have e : ((cuOut ts s).filter fun z => !cf z k).length = (cuOut ts (s ++ [k])).length := same_len (cuOut_nod.filter _) cuOut_nod fun z => by
      rw [List.mem_filter, out]
      refine and_congr_right fun _ => ?_
      unfold cf
      rw [Bool.not_eq_true', decide_eq_false_iff_not]
    rw [hf, e, Nat.pow_succ]
    rw [Nat.mul_comm 2, Nat.mul_assoc, Nat.mul_comm 2]
  · rw [if_neg pk, Nat.add_zero]
    have pf : partsL p ts s k = false := Bool.eq_false_iff.mpr pk
    have cn := (parts_conn u he hs hk).mp pf
    have e : (cuOut ts s).length = (cuOut ts (s ++ [k])).length := same_len cuOut_nod cuOut_nod fun z => by
      rw [out]
      refine ⟨fun h => ⟨h, fun kz => ?_⟩, fun h => h.1⟩
      obtain ⟨h1, ⟨g, hg⟩, h3⟩ := cuOut_mem.mp h
      have := conn_closed (Y := g) (fun y hy => by
        obtain ⟨j, hj, rfl⟩ := List.mem_map.mp hy
        have h4 := hg j (hs j hj)
        rw [show cf z j = false from decide_eq_false fun q => h3 j q hj] at h4
        have h4 : false = (g (u1 ts j) ^^ g (u2 ts j)) := h4
        show g (u1 ts j) = g (u2 ts j)
        revert h4
        cases g (u1 ts j) <;> cases g (u2 ts j) <;> simp) cn
      have h4 := hg k hk
      rw [show cf z k = true from decide_eq_true kz] at h4
      have h4 : true = (g (u1 ts k) ^^ g (u2 ts k)) := h4
      have this : g (u1 ts k) = g (u2 ts k) := this
      rw [this, Bool.xor_self] at h4
      cases h4
    rw [e]
theorem cut_count (u : p.Pairwise (· ≠ ·)) (he : Ends p ts) {s : List Nat} (hs : In ts s) : (cuOut ts s).length * 2 ^ rankOf p ts s = 2 ^ rankOf p ts (List.range ts.length) := by
  have go : ∀ (w : List Nat), In ts w → (cuOut ts s).length * 2 ^ rankOf p ts s = (cuOut ts (s ++ w)).length * 2 ^ rankOf p ts (s ++ w) := by
    intro w
    induction w using snoc_ind with
    | h0 => intro _; rw [List.append_nil]
    | h1 l a ih =>
      intro hw
      have hl : In ts l := fun j hj => hw j (List.mem_append_left _ hj)
      have ha : a < ts.length := hw a (List.mem_append_right _ (List.mem_singleton.mpr rfl))
      rw [ih hl, cut_more u he (fun j hj => (List.mem_append.mp hj).elim (hs j) (hl j)) ha, List.append_assoc]
  have hr := in_range ts
  rw [go _ hr]
  have e1 : rankOf p ts (s ++ List.range ts.length) = rankOf p ts (List.range ts.length) := by
    refine lot_rank u he (fun k hk => (List.mem_append.mp hk).elim (hs k) (hr k)) hr (fun k hk => ?_) fun k hk => List.mem_append.mpr (.inr hk)
    rcases List.mem_append.mp hk with q | q
    · exact List.mem_range.mpr (hs k q)
    · exact q
  have e2 : (cuOut ts (s ++ List.range ts.length)).length = ([[]] : List (List Nat)).length := same_len cuOut_nod (List.nodup_cons.mpr ⟨List.not_mem_nil, List.nodup_nil⟩) fun z => by
    rw [cuOut_mem, List.mem_singleton]
    constructor
    · rintro ⟨h1, _, h3⟩
      exact List.eq_nil_iff_forall_not_mem.mpr fun k hk => h3 k hk (List.mem_append_right _ (List.mem_range.mpr ((lots_in _ _ h1).1 k hk)))
    · rintro rfl
      exact ⟨lots_all _ _ .nil (fun k hk => by cases hk), ⟨fun _ => false, fun k _ => rfl⟩, fun k hk => by cases hk⟩
  rw [e1, e2]
  exact Nat.one_mul _
end
end K10
set_option Elab.async false
set_option linter.all false
set_option maxRecDepth 100000
set_option Elab.async false
set_option linter.all false
set_option maxRecDepth 100000
namespace K10
open PySem PySem.Spec PyProof.Rows L2 DL
/-! ## even and two-sided, as the program tells it -/
def flatC (ts : List Str) (lot : List Nat) : List Nat := (lot.map fun k => [u1 ts k, u2 ts k]).flatten
theorem join_lots (F : List (List Nat)) : Txt.join ("" : Str) (F.map toS) = toS F.flatten := by
  have e0 : ("" : Str) = ⟨#[]⟩ := by decide +kernel
  rw [e0]
  unfold Txt.join
  rw [StrLaws.glued_eq_join]
  induction F with
  | nil => rfl
  | cons h F ih =>
    cases F with
    | nil =>
      show toS h = toS (h ++ [])
      rw [List.append_nil]
    | cons g r =>
      show toS h ++ ⟨#[]⟩ ++ Str.join ⟨#[]⟩ ((g :: r).map toS) = toS (h ++ (g :: r).flatten)
      rw [ih]
      refine Str.ext' ?_
      show h.toArray ++ #[] ++ (g :: r).flatten.toArray = (h ++ (g :: r).flatten).toArray
      simp
def oddC (ts : List Str) (lot : List Nat) (c : Nat) : Nat := ((flatC ts lot).filter fun d => decide (d = c)).length
theorem oddC_bx {ts : List Str} {c : Nat} : ∀ lot : List Nat, bx lot (fun k => inc ts k c) = decide (oddC ts lot c % 2 = 1)
  | [] => rfl
  | k :: lot => by
    have ih := oddC_bx (ts := ts) (c := c) lot
    show (inc ts k c ^^ bx lot fun k => inc ts k c) = _
    rw [ih]
    have e : oddC ts (k :: lot) c = (if u1 ts k = c then 1 else 0) + ((if u2 ts k = c then 1 else 0) + oddC ts lot c) := by
      unfold oddC
      show (List.filter _ (u1 ts k :: u2 ts k :: flatC ts lot)).length = _
      rw [List.filter_cons, List.filter_cons]
      by_cases a : u1 ts k = c <;> by_cases b : u2 ts k = c <;> simp [a, b] <;> omega
    rw [e]
    unfold inc
    generalize oddC ts lot c = x
    have h1 : (1 + x) % 2 = 1 ↔ ¬ x % 2 = 1 := by omega
    have h2 : (1 + (1 + x)) % 2 = 1 ↔ x % 2 = 1 := by omega
    by_cases a : u1 ts k = c <;> by_cases b : u2 ts k = c <;> by_cases q : x % 2 = 1 <;> simp [a, b, q, h1, h2]
section
variable {p : List Nat} {ts : List Str}
theorem lot_filter {n : Nat} {v : List Nat} (h : v ∈ lotsL n) : (List.range n).filter (cf v) = v := lot_ext (n := n) lotF_in h fun k hk => cf_lotF hk
def evenB (p : List Nat) (ts : List Str) (lot : List Nat) : Bool := p.all fun c => decide (oddC ts lot c % 2 = 0)
theorem evenB_iff {lot : List Nat} (h : lot ∈ lotsL ts.length) : evenB p ts lot = true ↔ EvenF p ts (cf lot) := by
  unfold evenB EvenF
  rw [List.all_eq_true]
  refine forall_congr' fun c => forall_congr' fun _ => ?_
  have e : dg ts (cf lot) c = decide (oddC ts lot c % 2 = 1) := by
    unfold dg
    rw [← bx_filter, lot_filter h, oddC_bx]
  rw [e, decide_eq_true_iff, decide_eq_false_iff_not]
  omega
def twoB (p : List Nat) (ts : List Str) (lot : List Nat) : Bool := (subsL p).any fun h => decide (crossL ts h = lot)
theorem cross_cr {h : List Nat} {k : Nat} (hk : k < ts.length) : cf (crossL ts h) k = cr ts (fun c => decide (c ∈ h)) k := by
  unfold cf crossL cr
  rw [Bool.eq_iff_iff, decide_eq_true_iff, List.mem_filter]
  exact ⟨fun z => z.2, fun z => ⟨List.mem_range.mpr hk, z⟩⟩
theorem cross_lot {h : List Nat} : crossL ts h ∈ lotsL ts.length := lotF_in
theorem twoB_iff (he : Ends p ts) {lot : List Nat} (h : lot ∈ lotsL ts.length) : twoB p ts lot = true ↔ CutF ts (cf lot) := by
  unfold twoB
  rw [List.any_eq_true]
  constructor
  · rintro ⟨g, _, e⟩
    refine ⟨fun c => decide (c ∈ g), fun k hk => ?_⟩
    rw [← of_decide_eq_true e, cross_cr hk]
  · rintro ⟨g, hg⟩
    refine ⟨p.filter g, (subs_mem p _).mpr List.filter_sublist, decide_eq_true (lot_ext (n := ts.length) cross_lot h fun k hk => ?_)⟩
    rw [cross_cr hk, hg k hk]
    obtain ⟨m1, m2⟩ := ends_at he hk
    have e : ∀ c, c ∈ p → decide (c ∈ p.filter g) = g c := fun c hc => by
      rw [Bool.eq_iff_iff, decide_eq_true_iff, List.mem_filter]
      exact ⟨fun z => z.2, fun z => ⟨hc, z⟩⟩
    unfold cr
    dsimp only
    rw [e _ m1, e _ m2]
/-- whether a lot meets another in an odd number of ties -/
def oddM (v w : List Nat) : Bool := decide ((v.filter fun k => decide (k ∈ w)).length % 2 = 1)
theorem oddM_dot {v w : List Nat} (h : v ∈ lotsL ts.length) : oddM v w = dot ts (cf v) (cf w) := by
  unfold oddM dot
  rw [← bx_filter, lot_filter h, bx_count]
  rfl
end
end K10
set_option Elab.async false
set_option linter.all false
set_option maxRecDepth 100000
namespace DL
open PySem PySem.Spec PyProof.Rows L2
/-! ### a list turned round; list(range(n)) that will change -/
end DL
set_option Elab.async false
set_option linter.all false
set_option maxRecDepth 100000
namespace DL
open PySem PySem.Spec PyProof.Rows L2
/-! ### sorted of a tuple of whole numbers -/
end DL
set_option Elab.async false
set_option linter.all false
set_option maxRecDepth 100000
namespace DL
open PySem PySem.Spec PyProof.Rows L2
/-! ### sorted of a tuple of tuples of ints -/
end DL
set_option Elab.async false
set_option linter.all false
set_option maxRecDepth 100000
namespace DL
open PySem PySem.Spec PyProof.Rows L2
/-! ### dicts whose keys are tuples of ints and texts -/
def kDs (k : List Key) : D := .tup (k.map kD)
def ik (l : List Int) : List Key := l.map Sum.inl
theorem kDs_ik (l : List Int) : kDs (ik l) = .tup (l.map D.int) := by
  unfold kDs ik
  rw [List.map_map]
  rfl
theorem ik_inj {a b : List Int} (h : ik a = ik b) : a = b := List.map_inj_right (fun _ _ e => Sum.inl.inj e) |>.mp h
section
variable {K : PySem.W.Frag} {H : Hp} {μ : Mu}
theorem keys_rep : ∀ {k : List Key} {vs : List V}, RepL K H μ (k.map kD) vs → vs = k.map kV
  | [], _, h => by
    rw [List.map_nil] at h
    unfold RepL at h
    exact h
  | x :: k, _, h => by
    rw [List.map_cons] at h
    unfold RepL at h
    obtain ⟨v, r, rfl, h1, h2⟩ := h
    rw [kD_rep h1, keys_rep h2]
    rfl
theorem to_keys : ∀ k : List Key, RepL K H μ (k.map kD) (k.map kV)
  | [] => RepL.nil
  | .inl i :: k => RepL.cons to_int (to_keys k)
  | .inr x :: k => RepL.cons to_str (to_keys k)
theorem tkey_rep {k : List Key} {v : V} (h : Rep K H μ (kDs k) v) : ∃ b, v = .ref b ∧ H b = some (.tup (k.map kV)) := by
  obtain ⟨a, vs, rfl, im, rl⟩ := rep_tup h
  rw [keys_rep rl] at im
  exact ⟨a, rfl, im.at_.1⟩
theorem to_tkey (rm : RM K H μ) {k : List Key} {b : Addr} (h : H b = some (.tup (k.map kV))) : Rep K H μ (kDs k) (.ref b) := by
  unfold kDs Rep
  refine ⟨b, _, rfl, .inl ⟨h, ?_⟩, to_keys k⟩
  cases e : μ b with
  | none => rfl
  | some o =>
    have q := rm b o e
    cases o with
    | lst ds => obtain ⟨vs, h1, _⟩ := q; rw [h] at h1; cases h1
    | dct kvs => obtain ⟨vs, h1, _⟩ := q; rw [h] at h1; cases h1
    | dtt kvs => obtain ⟨vs, h1, _⟩ := q; rw [h] at h1; cases h1
    | lck kvs => obtain ⟨o, vs, h1, _⟩ := q; rw [h] at h1; cases h1
    | ftp ds => obtain ⟨o, vs, h1, _⟩ := q; rw [h] at h1; cases h1
    | ins C fs => obtain ⟨dx, vs, h1, _⟩ := q; rw [h] at h1; cases h1
end
theorem RM.cellT {K : PySem.W.Frag} {H : Hp} {μ : Mu} {p : Addr} {kv : List (List Key × V)} {kvs : List (List Key × D)} (rm : RM K H μ) (n : H p = none) (r : RepK K H μ kvs kv) : RM K (upd H p (.dT kv)) (DL.put μ p (.dtt kvs)) :=
  rm.put (Kp.cell n) (fun a o ea e => upd_ne ea) ⟨kv, upd_same, r.mono (Kp.cell n) _ _⟩
/-- {} whose keys will be tuples -/
def gDNewT : GE := fun _ μ R => ∀ a, μ a = none → R (.adr a) (put μ a (.dtt []))
theorem de_dnewT {X : Cx} {pos : Pos} : DE X (.Dict [] [] pos) gDNewT := by
  refine ⟨_, pe_dnewT, fun σ H δ μ Q R rm rs q f => ?_⟩
  intro p n
  exact f (.ref p) (.adr p) _ _ (Kp.cell n) (rm.cellT n (by unfold RepK; rfl)) to_adr (q p (rm.free n))
/-- d[t] = e -/
def setT (x y d : D) (μ : Mu) (R : Mu → Prop) : Prop := ∃ (a : Addr) (kvs : List (List Key × D)) (k : List Key), x = .adr a ∧ μ a = some (.dtt kvs) ∧ y = kDs k ∧ kvs.length < sizeLine ∧ R (put μ a (.dtt (putD kvs k d)))
def hSubT (go gi : GE) : GH := fun d δ μ R => go δ μ fun x μ1 => gi δ μ1 fun y μ2 => setT x y d μ2 fun μ3 => R δ μ3
theorem simH_subT {K : PySem.W.Frag} {go gi : GE} : SimH K (gSub (tOf K go) (tOf K gi) rSetD) (hSubT go gi) := by
  intro v d σ H δ μ Q R rm rs r q f
  refine sim_of σ H δ μ _ _ rm rs q fun x dx H1 μ1 k1 rm1 r1 q1 => ?_
  refine sim_of σ H1 δ μ1 _ _ rm1 (rs.mono k1) q1 fun y dy H2 μ2 k2 rm2 r2 q2 => ?_
  obtain ⟨a, kvs, k, rfl, e0, rfl, hl, q2⟩ := q2
  obtain ⟨kv, e1, l⟩ := rm2 a _ e0
  have kw : Kp H2 μ2 (upd H2 a (.dT (putK kv k v))) (put μ2 a (.dtt (putD kvs k d))) := Kp.write e0
  obtain ⟨b, rfl, eb⟩ := tkey_rep r2
  refine ⟨a, _, rep_adr (r1.mono k2), DPut.t e1 eb (by rw [l.length]; exact hl), f _ _ _ _ (k1.trans (k2.trans kw)) ?_ (rs.mono (k1.trans (k2.trans kw))) q2⟩
  exact rm2.put (m := .dtt (putD kvs k d)) kw (fun b o n _ => upd_ne n) ⟨_, upd_same, (l.put (r.mono (k1.trans k2))).mono kw _ _⟩
/-! ### d.setdefault(t, e) -/
/-! ### the keys of a dict that is let go: walked, listed, sorted -/
def keysD {β : Type} (kvs : List (List Key × β)) : List D := kvs.map fun p => kDs p.1
theorem repK_keys {K : PySem.W.Frag} {H : Hp} {μ : Mu} : ∀ {kvs : List (List Key × D)} {kv : List (List Key × V)}, RepK K H μ kvs kv → kv.map (·.1) = kvs.map (·.1)
  | [], _, h => by
    unfold RepK at h
    subst h
    rfl
  | (k, d) :: r, _, h => by
    unfold RepK at h
    obtain ⟨v, s, rfl, h1, h2⟩ := h
    rw [List.map_cons, List.map_cons, repK_keys h2]
end DL
set_option Elab.async false
set_option linter.all false
set_option maxRecDepth 100000
namespace DL
open PySem PySem.W PySem.Spec PyProof.Rows L2
/-! ### dict comprehensions whose keys are tuples -/
/-! ### at data level -/
end DL
set_option Elab.async false
set_option linter.all false
set_option maxRecDepth 100000
namespace K10
open PySem PySem.W PySem.Spec PyProof.Rows L2 DL
/-! mathematics of rows compared -/
theorem eqvAll_ints : ∀ r s : List Int, PyData.eqvAll (r.map .int) (s.map .int) = decide (r = s)
  | [], [] => by unfold PyData.eqvAll; rfl
  | [], _ :: _ => by unfold PyData.eqvAll; rfl
  | _ :: _, [] => by unfold PyData.eqvAll; rfl
  | x :: r, y :: s => by
    rw [List.map_cons, List.map_cons]
    unfold PyData.eqvAll
    rw [eqvAll_ints r s]
    unfold PyData.eqv
    by_cases h1 : x = y
    · by_cases h2 : r = s
      · simp [h1, h2]
      · simp [h1, h2]
    · simp [h1]
theorem eqv_ints (r s : List Int) : PyData.eqv (.tuple (r.map .int)) (.tuple (s.map .int)) = decide (r = s) := by
  unfold PyData.eqv
  exact eqvAll_ints r s
end K10
set_option Elab.async false
set_option linter.all false
set_option maxRecDepth 100000
namespace K10
open PySem PySem.Spec PyProof.Rows L2 DL
section
variable {P : Program} {w : World} {K : PySem.W.Frag} {mg : Str → Option Value} {base : Heap} {A : Ad}
/-! ### rings, bonds, even and two-sided lots, by the program -/
theorem two_of {y : Str} (h : y.cps.size = 2) : y = toS [(ends y).1, (ends y).2] := by
  obtain ⟨⟨l⟩⟩ := y
  match l, h with
  | [a, b], _ => rfl
theorem tie_toS {p : List Nat} {ts : List Str} (ok : OkWeb p ts) {k : Nat} (hk : k < ts.length) : ts.getD k Str.empty = toS [u1 ts k, u2 ts k] := by
  have et : ts.getD k Str.empty = ts[k] := by rw [List.getD_eq_getElem?_getD, List.getElem?_eq_getElem hk]; rfl
  have := two_of (ok.ties _ (List.getElem_mem hk)).1
  unfold u1 u2
  rw [et]
  exact this
theorem count_len (c : Nat) (l : List Nat) : PyProof.Rows.cnt c l = ((l.filter fun d => decide (d = c)).length : Nat) := by
  induction l with
  | nil => rfl
  | cons n l ih =>
    rw [PyProof.Rows.cnt_cons, ih, List.filter_cons]
    by_cases e : n = c
    · rw [if_pos e, if_pos (decide_eq_true e), List.length_cons]
      omega
    · rw [if_neg e, if_neg (by rw [decide_eq_false e]; exact Bool.false_ne_true)]
      omega
theorem count_at (l : List Nat) (c : Nat) : Txt.count (toS l) (sg c) = ((l.filter fun d => decide (d = c)).length : Nat) := by
  unfold sg
  rw [count_cnt, toS_list, count_len]
theorem sum_lots (F : List (List Nat)) (k : Nat) : ((F.map toS).map (·.length)).sum + (F.map toS).length * k = F.flatten.length + F.length * k := by
  rw [List.map_map, List.length_map, List.length_flatten]
  have : (List.map ((fun x : Str => x.length) ∘ toS) F) = F.map List.length := List.map_congr_left fun h _ => by show h.toArray.size = _; rw [List.size_toArray]
  rw [this]
def g_is_ring (C : Addr) : GC := fun ds μ R => ∃ (p : List Nat) (ts : List Str) (lot : List Nat), ds = [dWeb C p ts, dLot lot] ∧ OkWeb p ts ∧ AscLot lot ts.length ∧ lot.length ≤ 11 ∧ R (.bl (ringB p ts lot)) μ
def g_is_bond (C : Addr) : GC := fun ds μ R => ∃ (p : List Nat) (ts : List Str) (lot : List Nat), ds = [dWeb C p ts, dLot lot] ∧ OkWeb p ts ∧ AscLot lot ts.length ∧ lot.length ≤ 11 ∧ R (.bl (bondB p ts lot)) μ
def g_is_even (C : Addr) : GC := fun ds μ R => ∃ (p : List Nat) (ts : List Str) (lot : List Nat), ds = [dWeb C p ts, dLot lot] ∧ OkWeb p ts ∧ AscLot lot ts.length ∧ lot.length ≤ 11 ∧ R (.bl (evenB p ts lot)) μ
def g_is_two_sided (C : Addr) : GC := fun ds μ R => ∃ (p : List Nat) (ts : List Str) (lot : List Nat), ds = [dWeb C p ts, dLot lot] ∧ OkWeb p ts ∧ AscLot lot ts.length ∧ lot.length ≤ 11 ∧ R (.bl (twoB p ts lot)) μ
def N43 : List Str := ["web", "lot"]
theorem sc43 : FnScope N43 ["web", "lot"] (defScope (top 43)) := ⟨rfl, rfl, rfl, by decide +kernel, rfl, by decide +kernel, by decide +kernel⟩
theorem ok_is_ring (T : Tx K mg A) : FnOk P w K mg base CX0 6 A.is_ring A.fd_is_ring ["web", "lot"] (toSp K (g_is_ring A.Web)) := by
  refine okD T.F_is_ring sc43 (fun ds μ R h => ?_) ⟨_, fun cdv A0 outer s H E hr =>
    (dss_cons (ds_expr (de_call ((ok_check_web_and_lot T).mono (by decide)) hr (by rfl) T.g_check_web_and_lot T.F_check_web_and_lot.kp T.b_check_web_and_lot (da_cons (dv 0) (da_cons (dv 1) da_nil))))
      (dss_one (ds_ret (de_call ((ok_is_ring_lot T).mono (by decide)) hr (by rfl) T.g_is_ring_lot T.F_is_ring_lot.kp T.b_is_ring_lot (da_cons (dv 0) (da_cons (dv 1) da_nil)))))), fun ds μ R h => ?_⟩
  · obtain ⟨p, ts, lot, rfl, _⟩ := h
    rfl
  · obtain ⟨p, ts, lot, rfl, ok, al, l11, h⟩ := h
    refine ⟨p, ts, lot, rfl, ok, al, l11, ?_⟩
    exact ⟨p, ts, lot, rfl, ok, l11, al.2, h⟩
def N44 : List Str := ["web", "lot"]
theorem sc44 : FnScope N44 ["web", "lot"] (defScope (top 44)) := ⟨rfl, rfl, rfl, by decide +kernel, rfl, by decide +kernel, by decide +kernel⟩
theorem ok_is_bond (T : Tx K mg A) : FnOk P w K mg base CX0 6 A.is_bond A.fd_is_bond ["web", "lot"] (toSp K (g_is_bond A.Web)) := by
  refine okD T.F_is_bond sc44 (fun ds μ R h => ?_) ⟨_, fun cdv A0 outer s H E hr =>
    (dss_cons (ds_expr (de_call ((ok_check_web_and_lot T).mono (by decide)) hr (by rfl) T.g_check_web_and_lot T.F_check_web_and_lot.kp T.b_check_web_and_lot (da_cons (dv 0) (da_cons (dv 1) da_nil))))
      (dss_one (ds_ret (de_call ((ok_is_bond_lot T).mono (by decide)) hr (by rfl) T.g_is_bond_lot T.F_is_bond_lot.kp T.b_is_bond_lot (da_cons (dv 0) (da_cons (dv 1) da_nil)))))), fun ds μ R h => ?_⟩
  · obtain ⟨p, ts, lot, rfl, _⟩ := h
    rfl
  · obtain ⟨p, ts, lot, rfl, ok, al, l11, h⟩ := h
    refine ⟨p, ts, lot, rfl, ok, al, l11, ?_⟩
    exact ⟨p, ts, lot, rfl, ok, l11, al.2, h⟩
def N45 : List Str := ["web", "lot", "ends", "index", "place"]
theorem sc45 : FnScope N45 ["web", "lot"] (defScope (top 45)) := ⟨rfl, rfl, rfl, by decide +kernel, rfl, by decide +kernel, by decide +kernel⟩
theorem ok_is_even (T : Tx K mg A) : FnOk P w K mg base CX0 6 A.is_even A.fd_is_even ["web", "lot"] (toSp K (g_is_even A.Web)) := by
  refine okD T.F_is_even sc45 (fun ds μ R h => ?_) ⟨_, fun cdv A0 outer s H E hr =>
    (dss_cons (ds_expr (de_call ((ok_check_web_and_lot T).mono (by decide)) hr (by rfl) T.g_check_web_and_lot T.F_check_web_and_lot.kp T.b_check_web_and_lot (da_cons (dv 0) (da_cons (dv 1) da_nil))))
      (dss_cons (ds_set sc45.nd (i := 2) rfl (by first | exact Or.inl rfl | exact Or.inr rfl) (de_bm PySem.F.plainAttrs_str PySem.F.slot_str_join PySem.F.type_str_join mt_join sim_join ok_str de_str (da_cons (de_lc (own := [("index", 3)]) (by rfl) sc45.nd (di_both (dv 1)) (blkOk_by (N := N45) (own := [("index", 3)]) (sc := defScope (top 45)) (by decide +kernel)) (fun _ _ _ _ _ => (pg_name (i := 3) sc45.nd rfl (by first | exact Or.inl rfl | exact Or.inr rfl))) (sim_nm (i := 3)) (fun _ _ _ _ _ => dts_nil) (fun _ _ _ _ _ => (de_ix ix_any sim_ix (de_fld T.k_Web T.n_ties (dv 0)) (dv 3) (fun _ _ => rfl)))) da_nil)))
      (dss_one (ds_ret (de_callB (cr_all (by rfl)) sim_all (by rfl) T.z_all boot_all (da_cons (de_lc (own := [("place", 4)]) (by rfl) sc45.nd (di_str (de_fld T.k_Web T.n_places (dv 0))) (blkOk_by (N := N45) (own := [("place", 4)]) (sc := defScope (top 45)) (by decide +kernel)) (fun _ _ _ _ _ => (pg_name (i := 4) sc45.nd rfl (by first | exact Or.inl rfl | exact Or.inr rfl))) (sim_nm (i := 4)) (fun _ _ _ _ _ => dts_nil) (fun _ _ _ _ _ => (de_cmp (op_eqA hr.units) sim_eq (de_op op_modN sim_mod (de_bm PySem.F.plainAttrs_str PySem.F.slot_str_count PySem.F.type_str_count mt_count sim_count ok_str (dv 2) (da_cons (dv 4) da_nil)) de_int) de_int (nomark _)))) da_nil)))))), fun ds μ R h => ?_⟩
  · obtain ⟨p, ts, lot, rfl, _⟩ := h
    rfl
  · obtain ⟨p, ts, lot, rfl, ok, al, l11, h⟩ := h
    refine ⟨p, ts, lot, rfl, ok, al, l11, ?_⟩
    have p8 := ok.few
    have ll : ((lot.map Int.ofNat).map D.int).length = lot.length := by rw [List.length_map, List.length_map]
    refine ⟨True.intro, ?_⟩
    show LcB _ _ _ _ _ _ ((lot.map Int.ofNat).map D.int) _
    refine lcb_map (fun d => match d with | .int i => .str (toS [u1 ts i.toNat, u2 ts i.toNat]) | d => d) (by rw [ll, sizeLine_eq]; omega) ?_ ?_
    · intro x hx ν Y _ hY
      rw [List.map_map] at hx
      obtain ⟨k, hk, rfl⟩ := List.mem_map.mp hx
      have hk2 := al.2 k hk
      have hY : Y (.str (toS [u1 ts k, u2 ts k])) ν := hY
      refine ⟨rfl, _, rfl, ?_⟩
      refine atK_nat (j := k) (d := .str (ts.getD k Str.empty)) (by rw [List.getElem?_map, List.getD_eq_getElem?_getD, List.getElem?_eq_getElem hk2]; rfl) ?_
      rw [tie_toS ok hk2]
      exact hY
    have em : ((lot.map Int.ofNat).map D.int).map (fun d => match d with | .int i => D.str (toS [u1 ts i.toNat, u2 ts i.toNat]) | d => d) = ((lot.map fun k => [u1 ts k, u2 ts k]).map toS).map D.str := by
      rw [List.map_map, List.map_map, List.map_map, List.map_map]
      rfl
    rw [em]
    have fl : ∀ l : List Nat, ((l.map fun k => [u1 ts k, u2 ts k]).flatten).length = 2 * l.length := fun l => by
      induction l with
      | nil => rfl
      | cons k l ih =>
        rw [List.map_cons, List.flatten_cons, List.length_append, ih]
        show 2 + 2 * l.length = 2 * (l.length + 1)
        omega
    have e0 : ("" : Str).length = 0 := by decide +kernel
    refine ⟨_, rfl, by rw [sum_lots, fl, List.length_map, e0]; omega, ?_⟩
    rw [join_lots]
    refine ⟨rfl, _, rfl, ?_⟩
    show LcB _ _ _ _ _ _ (DL.signs (toS p)) _
    rw [show DL.signs (toS p) = chs p by unfold DL.signs chs; rw [toS_list]; rfl]
    have cl : (chs p).length = p.length := List.length_map _
    refine lcb_map (fun d => match d with | .str y => .bl (decide (oddC ts lot (y.cps.toList.getD 0 0) % 2 = 0)) | d => d) (by rw [cl, sizeLine_eq]; omega) ?_ ?_
    · intro d hd ν Y _ hY
      obtain ⟨c, hc, rfl⟩ := List.mem_map.mp hd
      have hY : Y (.bl (decide (oddC ts lot c % 2 = 0))) ν := hY
      refine ⟨True.intro, ?_⟩
      refine ⟨show (2 : Int) ≠ 0 by decide, ?_⟩
      show Y (.bl (decide ((Txt.count (toS (flatC ts lot)) (sg c)).fmod 2 = 0))) ν
      rw [count_at]
      have : decide ((((flatC ts lot).filter fun d => decide (d = c)).length : Int).fmod 2 = 0) = decide (oddC ts lot c % 2 = 0) := by
        rw [Int.fmod_eq_emod_of_nonneg _ (by decide)]
        unfold oddC
        exact decide_eq_decide.mpr (by omega)
      rw [this]
      exact hY
    have em2 : (chs p).map (fun d => match d with | .str y => D.bl (decide (oddC ts lot (y.cps.toList.getD 0 0) % 2 = 0)) | d => d) = (p.map fun c => decide (oddC ts lot c % 2 = 0)).map D.bl := by
      unfold chs
      rw [List.map_map, List.map_map]
      rfl
    rw [em2]
    refine ⟨_, rfl, ?_⟩
    have : (p.map fun c => decide (oddC ts lot c % 2 = 0)).all id = evenB p ts lot := by
      unfold evenB
      rw [List.all_map]
      rfl
    show R (.bl ((p.map fun c => decide (oddC ts lot c % 2 = 0)).all id)) μ
    rw [this]
    exact h
def N46 : List Str := ["web", "lot", "herd"]
theorem sc46 : FnScope N46 ["web", "lot"] (defScope (top 46)) := ⟨rfl, rfl, rfl, by decide +kernel, rfl, by decide +kernel, by decide +kernel⟩
theorem ok_is_two_sided (T : Tx K mg A) : FnOk P w K mg base CX0 7 A.is_two_sided A.fd_is_two_sided ["web", "lot"] (toSp K (g_is_two_sided A.Web)) := by
  refine okD T.F_is_two_sided sc46 (fun ds μ R h => ?_) ⟨_, fun cdv A0 outer s H E hr =>
    (dss_cons (ds_expr (de_call ((ok_check_web_and_lot T).mono (by decide)) hr (by rfl) T.g_check_web_and_lot T.F_check_web_and_lot.kp T.b_check_web_and_lot (da_cons (dv 0) (da_cons (dv 1) da_nil))))
      (dss_one (ds_ret (de_callB (cr_any (by rfl)) sim_any (by rfl) T.z_any boot_any (da_cons (de_lc (own := [("herd", 2)]) (by rfl) sc46.nd (di_both (de_call ((ok_all_herds T).mono (by decide)) hr (by rfl) T.g_all_herds T.F_all_herds.kp T.b_all_herds (da_cons (dv 0) da_nil))) (blkOk_by (N := N46) (own := [("herd", 2)]) (sc := defScope (top 46)) (by decide +kernel)) (fun _ _ _ _ _ => (pg_name (i := 2) sc46.nd rfl (by first | exact Or.inl rfl | exact Or.inr rfl))) (sim_nm (i := 2)) (fun _ _ _ _ _ => dts_nil) (fun _ _ _ _ _ => (de_cmp (op_eqA hr.units) sim_eq (de_call ((ok_crossing T).mono (by decide)) hr (by rfl) T.g_crossing T.F_crossing.kp T.b_crossing (da_cons (dv 0) (da_cons (dv 2) da_nil))) (dv 1) (nomark _)))) da_nil))))), fun ds μ R h => ?_⟩
  · obtain ⟨p, ts, lot, rfl, _⟩ := h
    rfl
  · obtain ⟨p, ts, lot, rfl, ok, al, l11, h⟩ := h
    refine ⟨p, ts, lot, rfl, ok, al, l11, ?_⟩
    have p8 := ok.few
    refine ⟨p, ts, rfl, p8, ?_⟩
    have l256 : (subsL p).length ≤ 256 := by
      rw [subs_few]
      have := Nat.pow_le_pow_right (show 0 < 2 by decide) p8
      omega
    show LcB _ _ _ _ _ _ _ _
    refine lcb_map (fun d => match d with | .str y => .bl (decide (crossL ts y.cps.toList = lot)) | d => d) (by rw [List.length_map, sizeLine_eq]; omega) ?_ ?_
    · intro d hd ν Y _ hY
      obtain ⟨g, hg, rfl⟩ := List.mem_map.mp hd
      have hY : Y (.bl (decide (crossL ts (toS g).cps.toList = lot))) ν := hY
      rw [toS_list] at hY
      refine ⟨p, ts, g, rfl, ok, ?_⟩
      refine (lay_tup (layL_ints ((crossL ts g).map Int.ofNat) 0)).cmp (k := id) (lay_tup (layL_ints (lot.map Int.ofNat) 0)) (by decide) (by decide) ?_
      have ee : PyData.eqv (.tuple (((crossL ts g).map Int.ofNat).map .int)) (.tuple ((lot.map Int.ofNat).map .int)) = decide (crossL ts g = lot) := by
        rw [eqv_ints]
        exact decide_eq_decide.mpr (List.map_inj_right fun _ _ e => Int.ofNat.inj e)
      rw [ee]
      exact hY
    have em2 : ((subsL p).map dHerd).map (fun d => match d with | .str y => D.bl (decide (crossL ts y.cps.toList = lot)) | d => d) = ((subsL p).map fun g => decide (crossL ts g = lot)).map D.bl := by
      rw [List.map_map, List.map_map]
      refine List.map_congr_left fun g _ => ?_
      show D.bl (decide (crossL ts (toS g).cps.toList = lot)) = _
      rw [toS_list]
      rfl
    rw [em2]
    refine ⟨_, rfl, ?_⟩
    show R (.bl (((subsL p).map fun g => decide (crossL ts g = lot)).any id)) μ
    have : ((subsL p).map fun g => decide (crossL ts g = lot)).any id = twoB p ts lot := by
      unfold twoB
      rw [List.any_map]
      rfl
    rw [this]
    exact h
end
end K10
set_option Elab.async false
set_option linter.all false
set_option maxRecDepth 100000
namespace K10
open PySem PySem.Spec PyProof.Rows L2 DL
/-! ### bridges and loops among the trees; a twin -/
section
variable {p : List Nat} {ts : List Str}
theorem bond_one (u : p.Pairwise (· ≠ ·)) (he : Ends p ts) {k : Nat} (hk : k < ts.length) : bondB p ts [k] = true ↔ rankOf p ts (outs [k] ts.length) ≠ rankOf p ts (List.range ts.length) := by
  have hr : In ts (List.range ts.length) := fun j hj => List.mem_range.mp hj
  have io := in_outs ts [k]
  have e1 : rankOf p ts (outs [k] ts.length ++ [k]) = rankOf p ts (List.range ts.length) := lot_rank u he (in_snoc io hk) hr (fun j hj => List.mem_range.mpr (in_snoc io hk j hj)) fun j hj => by
    by_cases e : j = k
    · exact List.mem_append.mpr (.inr (List.mem_singleton.mpr e))
    · exact List.mem_append.mpr (.inl (outs_mem.mpr ⟨List.mem_range.mp hj, fun z => e (List.mem_singleton.mp z)⟩))
  have e2 := rank_more u he io hk
  unfold bondB
  rw [Bool.and_eq_true, decide_eq_true_iff]
  constructor
  · intro ⟨h, _⟩
    omega
  · intro h
    refine ⟨?_, ?_⟩
    · split at e2 <;> omega
    · rw [List.all_cons, List.all_nil, Bool.and_true]
      exact decide_eq_true e1
/-- a bridge is in no ring -/
theorem bridge_ring (u : p.Pairwise (· ≠ ·)) (he : Ends p ts) {k : Nat} (hk : k < ts.length) {r : List Nat} (hr : Ring p ts r) (kr : k ∈ r) : bondB p ts [k] = false := by
  cases q : bondB p ts [k] with
  | false => rfl
  | true =>
    have h := (bond_one u he hk).mp q
    exfalso
    apply h
    have io := in_outs ts [k]
    have c1 : partsL p ts (outs [k] ts.length) k = false := parts_mono u he (in_wout hr.few k) io (fun j hj => outs_mem.mpr ⟨hr.few j (wout_mem.mp hj).1, fun z => (wout_mem.mp hj).2 (List.mem_singleton.mp z)⟩) hk (hr.closed u he kr)
    have e2 := rank_more u he io hk
    rw [c1, if_neg Bool.false_ne_true] at e2
    rw [← lot_rank u he (in_snoc io hk) (fun j hj => List.mem_range.mp hj) (fun j hj => List.mem_range.mpr (in_snoc io hk j hj)) fun j hj => by
      by_cases e : j = k
      · exact List.mem_append.mpr (.inr (List.mem_singleton.mpr e))
      · exact List.mem_append.mpr (.inl (outs_mem.mpr ⟨List.mem_range.mp hj, fun z => e (List.mem_singleton.mp z)⟩))]
    exact e2.symm
end
end K10
set_option Elab.async false
set_option linter.all false
set_option maxRecDepth 100000
set_option Elab.async false
set_option linter.all false
set_option maxRecDepth 100000
set_option Elab.async false
set_option linter.all false
set_option maxRecDepth 100000
namespace K10
open PySem PySem.Spec PyProof.Rows L2 DL
section
variable {P : Program} {w : World} {K : PySem.W.Frag} {mg : Str → Option Value} {base : Heap} {A : Ad}
/-! ### the law's own herds -/
def dHs (hs : List (List Nat)) : D := .lst (hs.map fun h => .str (toS h))
theorem in_rows {p : List Nat} {ts : List Str} (ot : OkT p ts) (us : List Str) (s : ∀ y ∈ us, y ∈ ts) : InP p (us.map ends) := fun z hz => by
  obtain ⟨y, hy, rfl⟩ := List.mem_map.mp hz
  exact (ot.ends.ties y (s y hy)).2
theorem herds_few {p : List Nat} (un : p.Pairwise (· ≠ ·)) {ys : List (Nat × Nat)} (iy : InP p ys) {hs : List (List Nat)} (hh : Herds p ys hs) : hs.length ≤ p.length := by
  have := herds_len un iy hh
  omega
def nearB (c0 c1 : Nat) : D → Bool
  | .str z => decide (c0 ∈ z.cps.toList) || decide (c1 ∈ z.cps.toList)
  | _ => false
theorem near_rows {c0 c1 : Nat} (hs : List (List Nat)) : (hs.map fun h => D.str (toS h)).filter (nearB c0 c1) = (hs.filter fun h => decide (c0 ∈ h) || decide (c1 ∈ h)).map fun h => D.str (toS h) := by
  rw [List.filter_map]
  refine congrArg _ (List.filter_congr fun h _ => ?_)
  show (decide (c0 ∈ (toS h).cps.toList) || decide (c1 ∈ (toS h).cps.toList)) = _
  simp only [toS_list]
def farB (nr : List (List Nat)) : D → Bool
  | .str z => decide (z ∉ nr.map toS)
  | _ => false
theorem far_rows {nr : List (List Nat)} (hs : List (List Nat)) : (hs.map fun h => D.str (toS h)).filter (farB nr) = (hs.filter fun h => decide (h ∉ nr)).map fun h => D.str (toS h) := by
  rw [List.filter_map]
  congr 1
  refine List.filter_congr fun h _ => ?_
  show decide (toS h ∉ nr.map toS) = decide (h ∉ nr)
  refine decide_eq_decide.mpr (not_congr ⟨fun z => ?_, fun z => List.mem_map.mpr ⟨h, z, rfl⟩⟩)
  obtain ⟨g, hg, e⟩ := List.mem_map.mp z
  rw [← toS_inj e]
  exact hg
theorem flat_few : ∀ {nr : List (List Nat)} {k : Nat}, nr.length ≤ k → (∀ h ∈ nr, h.length ≤ 7) → nr.flatten.length ≤ k * 7
  | [], k, _, _ => by simp
  | a :: nr, 0, h, _ => by simp at h
  | a :: nr, k + 1, h, f => by
    have ih := flat_few (nr := nr) (k := k) (by simpa using h) fun x hx => f x (List.mem_cons_of_mem _ hx)
    have := f a List.mem_cons_self
    rw [List.flatten_cons, List.length_append]
    omega
theorem sum_toS (hs : List (List Nat)) (k : Nat) : ((hs.map toS).map (·.length)).sum + (hs.map toS).length * k = hs.flatten.length + hs.length * k := by
  rw [List.length_map, List.map_map, List.length_flatten]
  have e : hs.map ((fun x => x.length) ∘ toS) = hs.map List.length := List.map_congr_left fun h _ => toS_len h
  rw [e]
theorem cat_toS : ∀ (hs : List (List Nat)) (l : List Nat), (hs.map toS).foldl (fun acc p => acc ++ (#[] : Array Nat) ++ p.cps) l.toArray = (l ++ hs.flatten).toArray
  | [], l => by simp
  | h :: hs, l => by
    rw [List.map_cons, List.foldl_cons, List.flatten_cons, ← List.append_assoc]
    have e : l.toArray ++ (#[] : Array Nat) ++ (toS h).cps = (l ++ h).toArray := by
      show l.toArray ++ (#[] : Array Nat) ++ h.toArray = _
      simp
    rw [e]
    exact cat_toS hs (l ++ h)
theorem join_toS (hs : List (List Nat)) : Txt.join ("" : Str) (hs.map toS) = toS hs.flatten := by
  have e0 : ("" : Str) = ⟨#[]⟩ := by decide +kernel
  rw [e0]
  cases hs with
  | nil => rfl
  | cons h hs =>
    show (⟨(hs.map toS).foldl (fun acc p => acc ++ (#[] : Array Nat) ++ p.cps) h.toArray⟩ : Str) = toS (h ++ hs.flatten)
    rw [cat_toS]
    rfl
def g_L_herds : GC := fun ds μ R => ∃ (p : List Nat) (us : List Str), ds = [.str (toS p), .lst (us.map D.str)] ∧ OkPlaces p ∧ OkT p us ∧ R (dHs (herdsL p (us.map ends))) μ
def N57 : List Str := ["_law_spots_here", "_law_rows", "_law_herds_here", "_law_row", "_law_near", "_law_far", "_law_spot", "_law_each"]
theorem sc57 : FnScope N57 ["_law_spots_here", "_law_rows"] (defScope (top 57)) := ⟨rfl, rfl, rfl, by decide +kernel, rfl, by decide +kernel, by decide +kernel⟩
theorem ok_L_herds (T : Tx K mg A) : FnOk P w K mg base CX0 3 A.L_herds A.fd_L_herds ["_law_spots_here", "_law_rows"] (toSp K (g_L_herds)) := by
  refine okD T.F_L_herds sc57 (fun ds μ R h => ?_) ⟨_, fun cdv A0 outer s H E hr =>
    (dss_cons (ds_setLc (i := 2) (own := [("_law_spot", 6)]) (by rfl) sc57.nd rfl rfl (sw_true rfl rfl rfl (by decide +kernel)) (di_str (dv 0)) (blkOk_by (N := N57) (own := [("_law_spot", 6)]) (sc := defScope (top 57)) (by decide +kernel)) (fun _ _ _ _ _ => (pg_name (i := 6) sc57.nd rfl (by first | exact Or.inl rfl | exact Or.inr rfl))) (sim_nm (i := 6)) (fun _ _ _ _ _ => dts_nil) (fun _ _ _ _ _ => (dv 6)))
      (dss_cons (ds_for PassesOwn.never rfl (di_both (dv 1)) (pg_name (i := 3) sc57.nd rfl (by first | exact Or.inl rfl | exact Or.inr rfl)) (sim_nm (i := 3))
      (dss_cons (ds_set sc57.nd (i := 4) rfl (by first | exact Or.inl rfl | exact Or.inr rfl) (de_lc (own := [("_law_each", 7)]) (by rfl) sc57.nd (di_both (dv 2)) (blkOk_by (N := N57) (own := [("_law_each", 7)]) (sc := defScope (top 57)) (by decide +kernel)) (fun _ _ _ _ _ => (pg_name (i := 7) sc57.nd rfl (by first | exact Or.inl rfl | exact Or.inr rfl))) (sim_nm (i := 7)) (fun _ _ _ _ _ => (dts_one (dw_or (dt_cmp op_inA sim_in (de_ix ix_any sim_ix (dv 3) de_int (fun _ _ => rfl)) (dv 7) rfl) (dw_or1 (dt_cmp op_inA sim_in (de_ix ix_any sim_ix (dv 3) de_int (fun _ _ => rfl)) (dv 7) rfl))).dt)) (fun _ _ _ _ _ => (dv 7))))
      (dss_cons (ds_setLc (i := 5) (own := [("_law_each", 7)]) (by rfl) sc57.nd rfl rfl (sw_true rfl rfl rfl (by decide +kernel)) (di_both (dv 2)) (blkOk_by (N := N57) (own := [("_law_each", 7)]) (sc := defScope (top 57)) (by decide +kernel)) (fun _ _ _ _ _ => (pg_name (i := 7) sc57.nd rfl (by first | exact Or.inl rfl | exact Or.inr rfl))) (sim_nm (i := 7)) (fun _ _ _ _ _ => (dts_one (dt_cmp op_notInA sim_notIn (dv 7) (dv 4) rfl))) (fun _ _ _ _ _ => (dv 7)))
      (dss_one (ds_set sc57.nd (i := 2) rfl (by first | exact Or.inl rfl | exact Or.inr rfl) (de_op op_plus sim_plus (dv 5) (de_lst (da_cons (de_bm PySem.F.plainAttrs_str PySem.F.slot_str_join PySem.F.type_str_join mt_join sim_join ok_str de_str (da_cons (de_callB (DL.cr_sortedT (by rfl)) sim_sortedT (by rfl) T.z_sorted boot_sorted (da_cons (de_bm PySem.F.plainAttrs_str PySem.F.slot_str_join PySem.F.type_str_join mt_join sim_join ok_str de_str (da_cons (dv 4) da_nil)) da_nil)) da_nil)) da_nil))))))))
      (dss_one (ds_ret (de_callB cr_sortedS sim_sortedS (by rfl) T.z_sorted boot_sorted (da_cons (dv 2) da_nil)))))), fun ds μ R h => ?_⟩
  · obtain ⟨p, us, rfl, _⟩ := h
    rfl
  · obtain ⟨p, us, rfl, op, ot, h⟩ := h
    have un : p.Pairwise (· ≠ ·) := op.asc.imp fun h => Nat.ne_of_lt h
    have p7 := op.few
    have lsg : (DL.signs (toS p)).length = p.length := by
      rw [signs_chs]
      exact List.length_map _
    show LcB _ _ _ _ _ _ _ _
    refine lcb_map id ?_ ?_ ?_
    · rw [lsg, sizeLine_eq]
      omega
    · intro x hx μ2 Y _ hy
      exact hy
    have e1 : (DL.signs (toS p)).map id = (p.map fun c => [c]).map fun h => D.str (toS h) := by
      rw [signs_chs, List.map_id, List.map_map]
      rfl
    rw [e1]
    refine ⟨fun i δ' μ' => μ' = μ ∧ ∃ (hs : List (List Nat)) (o3 o4 o5 o7 : Option D), Herds p ((us.take i).map ends) hs ∧ δ' = [some (.str (toS p)), some (.lst (us.map D.str)), some (dHs hs), o3, o4, o5, none, o7], ⟨rfl, _, none, none, none, none, herds_start un, rfl⟩, ?_, ?_⟩
    · rintro i x δ' μ' hx ⟨rfl, hs, o3, o4, o5, o7, hh, rfl⟩
      rw [List.getElem?_map] at hx
      obtain ⟨y, hy, rfl⟩ : ∃ y, us[i]? = some y ∧ D.str y = x := by
        cases e : us[i]? with
        | none => rw [e] at hx; cases hx
        | some t => rw [e] at hx; exact ⟨t, rfl, Option.some.inj hx⟩
      obtain ⟨c0, c1, rfl, m0, m1, le⟩ := ot.ties y (List.mem_of_getElem? hy)
      have eu : (us.take (i + 1)).map ends = (us.take i).map ends ++ [(c0, c1)] := by
        rw [take_succ_get hy, List.map_append]
        rfl
      have iy : InP p ((us.take i).map ends ++ [(c0, c1)]) := by
        rw [← eu]
        exact in_rows ot _ fun z hz => List.mem_of_mem_take hz
      have lh := herds_few un iy.left hh
      show LcB _ _ _ _ _ _ _ _
      refine lcb_pure (nearB c0 c1) id ?_ ?_ ?_
      · rw [List.length_map, sizeLine_eq]
        omega
      · intro x hx μ2 N Y _ hN hY
        obtain ⟨h, hm, rfl⟩ := List.mem_map.mp hx
        refine ⟨by show 2 ≤ sizeLine; decide, ?_⟩
        refine ⟨c0, rfl, ?_⟩
        refine if_case (c := decide (c0 ∈ (toS h).cps.toList)) (fun e => hY (by show (decide _ || decide _) = true; rw [e]; rfl)) (fun e => ?_)
        refine ⟨by show 2 ≤ sizeLine; decide, ?_⟩
        refine ⟨c1, rfl, ?_⟩
        exact if_case (c := decide (c1 ∈ (toS h).cps.toList)) (fun e2 => hY (by show (decide _ || decide _) = true; rw [e2, Bool.or_true])) (fun e2 => hN (by show (decide _ || decide _) = false; rw [e, e2]; rfl))
      rw [List.map_id, near_rows]
      generalize hnr : (hs.filter fun h => decide (c0 ∈ h) || decide (c1 ∈ h)) = nr
      have nl : ∀ h ∈ nr, h ∈ hs := fun h hm => by rw [← hnr] at hm; exact (List.mem_filter.mp hm).1
      have ln : nr.length ≤ 7 := by
        rw [← hnr]
        exact Nat.le_trans (List.length_filter_le _ _) (by omega)
      have lf : nr.flatten.length ≤ 49 := flat_few ln fun h hm => by
        obtain ⟨a, _, rfl⟩ := (hh.all h).mp (nl h hm)
        exact Nat.le_trans (List.length_filter_le _ _) p7
      show LcB _ _ _ _ _ _ _ _
      refine lcb_pure (farB nr) id ?_ ?_ ?_
      · rw [List.length_map, sizeLine_eq]
        omega
      · intro x hx μ2 N Y _ hN hY
        obtain ⟨h, hm, rfl⟩ := List.mem_map.mp hx
        refine Or.inr ⟨toS h, nr.map toS, rfl, by rw [List.map_map]; rfl, ?_⟩
        have e : (not (decide (toS h ∈ nr.map toS))) = farB nr (.str (toS h)) := by
          show _ = decide (toS h ∉ nr.map toS)
          by_cases q : toS h ∈ nr.map toS <;> simp [q]
        show if (not (decide (toS h ∈ nr.map toS))) = true then _ else _
        rw [e]
        exact if_case (c := farB nr (.str (toS h))) (fun e => hY e) (fun e => hN e)
      rw [List.map_id, far_rows]
      have e0 : ("" : Str).length = 0 := by decide +kernel
      refine ⟨trivial, trivial, nr.map toS, by rw [List.map_map]; rfl, by rw [sum_toS, e0]; omega, ?_⟩
      rw [join_toS]
      refine ⟨by show nr.flatten.toArray.size ≤ sizeLine; rw [List.size_toArray, sizeLine_eq]; omega, fun ys hp hs2 => ?_⟩
      rw [toS_list] at hp
      obtain ⟨m, q1, q2, rfl⟩ := sorted_signs (f := nr.flatten) hp hs2
      refine ⟨m.map sg, rfl, by rw [sum_sg, e0, q1.length_eq]; omega, ?_⟩
      rw [join_sg]
      refine ⟨by show 1 ≤ sizeLine; decide, ?_⟩
      refine ⟨by rw [List.length_map]; have := List.length_filter_le (fun h => decide (h ∉ nr)) hs; show _ + 1 ≤ sizeLine; rw [sizeLine_eq]; omega, ?_⟩
      have st := herds_step op.asc iy hh (m := m) (by rw [hnr]; exact q1) q2
      rw [hnr] at st
      refine ⟨rfl, _, some (.str (yTie c0 c1)), some (.lst (nr.map fun h => .str (toS h))), some (.lst ((hs.filter fun h => decide (h ∉ nr)).map fun h => .str (toS h))), o7, by rw [eu]; exact st, ?_⟩
      unfold dHs
      rw [List.map_append]
      rfl
    · rintro δ' μ' ⟨rfl, hs, o3, o4, o5, o7, hh, rfl⟩
      have iy : InP p (us.map ends) := in_rows ot _ fun z hz => hz
      rw [List.length_map, List.take_length] at hh
      have lh := herds_few un iy hh
      refine ⟨hs.map toS, by rw [List.map_map]; rfl, by rw [List.length_map]; omega, fun ys hp hs2 => ?_⟩
      rw [sorted_herds op.asc iy hh hp hs2, List.map_map]
      exact h
end
end K10
set_option Elab.async false
set_option linter.all false
set_option maxRecDepth 100000
namespace K10
open PySem PySem.Spec PyProof.Rows L2 DL
/-! ## rings as lots that go round, bonds as cuts with one part more -/
theorem rank_less {p : List Nat} (un : p.Pairwise (· ≠ ·)) {ys : List (Nat × Nat)} (iy : InP p ys) (one : 1 ≤ p.length) : nonFix (marksL p ys) p + 1 ≤ p.length := by
  have h := herdsL_len un ys
  have ne : herdsL p ys ≠ [] := fun e => by
    cases p with
    | nil => simp at one
    | cons a p =>
      have := ((herdsL_are un iy).all (herdOf (a :: p) ys a)).mpr ⟨a, List.mem_cons_self, rfl⟩
      rw [e] at this
      cases this
  have := List.length_pos_iff.mpr ne
  omega
section
variable {p : List Nat} {ts : List Str}
/-! ### the rank, over other places -/
theorem nf_more (u : p.Pairwise (· ≠ ·)) {ys : List (Nat × Nat)} {y : Nat × Nat} (hy : InP p (ys ++ [y])) : nonFix (marksL p (ys ++ [y])) p = nonFix (marksL p ys) p + if decide (markOf p (marksL p ys) y.1 = markOf p (marksL p ys) y.2) = true then 0 else 1 := by
  rw [marksL_snoc]
  by_cases c : markOf p (marksL p ys) y.1 = markOf p (marksL p ys) y.2
  · rw [if_pos (decide_eq_true c), step_same c]
    rfl
  · rw [if_neg (by rw [decide_eq_false c]; exact Bool.false_ne_true)]
    refine Nat.le_antisymm ?_ ?_
    · exact nonFix_step u (marksL p ys) y
    · obtain ⟨m1, m2⟩ := hy.last
      exact step_up u (roots_marks u hy.left) m1 m2 c
theorem nf_places {q : List Nat} (u : p.Pairwise (· ≠ ·)) (v : q.Pairwise (· ≠ ·)) : ∀ ys, InP p ys → InP q ys → nonFix (marksL p ys) p = nonFix (marksL q ys) q := by
  refine snoc_ind (P := fun ys => InP p ys → InP q ys → nonFix (marksL p ys) p = nonFix (marksL q ys) q) (fun _ _ => ?_) ?_
  · show nonFix p p = nonFix q q
    rw [nonFix_self, nonFix_self]
  · intro ys y ih hp hq
    rw [nf_more u hp, nf_more v hq, ih hp.left hq.left]
    obtain ⟨a1, a2⟩ := hp.last
    obtain ⟨b1, b2⟩ := hq.last
    have e : decide (markOf p (marksL p ys) y.1 = markOf p (marksL p ys) y.2) = decide (markOf q (marksL q ys) y.1 = markOf q (marksL q ys) y.2) :=
      decide_eq_decide.mpr ⟨fun h => conn_marks hq.left (marks_conn ys hp.left _ _ a1 a2 h), fun h => conn_marks hp.left (marks_conn ys hq.left _ _ b1 b2 h)⟩
    rw [e]
/-! ### sums over places -/
theorem one_sum {x : Nat} : ∀ {T : List Nat}, T.Nodup → x ∈ T → (T.map fun c => if x = c then 1 else 0).sum = 1
  | [], _, h => absurd h List.not_mem_nil
  | a :: T, nd, h => by
    obtain ⟨n1, n2⟩ := List.nodup_cons.mp nd
    rw [List.map_cons, List.sum_cons]
    by_cases e : x = a
    · subst e
      have z : (T.map fun c => if x = c then 1 else 0) = T.map fun _ => 0 := List.map_congr_left fun c hc => if_neg fun q : x = c => n1 (by rw [q]; exact hc)
      rw [if_pos rfl, z]
      have z2 : ∀ L : List Nat, (L.map fun _ => 0).sum = 0 := fun L => by induction L with
        | nil => rfl
        | cons b L ih => rw [List.map_cons, List.sum_cons, ih]
      rw [z2]
    · rw [if_neg e, one_sum n2 ((List.mem_cons.mp h).resolve_left e)]
theorem add_sum {f g : Nat → Nat} : ∀ T : List Nat, (T.map fun c => f c + g c).sum = (T.map f).sum + (T.map g).sum
  | [] => rfl
  | a :: T => by
    rw [List.map_cons, List.sum_cons, List.map_cons, List.sum_cons, List.map_cons, List.sum_cons, add_sum T]
    omega
theorem count_sum {T : List Nat} (nd : T.Nodup) : ∀ L : List Nat, (∀ x ∈ L, x ∈ T) → (T.map fun c => (L.filter fun d => decide (d = c)).length).sum = L.length
  | [], _ => by
    have z2 : ∀ L : List Nat, (L.map fun _ => 0).sum = 0 := fun L => by induction L with
      | nil => rfl
      | cons b L ih => rw [List.map_cons, List.sum_cons, ih]
    exact z2 T
  | x :: L, h => by
    have ih := count_sum nd L fun y hy => h y (List.mem_cons_of_mem _ hy)
    have e : (T.map fun c => ((x :: L).filter fun d => decide (d = c)).length) = T.map fun c => (if x = c then 1 else 0) + (L.filter fun d => decide (d = c)).length := List.map_congr_left fun c _ => by
      by_cases q : x = c
      · rw [List.filter_cons, if_pos (decide_eq_true q), if_pos q, List.length_cons]
        omega
      · rw [List.filter_cons, if_neg (by rw [decide_eq_false q]; exact Bool.false_ne_true), if_neg q]
        omega
    rw [e, add_sum, one_sum nd (h x List.mem_cons_self), ih, List.length_cons]
    omega
theorem twos_sum {f : Nat → Nat} : ∀ T : List Nat, (∀ c ∈ T, 2 ≤ f c) → 2 * T.length ≤ (T.map f).sum ∧ ((T.map f).sum = 2 * T.length → ∀ c ∈ T, f c = 2)
  | [], _ => ⟨Nat.le_refl _, fun _ _ h => absurd h List.not_mem_nil⟩
  | a :: T, h => by
    obtain ⟨i1, i2⟩ := twos_sum T fun c hc => h c (List.mem_cons_of_mem _ hc)
    have ha := h a List.mem_cons_self
    rw [List.map_cons, List.sum_cons, List.length_cons]
    refine ⟨by omega, fun e c hc => ?_⟩
    rcases List.mem_cons.mp hc with q | q
    · rw [q]; omega
    · exact i2 (by omega) c q
/-! ### lots that go round -/
def touched (p : List Nat) (ts : List Str) (v : List Nat) : List Nat := p.filter fun c => decide (c ∈ flatC ts v)
def roundB (p : List Nat) (ts : List Str) (v : List Nat) : Bool := decide (touched p ts v ≠ []) && ((touched p ts v).all fun c => decide (oddC ts v c = 2)) && decide ((herdsL (touched p ts v) (tiesOf ts v)).length = 1)
theorem flat_len (v : List Nat) : (flatC ts v).length = 2 * v.length := by
  unfold flatC
  induction v with
  | nil => rfl
  | cons k v ih =>
    rw [List.map_cons, List.flatten_cons, List.length_append, ih]
    show 2 + 2 * v.length = 2 * (v.length + 1)
    omega
theorem flat_mem {v : List Nat} {c : Nat} : c ∈ flatC ts v ↔ ∃ k, k ∈ v ∧ (c = u1 ts k ∨ c = u2 ts k) := by
  unfold flatC
  rw [List.mem_flatten]
  constructor
  · rintro ⟨l, h1, h2⟩
    obtain ⟨k, hk, rfl⟩ := List.mem_map.mp h1
    refine ⟨k, hk, ?_⟩
    simpa using h2
  · rintro ⟨k, hk, h⟩
    exact ⟨_, List.mem_map.mpr ⟨k, hk, rfl⟩, by simpa using h⟩
theorem touched_mem {v : List Nat} {c : Nat} : c ∈ touched p ts v ↔ c ∈ p ∧ c ∈ flatC ts v := by
  unfold touched
  rw [List.mem_filter, decide_eq_true_iff]
theorem flat_touched (he : Ends p ts) {v : List Nat} (hi : In ts v) : ∀ c ∈ flatC ts v, c ∈ touched p ts v := fun c hc => by
  obtain ⟨k, hk, h⟩ := flat_mem.mp hc
  obtain ⟨m1, m2⟩ := ends_at he (hi k hk)
  exact touched_mem.mpr ⟨h.elim (fun e => e ▸ m1) fun e => e ▸ m2, hc⟩
theorem touched_in (he : Ends p ts) {v : List Nat} (hi : In ts v) : InP (touched p ts v) (tiesOf ts v) := fun y hy => by
  obtain ⟨k, hk, rfl⟩ := List.mem_map.mp hy
  exact ⟨flat_touched he hi _ (flat_mem.mpr ⟨k, hk, .inl rfl⟩), flat_touched he hi _ (flat_mem.mpr ⟨k, hk, .inr rfl⟩)⟩
theorem touched_rank (u : p.Pairwise (· ≠ ·)) (he : Ends p ts) {v : List Nat} (hi : In ts v) : (herdsL (touched p ts v) (tiesOf ts v)).length + rankOf p ts v = (touched p ts v).length := by
  have ut : (touched p ts v).Pairwise (· ≠ ·) := u.filter _
  rw [← herdsL_len ut (tiesOf ts v), ← nf_places u ut (tiesOf ts v) (ties_in he hi) (touched_in he hi)]
  rfl
theorem touched_sum (u : p.Pairwise (· ≠ ·)) (he : Ends p ts) {v : List Nat} (hi : In ts v) : ((touched p ts v).map (oddC ts v)).sum = 2 * v.length := by
  have ut : (touched p ts v).Pairwise (· ≠ ·) := u.filter _
  rw [← flat_len (ts := ts) v]
  exact count_sum ut (flatC ts v) (flat_touched he hi)
theorem odd_pos {v : List Nat} {c : Nat} (h : c ∈ flatC ts v) : 1 ≤ oddC ts v c := by
  unfold oddC
  exact List.length_pos_iff.mpr (List.ne_nil_of_mem (List.mem_filter.mpr ⟨h, decide_eq_true rfl⟩))
theorem odd_zero {v : List Nat} {c : Nat} (h : c ∉ flatC ts v) : oddC ts v c = 0 := by
  unfold oddC
  rw [List.filter_eq_nil_iff.mpr fun d hd e => h (by rw [← of_decide_eq_true e]; exact hd)]
  rfl
theorem round_iff (u : p.Pairwise (· ≠ ·)) (he : Ends p ts) {v : List Nat} (hv : v ∈ lotsL ts.length) : roundB p ts v = ringB p ts v := by
  obtain ⟨hi, _, asc⟩ := lots_in _ _ hv
  have nd : v.Nodup := asc.imp fun h => Nat.ne_of_lt h
  have tr := touched_rank u he hi
  have tsu := touched_sum u he hi
  rw [Bool.eq_iff_iff]
  constructor
  · intro h
    unfold roundB at h
    rw [Bool.and_eq_true, Bool.and_eq_true, decide_eq_true_iff, decide_eq_true_iff, List.all_eq_true] at h
    obtain ⟨⟨ne, two⟩, one⟩ := h
    have two : ∀ c ∈ touched p ts v, oddC ts v c = 2 := fun c hc => of_decide_eq_true (two c hc)
    have t2 : ((touched p ts v).map (oddC ts v)).sum = 2 * (touched p ts v).length := by
      have e : (touched p ts v).map (oddC ts v) = (touched p ts v).map fun _ => 2 := List.map_congr_left two
      rw [e]
      generalize touched p ts v = T
      induction T with
      | nil => rfl
      | cons a T ih =>
        rw [List.map_cons, List.sum_cons, ih, List.length_cons]
        omega
    have len : v.length = rankOf p ts v + 1 := by omega
    have ev : EvenF p ts (cf v) := by
      refine (evenB_iff hv).mp ?_
      unfold evenB
      rw [List.all_eq_true]
      intro c hc
      by_cases m : c ∈ flatC ts v
      · exact decide_eq_true (by rw [two c (touched_mem.mpr ⟨hc, m⟩)])
      · exact decide_eq_true (by rw [odd_zero m])
    unfold ringB
    rw [Bool.and_eq_true, decide_eq_true_iff, List.all_eq_true]
    refine ⟨len, fun k hk => decide_eq_true ?_⟩
    have hkl := hi k hk
    have io := in_wout hi k
    have ro := rank_out u he hi nd hk
    have lo := wout_len nd hk
    have pf : partsL p ts (wout v k) k = false := by
      obtain ⟨m1, m2⟩ := ends_at he hkl
      refine (parts_conn u he io hkl).mpr (odd_joined u he (s := cf (wout v k)) m1 m2 (fun j _ h => of_decide_eq_true h) fun c hc => ?_)
      have e : ∀ j, j < ts.length → cf (wout v k) j = (cf v j ^^ decide (k = j)) := fun j _ => by
        unfold cf
        by_cases q : k = j
        · subst q
          rw [decide_eq_true hk, decide_eq_true rfl, decide_eq_false fun z => (wout_mem.mp z).2 rfl]
          rfl
        · rw [decide_eq_false q, Bool.xor_false]
          exact decide_eq_decide.mpr ⟨fun z => (wout_mem.mp z).1, fun z => wout_mem.mpr ⟨z, fun w => q w.symm⟩⟩
      rw [dg_congr e, dg_xor, ev c hc, dg_one hkl, Bool.false_xor]
      rfl
    rw [pf, if_neg Bool.false_ne_true] at ro
    omega
  · intro h
    have R1 : Ring p ts v := ⟨hv, h⟩
    have len := ring_len h
    have ev := (evenB_iff hv).mpr (ring_even u he R1)
    unfold evenB at ev
    rw [List.all_eq_true] at ev
    have ge : ∀ c ∈ touched p ts v, 2 ≤ oddC ts v c := fun c hc => by
      obtain ⟨h1, h2⟩ := touched_mem.mp hc
      have := of_decide_eq_true (ev c h1)
      have := odd_pos h2
      omega
    obtain ⟨t1, t2⟩ := twos_sum (touched p ts v) ge
    have ne : touched p ts v ≠ [] := fun e => by
      rw [e] at tr
      have : ([] : List Nat).length = 0 := rfl
      rw [e] at tsu
      have : (([] : List Nat).map (oddC ts v)).sum = 0 := rfl
      omega
    have ut : (touched p ts v).Pairwise (· ≠ ·) := u.filter _
    have rl := rank_less ut (touched_in he hi) (List.length_pos_iff.mpr ne)
    have hl := herdsL_len ut (tiesOf ts v)
    have all2 := t2 (by omega)
    unfold roundB
    rw [Bool.and_eq_true, Bool.and_eq_true, decide_eq_true_iff, decide_eq_true_iff, List.all_eq_true]
    exact ⟨⟨ne, fun c hc => decide_eq_true (all2 c hc)⟩, by omega⟩
/-! ### bonds -/
theorem part_bond (u : p.Pairwise (· ≠ ·)) (he : Ends p ts) {v : List Nat} (hv : v ∈ lotsL ts.length) : (twoB p ts v && decide (rankOf p ts (outs v ts.length) + 1 = rankOf p ts (List.range ts.length))) = bondB p ts v := by
  rw [Bool.eq_iff_iff, Bool.and_eq_true, decide_eq_true_iff, twoB_iff he hv]
  constructor
  · rintro ⟨⟨h, hh⟩, r⟩
    unfold bondB
    rw [Bool.and_eq_true, decide_eq_true_iff, List.all_eq_true]
    refine ⟨r, fun k hk => decide_eq_true ?_⟩
    have hkl := (lots_in _ _ hv).1 k hk
    have io := in_outs ts v
    have rm := rank_more u he io hkl
    by_cases q : partsL p ts (outs v ts.length) k = true
    · rw [q, if_pos rfl] at rm
      omega
    · exfalso
      have c := (parts_conn u he io hkl).mp (Bool.eq_false_iff.mpr q)
      have cl := conn_closed (Y := h) (fun y hy => by
        obtain ⟨j, hj, rfl⟩ := List.mem_map.mp hy
        obtain ⟨j1, j2⟩ := outs_mem.mp hj
        have := hh j j1
        rw [show cf v j = false from decide_eq_false j2] at this
        unfold cr u1 u2 at this
        revert this
        cases h (ends (ts.getD j Str.empty)).1 <;> cases h (ends (ts.getD j Str.empty)).2 <;> simp) c
      have := hh k hkl
      rw [show cf v k = true from decide_eq_true hk] at this
      unfold cr u1 u2 at this
      rw [cl, Bool.xor_self] at this
      cases this
  · intro h
    exact ⟨bond_cut u he ⟨hv, h⟩, bond_rank h⟩
/-! ### how many -/
theorem level_len (u : p.Pairwise (· ≠ ·)) (he : Ends p ts) : ((lotsL ts.length).filter (evenB p ts)).length = 2 ^ (ts.length - rankOf p ts (List.range ts.length)) := by
  have h := even_count u he _ (List.range ts.length) rfl List.nodup_range fun j hj => List.mem_range.mp hj
  rw [List.length_range] at h
  rw [← h]
  refine same_len ((lots_nodup _).filter _) evIn_nod fun v => ?_
  rw [List.mem_filter, evIn_mem]
  exact ⟨fun ⟨a, b⟩ => ⟨a, (evenB_iff a).mp b, fun k hk => List.mem_range.mpr ((lots_in _ _ a).1 k hk)⟩, fun ⟨a, b, _⟩ => ⟨a, (evenB_iff a).mpr b⟩⟩
theorem sided_len (u : p.Pairwise (· ≠ ·)) (he : Ends p ts) : ((lotsL ts.length).filter (twoB p ts)).length = 2 ^ rankOf p ts (List.range ts.length) := by
  have h := cut_count u he (s := []) fun j hj => absurd hj List.not_mem_nil
  rw [show rankOf p ts [] = 0 from nonFix_self p, Nat.pow_zero, Nat.mul_one] at h
  rw [← h]
  refine same_len ((lots_nodup _).filter _) cuOut_nod fun v => ?_
  rw [List.mem_filter, cuOut_mem]
  exact ⟨fun ⟨a, b⟩ => ⟨a, (twoB_iff he a).mp b, fun k _ z => absurd z List.not_mem_nil⟩, fun ⟨a, b, _⟩ => ⟨a, (twoB_iff he a).mpr b⟩⟩
theorem level_sided (u : p.Pairwise (· ≠ ·)) (he : Ends p ts) {v w : List Nat} (hv : v ∈ lotsL ts.length) (hw : w ∈ lotsL ts.length) (ev : evenB p ts v = true) (tw : twoB p ts w = true) : oddM v w = false := by
  rw [oddM_dot hv]
  obtain ⟨h, hh⟩ := (twoB_iff he hw).mp tw
  rw [dot_congr hh]
  exact even_cut u he ((evenB_iff hv).mp ev)
theorem no_ring (u : p.Pairwise (· ≠ ·)) (he : Ends p ts) {k : Nat} (hk : k < ts.length) : (∀ r, Ring p ts r → k ∉ r) ↔ bondB p ts [k] = true := by
  constructor
  · intro h
    rw [bond_one u he hk]
    intro e
    have io := in_outs ts [k]
    have hr : In ts (List.range ts.length) := fun j hj => List.mem_range.mp hj
    have rm := rank_more u he io hk
    have rf := rank_full u he (v := outs [k] ts.length ++ [k]) (in_snoc io hk)
    have pf : partsL p ts (outs [k] ts.length) k = false := by
      cases q : partsL p ts (outs [k] ts.length) k with
      | false => rfl
      | true =>
        rw [q, if_pos rfl] at rm
        omega
    have asc : (outs [k] ts.length).Pairwise (· < ·) := List.pairwise_lt_range.filter _
    obtain ⟨c, c1, c2, _⟩ := ring_through u he hk _ (outs [k] ts.length) rfl asc io (fun z => (outs_mem.mp z).2 (List.mem_singleton.mpr rfl)) pf
    exact h c c1 c2
  · intro b r hr kr
    rw [bridge_ring u he hk hr kr] at b
    cases b
/-! ### exchange -/
theorem ring_change (u : p.Pairwise (· ≠ ·)) (he : Ends p ts) {c d : List Nat} (hc : Ring p ts c) (hd : Ring p ts d) (ne : c ≠ d) {e : Nat} (ec : e ∈ c) (ed : e ∈ d) : ∃ r, Ring p ts r ∧ ∀ j ∈ r, (j ∈ c ∨ j ∈ d) ∧ j ≠ e := by
  by_cases q : ∃ f, f ∈ c ∧ f ∉ d
  · obtain ⟨f, f1, f2⟩ := q
    obtain ⟨r, r1, _, r3⟩ := ring_swap u he hc hd ec ed f1 f2
    exact ⟨r, r1, r3⟩
  · obtain ⟨f, f1, f2⟩ : ∃ f, f ∈ d ∧ f ∉ c := by
      apply Classical.byContradiction
      intro z
      refine ne (lot_ext (n := ts.length) hc.lot hd.lot fun k _ => decide_eq_decide.mpr ⟨fun h => ?_, fun h => ?_⟩)
      · exact Classical.byContradiction fun w => q ⟨k, h, w⟩
      · exact Classical.byContradiction fun w => z ⟨k, h, w⟩
    obtain ⟨r, r1, _, r3⟩ := ring_swap u he hd hc ed ec f1 f2
    exact ⟨r, r1, fun j hj => ⟨(r3 j hj).1.symm, (r3 j hj).2⟩⟩
theorem bond_change (u : p.Pairwise (· ≠ ·)) (he : Ends p ts) {c d : List Nat} (hc : Bond p ts c) (hd : Bond p ts d) (ne : c ≠ d) {e : Nat} (ec : e ∈ c) (ed : e ∈ d) : ∃ r, Bond p ts r ∧ ∀ j ∈ r, (j ∈ c ∨ j ∈ d) ∧ j ≠ e := by
  obtain ⟨h, hh⟩ := bond_cut u he hc
  obtain ⟨g, gg⟩ := bond_cut u he hd
  obtain ⟨k0, k1, k2⟩ : ∃ k0, k0 < ts.length ∧ cr ts (fun c => h c ^^ g c) k0 = true := by
    apply Classical.byContradiction
    intro z
    refine ne (lot_ext (n := ts.length) hc.lot hd.lot fun k hk => ?_)
    rw [hh k hk, gg k hk]
    have : ¬ cr ts (fun c => h c ^^ g c) k = true := fun w => z ⟨k, hk, w⟩
    rw [cr_xor] at this
    revert this
    cases cr ts h k <;> cases cr ts g k <;> simp
  obtain ⟨b, b1, b2⟩ := cut_bond u he k1 k2
  refine ⟨b, b1, fun j hj => ?_⟩
  have jl := b1.few j hj
  have := b2 j hj
  rw [cr_xor, ← hh j jl, ← gg j jl] at this
  refine ⟨?_, fun z => ?_⟩
  · by_cases m : j ∈ c
    · exact .inl m
    · by_cases m2 : j ∈ d
      · exact .inr m2
      · rw [show cf c j = false from decide_eq_false m, show cf d j = false from decide_eq_false m2] at this
        cases this
  · subst z
    rw [show cf c j = true from decide_eq_true ec, show cf d j = true from decide_eq_true ed] at this
    cases this
end
end K10
set_option Elab.async false
set_option linter.all false
set_option maxRecDepth 100000
namespace DL
open PySem PySem.Spec PyProof.Rows L2
/-! ### 1 << k -/
def gOneShl : G2 := fun x y μ R => ∃ k : Nat, x = .int 1 ∧ y = .int (k : Nat) ∧ k ≤ 134217727 ∧ R (.int ((2 ^ k : Nat) : Int)) μ
theorem sim_oneShl {K : PySem.W.Frag} : SimO K (fun x y H Q => ∃ k : Nat, x = .int 1 ∧ y = .int (k : Int) ∧ k ≤ 134217727 ∧ Q (.int (2 ^ k)) H) gOneShl := fun x y dx dy H μ Q R rm rx ry ⟨k, h1, h2, h3, q⟩ f => by
  subst h1
  subst h2
  refine ⟨k, rep_int rx, rep_int ry, h3, ?_⟩
  rw [show ((2 ^ k : Nat) : Int) = 2 ^ k from by rw [Int.natCast_pow]; rfl] at q
  exact fw_now rm to_int q f
end DL
set_option Elab.async false
set_option linter.all false
set_option maxRecDepth 100000
namespace DL
open PySem PySem.Spec PyProof.Rows L2
/-! ### in, not in, of a tuple of data -/
/-! ### int(b) -/
end DL
set_option Elab.async false
set_option linter.all false
set_option maxRecDepth 100000
namespace K10
open PySem PySem.Spec PyProof.Rows L2 DL
section
variable {P : Program} {w : World} {K : PySem.W.Frag} {mg : Str → Option Value} {base : Heap} {A : Ad}
/-! ### the law's own looks at lots -/
theorem lay_chs {p q : List Nat} (op : OkPlaces p) (sub : ∀ c ∈ q, c ∈ p) (n : Nat) : LayL (chs q) (q.map fun c => PyData.str (sg c)) n := layL_map fun c hc => by
  refine lay_str ?_ n
  show (#[c] : Array Nat).all (· < 0x110000) = true
  rw [Array.all_eq_true']
  intro x hx
  have hx : x = c := by simpa using hx
  have h1 := op.sign c (sub c hc)
  exact decide_eq_true (by omega)
theorem tiesOf_map (ts : List Str) (v : List Nat) : (v.map fun k => ts.getD k Str.empty).map ends = tiesOf ts v := by
  rw [List.map_map]
  rfl
theorem rowAt4 {p : List Nat} {ts : List Str} (ok : OkWeb p ts) {k : Nat} (hk : k < ts.length) : (ts.map D.str)[k]? = some (.str (toS [u1 ts k, u2 ts k])) := by
  rw [List.getElem?_map, ← tie_toS ok hk, List.getD_eq_getElem?_getD, List.getElem?_eq_getElem hk]
  rfl
def rowU (ts : List Str) : D → D
  | .int i => .str (toS [u1 ts i.toNat, u2 ts i.toNat])
  | d => d
theorem rows_lot (ts : List Str) (v : List Nat) : ((v.map Int.ofNat).map D.int).map (rowU ts) = ((v.map fun k => [u1 ts k, u2 ts k]).map toS).map D.str := by
  rw [List.map_map, List.map_map, List.map_map, List.map_map]
  rfl
theorem rows_are {p : List Nat} {ts : List Str} (ok : OkWeb p ts) {v : List Nat} (hi : ∀ k ∈ v, k < ts.length) : (v.map fun k => [u1 ts k, u2 ts k]).map toS = v.map fun k => ts.getD k Str.empty := by
  rw [List.map_map]
  exact List.map_congr_left fun k hk => (tie_toS ok (hi k hk)).symm
theorem flat_two (ts : List Str) (v : List Nat) : ((v.map fun k => [u1 ts k, u2 ts k]).flatten).length = 2 * v.length := flat_len v
def g_L_met : GC := fun ds μ R => ∃ (v w : List Nat) (y : D), ds = [dLot v, y] ∧ (y = dLot w ∨ y = .lst ((w.map Int.ofNat).map D.int)) ∧ v.length ≤ 64 ∧ R (.int ((v.filter fun k => decide (k ∈ w)).length : Nat)) μ
def isIn (w : List Nat) : D → Bool
  | .int i => decide (i.toNat ∈ w)
  | _ => false
theorem in_filter {v w : List Nat} : (((v.map Int.ofNat).map D.int).filter (isIn w)).map id = ((v.filter fun k => decide (k ∈ w)).map Int.ofNat).map D.int := by
  rw [List.map_id, List.filter_map, List.filter_map]
  rfl
def N62 : List Str := ["_law_one", "_law_two", "_law_k"]
theorem sc62 : FnScope N62 ["_law_one", "_law_two"] (defScope (top 62)) := ⟨rfl, rfl, rfl, by decide +kernel, rfl, by decide +kernel, by decide +kernel⟩
theorem ok_L_met (T : Tx K mg A) : FnOk P w K mg base CX0 1 A.L_met A.fd_L_met ["_law_one", "_law_two"] (toSp K (g_L_met)) := by
  refine okD T.F_L_met sc62 (fun ds μ R h => ?_) ⟨_, fun cdv A0 outer s H E hr =>
    (dss_one (ds_ret (de_callB cr_len sim_len (by rfl) T.z_len boot_len (da_cons (de_lc (own := [("_law_k", 2)]) (by rfl) sc62.nd (di_both (dv 0)) (blkOk_by (N := N62) (own := [("_law_k", 2)]) (sc := defScope (top 62)) (by decide +kernel)) (fun _ _ _ _ _ => (pg_name (i := 2) sc62.nd rfl (by first | exact Or.inl rfl | exact Or.inr rfl))) (sim_nm (i := 2)) (fun _ _ _ _ _ => (dts_one (dt_cmp op_inA sim_in (dv 2) (dv 1) rfl))) (fun _ _ _ _ _ => (dv 2))) da_nil)))), fun ds μ R h => ?_⟩
  · obtain ⟨v, w, y, rfl, _⟩ := h
    rfl
  · obtain ⟨v, w, y, rfl, hy, l64, h⟩ := h
    show LcB _ _ _ _ _ _ ((v.map Int.ofNat).map D.int) _
    refine lcb_pure (isIn w) id (by rw [List.length_map, List.length_map, sizeLine_eq]; omega) ?_ ?_
    · intro x hx ν N Y _ hN hY
      rw [List.map_map] at hx
      obtain ⟨k, hk, rfl⟩ := List.mem_map.mp hx
      have hN : decide (k ∈ w) = false → N ν := hN
      have hY : decide (k ∈ w) = true → Y (.int (k : Nat)) ν := hY
      rcases hy with rfl | rfl
      · show DL.inDs (.int (k : Nat)) ((w.map Int.ofNat).map D.int) fun b => DL.bK _ (.bl b) ν
        refine in_lot ?_
        exact if_case (c := decide (k ∈ w)) (fun e => hY e) (fun e => hN e)
      · show DL.inDs (.int (k : Nat)) ((w.map Int.ofNat).map D.int) fun b => DL.bK _ (.bl b) ν
        refine in_lot ?_
        exact if_case (c := decide (k ∈ w)) (fun e => hY e) (fun e => hN e)
    rw [in_filter]
    show R (.int (((((v.filter fun k => decide (k ∈ w)).map Int.ofNat).map D.int).length : Nat) : Int)) _
    rw [List.length_map, List.length_map]
    exact h
def g_L_even_one : GC := fun ds μ R => ∃ (p : List Nat) (ts : List Str) (v : List Nat), ds = [dNet p ts, dLot v] ∧ OkPlaces p ∧ OkWeb p ts ∧ AscLot v ts.length ∧ v.length ≤ 11 ∧ R (.bl (evenB p ts v)) μ
def oddS (ts : List Str) (v : List Nat) : D → Bool
  | .str y => decide (oddC ts v (y.cps.toList.getD 0 0) % 2 = 1)
  | _ => false
theorem odd_spots (p : List Nat) (ts : List Str) (v : List Nat) : ((chs p).filter (oddS ts v)).map id = chs (p.filter fun c => decide (oddC ts v c % 2 = 1)) := by
  unfold chs
  rw [List.map_id, List.filter_map]
  rfl
theorem chs_none {q : List Nat} : decide (chs q = []) = decide (q = []) := by
  unfold chs
  exact decide_eq_decide.mpr List.map_eq_nil_iff
theorem odd_even (p : List Nat) (ts : List Str) (v : List Nat) : decide ((p.filter fun c => decide (oddC ts v c % 2 = 1)) = []) = evenB p ts v := by
  unfold evenB
  rw [Bool.eq_iff_iff, decide_eq_true_iff, List.filter_eq_nil_iff, List.all_eq_true]
  refine forall_congr' fun c => forall_congr' fun _ => ?_
  rw [decide_eq_true_iff, decide_eq_true_iff]
  omega
def N63 : List Str := ["_law_net_here", "_law_lot_here", "_law_every", "_law_k", "_law_spot"]
theorem sc63 : FnScope N63 ["_law_net_here", "_law_lot_here"] (defScope (top 63)) := ⟨rfl, rfl, rfl, by decide +kernel, rfl, by decide +kernel, by decide +kernel⟩
theorem ok_L_even_one (T : Tx K mg A) : FnOk P w K mg base CX0 1 A.L_even_one A.fd_L_even_one ["_law_net_here", "_law_lot_here"] (toSp K (g_L_even_one)) := by
  refine okD T.F_L_even_one sc63 (fun ds μ R h => ?_) ⟨_, fun cdv A0 outer s H E hr =>
    (dss_cons (ds_set sc63.nd (i := 2) rfl (by first | exact Or.inl rfl | exact Or.inr rfl) (de_bm PySem.F.plainAttrs_str PySem.F.slot_str_join PySem.F.type_str_join mt_join sim_join ok_str de_str (da_cons (de_lc (own := [("_law_k", 3)]) (by rfl) sc63.nd (di_both (dv 1)) (blkOk_by (N := N63) (own := [("_law_k", 3)]) (sc := defScope (top 63)) (by decide +kernel)) (fun _ _ _ _ _ => (pg_name (i := 3) sc63.nd rfl (by first | exact Or.inl rfl | exact Or.inr rfl))) (sim_nm (i := 3)) (fun _ _ _ _ _ => dts_nil) (fun _ _ _ _ _ => (de_ix ix_any sim_ix (de_ix ix_any sim_ix (dv 0) de_int (fun _ _ => rfl)) (dv 3) (fun _ _ => rfl)))) da_nil)))
      (dss_one (ds_ret (de_cmp (op_eqA hr.units) sim_eq (de_lc (own := [("_law_spot", 4)]) (by rfl) sc63.nd (di_str (de_ix ix_any sim_ix (dv 0) de_int (fun _ _ => rfl))) (blkOk_by (N := N63) (own := [("_law_spot", 4)]) (sc := defScope (top 63)) (by decide +kernel)) (fun _ _ _ _ _ => (pg_name (i := 4) sc63.nd rfl (by first | exact Or.inl rfl | exact Or.inr rfl))) (sim_nm (i := 4)) (fun _ _ _ _ _ => (dts_one (dt_cmp (op_eqA hr.units) sim_eq (de_op op_modN sim_mod (de_callTy call_int1 sim_int (by rfl) T.z_int boot_int (da_cons (de_bm PySem.F.plainAttrs_str PySem.F.slot_str_count PySem.F.type_str_count mt_count sim_count ok_str (dv 2) (da_cons (dv 4) da_nil)) da_nil)) de_int) de_int (nomark _)))) (fun _ _ _ _ _ => (dv 4))) (de_lst da_nil) (nomark _))))), fun ds μ R h => ?_⟩
  · obtain ⟨p, ts, v, rfl, _⟩ := h
    rfl
  · obtain ⟨p, ts, v, rfl, op, ok, al, v11, h⟩ := h
    have ll : ((v.map Int.ofNat).map D.int).length = v.length := by rw [List.length_map, List.length_map]
    have e0 : ("" : Str).length = 0 := by decide +kernel
    have z0 : 0 ≤ sizeLine := by decide
    have p8 := ok.few
    refine ⟨True.intro, ?_⟩
    show LcB _ _ _ _ _ _ ((v.map Int.ofNat).map D.int) _
    refine lcb_map (rowU ts) (by rw [ll, sizeLine_eq]; omega) ?_ ?_
    · intro x hx ν Y _ hY
      rw [List.map_map] at hx
      obtain ⟨k, hk, rfl⟩ := List.mem_map.mp hx
      exact atK_nat (rowAt4 ok (al.2 k hk)) hY
    rw [rows_lot]
    refine ⟨_, rfl, by rw [sum_lots, flat_two, List.length_map, e0]; omega, ?_⟩
    rw [join_lots]
    show LcB _ _ _ _ _ _ (DL.signs (toS p)) _
    rw [show DL.signs (toS p) = chs p by unfold DL.signs chs; rw [toS_list]; rfl]
    have cl : (chs p).length = p.length := List.length_map _
    refine lcb_pure (oddS ts v) id (by rw [cl, sizeLine_eq]; omega) ?_ ?_
    · intro d hd ν N Y _ hN hY
      obtain ⟨c, hc, rfl⟩ := List.mem_map.mp hd
      have hN : decide (oddC ts v c % 2 = 1) = false → N ν := hN
      have hY : decide (oddC ts v c % 2 = 1) = true → Y (.str (sg c)) ν := hY
      refine ⟨True.intro, ?_⟩
      refine ⟨show (2 : Int) ≠ 0 by decide, ?_⟩
      have e : decide ((Txt.count (toS (flatC ts v)) (sg c)).fmod 2 = 1) = decide (oddC ts v c % 2 = 1) := by
        rw [count_at, Int.fmod_eq_emod_of_nonneg _ (by decide)]
        unfold oddC
        exact decide_eq_decide.mpr (by omega)
      refine if_case (c := decide ((Txt.count (toS (flatC ts v)) (sg c)).fmod 2 = 1)) (fun z => ?_) (fun z => ?_)
      · rw [e] at z
        exact hY z
      · rw [e] at z
        exact hN z
    rw [odd_spots]
    refine ⟨z0, ?_⟩
    refine LayL.none (k := id) (lay_chs op (fun c hc => (List.mem_filter.mp hc).1) 0) (by decide) ?_
    rw [chs_none, odd_even]
    exact h
def g_L_parts04 : GC := fun ds μ R => ∃ (p : List Nat) (ts : List Str) (v : List Nat), ds = [dNet p ts, dLot v] ∧ OkPlaces p ∧ OkT p ts ∧ ts.length ≤ 11 ∧ R (.int ((herdsL p (tiesOf ts (outs v ts.length))).length : Nat)) μ
def notIn (v : List Nat) : D → Bool
  | .int i => decide (i.toNat ∉ v)
  | _ => false
theorem outs_rows (ts : List Str) (v : List Nat) : (((List.range ts.length).map fun i => D.int (i : Nat)).filter (notIn v)).map (rowU ts) = (((outs v ts.length).map fun k => [u1 ts k, u2 ts k]).map toS).map D.str := by
  rw [List.filter_map, List.map_map, List.map_map, List.map_map]
  rfl
theorem okT_lot {p : List Nat} {ts : List Str} (ot : OkT p ts) {v : List Nat} (hv : ∀ k ∈ v, k < ts.length) : OkT p (v.map fun k => ts.getD k Str.empty) := ⟨fun y hy => by
  obtain ⟨k, hk, rfl⟩ := List.mem_map.mp hy
  have h := hv k hk
  have e : ts.getD k Str.empty = ts[k] := by rw [List.getD_eq_getElem?_getD, List.getElem?_eq_getElem h]; rfl
  rw [e]
  exact ot.ties _ (List.getElem_mem h)⟩
def N61 : List Str := ["_law_net_here", "_law_lot_here", "_law_k"]
theorem sc61 : FnScope N61 ["_law_net_here", "_law_lot_here"] (defScope (top 61)) := ⟨rfl, rfl, rfl, by decide +kernel, rfl, by decide +kernel, by decide +kernel⟩
theorem ok_L_parts (T : Tx K mg A) : FnOk P w K mg base CX0 4 A.L_parts A.fd_L_parts ["_law_net_here", "_law_lot_here"] (toSp K (g_L_parts04)) := by
  refine okD T.F_L_parts sc61 (fun ds μ R h => ?_) ⟨_, fun cdv A0 outer s H E hr =>
    (dss_one (ds_ret (de_callB cr_len sim_len (by rfl) T.z_len boot_len (da_cons (de_call ((ok_L_herds T).mono (by decide)) hr (by rfl) T.g_L_herds T.F_L_herds.kp T.b_L_herds (da_cons (de_ix ix_any sim_ix (dv 0) de_int (fun _ _ => rfl)) (da_cons (de_lc (own := [("_law_k", 2)]) (by rfl) sc61.nd (di_range (by rfl) T.z_range (da_cons (de_callB cr_len sim_len (by rfl) T.z_len boot_len (da_cons (de_ix ix_any sim_ix (dv 0) de_int (fun _ _ => rfl)) da_nil)) da_nil)) (blkOk_by (N := N61) (own := [("_law_k", 2)]) (sc := defScope (top 61)) (by decide +kernel)) (fun _ _ _ _ _ => (pg_name (i := 2) sc61.nd rfl (by first | exact Or.inl rfl | exact Or.inr rfl))) (sim_nm (i := 2)) (fun _ _ _ _ _ => (dts_one (dt_cmp op_notInA sim_notIn (dv 2) (dv 1) rfl))) (fun _ _ _ _ _ => (de_ix ix_any sim_ix (de_ix ix_any sim_ix (dv 0) de_int (fun _ _ => rfl)) (dv 2) (fun _ _ => rfl)))) da_nil))) da_nil)))), fun ds μ R h => ?_⟩
  · obtain ⟨p, ts, v, rfl, _⟩ := h
    rfl
  · obtain ⟨p, ts, v, rfl, op, ot, few, h⟩ := h
    have ok : OkWeb p ts := ot.web op few
    have lt : (ts.map D.str).length = ts.length := List.length_map _
    refine ⟨⟨by rw [lt]; omega, by rw [lt]; omega⟩, ?_⟩
    rw [lt, Int.toNat_natCast]
    show LcB _ _ _ _ _ _ ((List.range ts.length).map fun i => D.int (i : Nat)) _
    refine lcb_pure (notIn v) (rowU ts) (by rw [List.length_map, List.length_range, sizeLine_eq]; omega) ?_ ?_
    · intro x hx ν N Y _ hN hY
      obtain ⟨k, hk, rfl⟩ := List.mem_map.mp hx
      have hk := List.mem_range.mp hk
      have hN : decide (k ∉ v) = false → N ν := hN
      have hY : decide (k ∉ v) = true → Y (.str (toS [u1 ts k, u2 ts k])) ν := hY
      show DL.inDs (.int (k : Nat)) ((v.map Int.ofNat).map D.int) fun b => DL.bK _ (.bl (!b)) ν
      refine in_lot ?_
      have e : (!decide (k ∈ v)) = decide (k ∉ v) := by
        by_cases q : k ∈ v
        · rw [decide_eq_true q, decide_eq_false (not_not_intro q)]; rfl
        · rw [decide_eq_false q, decide_eq_true q]; rfl
      refine if_case (c := !decide (k ∈ v)) (fun z => ?_) (fun z => ?_)
      · exact atK_nat (rowAt4 ok hk) (hY (by rw [← e]; exact z))
      · exact hN (by rw [← e]; exact z)
    have io : ∀ k ∈ outs v ts.length, k < ts.length := fun k hk => (outs_mem.mp hk).1
    rw [outs_rows, rows_are ok io]
    refine ⟨p, (outs v ts.length).map fun k => ts.getD k Str.empty, rfl, op, okT_lot ot io, ?_⟩
    show R (.int ((((herdsL p (((outs v ts.length).map fun k => ts.getD k Str.empty).map ends)).map fun h => D.str (toS h)).length : Nat) : Int)) _
    rw [List.length_map, tiesOf_map]
    exact h
end
end K10
set_option Elab.async false
set_option linter.all false
set_option maxRecDepth 100000
namespace DL
open PySem PySem.Spec PyProof.Rows L2
/-! ### list(d), sorted(d), d a dict whose keys are tuples -/
theorem isKeys_rep {K : PySem.W.Frag} {H : Hp} {μ : Mu} (rm : RM K H μ) : ∀ {kvs : List (List Key × V)} {bs : List Addr}, IsKeys H kvs bs → RepL K H μ ((kvs.map (·.1)).map kDs) (bs.map V.ref)
  | _, _, .nil => RepL.nil
  | _, _, .cons h t => RepL.cons (to_tkey rm h) (isKeys_rep rm t)
def gListT1 : G1 := fun x μ R => ∃ (a : Addr) (kvs : List (List Key × D)), x = .adr a ∧ μ a = some (.dtt kvs) ∧ R (.lst (keysD kvs)) μ
abbrev rListT : List V → Hp → VK → Prop := fun xs H Q => ∃ d kvs, xs = [V.ref d] ∧ Rd H d (.dT kvs) ∧ ∀ p bs, H p = none → IsKeys H kvs bs → Q (.ref p) (upd H p (.lst (bs.map V.ref)))
theorem keysD_of {kvs : List (List Key × D)} {kv : List (List Key × V)} (e : kv.map (·.1) = kvs.map (·.1)) : (kv.map (·.1)).map kDs = keysD kvs := by
  rw [e]
  unfold keysD
  rw [List.map_map]
  rfl
theorem sim_listT {K : PySem.W.Frag} : SimC K rListT (g1 gListT1) := sim_g1 fun v d H μ Q R rm rv q f => by
  obtain ⟨a, kvs, rfl, e0, q⟩ := q
  obtain ⟨kv, h1, l⟩ := rm a _ e0
  refine ⟨a, kv, by rw [rep_adr rv], .inl h1, fun p bs n hb => ?_⟩
  have r := isKeys_rep rm hb
  rw [keysD_of (repK_keys l)] at r
  exact fw_lst rm n r q f
end DL
set_option Elab.async false
set_option linter.all false
set_option maxRecDepth 100000
namespace K10
open PySem PySem.Spec PyProof.Rows L2 DL
section
variable {P : Program} {w : World} {K : PySem.W.Frag} {mg : Str → Option Value} {base : Heap} {A : Ad}
/-! ### lots with one end within -/
def kvF (ks : List (List Int)) (F : List Int → D) : List (List Key × D) := ks.map fun k => (ik k, F k)
theorem kvF_any {F : List Int → D} {ks : List (List Int)} {r : List Int} : ((kvF ks F).any fun kv => decide (kv.1 = ik r)) = decide (r ∈ ks) := by
  rw [Bool.eq_iff_iff, List.any_eq_true, decide_eq_true_iff]
  constructor
  · rintro ⟨x, hx, e⟩
    obtain ⟨k, hk, rfl⟩ := List.mem_map.mp hx
    rw [← ik_inj (of_decide_eq_true e)]
    exact hk
  · intro h
    exact ⟨(ik r, F r), List.mem_map.mpr ⟨r, h, rfl⟩, decide_eq_true rfl⟩
theorem kvF_put {F G : List Int → D} {ks : List (List Int)} {r : List Int} (h : ∀ k ∈ ks, k ≠ r → G k = F k) : DL.putD (kvF ks F) (ik r) (G r) = kvF (if r ∈ ks then ks else ks ++ [r]) G := by
  unfold DL.putD
  rw [kvF_any]
  by_cases m : r ∈ ks
  · rw [if_pos (decide_eq_true m), if_pos m]
    unfold kvF
    rw [List.map_map]
    refine List.map_congr_left fun k hk => ?_
    show (if ik k = ik r then (ik k, G r) else (ik k, F k)) = (ik k, G k)
    by_cases e : k = r
    · subst e
      rw [if_pos rfl]
    · rw [if_neg (fun z => e (ik_inj z)), h k hk e]
  · rw [if_neg (by rw [decide_eq_false m]; exact Bool.false_ne_true), if_neg m]
    unfold kvF
    rw [List.map_append]
    congr 1
    refine List.map_congr_left fun k hk => ?_
    show (ik k, F k) = (ik k, G k)
    rw [h k hk fun z => m (by rw [← z]; exact hk)]
theorem subs_headL (p : List Nat) : (subsL p)[0]? = some [] := by
  refine snoc_ind (P := fun v => (subsL v)[0]? = some []) rfl ?_ p
  intro v k ih
  rw [subs_snoc, List.getElem?_append_left (List.getElem?_eq_some_iff.mp ih).1]
  exact ih
theorem cross_none (ts : List Str) : crossL ts [] = [] := by
  unfold crossL
  rw [List.filter_eq_nil_iff]
  intro k _ h
  unfold crB at h
  simp at h
def kI (ks : List (List Nat)) : List (List Int) := ks.map fun v => v.map Int.ofNat
theorem kI_mem {ks : List (List Nat)} {v : List Nat} : v.map Int.ofNat ∈ kI ks ↔ v ∈ ks := ⟨fun z => by
  obtain ⟨w, hw, e⟩ := List.mem_map.mp z
  rw [← (List.map_inj_right fun _ _ e => Int.ofNat.inj e).mp e]
  exact hw, fun z => List.mem_map.mpr ⟨v, z, rfl⟩⟩
theorem kI_if {ks : List (List Nat)} {v : List Nat} : (if v.map Int.ofNat ∈ kI ks then kI ks else kI ks ++ [v.map Int.ofNat]) = kI (if v ∈ ks then ks else ks ++ [v]) := by
  by_cases m : v ∈ ks
  · rw [if_pos m, if_pos (kI_mem.mpr m)]
  · rw [if_neg m, if_neg (fun z => m (kI_mem.mp z))]
    unfold kI
    rw [List.map_append]
    rfl
def tT : List Int → D := fun _ => .bl true
theorem keys_kI (ks : List (List Nat)) : DL.keysD (kvF (kI ks) tT) = (kI ks).map dI := by
  unfold DL.keysD kvF
  rw [List.map_map]
  refine List.map_congr_left fun k _ => ?_
  exact kDs_ik k
def crJ (ts : List Str) (h : List Nat) : D → Bool
  | .int i => crB h (ts.getD i.toNat Str.empty)
  | _ => false
theorem cross_list (ts : List Str) (h : List Nat) : (((List.range ts.length).map fun i => D.int (i : Nat)).filter (crJ ts h)).map id = ((crossL ts h).map Int.ofNat).map D.int := by
  rw [List.map_id, List.filter_map, List.map_map]
  rfl
theorem subs_256 {p : List Nat} (few : p.length ≤ 8) : (subsL p).length ≤ 256 := by
  rw [subs_few]
  exact Nat.le_trans (Nat.pow_le_pow_right (by decide) few) (by decide)
structure IsC (ts : List Str) (hs : List (List Nat)) (ks : List (List Nat)) : Prop where
  nod : ks.Nodup
  mem : ∀ v, v ∈ ks ↔ ∃ h, h ∈ hs ∧ crossL ts h = v
theorem IsC.start (ts : List Str) : IsC ts [] [] := ⟨List.nodup_nil, fun v => ⟨fun h => absurd h List.not_mem_nil, fun ⟨h, z, _⟩ => absurd z List.not_mem_nil⟩⟩
theorem IsC.add {ts : List Str} {hs ks : List (List Nat)} (h : IsC ts hs ks) (x : List Nat) : IsC ts (hs ++ [x]) (if crossL ts x ∈ ks then ks else ks ++ [crossL ts x]) := by
  have old : ∀ v, v ∈ ks → ∃ h, h ∈ hs ++ [x] ∧ crossL ts h = v := fun v hv => by
    obtain ⟨y, y1, y2⟩ := (h.mem v).mp hv
    exact ⟨y, List.mem_append_left _ y1, y2⟩
  have new : ∀ v, (∃ h, h ∈ hs ++ [x] ∧ crossL ts h = v) → v ∈ ks ∨ v = crossL ts x := fun v ⟨y, y1, y2⟩ => by
    rcases List.mem_append.mp y1 with q | q
    · exact .inl ((h.mem v).mpr ⟨y, q, y2⟩)
    · rw [List.mem_singleton.mp q] at y2
      exact .inr y2.symm
  by_cases m : crossL ts x ∈ ks
  · rw [if_pos m]
    refine ⟨h.nod, fun v => ⟨old v, fun z => ?_⟩⟩
    rcases new v z with q | q
    · exact q
    · rw [q]; exact m
  · rw [if_neg m]
    refine ⟨List.nodup_append.mpr ⟨h.nod, List.pairwise_singleton _ _, fun a ha b hb => ?_⟩, fun v => ⟨fun z => ?_, fun z => ?_⟩⟩
    · rw [List.mem_singleton.mp hb]
      exact fun q => m (by rw [← q]; exact ha)
    · rcases List.mem_append.mp z with q | q
      · exact old v q
      · rw [List.mem_singleton.mp q]
        exact ⟨x, List.mem_append_right _ (List.mem_singleton.mpr rfl), rfl⟩
    · rcases new v z with q | q
      · exact List.mem_append_left _ q
      · rw [q]
        exact List.mem_append_right _ (List.mem_singleton.mpr rfl)
theorem IsC.perm {p : List Nat} {ts : List Str} {ks : List (List Nat)} (h : IsC ts (subsL p) ks) : ks.Perm ((lotsL ts.length).filter (twoB p ts)) := by
  refine (List.perm_ext_iff_of_nodup h.nod ((lots_nodup _).filter _)).mpr fun v => ?_
  rw [h.mem, List.mem_filter]
  unfold twoB
  rw [List.any_eq_true]
  constructor
  · rintro ⟨y, y1, rfl⟩
    exact ⟨cross_lot, y, y1, decide_eq_true rfl⟩
  · rintro ⟨_, y, y1, y2⟩
    exact ⟨y, y1, of_decide_eq_true y2⟩
def g_L_spots_lots : GC := fun ds μ R => ∃ (p : List Nat) (ts : List Str), ds = [dNet p ts] ∧ OkPlaces p ∧ OkT p ts ∧ ts.length ≤ 11 ∧ ∀ out, Listed (twoB p ts) ts.length out → R (.lst (out.map dLot)) μ
def N60 : List Str := ["_law_net_here", "_law_herds_here", "_law_spot", "_law_herd", "_law_found", "_law_rows", "_law_k"]
theorem sc60 : FnScope N60 ["_law_net_here"] (defScope (top 60)) := ⟨rfl, rfl, rfl, by decide +kernel, rfl, by decide +kernel, by decide +kernel⟩
theorem ok_L_spots_lots (T : Tx K mg A) : FnOk P w K mg base CX0 2 A.L_spots_lots A.fd_L_spots_lots ["_law_net_here"] (toSp K (g_L_spots_lots)) := by
  refine okDF T.F_L_spots_lots sc60 (fun ds μ R h => ?_) ⟨_, fun cdv A0 outer s H E hr =>
    (dss_cons (ds_set sc60.nd (i := 1) rfl (by first | exact Or.inl rfl | exact Or.inr rfl) (de_lst (da_cons de_str da_nil)))
      (dss_cons (ds_for PassesOwn.never rfl (di_str (de_ix ix_any sim_ix (dv 0) de_int (fun _ _ => rfl))) (pg_name (i := 2) sc60.nd rfl (by first | exact Or.inl rfl | exact Or.inr rfl)) (sim_nm (i := 2))
      (dss_one (ds_set sc60.nd (i := 1) rfl (by first | exact Or.inl rfl | exact Or.inr rfl) (de_op op_plus sim_plus (dv 1) (de_lc (own := [("_law_herd", 3)]) (by rfl) sc60.nd (di_both (dv 1)) (blkOk_by (N := N60) (own := [("_law_herd", 3)]) (sc := defScope (top 60)) (by decide +kernel)) (fun _ _ _ _ _ => (pg_name (i := 3) sc60.nd rfl (by first | exact Or.inl rfl | exact Or.inr rfl))) (sim_nm (i := 3)) (fun _ _ _ _ _ => dts_nil) (fun _ _ _ _ _ => (de_op op_plus sim_plus (dv 3) (dv 2))))))))
      (dss_cons (ds_set sc60.nd (i := 4) rfl (by first | exact Or.inl rfl | exact Or.inr rfl) de_dnewT)
      (dss_cons (ds_for PassesOwn.never rfl (di_both (dv 1)) (pg_name (i := 3) sc60.nd rfl (by first | exact Or.inl rfl | exact Or.inr rfl)) (sim_nm (i := 3))
      (dss_cons (ds_setLc (i := 5) (own := [("_law_k", 6)]) (by rfl) sc60.nd rfl rfl (sw_true rfl rfl rfl (by decide +kernel)) (di_range (by rfl) T.z_range (da_cons (de_callB cr_len sim_len (by rfl) T.z_len boot_len (da_cons (de_ix ix_any sim_ix (dv 0) de_int (fun _ _ => rfl)) da_nil)) da_nil)) (blkOk_by (N := N60) (own := [("_law_k", 6)]) (sc := defScope (top 60)) (by decide +kernel)) (fun _ _ _ _ _ => (pg_name (i := 6) sc60.nd rfl (by first | exact Or.inl rfl | exact Or.inr rfl))) (sim_nm (i := 6)) (fun _ _ _ _ _ => (dts_one (dt_cmp (op_neA hr.units) sim_ne (de_cmp op_inA sim_in (de_ix ix_any sim_ix (de_ix ix_any sim_ix (de_ix ix_any sim_ix (dv 0) de_int (fun _ _ => rfl)) (dv 6) (fun _ _ => rfl)) de_int (fun _ _ => rfl)) (dv 3) rfl) (de_cmp op_inA sim_in (de_ix ix_any sim_ix (de_ix ix_any sim_ix (de_ix ix_any sim_ix (dv 0) de_int (fun _ _ => rfl)) (dv 6) (fun _ _ => rfl)) de_int (fun _ _ => rfl)) (dv 3) rfl) (nomark _)))) (fun _ _ _ _ _ => (dv 6)))
      (dss_one (ds_asgH de_bl (pg_subDD (hu_of hr) (dv 4) (de_callTy call_tuple_of sim_tuple (by rfl) T.z_tuple boot_tuple (da_cons (dv 5) da_nil))) simH_subT))))
      (dss_one (ds_ret (de_callB (cr_sortI hr.units) sim_sortI (by rfl) T.z_sorted boot_sorted (da_cons (de_callTy (call_list_dT (by rfl)) sim_listT (by rfl) T.z_list boot_list (da_cons (dv 4) da_nil)) da_nil)))))))), fun ds μ R h => ?_⟩
  · obtain ⟨p, ts, rfl, _⟩ := h
    rfl
  · obtain ⟨p, ts, rfl, op, ot, few, h⟩ := h
    have ok : OkWeb p ts := ot.web op few
    have z0 : 0 ≤ sizeLine := by decide
    have lt : (ts.map D.str).length = ts.length := List.length_map _
    have pf := op.few
    have s256 : (subsL p).length ≤ 256 := subs_256 (by omega)
    refine ⟨by show 1 ≤ sizeLine; decide, ?_⟩
    have e0 : ("" : Str) = toS [] := by decide +kernel
    refine ⟨fun i δ' μ' => μ' = μ ∧ ∃ o2 o3, δ' = [some (dNet p ts), some (.lst ((subsL (p.take i)).map dHerd)), o2, o3, none, none, none], ⟨rfl, none, none, by rw [e0]; rfl⟩, ?_, ?_⟩
    · rintro i x δ' μ' hx ⟨rfl, o2, o3, rfl⟩
      obtain ⟨c, hc, rfl⟩ := signs_at hx
      have hi : i < p.length := (List.getElem?_eq_some_iff.mp hc).1
      have fw : (subsL (p.take i)).length ≤ 256 := subs_256 (by rw [List.length_take]; omega)
      show LcB _ _ _ _ _ _ _ _
      refine lcb_map (addC c) ?_ ?_ ?_
      · rw [List.length_map, sizeLine_eq]
        omega
      · intro x hx μ2 Y _ hy
        obtain ⟨h2, hh, rfl⟩ := List.mem_map.mp hx
        have := subs_len hh
        rw [List.length_take] at this
        refine ⟨?_, hy⟩
        show h2.toArray.size + 1 ≤ sizeLine
        rw [List.size_toArray, sizeLine_eq]
        omega
      · have em : ((subsL (p.take i)).map dHerd).map (addC c) = ((subsL (p.take i)).map (· ++ [c])).map dHerd := by
          rw [List.map_map, List.map_map]
          refine List.map_congr_left fun h2 _ => ?_
          show D.str (toS h2 ++ ⟨#[c]⟩) = D.str (toS (h2 ++ [c]))
          rw [toS_add]
        rw [em]
        refine ⟨by rw [List.length_map, List.length_map, List.length_map, sizeLine_eq]; omega, rfl, some (.str ⟨#[c]⟩), o3, ?_⟩
        show _ = [some (dNet p ts), some (.lst ((subsL (p.take (i + 1))).map dHerd)), some (.str ⟨#[c]⟩), o3, none, none, none]
        rw [take_succ_get hc, subs_snoc, List.map_append]
        rfl
    rintro δ' μ' ⟨rfl, o2, o3, rfl⟩
    rw [signs_len, List.take_length]
    refine fun f nf => ?_
    refine ⟨fun i δ' ν => i ≤ (subsL p).length ∧ ∃ (ks : List (List Nat)) (o3 o5 : Option D), IsC ts ((subsL p).take i) ks ∧ ((i = 0 ∧ ks = []) ∨ ks.head? = some []) ∧ ν = put μ' f (.dtt (kvF (kI ks) tT)) ∧
      δ' = [some (dNet p ts), some (.lst ((subsL p).map dHerd)), o2, o3, some (.adr f), o5, none], ⟨Nat.zero_le _, [], _, none, IsC.start ts, .inl ⟨rfl, rfl⟩, rfl, rfl⟩, ?_, ?_⟩
    · rintro i x δ' ν hx ⟨_, ks, o3, o5, hk, hd, rfl, rfl⟩
      rw [List.getElem?_map] at hx
      obtain ⟨hh, hv, rfl⟩ : ∃ hh, (subsL p)[i]? = some hh ∧ x = dHerd hh := by
        cases q : (subsL p)[i]? with
        | none => rw [q] at hx; cases hx
        | some v => rw [q] at hx; exact ⟨v, rfl, (Option.some.inj hx).symm⟩
      have hi := (List.getElem?_eq_some_iff.mp hv).1
      have et := take_succ_get hv
      have kl : ks.length ≤ i := by
        have h1 : ks.length ≤ (((subsL p).take i).map (crossL ts)).length := hk.nod.length_le_of_subset fun v hv => by
          obtain ⟨y, y1, y2⟩ := (hk.mem v).mp hv
          exact List.mem_map.mpr ⟨y, y1, y2⟩
        rw [List.length_map, List.length_take] at h1
        omega
      refine ⟨⟨by rw [lt]; omega, by rw [lt]; omega⟩, ?_⟩
      rw [lt, Int.toNat_natCast]
      show LcB _ _ _ _ _ _ ((List.range ts.length).map fun i => D.int (i : Nat)) _
      refine lcb_pure (crJ ts hh) id (by rw [List.length_map, List.length_range, sizeLine_eq]; omega) ?_ ?_
      · intro x hx ν2 N2 Y2 _ hN2 hY2
        obtain ⟨k, hk2, rfl⟩ := List.mem_map.mp hx
        have hk2 := List.mem_range.mp hk2
        have cb : crJ ts hh (.int (k : Nat)) = !decide (decide (u1 ts k ∈ hh) = decide (u2 ts k ∈ hh)) := by
          show crB hh (ts.getD k Str.empty) = _
          unfold crB u1 u2
          cases decide ((ends (ts.getD k Str.empty)).1 ∈ hh) <;> cases decide ((ends (ts.getD k Str.empty)).2 ∈ hh) <;> rfl
        rw [cb] at hN2 hY2
        have at1 := rowAt4 ok hk2
        refine atK_nat at1 ?_
        refine ⟨by show 2 ≤ sizeLine; decide, ?_⟩
        rw [show L2.atI (toS [u1 ts k, u2 ts k]).cps.toList (0 : Int) = some (u1 ts k) from by rw [toS_list]; rfl]
        refine ⟨u1 ts k, rfl, ?_⟩
        refine atK_nat at1 ?_
        refine ⟨by show 2 ≤ sizeLine; decide, ?_⟩
        rw [show L2.atI (toS [u1 ts k, u2 ts k]).cps.toList (1 : Int) = some (u2 ts k) from by rw [toS_list]; rfl]
        refine ⟨u2 ts k, rfl, ?_⟩
        rw [toS_list]
        exact if_case (c := !decide (decide (u1 ts k ∈ hh) = decide (u2 ts k ∈ hh))) (fun e => hY2 e) (fun e => hN2 e)
      rw [cross_list]
      have hadd := hk.add hh
      have h0 : i = 0 → crossL ts hh = [] := fun e => by
        rw [e, subs_headL] at hv
        rw [← Option.some.inj hv]
        exact cross_none ts
      generalize crossL ts hh = lot at hadd h0 ⊢
      refine ⟨f, _, ik (lot.map Int.ofNat), rfl, put_same, (kDs_ik _).symm, by unfold kvF kI; rw [List.length_map, List.length_map, sizeLine_eq]; omega, ?_⟩
      rw [put_put]
      have hp := kvF_put (F := tT) (G := tT) (ks := kI ks) (r := lot.map Int.ofNat) fun _ _ _ => rfl
      rw [kI_if] at hp
      rw [show (D.bl true) = tT (lot.map Int.ofNat) from rfl, hp]
      refine ⟨hi, _, _, _, ?_, ?_, rfl, rfl⟩
      · rw [et]
        exact hadd
      · refine .inr ?_
        rcases hd with ⟨q1, q2⟩ | q
        · rw [q2, h0 q1]
          rfl
        · split
          · exact q
          · cases ks with
            | nil => cases q
            | cons a r => exact q
    · rintro δ' ν ⟨_, ks, o3, o5, hk, hd, rfl, rfl⟩
      rw [List.length_map, List.take_length] at hk
      refine ⟨f, _, rfl, put_same, ?_⟩
      rw [keys_kI]
      refine ⟨kI ks, rfl, ?_, fun out hp hw => ?_⟩
      · rcases hd with ⟨q1, q2⟩ | q
        · rw [q2]
          exact .inl fun _ h => absurd h List.not_mem_nil
        · refine .inr ?_
          unfold kI
          rw [List.head?_map, q]
          rfl
      · obtain ⟨S, pS, rfl⟩ := perm_map hp
        have aS : S.Pairwise (fun a b => ltN b a = false) := List.pairwise_map.mp hw
        have eS : (S.map fun v => v.map Int.ofNat).map dI = S.map dLot := by rw [List.map_map]; rfl
        rw [eS]
        refine ⟨_, μ', .less fun c o hc => ?_, h S ⟨pS.trans hk.perm, aS⟩⟩
        rw [put_ne (fun q => by rw [q, nf] at hc; cases hc)]
        exact hc
def g_L_is_round : GC := fun ds μ R => ∃ (p : List Nat) (ts : List Str) (v : List Nat), ds = [dNet p ts, dLot v] ∧ OkPlaces p ∧ OkT p ts ∧ ts.length ≤ 11 ∧ AscLot v ts.length ∧ v.length ≤ 11 ∧ R (.bl (roundB p ts v)) μ
def touchS (ts : List Str) (v : List Nat) : D → Bool
  | .str y => decide (y.cps.toList.getD 0 0 ∈ flatC ts v)
  | _ => false
theorem touch_spots (p : List Nat) (ts : List Str) (v : List Nat) : ((chs p).filter (touchS ts v)).map id = chs (touched p ts v) := by
  unfold chs touched
  rw [List.map_id, List.filter_map]
  rfl
def notTwo (ts : List Str) (v : List Nat) : D → Bool
  | .str y => decide (oddC ts v (y.cps.toList.getD 0 0) ≠ 2)
  | _ => false
theorem two_spots (q : List Nat) (ts : List Str) (v : List Nat) : ((chs q).filter (notTwo ts v)).map id = chs (q.filter fun c => decide (oddC ts v c ≠ 2)) := by
  unfold chs
  rw [List.map_id, List.filter_map]
  rfl
theorem two_none (q : List Nat) (ts : List Str) (v : List Nat) : decide ((q.filter fun c => decide (oddC ts v c ≠ 2)) = []) = q.all fun c => decide (oddC ts v c = 2) := by
  rw [Bool.eq_iff_iff, decide_eq_true_iff, List.filter_eq_nil_iff, List.all_eq_true]
  refine forall_congr' fun c => forall_congr' fun _ => ?_
  rw [decide_eq_true_iff, decide_eq_true_iff, Classical.not_not]
theorem okT_touched {p : List Nat} {ts : List Str} (ot : OkT p ts) (he : Ends p ts) {v : List Nat} (hv : In ts v) : OkT (touched p ts v) (v.map fun k => ts.getD k Str.empty) := ⟨fun y hy => by
  obtain ⟨k, hk, rfl⟩ := List.mem_map.mp hy
  have h := hv k hk
  have e : ts.getD k Str.empty = ts[k] := by rw [List.getD_eq_getElem?_getD, List.getElem?_eq_getElem h]; rfl
  obtain ⟨a, b, e2, _, _, le⟩ := ot.ties _ (List.getElem_mem h)
  have ea : u1 ts k = a := by unfold u1; rw [e, e2]; rfl
  have eb : u2 ts k = b := by unfold u2; rw [e, e2]; rfl
  exact ⟨a, b, by rw [e, e2], flat_touched he hv _ (flat_mem.mpr ⟨k, hk, .inl ea.symm⟩), flat_touched he hv _ (flat_mem.mpr ⟨k, hk, .inr eb.symm⟩), le⟩⟩
theorem ok_touched {p : List Nat} {ts : List Str} (op : OkPlaces p) {v : List Nat} (ne : touched p ts v ≠ []) : OkPlaces (touched p ts v) := by
  refine ⟨List.length_pos_iff.mpr ne, ?_, op.asc.filter _, fun c hc => op.sign c (List.mem_filter.mp hc).1⟩
  have := List.length_filter_le (fun c => decide (c ∈ flatC ts v)) p
  have := op.few
  unfold touched
  omega
def N59 : List Str := ["_law_net_here", "_law_lot_here", "_law_rows", "_law_every", "_law_touched", "_law_k", "_law_spot"]
theorem sc59 : FnScope N59 ["_law_net_here", "_law_lot_here"] (defScope (top 59)) := ⟨rfl, rfl, rfl, by decide +kernel, rfl, by decide +kernel, by decide +kernel⟩
theorem ok_L_is_round (T : Tx K mg A) : FnOk P w K mg base CX0 4 A.L_is_round A.fd_L_is_round ["_law_net_here", "_law_lot_here"] (toSp K (g_L_is_round)) := by
  refine okD T.F_L_is_round sc59 (fun ds μ R h => ?_) ⟨_, fun cdv A0 outer s H E hr =>
    (dss_cons (ds_setLc (i := 2) (own := [("_law_k", 5)]) (by rfl) sc59.nd rfl rfl (sw_true rfl rfl rfl (by decide +kernel)) (di_both (dv 1)) (blkOk_by (N := N59) (own := [("_law_k", 5)]) (sc := defScope (top 59)) (by decide +kernel)) (fun _ _ _ _ _ => (pg_name (i := 5) sc59.nd rfl (by first | exact Or.inl rfl | exact Or.inr rfl))) (sim_nm (i := 5)) (fun _ _ _ _ _ => dts_nil) (fun _ _ _ _ _ => (de_ix ix_any sim_ix (de_ix ix_any sim_ix (dv 0) de_int (fun _ _ => rfl)) (dv 5) (fun _ _ => rfl))))
      (dss_cons (ds_set sc59.nd (i := 3) rfl (by first | exact Or.inl rfl | exact Or.inr rfl) (de_bm PySem.F.plainAttrs_str PySem.F.slot_str_join PySem.F.type_str_join mt_join sim_join ok_str de_str (da_cons (dv 2) da_nil)))
      (dss_cons (ds_setLc (i := 4) (own := [("_law_spot", 6)]) (by rfl) sc59.nd rfl rfl (sw_true rfl rfl rfl (by decide +kernel)) (di_str (de_ix ix_any sim_ix (dv 0) de_int (fun _ _ => rfl))) (blkOk_by (N := N59) (own := [("_law_spot", 6)]) (sc := defScope (top 59)) (by decide +kernel)) (fun _ _ _ _ _ => (pg_name (i := 6) sc59.nd rfl (by first | exact Or.inl rfl | exact Or.inr rfl))) (sim_nm (i := 6)) (fun _ _ _ _ _ => (dts_one (dt_cmp op_inA sim_in (dv 6) (dv 3) rfl))) (fun _ _ _ _ _ => (dv 6)))
      (dss_cons (ds_if (dw_or (dt_cmp (op_eqA hr.units) sim_eq (dv 4) (de_lst da_nil) (nomark _)) (dw_or1 (dt_cmp (op_neA hr.units) sim_ne (de_lc (own := [("_law_spot", 6)]) (by rfl) sc59.nd (di_both (dv 4)) (blkOk_by (N := N59) (own := [("_law_spot", 6)]) (sc := defScope (top 59)) (by decide +kernel)) (fun _ _ _ _ _ => (pg_name (i := 6) sc59.nd rfl (by first | exact Or.inl rfl | exact Or.inr rfl))) (sim_nm (i := 6)) (fun _ _ _ _ _ => (dts_one (dt_cmp (op_neA hr.units) sim_ne (de_bm PySem.F.plainAttrs_str PySem.F.slot_str_count PySem.F.type_str_count mt_count sim_count ok_str (dv 3) (da_cons (dv 6) da_nil)) de_int (nomark _)))) (fun _ _ _ _ _ => (dv 6))) (de_lst da_nil) (nomark _)))).dt (dss_one (ds_ret de_bl)) dss_nil)
      (dss_one (ds_ret (de_cmp (op_eqA hr.units) sim_eq (de_callB cr_len sim_len (by rfl) T.z_len boot_len (da_cons (de_call ((ok_L_herds T).mono (by decide)) hr (by rfl) T.g_L_herds T.F_L_herds.kp T.b_L_herds (da_cons (de_bm PySem.F.plainAttrs_str PySem.F.slot_str_join PySem.F.type_str_join mt_join sim_join ok_str de_str (da_cons (dv 4) da_nil)) (da_cons (dv 2) da_nil))) da_nil)) de_int (nomark _)))))))), fun ds μ R h => ?_⟩
  · obtain ⟨p, ts, v, rfl, _⟩ := h
    rfl
  · obtain ⟨p, ts, v, rfl, op, ot, few, al, v11, h⟩ := h
    have ok : OkWeb p ts := ot.web op few
    have he := ok.ends
    have ll : ((v.map Int.ofNat).map D.int).length = v.length := by rw [List.length_map, List.length_map]
    have e0 : ("" : Str).length = 0 := by decide +kernel
    have z0 : 0 ≤ sizeLine := by decide
    have p8 := ok.few
    show LcB _ _ _ _ _ _ ((v.map Int.ofNat).map D.int) _
    refine lcb_map (rowU ts) (by rw [ll, sizeLine_eq]; omega) ?_ ?_
    · intro x hx ν Y _ hY
      rw [List.map_map] at hx
      obtain ⟨k, hk, rfl⟩ := List.mem_map.mp hx
      exact atK_nat (rowAt4 ok (al.2 k hk)) hY
    rw [rows_lot]
    refine ⟨True.intro, ?_⟩
    refine ⟨_, rfl, by rw [sum_lots, flat_two, List.length_map, e0]; omega, ?_⟩
    rw [join_lots]
    show LcB _ _ _ _ _ _ (DL.signs (toS p)) _
    rw [show DL.signs (toS p) = chs p by unfold DL.signs chs; rw [toS_list]; rfl]
    have cl : (chs p).length = p.length := List.length_map _
    refine lcb_pure (touchS ts v) id (by rw [cl, sizeLine_eq]; omega) ?_ ?_
    · intro d hd ν N Y _ hN hY
      obtain ⟨c, hc, rfl⟩ := List.mem_map.mp hd
      have hN : decide (c ∈ flatC ts v) = false → N ν := hN
      have hY : decide (c ∈ flatC ts v) = true → Y (.str (sg c)) ν := hY
      refine ⟨c, rfl, ?_⟩
      rw [toS_list]
      exact if_case (c := decide (c ∈ flatC ts v)) (fun e => hY e) (fun e => hN e)
    rw [touch_spots]
    have subT : ∀ c ∈ touched p ts v, c ∈ p := fun c hc => (List.mem_filter.mp hc).1
    have lT : (touched p ts v).length ≤ p.length := List.length_filter_le _ _
    refine ⟨z0, ?_⟩
    refine LayL.none (k := id) (lay_chs op subT 0) (by decide) ?_
    rw [chs_none]
    refine if_case (c := decide (touched p ts v = [])) (fun e => ?_) (fun e => ?_)
    · have e := of_decide_eq_true e
      have : roundB p ts v = false := by
        unfold roundB
        rw [decide_eq_false (not_not_intro e)]
        rfl
      rw [this] at h
      exact h
    have ne := of_decide_eq_false e
    show LcB _ _ _ _ _ _ (chs (touched p ts v)) _
    have cl2 : (chs (touched p ts v)).length = (touched p ts v).length := List.length_map _
    refine lcb_pure (notTwo ts v) id (by rw [cl2, sizeLine_eq]; omega) ?_ ?_
    · intro d hd ν N Y _ hN hY
      obtain ⟨c, hc, rfl⟩ := List.mem_map.mp hd
      have hN : decide (oddC ts v c ≠ 2) = false → N ν := hN
      have hY : decide (oddC ts v c ≠ 2) = true → Y (.str (sg c)) ν := hY
      refine ⟨True.intro, ?_⟩
      have e : (!decide ((Txt.count (toS (flatC ts v)) (sg c)) = 2)) = decide (oddC ts v c ≠ 2) := by
        rw [count_at]
        unfold oddC
        by_cases q : ((flatC ts v).filter fun d => decide (d = c)).length = 2
        · rw [decide_eq_true (by omega), decide_eq_false (not_not_intro q)]
          rfl
        · rw [decide_eq_false (by omega), decide_eq_true q]
          rfl
      refine if_case (c := !decide ((Txt.count (toS (flatC ts v)) (sg c)) = 2)) (fun z => ?_) (fun z => ?_)
      · rw [e] at z
        exact hY z
      · rw [e] at z
        exact hN z
    rw [two_spots]
    refine ⟨z0, ?_⟩
    refine LayL.none (k := not) (lay_chs op (fun c hc => subT c (List.mem_filter.mp hc).1) 0) (by decide) ?_
    rw [chs_none, two_none]
    refine if_case (c := !((touched p ts v).all fun c => decide (oddC ts v c = 2))) (fun z => ?_) (fun z => ?_)
    · have : roundB p ts v = false := by
        unfold roundB
        rw [(Bool.not_eq_true' _).mp z, Bool.and_false]
        rfl
      rw [this] at h
      exact h
    have z := (Bool.not_eq_false' _).mp z
    refine ⟨True.intro, ?_⟩
    refine ⟨(touched p ts v).map sg, by unfold chs; rw [List.map_map]; rfl, by rw [sum_sg, e0]; omega, ?_⟩
    rw [join_sg, rows_are ok al.2]
    refine ⟨touched p ts v, v.map fun k => ts.getD k Str.empty, rfl, ok_touched op ne, okT_touched ot he al.2, ?_⟩
    show R (.bl (decide (((((herdsL (touched p ts v) ((v.map fun k => ts.getD k Str.empty).map ends)).map fun h => D.str (toS h)).length : Nat) : Int) = 1))) _
    rw [List.length_map, tiesOf_map]
    have : roundB p ts v = decide ((((herdsL (touched p ts v) (tiesOf ts v)).length : Nat) : Int) = 1) := by
      unfold roundB
      rw [decide_eq_true ne, z, Bool.true_and, Bool.true_and]
      exact decide_eq_decide.mpr (by omega)
    rw [← this]
    exact h
end
end K10
set_option Elab.async false
set_option linter.all false
set_option maxRecDepth 100000
namespace K10
open PySem PySem.Spec PyProof.Rows L2 DL
section
variable {P : Program} {w : World} {K : PySem.W.Frag} {mg : Str → Option Value} {base : Heap} {A : Ad}
/-! ### exchange -/
theorem lst_sameN {ds : List D} {ps : List PyData} {n : Nat} {μ : Mu} {R : KD} (h : LayL ds ps n) (hn : n + 1 ≤ 64) (q : R (.bl false) μ) : gNe (.lst ds) (.lst ds) μ R := (lay_lst h).same (k := not) hn q
theorem tup_sameN {ds : List D} {ps : List PyData} {n : Nat} {μ : Mu} {R : KD} (h : LayL ds ps n) (hn : n + 1 ≤ 64) (q : R (.bl false) μ) : gNe (.tup ds) (.tup ds) μ R := (lay_tup h).same (k := not) hn q
theorem any_rows (q : List Int) : ∀ K : List (List Int), ((K.map fun k => PyData.tuple (k.map .int)).any fun z => PyData.eqv z (.tuple (q.map .int))) = decide (q ∈ K)
  | [] => rfl
  | k :: K => by
    rw [List.map_cons, List.any_cons, any_rows q K, eqv_ints]
    by_cases e : k = q
    · subst e
      simp
    · rw [decide_eq_false e, Bool.false_or]
      refine decide_eq_decide.mpr ⟨fun h => List.mem_cons_of_mem _ h, fun h => ?_⟩
      rcases List.mem_cons.mp h with z | z
      · exact absurd z.symm e
      · exact z
theorem lay_lots (L : List (List Nat)) : LayL (L.map dLot) (L.map fun v => PyData.tuple ((v.map Int.ofNat).map .int)) 1 := layL_map fun v _ => lay_tup (layL_ints (v.map Int.ofNat) 0)
theorem lay_v (v : List Nat) : Lay (dLot v) (.tuple ((v.map Int.ofNat).map .int)) 1 := lay_tup (layL_ints (v.map Int.ofNat) 0)
theorem any_lots {v : List Nat} {L : List (List Nat)} : ((L.map fun v => PyData.tuple ((v.map Int.ofNat).map .int)).any fun z => PyData.eqv z (.tuple ((v.map Int.ofNat).map .int))) = decide (v ∈ L) := by
  have e : (L.map fun v => PyData.tuple ((v.map Int.ofNat).map .int)) = (L.map fun v => v.map Int.ofNat).map fun k => PyData.tuple (k.map .int) := by rw [List.map_map]; rfl
  rw [e, any_rows]
  exact decide_eq_decide.mpr ⟨fun z => by
    obtain ⟨w, hw, e⟩ := List.mem_map.mp z
    rw [← (List.map_inj_right fun _ _ e => Int.ofNat.inj e).mp e]
    exact hw, fun z => List.mem_map.mpr ⟨v, z, rfl⟩⟩
theorem ring_of {p : List Nat} {ts : List Str} {rs : List (List Nat)} (h : Listed (ringB p ts) ts.length rs) : ∀ r, r ∈ rs ↔ Ring p ts r := fun r => by
  rw [h.mem]
  exact ⟨fun z => ⟨z.1, z.2⟩, fun z => ⟨z.lot, z.ring⟩⟩
theorem bond_of {p : List Nat} {ts : List Str} {bs : List (List Nat)} (h : Listed (bondB p ts) ts.length bs) : ∀ b, b ∈ bs ↔ Bond p ts b := fun b => by
  rw [h.mem]
  exact ⟨fun z => ⟨z.1, z.2⟩, fun z => ⟨z.lot, z.bond⟩⟩
theorem eqv_lots {v w : List Nat} : PyData.eqv (.tuple ((v.map Int.ofNat).map .int)) (.tuple ((w.map Int.ofNat).map .int)) = decide (v = w) := by
  have h := any_lots (v := w) (L := [v])
  have e : (([v].map fun v => PyData.tuple ((v.map Int.ofNat).map .int)).any fun z => PyData.eqv z (.tuple ((w.map Int.ofNat).map .int))) = PyData.eqv (.tuple ((v.map Int.ofNat).map .int)) (.tuple ((w.map Int.ofNat).map .int)) := Bool.or_false _
  rw [e] at h
  rw [h]
  exact decide_eq_decide.mpr ⟨fun z => (List.mem_singleton.mp z).symm, fun z => List.mem_singleton.mpr z.symm⟩
theorem lot_ne {v w : List Nat} {ν : Mu} {F : KD} (h : F (.bl (!decide (v = w))) ν) : DL.gNe (dLot v) (dLot w) ν F := by
  refine (lay_v v).cmp (lay_v w) (k := not) (by decide) (by decide) ?_
  rw [eqv_lots]
  exact h
def outJ (w : List Nat) : D → Bool
  | .int i => decide (i.toNat ∉ w)
  | _ => false
theorem out_filter {v w : List Nat} : (((v.map Int.ofNat).map D.int).filter (outJ w)).map id = ((v.filter fun k => decide (k ∉ w)).map Int.ofNat).map D.int := by
  rw [List.map_id, List.filter_map, List.filter_map]
  rfl
def neJ (e : Nat) : D → Bool
  | .int i => decide (i ≠ (e : Nat))
  | _ => false
theorem ne_filter {v : List Nat} {e : Nat} : (((v.map Int.ofNat).map D.int).filter (neJ e)).map id = ((v.filter fun k => decide (k ≠ e)).map Int.ofNat).map D.int := by
  rw [List.map_id, List.filter_map, List.filter_map]
  refine congrArg _ (congrArg _ (List.filter_congr fun k _ => ?_))
  show decide (((k : Nat) : Int) ≠ (e : Nat)) = decide (k ≠ e)
  exact decide_eq_decide.mpr (by omega)
theorem lots_filterD {L : List (List Nat)} {q : List Nat → Bool} : ((L.map dLot).filter fun d => q (lotOf d)).map id = (L.filter q).map dLot := by
  rw [List.map_id, List.filter_map]
  refine congrArg _ (List.filter_congr fun r _ => ?_)
  show q (lotOf (dLot r)) = _
  rw [lotOf_dLot]
def g_L_exchanged : GC := fun ds μ R => ∃ (L : List (List Nat)), ds = [.lst (L.map dLot)] ∧ L.length ≤ 2048 ∧ (∀ v ∈ L, v.length ≤ 11) ∧
  (∀ c ∈ L, ∀ d ∈ L, c ≠ d → ∀ e ∈ c, e ∈ d → ∃ r ∈ L, ∀ j ∈ r, (j ∈ c ∨ j ∈ d) ∧ j ≠ e) ∧ R (.bl true) μ
def N64 : List Str := ["_law_lots_here", "_law_one", "_law_two", "_law_k", "_law_both", "_law_rest", "_law_each"]
theorem sc64 : FnScope N64 ["_law_lots_here"] (defScope (top 64)) := ⟨rfl, rfl, rfl, by decide +kernel, rfl, by decide +kernel, by decide +kernel⟩
theorem ok_L_exchanged (T : Tx K mg A) : FnOk P w K mg base CX0 2 A.L_exchanged A.fd_L_exchanged ["_law_lots_here"] (toSp K (g_L_exchanged)) := by
  refine okD T.F_L_exchanged sc64 (fun ds μ R h => ?_) ⟨_, fun cdv A0 outer s H E hr =>
    (dss_cons (ds_for PassesOwn.never rfl (di_both (dv 0)) (pg_name (i := 1) sc64.nd rfl (by first | exact Or.inl rfl | exact Or.inr rfl)) (sim_nm (i := 1))
      (dss_one (ds_for PassesOwn.never rfl (di_both (de_lc (own := [("_law_each", 6)]) (by rfl) sc64.nd (di_both (dv 0)) (blkOk_by (N := N64) (own := [("_law_each", 6)]) (sc := defScope (top 64)) (by decide +kernel)) (fun _ _ _ _ _ => (pg_name (i := 6) sc64.nd rfl (by first | exact Or.inl rfl | exact Or.inr rfl))) (sim_nm (i := 6)) (fun _ _ _ _ _ => (dts_one (dt_cmp (op_neA hr.units) sim_ne (dv 6) (dv 1) (nomark _)))) (fun _ _ _ _ _ => (dv 6)))) (pg_name (i := 2) sc64.nd rfl (by first | exact Or.inl rfl | exact Or.inr rfl)) (sim_nm (i := 2))
      (dss_cons (ds_set sc64.nd (i := 4) rfl (by first | exact Or.inl rfl | exact Or.inr rfl) (de_op op_plus sim_plus (de_callTy call_list_of sim_list (by rfl) T.z_list boot_list (da_cons (dv 1) da_nil)) (de_lc (own := [("_law_k", 3)]) (by rfl) sc64.nd (di_both (dv 2)) (blkOk_by (N := N64) (own := [("_law_k", 3)]) (sc := defScope (top 64)) (by decide +kernel)) (fun _ _ _ _ _ => (pg_name (i := 3) sc64.nd rfl (by first | exact Or.inl rfl | exact Or.inr rfl))) (sim_nm (i := 3)) (fun _ _ _ _ _ => (dts_one (dt_cmp op_notInA sim_notIn (dv 3) (dv 1) rfl))) (fun _ _ _ _ _ => (dv 3)))))
      (dss_one (ds_for PassesOwn.never rfl (di_both (de_lc (own := [("_law_each", 6)]) (by rfl) sc64.nd (di_both (dv 1)) (blkOk_by (N := N64) (own := [("_law_each", 6)]) (sc := defScope (top 64)) (by decide +kernel)) (fun _ _ _ _ _ => (pg_name (i := 6) sc64.nd rfl (by first | exact Or.inl rfl | exact Or.inr rfl))) (sim_nm (i := 6)) (fun _ _ _ _ _ => (dts_one (dt_cmp op_inA sim_in (dv 6) (dv 2) rfl))) (fun _ _ _ _ _ => (dv 6)))) (pg_name (i := 3) sc64.nd rfl (by first | exact Or.inl rfl | exact Or.inr rfl)) (sim_nm (i := 3))
      (dss_cons (ds_set sc64.nd (i := 5) rfl (by first | exact Or.inl rfl | exact Or.inr rfl) (de_lc (own := [("_law_each", 6)]) (by rfl) sc64.nd (di_both (dv 4)) (blkOk_by (N := N64) (own := [("_law_each", 6)]) (sc := defScope (top 64)) (by decide +kernel)) (fun _ _ _ _ _ => (pg_name (i := 6) sc64.nd rfl (by first | exact Or.inl rfl | exact Or.inr rfl))) (sim_nm (i := 6)) (fun _ _ _ _ _ => (dts_one (dt_cmp (op_neA hr.units) sim_ne (dv 6) (dv 3) (nomark _)))) (fun _ _ _ _ _ => (dv 6))))
      (dss_one (ds_if (dt_cmp (op_eqA hr.units) sim_eq (de_lc (own := [("_law_each", 6)]) (by rfl) sc64.nd (di_both (dv 0)) (blkOk_by (N := N64) (own := [("_law_each", 6)]) (sc := defScope (top 64)) (by decide +kernel)) (fun _ _ _ _ _ => (pg_name (i := 6) sc64.nd rfl (by first | exact Or.inl rfl | exact Or.inr rfl))) (sim_nm (i := 6)) (fun _ _ _ _ _ => (dts_one (dt_cmp (op_eqA hr.units) sim_eq (de_call ((ok_L_met T).mono (by decide)) hr (by rfl) T.g_L_met T.F_L_met.kp T.b_L_met (da_cons (dv 6) (da_cons (dv 5) da_nil))) (de_callB cr_len sim_len (by rfl) T.z_len boot_len (da_cons (dv 6) da_nil)) (nomark _)))) (fun _ _ _ _ _ => (dv 6))) (de_lst da_nil) (nomark _)) (dss_one (ds_ret de_bl)) dss_nil)))))))))
      (dss_one (ds_ret de_bl))), fun ds μ R h => ?_⟩
  · obtain ⟨L, rfl, _⟩ := h
    rfl
  · obtain ⟨L, rfl, l2048, l11, ex, h⟩ := h
    have z0 : 0 ≤ sizeLine := by decide
    refine ⟨fun i δ' ν => ν = μ ∧ ∃ o1 o2 o3 o4 o5, δ' = [some (.lst (L.map dLot)), o1, o2, o3, o4, o5, none], ⟨rfl, none, none, none, none, none, rfl⟩, ?_, ?_⟩
    · rintro i x δ' ν hx ⟨rfl, o1, o2, o3, o4, o5, rfl⟩
      rw [List.getElem?_map] at hx
      obtain ⟨c, hc, rfl⟩ : ∃ c, L[i]? = some c ∧ x = dLot c := by
        cases q : L[i]? with
        | none => rw [q] at hx; cases hx
        | some v => rw [q] at hx; exact ⟨v, rfl, (Option.some.inj hx).symm⟩
      have hc := List.mem_of_getElem? hc
      have c11 := l11 c hc
      show LcB _ _ _ _ _ _ (L.map dLot) _
      refine lcb_pure (fun d => !decide (lotOf d = c)) id (by rw [List.length_map, sizeLine_eq]; omega) ?_ ?_
      · intro x hx ν2 N Y _ hN hY
        obtain ⟨v, hv, rfl⟩ := List.mem_map.mp hx
        rw [lotOf_dLot] at hN hY
        refine lot_ne (v := v) (w := c) ?_
        exact if_case (c := !decide (v = c)) (fun e => hY e) (fun e => hN e)
      rw [lots_filterD (q := fun v => !decide (v = c))]
      have inF : ∀ d ∈ L.filter (fun v => !decide (v = c)), d ∈ L ∧ d ≠ c := fun d hd => by
        obtain ⟨h1, h2⟩ := List.mem_filter.mp hd
        exact ⟨h1, of_decide_eq_false ((Bool.not_eq_true' _).mp h2)⟩
      generalize L.filter (fun v => !decide (v = c)) = LF at inF ⊢
      refine ⟨fun i δ' ν2 => ν2 = ν ∧ ∃ o2 o3 o4 o5, δ' = [some (.lst (L.map dLot)), some (dLot c), o2, o3, o4, o5, none], ⟨rfl, _, _, _, _, rfl⟩, ?_, ?_⟩
      · rintro m x δ' ν2 hx ⟨rfl, o2, o3, o4, o5, rfl⟩
        rw [List.getElem?_map] at hx
        obtain ⟨d, hd, rfl⟩ : ∃ d, LF[m]? = some d ∧ x = dLot d := by
          cases q : LF[m]? with
          | none => rw [q] at hx; cases hx
          | some v => rw [q] at hx; exact ⟨v, rfl, (Option.some.inj hx).symm⟩
        obtain ⟨hd, ne⟩ := inF d (List.mem_of_getElem? hd)
        have d11 := l11 d hd
        show LcB _ _ _ _ _ _ ((d.map Int.ofNat).map D.int) _
        refine lcb_pure (outJ c) id (by rw [List.length_map, List.length_map, sizeLine_eq]; omega) ?_ ?_
        · intro x hx ν3 N Y _ hN hY
          rw [List.map_map] at hx
          obtain ⟨k, hk, rfl⟩ := List.mem_map.mp hx
          have hN : decide (k ∉ c) = false → N ν3 := hN
          have hY : decide (k ∉ c) = true → Y (.int (k : Nat)) ν3 := hY
          show DL.inDs (.int (k : Nat)) ((c.map Int.ofNat).map D.int) fun b => DL.bK _ (.bl (!b)) ν3
          refine in_lot ?_
          have e : (!decide (k ∈ c)) = decide (k ∉ c) := by
            by_cases q : k ∈ c
            · rw [decide_eq_true q, decide_eq_false (not_not_intro q)]; rfl
            · rw [decide_eq_false q, decide_eq_true q]; rfl
          refine if_case (c := !decide (k ∈ c)) (fun z => ?_) (fun z => ?_)
          · exact hY (by rw [← e]; exact z)
          · exact hN (by rw [← e]; exact z)
        rw [out_filter]
        have lf := List.length_filter_le (fun k => decide (k ∉ c)) d
        refine ⟨by rw [List.length_map, List.length_map, List.length_map, List.length_map, sizeLine_eq]; omega, ?_⟩
        rw [← List.map_append, ← List.map_append]
        have inB : ∀ j, j ∈ c ++ d.filter (fun k => decide (k ∉ c)) ↔ j ∈ c ∨ j ∈ d := fun j => by
          rw [List.mem_append, List.mem_filter, decide_eq_true_iff]
          by_cases q : j ∈ c
          · exact ⟨fun _ => .inl q, fun _ => .inl q⟩
          · exact ⟨fun z => z.imp id (·.1), fun z => z.imp id fun w => ⟨w, q⟩⟩
        have lB : (c ++ d.filter (fun k => decide (k ∉ c))).length ≤ 22 := by rw [List.length_append]; omega
        generalize c ++ d.filter (fun k => decide (k ∉ c)) = Bo at inB lB ⊢
        show LcB _ _ _ _ _ _ ((c.map Int.ofNat).map D.int) _
        refine lcb_pure (isIn d) id (by rw [List.length_map, List.length_map, sizeLine_eq]; omega) ?_ ?_
        · intro x hx ν3 N Y _ hN hY
          rw [List.map_map] at hx
          obtain ⟨k, hk, rfl⟩ := List.mem_map.mp hx
          have hN : decide (k ∈ d) = false → N ν3 := hN
          have hY : decide (k ∈ d) = true → Y (.int (k : Nat)) ν3 := hY
          show DL.inDs (.int (k : Nat)) ((d.map Int.ofNat).map D.int) fun b => DL.bK _ (.bl b) ν3
          refine in_lot ?_
          exact if_case (c := decide (k ∈ d)) (fun e => hY e) (fun e => hN e)
        rw [in_filter]
        have inC : ∀ e ∈ c.filter (fun k => decide (k ∈ d)), e ∈ c ∧ e ∈ d := fun e he => ⟨(List.mem_filter.mp he).1, of_decide_eq_true (List.mem_filter.mp he).2⟩
        generalize c.filter (fun k => decide (k ∈ d)) = CD at inC ⊢
        refine ⟨fun i δ' ν3 => ν3 = ν2 ∧ ∃ o3 o5, δ' = [some (.lst (L.map dLot)), some (dLot c), some (dLot d), o3, some (.lst ((Bo.map Int.ofNat).map D.int)), o5, none], ⟨rfl, _, _, rfl⟩, ?_, ?_⟩
        · rintro n x δ' ν3 hx ⟨rfl, o3, o5, rfl⟩
          rw [List.getElem?_map, List.getElem?_map] at hx
          obtain ⟨e, he, rfl⟩ : ∃ e, CD[n]? = some e ∧ x = .int (e : Nat) := by
            cases q : CD[n]? with
            | none => rw [q] at hx; cases hx
            | some v => rw [q] at hx; exact ⟨v, rfl, (Option.some.inj hx).symm⟩
          obtain ⟨ec, ed⟩ := inC e (List.mem_of_getElem? he)
          show LcB _ _ _ _ _ _ ((Bo.map Int.ofNat).map D.int) _
          refine lcb_pure (neJ e) id (by rw [List.length_map, List.length_map, sizeLine_eq]; omega) ?_ ?_
          · intro x hx ν4 N Y _ hN hY
            rw [List.map_map] at hx
            obtain ⟨k, hk, rfl⟩ := List.mem_map.mp hx
            have cb : neJ e (.int (k : Nat)) = !decide (((k : Nat) : Int) = (e : Nat)) := by
              show decide (((k : Nat) : Int) ≠ (e : Nat)) = _
              by_cases q : ((k : Nat) : Int) = (e : Nat)
              · rw [decide_eq_true q, decide_eq_false (not_not_intro q)]; rfl
              · rw [decide_eq_false q, decide_eq_true q]; rfl
            have hN : neJ e (.int (k : Nat)) = false → N ν4 := hN
            have hY : neJ e (.int (k : Nat)) = true → Y (.int (k : Nat)) ν4 := hY
            rw [cb] at hN hY
            exact if_case (c := !decide (((k : Nat) : Int) = (e : Nat))) (fun e => hY e) (fun e => hN e)
          rw [ne_filter]
          have inR : ∀ j, j ∈ Bo.filter (fun k => decide (k ≠ e)) ↔ (j ∈ c ∨ j ∈ d) ∧ j ≠ e := fun j => by
            rw [List.mem_filter, decide_eq_true_iff, inB]
          generalize Bo.filter (fun k => decide (k ≠ e)) = Rs at inR ⊢
          show LcB _ _ _ _ _ _ (L.map dLot) _
          refine lcb_pure (fun d => decide ((((lotOf d).filter fun k => decide (k ∈ Rs)).length : Int) = ((lotOf d).length : Int))) id (by rw [List.length_map, sizeLine_eq]; omega) ?_ ?_
          · intro x hx ν4 N Y _ hN hY
            obtain ⟨v, hv, rfl⟩ := List.mem_map.mp hx
            rw [lotOf_dLot] at hN hY
            refine ⟨v, Rs, _, rfl, .inr rfl, by have := l11 v hv; omega, ?_⟩
            have e1 : (((v.map Int.ofNat).map D.int).length : Int) = (v.length : Int) := by rw [List.length_map, List.length_map]
            refine if_case (c := decide (((v.filter fun k => decide (k ∈ Rs)).length : Int) = (((v.map Int.ofNat).map D.int).length : Int))) (fun z => ?_) (fun z => ?_)
            · rw [e1] at z
              exact hY z
            · rw [e1] at z
              exact hN z
          rw [lots_filterD (q := fun v => decide (((v.filter fun k => decide (k ∈ Rs)).length : Int) = (v.length : Int)))]
          refine ⟨z0, ?_⟩
          refine LayL.none (k := id) (lay_lots _) (by decide) ?_
          obtain ⟨r, r1, r2⟩ := ex c hc d hd ne.symm e ec ed
          have mem : r ∈ L.filter fun v => decide (((v.filter fun k => decide (k ∈ Rs)).length : Int) = (v.length : Int)) := List.mem_filter.mpr ⟨r1, decide_eq_true (by
            rw [List.filter_eq_self.mpr fun j hj => decide_eq_true ((inR j).mpr (r2 j hj))])⟩
          rw [decide_eq_false fun z => by
            rw [List.map_eq_nil_iff.mp z] at mem
            cases mem]
          exact ⟨rfl, _, _, rfl⟩
        · rintro δ' ν3 ⟨rfl, o3, o5, rfl⟩
          exact ⟨rfl, _, _, _, _, rfl⟩
      · rintro δ' ν2 ⟨rfl, o2, o3, o4, o5, rfl⟩
        exact ⟨rfl, _, _, _, _, _, rfl⟩
    · rintro δ' ν ⟨rfl, o1, o2, o3, o4, o5, rfl⟩
      exact h
end
end K10
set_option Elab.async false
set_option linter.all false
set_option maxRecDepth 100000
namespace K10
open PySem PySem.Spec PyProof.Rows L2 DL
section
variable {P : Program} {w : World} {K : PySem.W.Frag} {mg : Str → Option Value} {base : Heap} {A : Ad}
/-! ### the law -/
theorem lay_l (L : List (List Nat)) : Lay (.lst (L.map dLot)) (.list (L.map fun v => PyData.tuple ((v.map Int.ofNat).map .int))) 2 := lay_lst (lay_lots L)
theorem lay_four (a b c d : Bool) : LayL [.bl a, .bl b, .bl c, .bl d] [.bool a, .bool b, .bool c, .bool d] 0 := layL_cons (lay_bl a 0) (layL_cons (lay_bl b 0) (layL_cons (lay_bl c 0) (layL_cons (lay_bl d 0) (layL_nil 0))))
theorem outs_none (n : Nat) : outs [] n = List.range n := by
  unfold outs
  exact List.filter_eq_self.mpr fun k _ => decide_eq_true List.not_mem_nil
theorem part_more {p : List Nat} {ts : List Str} (u : p.Pairwise (· ≠ ·)) (v : List Nat) : decide ((((herdsL p (tiesOf ts (outs v ts.length))).length : Nat) : Int) = (((herdsL p (tiesOf ts (outs [] ts.length))).length : Nat) : Int) + 1) = decide (rankOf p ts (outs v ts.length) + 1 = rankOf p ts (List.range ts.length)) := by
  have h1 := herdsL_len u (tiesOf ts (outs v ts.length))
  have h2 := herdsL_len u (tiesOf ts (outs [] ts.length))
  rw [outs_none] at h2 ⊢
  have e1 : nonFix (marksL p (tiesOf ts (outs v ts.length))) p = rankOf p ts (outs v ts.length) := rfl
  have e2 : nonFix (marksL p (tiesOf ts (List.range ts.length))) p = rankOf p ts (List.range ts.length) := rfl
  exact decide_eq_decide.mpr (by omega)
theorem part_listed {p : List Nat} {ts : List Str} (u : p.Pairwise (· ≠ ·)) (he : Ends p ts) {S : List (List Nat)} (h : Listed (twoB p ts) ts.length S) : Listed (bondB p ts) ts.length (S.filter fun v => decide (rankOf p ts (outs v ts.length) + 1 = rankOf p ts (List.range ts.length))) := by
  refine ⟨(h.perm.filter _).trans (List.Perm.of_eq ?_), h.asc.filter _⟩
  rw [List.filter_filter]
  refine List.filter_congr fun v hv => ?_
  rw [Bool.and_comm, part_bond u he hv]
def aloneJ (p : List Nat) (ts : List Str) : D → Bool
  | .int i => bondB p ts [i.toNat]
  | _ => false
theorem alone_list (p : List Nat) (ts : List Str) : (((List.range ts.length).map fun i => D.int (i : Nat)).filter (aloneJ p ts)).map id = (((List.range ts.length).filter fun k => bondB p ts [k]).map Int.ofNat).map D.int := by
  rw [List.map_id, List.filter_map, List.map_map]
  rfl
theorem lt_one {x y : Nat} (h : ltN [y] [x] = false) : x ≤ y := by
  apply Classical.byContradiction
  intro z
  have : ltN [y] [x] = true := by
    show (if ((y : Nat) : Int) = (x : Nat) then ltI [] [] else decide (((y : Nat) : Int) < (x : Nat))) = true
    rw [if_neg (by omega)]
    exact decide_eq_true (by omega)
  rw [this] at h
  cases h
theorem singles {p : List Nat} {ts : List Str} {S : List (List Nat)} (h : Listed (bondB p ts) ts.length S) : (S.filter fun v => decide (((v.length : Nat) : Int) = 1)).map (fun v => v.getD 0 0) = (List.range ts.length).filter fun k => bondB p ts [k] := by
  have one : ∀ v ∈ S.filter (fun v => decide (((v.length : Nat) : Int) = 1)), v ∈ S ∧ v = [v.getD 0 0] := fun v hv => by
    obtain ⟨h1, h2⟩ := List.mem_filter.mp hv
    have h2 := of_decide_eq_true h2
    refine ⟨h1, ?_⟩
    match v, h2 with
    | [a], _ => rfl
    | [], h2 => simp at h2
    | a :: b :: r, h2 => simp at h2; omega
  have nd : S.Nodup := h.perm.nodup_iff.mpr ((lots_nodup _).filter _)
  have asc : ((S.filter fun v => decide (((v.length : Nat) : Int) = 1)).map (fun v => v.getD 0 0)).Pairwise (· < ·) := by
    refine List.pairwise_map.mpr ?_
    have := List.Pairwise.and (h.asc.filter fun v => decide (((v.length : Nat) : Int) = 1)) (nd.filter fun v => decide (((v.length : Nat) : Int) = 1))
    refine (List.Pairwise.and_mem.mp this).imp fun {v w} ⟨hv, hw, hlt, ne⟩ => ?_
    obtain ⟨_, e1⟩ := one v hv
    obtain ⟨_, e2⟩ := one w hw
    rw [e1, e2] at hlt
    have le := lt_one hlt
    have : v.getD 0 0 ≠ w.getD 0 0 := fun q => ne (by rw [e1, e2, q])
    omega
  have mem : ∀ k, k ∈ (S.filter fun v => decide (((v.length : Nat) : Int) = 1)).map (fun v => v.getD 0 0) ↔ [k] ∈ S := fun k => by
    rw [List.mem_map]
    constructor
    · rintro ⟨v, hv, rfl⟩
      obtain ⟨h1, e1⟩ := one v hv
      rw [← e1]
      exact h1
    · intro hk
      exact ⟨[k], List.mem_filter.mpr ⟨hk, decide_eq_true rfl⟩, rfl⟩
  refine lot_ext (n := ts.length) (lots_all _ _ asc fun k hk => ?_) lotF_in fun k hk => ?_
  · exact (lots_in _ _ (h.mem.mp ((mem k).mp hk)).1).1 k (List.mem_singleton.mpr rfl)
  · show decide (k ∈ _) = decide (k ∈ (List.range ts.length).filter fun k => bondB p ts [k])
    refine decide_eq_decide.mpr ?_
    rw [mem, h.mem, List.mem_filter, List.mem_range]
    refine ⟨fun z => ⟨hk, z.2⟩, fun z => ⟨lots_all _ _ (List.pairwise_singleton _ _) fun j hj => ?_, z.2⟩⟩
    rw [List.mem_singleton.mp hj]
    exact hk
def g_L_rightC : GC := fun ds μ R => ∃ (a : Addr) (x y z : Int), ds = [.adr a] ∧ μ a = some (pot x y z) ∧ ∀ x y z, R (.bl true) (put μ a (pot x y z))
def N65 : List Str := ["_law_cask_here", "_law_net_here", "_law_mine", "_law_every", "_law_each", "_law_rounds_here", "_law_sided", "_law_plain", "_law_parting", "_law_level", "_law_due", "_law_told", "_law_one", "_law_full", "_law_alone", "_law_k", "_law_two"]
theorem sc65 : FnScope N65 ["_law_cask_here"] (defScope (top 65)) := ⟨rfl, rfl, rfl, by decide +kernel, rfl, by decide +kernel, by decide +kernel⟩
set_option maxHeartbeats 4000000 in
theorem ok_L_right (T : Tx K mg A) : FnOk P w K mg base CX0 11 A.L_right A.fd_L_right ["_law_cask_here"] (toSp K (g_L_rightC)) := by
  refine okDF T.F_L_right sc65 (fun ds μ R h => ?_) ⟨_, fun cdv A0 outer s H E hr =>
    (dss_cons (ds_set sc65.nd (i := 1) rfl (by first | exact Or.inl rfl | exact Or.inr rfl) (de_call ((ok_L_net T).mono (by decide)) hr (by rfl) T.g_L_net T.F_L_net.kp T.b_L_net (da_cons (dv 0) (da_cons de_int (da_cons de_int da_nil)))))
      (dss_cons (ds_par (i := 2) (j := 3) (by rfl) sc65.nd rfl rfl (by decide) rfl rfl (da_cons (de_make T.m_Web ((ok_Web_init T).mono (by decide)) hr (by rfl) T.g_Web T.b_Web_init (da_cons (de_ix ix_any sim_ix (dv 1) de_int (fun _ _ => rfl)) (da_cons (de_callTy call_tuple_of sim_tuple (by rfl) T.z_tuple boot_tuple (da_cons (de_ix ix_any sim_ix (dv 1) de_int (fun _ _ => rfl)) da_nil)) da_nil))) (da_cons (de_call ((ok_L_lots T).mono (by decide)) hr (by rfl) T.g_L_lots T.F_L_lots.kp T.b_L_lots (da_cons (dv 1) da_nil)) da_nil)) (by rfl))
      (dss_cons (ds_set sc65.nd (i := 5) rfl (by first | exact Or.inl rfl | exact Or.inr rfl) (de_callB (cr_sortI hr.units) sim_sortI (by rfl) T.z_sorted boot_sorted (da_cons (de_lc (own := [("_law_each", 4)]) (by rfl) sc65.nd (di_both (dv 3)) (blkOk_by (N := N65) (own := [("_law_each", 4)]) (sc := defScope (top 65)) (by decide +kernel)) (fun _ _ _ _ _ => (pg_name (i := 4) sc65.nd rfl (by first | exact Or.inl rfl | exact Or.inr rfl))) (sim_nm (i := 4)) (fun _ _ _ _ _ => (dts_one (dt_val (de_call ((ok_L_is_round T).mono (by decide)) hr (by rfl) T.g_L_is_round T.F_L_is_round.kp T.b_L_is_round (da_cons (dv 1) (da_cons (dv 4) da_nil)))))) (fun _ _ _ _ _ => (dv 4))) da_nil)))
      (dss_cons (ds_asg (de_tup (da_cons (de_call ((ok_L_spots_lots T).mono (by decide)) hr (by rfl) T.g_L_spots_lots T.F_L_spots_lots.kp T.b_L_spots_lots (da_cons (dv 1) da_nil)) (da_cons (de_call ((ok_L_parts T).mono (by decide)) hr (by rfl) T.g_L_parts T.F_L_parts.kp T.b_L_parts (da_cons (dv 1) (da_cons (de_tup da_nil) da_nil))) da_nil))) (pg_tup (n := 2) (by rfl) (pgs_cons (pg_name (i := 6) sc65.nd rfl (by first | exact Or.inl rfl | exact Or.inr rfl)) (pgs_cons (pg_name (i := 7) sc65.nd rfl (by first | exact Or.inl rfl | exact Or.inr rfl)) pgs_nil))) (sim_tupT (n := 2) (sim_consT (sim_nm (i := 6)) (sim_consT (sim_nm (i := 7)) sim_nilT))))
      (dss_cons (ds_setLc (i := 8) (own := [("_law_each", 4)]) (by rfl) sc65.nd rfl rfl (sw_true rfl rfl rfl (by decide +kernel)) (di_both (dv 6)) (blkOk_by (N := N65) (own := [("_law_each", 4)]) (sc := defScope (top 65)) (by decide +kernel)) (fun _ _ _ _ _ => (pg_name (i := 4) sc65.nd rfl (by first | exact Or.inl rfl | exact Or.inr rfl))) (sim_nm (i := 4)) (fun _ _ _ _ _ => (dts_one (dt_cmp (op_eqA hr.units) sim_eq (de_call ((ok_L_parts T).mono (by decide)) hr (by rfl) T.g_L_parts T.F_L_parts.kp T.b_L_parts (da_cons (dv 1) (da_cons (dv 4) da_nil))) (de_op op_plus sim_plus (dv 7) de_int) (nomark _)))) (fun _ _ _ _ _ => (dv 4)))
      (dss_cons (ds_if (dw_or (dt_cmp (op_neA hr.units) sim_ne (de_call ((ok_rings T).mono (by decide)) hr (by rfl) T.g_rings T.F_rings.kp T.b_rings (da_cons (dv 2) da_nil)) (de_callTy call_tuple_of sim_tuple (by rfl) T.z_tuple boot_tuple (da_cons (dv 5) da_nil)) (nomark _)) (dw_or1 (dt_cmp (op_neA hr.units) sim_ne (de_callK0 (gD := id) ((ok_rings T).mono (by decide)) hr (by rfl) T.g_rings T.F_rings.kp T.kb_rings (fun H μ ds vs h _ => by exact h) (dk_cons (dv 2) dk_nil)) (de_call ((ok_rings T).mono (by decide)) hr (by rfl) T.g_rings T.F_rings.kp T.b_rings (da_cons (dv 2) da_nil)) (nomark _)))).dt (dss_one (ds_ret de_bl)) dss_nil)
      (dss_cons (ds_if (dw_or (dt_cmp (op_neA hr.units) sim_ne (de_call ((ok_bonds T).mono (by decide)) hr (by rfl) T.g_bonds T.F_bonds.kp T.b_bonds (da_cons (dv 2) da_nil)) (de_callTy call_tuple_of sim_tuple (by rfl) T.z_tuple boot_tuple (da_cons (dv 8) da_nil)) (nomark _)) (dw_or1 (dt_cmp (op_neA hr.units) sim_ne (de_callK0 (gD := id) ((ok_bonds T).mono (by decide)) hr (by rfl) T.g_bonds T.F_bonds.kp T.kb_bonds (fun H μ ds vs h _ => by exact h) (dk_cons (dv 2) dk_nil)) (de_call ((ok_bonds T).mono (by decide)) hr (by rfl) T.g_bonds T.F_bonds.kp T.b_bonds (da_cons (dv 2) da_nil)) (nomark _)))).dt (dss_one (ds_ret de_bl)) dss_nil)
      (dss_cons (ds_setLc (i := 9) (own := [("_law_each", 4)]) (by rfl) sc65.nd rfl rfl (sw_true rfl rfl rfl (by decide +kernel)) (di_both (dv 3)) (blkOk_by (N := N65) (own := [("_law_each", 4)]) (sc := defScope (top 65)) (by decide +kernel)) (fun _ _ _ _ _ => (pg_name (i := 4) sc65.nd rfl (by first | exact Or.inl rfl | exact Or.inr rfl))) (sim_nm (i := 4)) (fun _ _ _ _ _ => (dts_one (dt_val (de_call ((ok_L_even_one T).mono (by decide)) hr (by rfl) T.g_L_even_one T.F_L_even_one.kp T.b_L_even_one (da_cons (dv 1) (da_cons (dv 4) da_nil)))))) (fun _ _ _ _ _ => (dv 4)))
      (dss_cons (ds_for PassesOwn.never rfl (di_both (dv 3)) (pg_name (i := 4) sc65.nd rfl (by first | exact Or.inl rfl | exact Or.inr rfl)) (sim_nm (i := 4))
      (dss_cons (ds_set sc65.nd (i := 10) rfl (by first | exact Or.inl rfl | exact Or.inr rfl) (de_lst (da_cons (de_cmp (op_inD (units65 hr)) sim_inD (dv 4) (dv 5) rfl) (da_cons (de_cmp (op_inD (units65 hr)) sim_inD (dv 4) (dv 8) rfl) (da_cons (de_cmp (op_inD (units65 hr)) sim_inD (dv 4) (dv 9) rfl) (da_cons (de_cmp (op_inD (units65 hr)) sim_inD (dv 4) (dv 6) rfl) da_nil))))))
      (dss_cons (ds_set sc65.nd (i := 11) rfl (by first | exact Or.inl rfl | exact Or.inr rfl) (de_lst (da_cons (de_call ((ok_is_ring T).mono (by decide)) hr (by rfl) T.g_is_ring T.F_is_ring.kp T.b_is_ring (da_cons (dv 2) (da_cons (dv 4) da_nil))) (da_cons (de_call ((ok_is_bond T).mono (by decide)) hr (by rfl) T.g_is_bond T.F_is_bond.kp T.b_is_bond (da_cons (dv 2) (da_cons (dv 4) da_nil))) (da_cons (de_call ((ok_is_even T).mono (by decide)) hr (by rfl) T.g_is_even T.F_is_even.kp T.b_is_even (da_cons (dv 2) (da_cons (dv 4) da_nil))) (da_cons (de_call ((ok_is_two_sided T).mono (by decide)) hr (by rfl) T.g_is_two_sided T.F_is_two_sided.kp T.b_is_two_sided (da_cons (dv 2) (da_cons (dv 4) da_nil))) da_nil))))))
      (dss_one (ds_if (dt_cmp (op_neA hr.units) sim_ne (dv 11) (dv 10) (nomark _)) (dss_one (ds_ret de_bl)) dss_nil)))))
      (dss_cons (ds_set sc65.nd (i := 12) rfl (by first | exact Or.inl rfl | exact Or.inr rfl) (de_call ((ok_L_pick T).mono (by decide)) hr (by rfl) T.g_L_pick T.F_L_pick.kp T.b_L_pick (da_cons (dv 0) (da_cons (dv 3) da_nil))))
      (dss_cons (ds_set sc65.nd (i := 10) rfl (by first | exact Or.inl rfl | exact Or.inr rfl) (de_lst (da_cons (de_cmp (op_inD (units65 hr)) sim_inD (dv 12) (dv 5) rfl) (da_cons (de_cmp (op_inD (units65 hr)) sim_inD (dv 12) (dv 8) rfl) (da_cons (de_cmp (op_inD (units65 hr)) sim_inD (dv 12) (dv 9) rfl) (da_cons (de_cmp (op_inD (units65 hr)) sim_inD (dv 12) (dv 6) rfl) da_nil))))))
      (dss_cons (ds_set sc65.nd (i := 11) rfl (by first | exact Or.inl rfl | exact Or.inr rfl) (de_lst (da_cons (de_callK0 (gD := swp2) ((ok_is_ring T).mono (by decide)) hr (by rfl) T.g_is_ring T.F_is_ring.kp T.kb_is_ring (fun H μ ds vs h l => by exact swp2_rep h l) (dk_cons (dv 12) (dk_cons (dv 2) dk_nil))) (da_cons (de_callK0 (gD := swp2) ((ok_is_bond T).mono (by decide)) hr (by rfl) T.g_is_bond T.F_is_bond.kp T.kb_is_bond (fun H μ ds vs h l => by exact swp2_rep h l) (dk_cons (dv 12) (dk_cons (dv 2) dk_nil))) (da_cons (de_callK0 (gD := swp2) ((ok_is_even T).mono (by decide)) hr (by rfl) T.g_is_even T.F_is_even.kp T.kb_is_even (fun H μ ds vs h l => by exact swp2_rep h l) (dk_cons (dv 12) (dk_cons (dv 2) dk_nil))) da_nil)))))
      (dss_cons (ds_if (dt_cmp (op_neA hr.units) sim_ne (de_op op_plus sim_plus (dv 11) (de_lst (da_cons (de_callK0 (gD := swp2) ((ok_is_two_sided T).mono (by decide)) hr (by rfl) T.g_is_two_sided T.F_is_two_sided.kp T.kb_is_two_sided (fun H μ ds vs h l => by exact swp2_rep h l) (dk_cons (dv 12) (dk_cons (dv 2) dk_nil))) da_nil))) (dv 10) (nomark _)) (dss_one (ds_ret de_bl)) dss_nil)
      (dss_cons (ds_set sc65.nd (i := 13) rfl (by first | exact Or.inl rfl | exact Or.inr rfl) (de_tupRg (by rfl) (by rfl) T.z_tuple (by rfl) T.z_range (de_callB cr_len sim_len (by rfl) T.z_len boot_len (da_cons (de_ix ix_any sim_ix (dv 1) de_int (fun _ _ => rfl)) da_nil))))
      (dss_cons (ds_if (dw_or (dt_cmp (op_neA hr.units) sim_ne (de_callB cr_len sim_len (by rfl) T.z_len boot_len (da_cons (dv 9) da_nil)) (de_op op_oneShl sim_oneShl de_int (de_call ((ok_spare T).mono (by decide)) hr (by rfl) T.g_spare T.F_spare.kp T.b_spare (da_cons (dv 2) (da_cons (dv 13) da_nil)))) (nomark _)) (dw_or1 (dt_cmp (op_neA hr.units) sim_ne (de_callB cr_len sim_len (by rfl) T.z_len boot_len (da_cons (dv 6) da_nil)) (de_op op_oneShl sim_oneShl de_int (de_call ((ok_rank T).mono (by decide)) hr (by rfl) T.g_rank T.F_rank.kp T.b_rank (da_cons (dv 2) (da_cons (dv 13) da_nil)))) (nomark _)))).dt (dss_one (ds_ret de_bl)) dss_nil)
      (dss_cons (ds_for PassesOwn.never rfl (di_both (dv 9)) (pg_name (i := 4) sc65.nd rfl (by first | exact Or.inl rfl | exact Or.inr rfl)) (sim_nm (i := 4))
      (dss_one (ds_if (dt_cmp (op_neA hr.units) sim_ne (de_lc (own := [("_law_two", 16)]) (by rfl) sc65.nd (di_both (dv 6)) (blkOk_by (N := N65) (own := [("_law_two", 16)]) (sc := defScope (top 65)) (by decide +kernel)) (fun _ _ _ _ _ => (pg_name (i := 16) sc65.nd rfl (by first | exact Or.inl rfl | exact Or.inr rfl))) (sim_nm (i := 16)) (fun _ _ _ _ _ => (dts_one (dt_cmp (op_eqA hr.units) sim_eq (de_op op_modN sim_mod (de_callTy call_int1 sim_int (by rfl) T.z_int boot_int (da_cons (de_call ((ok_L_met T).mono (by decide)) hr (by rfl) T.g_L_met T.F_L_met.kp T.b_L_met (da_cons (dv 4) (da_cons (dv 16) da_nil))) da_nil)) de_int) de_int (nomark _)))) (fun _ _ _ _ _ => (dv 16))) (de_lst da_nil) (nomark _)) (dss_one (ds_ret de_bl)) dss_nil)))
      (dss_cons (ds_setLc (i := 14) (own := [("_law_k", 15)]) (by rfl) sc65.nd rfl rfl (sw_true rfl rfl rfl (by decide +kernel)) (di_range (by rfl) T.z_range (da_cons (de_callB cr_len sim_len (by rfl) T.z_len boot_len (da_cons (de_ix ix_any sim_ix (dv 1) de_int (fun _ _ => rfl)) da_nil)) da_nil)) (blkOk_by (N := N65) (own := [("_law_k", 15)]) (sc := defScope (top 65)) (by decide +kernel)) (fun _ _ _ _ _ => (pg_name (i := 15) sc65.nd rfl (by first | exact Or.inl rfl | exact Or.inr rfl))) (sim_nm (i := 15)) (fun _ _ _ _ _ => (dts_one (dt_cmp (op_eqA hr.units) sim_eq (de_lc (own := [("_law_each", 4)]) (by rfl) sc65.nd (di_both (dv 5)) (blkOk_by (by kernel_rfl)) (fun _ _ _ _ _ => (pg_name (i := 4) sc65.nd rfl (by first | exact Or.inl rfl | exact Or.inr rfl))) (sim_nm (i := 4)) (fun _ _ _ _ _ => (dts_one (dt_cmp op_inA sim_in (dv 15) (dv 4) rfl))) (fun _ _ _ _ _ => (dv 4))) (de_lst da_nil) (nomark _)))) (fun _ _ _ _ _ => (dv 15)))
      (dss_cons (ds_if (dw_or (dt_cmp (op_neA hr.units) sim_ne (de_call ((ok_bridges T).mono (by decide)) hr (by rfl) T.g_bridges T.F_bridges.kp T.b_bridges (da_cons (dv 2) da_nil)) (de_callTy call_tuple_of sim_tuple (by rfl) T.z_tuple boot_tuple (da_cons (dv 14) da_nil)) (nomark _)) (dw_or1 (dt_cmp (op_neA hr.units) sim_ne (dv 14) (de_lc (own := [("_law_each", 4)]) (by rfl) sc65.nd (di_both (dv 8)) (blkOk_by (N := N65) (own := [("_law_each", 4)]) (sc := defScope (top 65)) (by decide +kernel)) (fun _ _ _ _ _ => (pg_name (i := 4) sc65.nd rfl (by first | exact Or.inl rfl | exact Or.inr rfl))) (sim_nm (i := 4)) (fun _ _ _ _ _ => (dts_one (dt_cmp (op_eqA hr.units) sim_eq (de_callB cr_len sim_len (by rfl) T.z_len boot_len (da_cons (dv 4) da_nil)) de_int (nomark _)))) (fun _ _ _ _ _ => (de_ix ix_any sim_ix (dv 4) de_int (fun _ _ => rfl)))) (nomark _)))).dt (dss_one (ds_ret de_bl)) dss_nil)
      (dss_one (ds_ret (de_and (de_call ((ok_L_exchanged T).mono (by decide)) hr (by rfl) T.g_L_exchanged T.F_L_exchanged.kp T.b_L_exchanged (da_cons (dv 5) da_nil)) (de_one (de_call ((ok_L_exchanged T).mono (by decide)) hr (by rfl) T.g_L_exchanged T.F_L_exchanged.kp T.b_L_exchanged (da_cons (dv 8) da_nil)))))))))))))))))))))))), fun ds μ R h => ?_⟩
  · obtain ⟨a, x, y, z, rfl, _⟩ := h
    rfl
  · obtain ⟨a, x, y, z, rfl, ha, h⟩ := h
    have z0 : 0 ≤ sizeLine := by decide
    have sz1 : 1 ≤ sizeLine := by decide
    have sz2 : 2 ≤ sizeLine := by decide
    have sz3 : 3 ≤ sizeLine := by decide
    have sz4 : 4 ≤ sizeLine := by decide
    have s0 : Sa μ μ a := ⟨fun c o _ e => e, ⟨x, y, z, ha⟩⟩
    refine ⟨a, x, y, z, 4, 5, rfl, ha, by omega, by omega, by omega, fun p ts x y z op ot p4 t5 => ?_⟩
    have few : ts.length ≤ 11 := by omega
    have u : p.Pairwise (· ≠ ·) := op.asc.imp fun h => Nat.ne_of_lt h
    have ok : OkWeb p ts := ot.web op few
    have he : Ends p ts := ok.ends
    have lt : (ts.map D.str).length = ts.length := List.length_map _
    have s1 := s0.draw x y z
    generalize put μ a (pot x y z) = μ1 at s1 ⊢
    refine fun b nb => ?_
    refine ⟨b, p, ts, rfl, op, ot.ok few, put_same, ?_⟩
    refine ⟨_, put_same, ?_⟩
    rw [put_put, del_put nb]
    refine ⟨p, ts, rfl, few, fun L hL => ?_⟩
    have hLm : ∀ v, v ∈ L ↔ v ∈ lotsL ts.length := fun v => hL.mem_iff
    have lL : L.length = 2 ^ ts.length := by rw [hL.length_eq, lots_few]
    have l2 := pow_few few
    have l1 : 1 ≤ 2 ^ ts.length := Nat.one_le_two_pow
    show LcB _ _ _ _ _ _ (L.map dLot) _
    refine lcb_pure (fun d => roundB p ts (lotOf d)) id (by rw [List.length_map, sizeLine_eq]; omega) ?_ ?_
    · intro x hx ν N Y _ hN hY
      obtain ⟨v, hv, rfl⟩ := List.mem_map.mp hx
      rw [lotOf_dLot] at hN hY
      obtain ⟨v1, v2, v3⟩ := lots_in _ v ((hLm v).mp hv)
      refine ⟨p, ts, v, rfl, op, ot, few, ⟨v3, v1⟩, by omega, ?_⟩
      exact if_case (c := roundB p ts v) (fun e => hY e) (fun e => hN e)
    have eR : L.filter (roundB p ts) = L.filter (ringB p ts) := List.filter_congr fun v hv => round_iff u he ((hLm v).mp hv)
    rw [lots_filterD (q := roundB p ts), eR]
    refine ⟨(L.filter (ringB p ts)).map fun v => v.map Int.ofNat, by rw [List.map_map]; rfl, .inl ?_, fun out hp hw => ?_⟩
    · intro ns hns
      obtain ⟨v, hv, rfl⟩ := List.mem_map.mp hns
      have rl := ring_len (List.mem_filter.mp hv).2
      cases v with
      | nil => cases rl
      | cons c r => exact List.cons_ne_nil _ _
    obtain ⟨S5, pS5, rfl⟩ := perm_map hp
    have h5 : Listed (ringB p ts) ts.length S5 := ⟨pS5.trans (hL.filter _), List.pairwise_map.mp hw⟩
    have e5 : (S5.map fun v => v.map Int.ofNat).map dI = S5.map dLot := by rw [List.map_map]; rfl
    rw [e5]
    refine ⟨p, ts, rfl, op, ot, few, fun S6 h6 => ?_⟩
    refine ⟨z0, p, ts, [], rfl, op, ot, few, ?_⟩
    refine ⟨sz2, rfl, ?_⟩
    have f6 := h6.few few
    have f5 := h5.few few
    have pm := part_more (p := p) (ts := ts) u
    generalize (((herdsL p (tiesOf ts (outs [] ts.length))).length : Nat) : Int) = PL at pm ⊢
    show LcB _ _ _ _ _ _ (S6.map dLot) _
    refine lcb_pure (fun d => decide (rankOf p ts (outs (lotOf d) ts.length) + 1 = rankOf p ts (List.range ts.length))) id (by rw [List.length_map, sizeLine_eq]; omega) ?_ ?_
    · intro x hx ν N Y _ hN hY
      obtain ⟨v, hv, rfl⟩ := List.mem_map.mp hx
      rw [lotOf_dLot, ← pm v] at hN hY
      refine ⟨p, ts, v, rfl, op, ot, few, ?_⟩
      exact if_case (c := decide ((((herdsL p (tiesOf ts (outs v ts.length))).length : Nat) : Int) = PL + 1)) (fun e => hY e) (fun e => hN e)
    rw [lots_filterD (q := fun v => decide (rankOf p ts (outs v ts.length) + 1 = rankOf p ts (List.range ts.length)))]
    have h8 := part_listed u he h6
    generalize S6.filter (fun v => decide (rankOf p ts (outs v ts.length) + 1 = rankOf p ts (List.range ts.length))) = S8 at h8 ⊢
    have f8 := h8.few few
    refine ⟨p, ts, rfl, ok, fun r1 hr1 => ?_⟩
    rw [hr1.one h5]
    refine tup_sameN (lay_lots _) (by decide) ?_
    refine ⟨rfl, p, ts, rfl, ok, fun r2 hr2 => ?_⟩
    rw [hr2.one h5]
    refine ⟨p, ts, rfl, ok, fun r3 hr3 => ?_⟩
    rw [hr3.one h5]
    refine tup_sameN (lay_lots _) (by decide) ?_
    refine ⟨p, ts, rfl, ok, fun r1 hr1 => ?_⟩
    rw [hr1.one h8]
    refine tup_sameN (lay_lots _) (by decide) ?_
    refine ⟨rfl, p, ts, rfl, ok, fun r2 hr2 => ?_⟩
    rw [hr2.one h8]
    refine ⟨p, ts, rfl, ok, fun r3 hr3 => ?_⟩
    rw [hr3.one h8]
    refine tup_sameN (lay_lots _) (by decide) ?_
    show LcB _ _ _ _ _ _ (L.map dLot) _
    refine lcb_pure (fun d => evenB p ts (lotOf d)) id (by rw [List.length_map, sizeLine_eq]; omega) ?_ ?_
    · intro x hx ν N Y _ hN hY
      obtain ⟨v, hv, rfl⟩ := List.mem_map.mp hx
      rw [lotOf_dLot] at hN hY
      obtain ⟨v1, v2, v3⟩ := lots_in _ v ((hLm v).mp hv)
      refine ⟨p, ts, v, rfl, op, ok, ⟨v3, v1⟩, by omega, ?_⟩
      exact if_case (c := evenB p ts v) (fun e => hY e) (fun e => hN e)
    rw [lots_filterD (q := evenB p ts)]
    have h9 : ∀ v, v ∈ L.filter (evenB p ts) ↔ v ∈ lotsL ts.length ∧ evenB p ts v = true := fun v => by rw [List.mem_filter, hLm]
    have n9 : (L.filter (evenB p ts)).length = 2 ^ (ts.length - rankOf p ts (List.range ts.length)) := by
      rw [← level_len u he]
      exact (hL.filter _).length_eq
    have f9 := List.length_filter_le (evenB p ts) L
    generalize L.filter (evenB p ts) = S9 at h9 n9 f9 ⊢
    refine ⟨fun i δ' ν => ν = μ1 ∧ ∃ o4 o10 o11, δ' = [some (.adr a), some (dNet p ts), some (dWeb A.Web p ts), some (.lst (L.map dLot)), o4, some (.lst (S5.map dLot)), some (.lst (S6.map dLot)), some (.int PL), some (.lst (S8.map dLot)), some (.lst (S9.map dLot)), o10, o11, none, none, none, none, none], ⟨rfl, none, none, none, rfl⟩, ?_, ?_⟩
    · rintro i x δ' ν hx ⟨rfl, o4, o10, o11, rfl⟩
      rw [List.getElem?_map] at hx
      obtain ⟨v, hv, rfl⟩ : ∃ v, L[i]? = some v ∧ x = dLot v := by
        cases q : L[i]? with
        | none => rw [q] at hx; cases hx
        | some v => rw [q] at hx; exact ⟨v, rfl, (Option.some.inj hx).symm⟩
      have hvl := (hLm v).mp (List.mem_of_getElem? hv)
      obtain ⟨v1, v2, v3⟩ := lots_in _ v hvl
      have al : AscLot v ts.length := ⟨v3, v1⟩
      have v11 : v.length ≤ 11 := by omega
      have m5 : decide (v ∈ S5) = ringB p ts v := by
        rw [Bool.eq_iff_iff, decide_eq_true_iff, h5.mem]
        exact ⟨fun z => z.2, fun z => ⟨hvl, z⟩⟩
      have m8 : decide (v ∈ S8) = bondB p ts v := by
        rw [Bool.eq_iff_iff, decide_eq_true_iff, h8.mem]
        exact ⟨fun z => z.2, fun z => ⟨hvl, z⟩⟩
      have m9 : decide (v ∈ S9) = evenB p ts v := by
        rw [Bool.eq_iff_iff, decide_eq_true_iff, h9]
        exact ⟨fun z => z.2, fun z => ⟨hvl, z⟩⟩
      have m6 : decide (v ∈ S6) = twoB p ts v := by
        rw [Bool.eq_iff_iff, decide_eq_true_iff, h6.mem]
        exact ⟨fun z => z.2, fun z => ⟨hvl, z⟩⟩
      refine ⟨_, _, (lay_v v).py, (lay_l S5).py, (lay_v v).shaped (by decide), (lay_l S5).shaped (by decide), ?_⟩
      rw [any_lots, m5]
      refine ⟨_, _, (lay_v v).py, (lay_l S8).py, (lay_v v).shaped (by decide), (lay_l S8).shaped (by decide), ?_⟩
      rw [any_lots, m8]
      refine ⟨_, _, (lay_v v).py, (lay_l S9).py, (lay_v v).shaped (by decide), (lay_l S9).shaped (by decide), ?_⟩
      rw [any_lots, m9]
      refine ⟨_, _, (lay_v v).py, (lay_l S6).py, (lay_v v).shaped (by decide), (lay_l S6).shaped (by decide), ?_⟩
      rw [any_lots, m6]
      refine ⟨sz4, ?_⟩
      refine ⟨p, ts, v, rfl, ok, al, v11, ?_⟩
      refine ⟨p, ts, v, rfl, ok, al, v11, ?_⟩
      refine ⟨p, ts, v, rfl, ok, al, v11, ?_⟩
      refine ⟨p, ts, v, rfl, ok, al, v11, ?_⟩
      refine ⟨sz4, ?_⟩
      refine lst_sameN (lay_four _ _ _ _) (by decide) ?_
      exact ⟨rfl, _, _, _, rfl⟩
    rintro δ' ν ⟨rfl, o4, o10, o11, rfl⟩
    obtain ⟨px, py_, pz, hpot⟩ := s1.has
    have lLm : (L.map dLot).length = 2 ^ ts.length := by rw [List.length_map, lL]
    refine ⟨a, px, py_, pz, _, rfl, hpot, by omega, by omega, fun d x y z hd => ?_⟩
    obtain ⟨v, hv, rfl⟩ := List.mem_map.mp hd
    have s := s1.draw x y z
    generalize put ν a (pot x y z) = μ2 at s ⊢
    have hvl := (hLm v).mp hv
    obtain ⟨v1, v2, v3⟩ := lots_in _ v hvl
    have al : AscLot v ts.length := ⟨v3, v1⟩
    have v11 : v.length ≤ 11 := by omega
    have m5 : decide (v ∈ S5) = ringB p ts v := by
      rw [Bool.eq_iff_iff, decide_eq_true_iff, h5.mem]
      exact ⟨fun z => z.2, fun z => ⟨hvl, z⟩⟩
    have m8 : decide (v ∈ S8) = bondB p ts v := by
      rw [Bool.eq_iff_iff, decide_eq_true_iff, h8.mem]
      exact ⟨fun z => z.2, fun z => ⟨hvl, z⟩⟩
    have m9 : decide (v ∈ S9) = evenB p ts v := by
      rw [Bool.eq_iff_iff, decide_eq_true_iff, h9]
      exact ⟨fun z => z.2, fun z => ⟨hvl, z⟩⟩
    have m6 : decide (v ∈ S6) = twoB p ts v := by
      rw [Bool.eq_iff_iff, decide_eq_true_iff, h6.mem]
      exact ⟨fun z => z.2, fun z => ⟨hvl, z⟩⟩
    refine ⟨_, _, (lay_v v).py, (lay_l S5).py, (lay_v v).shaped (by decide), (lay_l S5).shaped (by decide), ?_⟩
    rw [any_lots, m5]
    refine ⟨_, _, (lay_v v).py, (lay_l S8).py, (lay_v v).shaped (by decide), (lay_l S8).shaped (by decide), ?_⟩
    rw [any_lots, m8]
    refine ⟨_, _, (lay_v v).py, (lay_l S9).py, (lay_v v).shaped (by decide), (lay_l S9).shaped (by decide), ?_⟩
    rw [any_lots, m9]
    refine ⟨_, _, (lay_v v).py, (lay_l S6).py, (lay_v v).shaped (by decide), (lay_l S6).shaped (by decide), ?_⟩
    rw [any_lots, m6]
    refine ⟨sz4, ?_⟩
    refine ⟨rfl, p, ts, v, rfl, ok, al, v11, ?_⟩
    refine ⟨rfl, p, ts, v, rfl, ok, al, v11, ?_⟩
    refine ⟨rfl, p, ts, v, rfl, ok, al, v11, ?_⟩
    refine ⟨sz3, ?_⟩
    refine ⟨rfl, p, ts, v, rfl, ok, al, v11, ?_⟩
    refine ⟨sz1, ?_⟩
    refine ⟨by show 3 + 1 ≤ sizeLine; decide, ?_⟩
    refine lst_sameN (lay_four _ _ _ _) (by decide) ?_
    refine ⟨ts.length, by rw [lt], by omega, ?_⟩
    rw [upTo_lot]
    have ar : AscLot (List.range ts.length) ts.length := ⟨List.pairwise_lt_range, fun j hj => List.mem_range.mp hj⟩
    have rf := rank_len u he (List.range ts.length) fun j hj => List.mem_range.mp hj
    rw [List.length_range] at rf
    refine ⟨p, ts, List.range ts.length, rfl, ok, ar, by rw [List.length_range]; omega, ar.2, ?_⟩
    refine ⟨ts.length - rankOf p ts (List.range ts.length), rfl, by rw [List.length_range]; exact congrArg D.int (by omega), by omega, ?_⟩
    have e9 : ((S9.map dLot).length : Int) = ((2 ^ (ts.length - rankOf p ts (List.range ts.length)) : Nat) : Int) := by rw [List.length_map, n9]
    refine if_case (c := !decide (((S9.map dLot).length : Int) = ((2 ^ (ts.length - rankOf p ts (List.range ts.length)) : Nat) : Int))) (fun z => by rw [decide_eq_true e9] at z; cases z) (fun _ => ?_)
    refine ⟨p, ts, List.range ts.length, rfl, ok, ar, by rw [List.length_range]; omega, ar.2, ?_⟩
    refine ⟨rankOf p ts (List.range ts.length), rfl, rfl, by omega, ?_⟩
    have e6 : ((S6.map dLot).length : Int) = ((2 ^ rankOf p ts (List.range ts.length) : Nat) : Int) := by rw [List.length_map, h6.perm.length_eq, sided_len u he]
    refine if_case (c := !decide (((S6.map dLot).length : Int) = ((2 ^ rankOf p ts (List.range ts.length) : Nat) : Int))) (fun z => by rw [decide_eq_true e6] at z; cases z) (fun _ => ?_)
    generalize (D.lst ([D.bl (ringB p ts v), D.bl (bondB p ts v), D.bl (evenB p ts v), D.bl (twoB p ts v)])) = dd
    refine ⟨fun i δ' ν => ν = μ2 ∧ ∃ o4 o10 o11, δ' = [some (.adr a), some (dNet p ts), some (dWeb A.Web p ts), some (.lst (L.map dLot)), o4, some (.lst (S5.map dLot)), some (.lst (S6.map dLot)), some (.int PL), some (.lst (S8.map dLot)), some (.lst (S9.map dLot)), o10, o11, some (dLot v), some (dLot (List.range ts.length)), none, none, none], ⟨rfl, _, _, _, rfl⟩, ?_, ?_⟩
    · rintro i x δ' ν hx ⟨rfl, o4, o10, o11, rfl⟩
      rw [List.getElem?_map] at hx
      obtain ⟨w, hw, rfl⟩ : ∃ w, S9[i]? = some w ∧ x = dLot w := by
        cases q : S9[i]? with
        | none => rw [q] at hx; cases hx
        | some v => rw [q] at hx; exact ⟨v, rfl, (Option.some.inj hx).symm⟩
      obtain ⟨hwl, ew⟩ := (h9 w).mp (List.mem_of_getElem? hw)
      have w64 := (lots_in _ w hwl).2.1
      show LcB _ _ _ _ _ _ (S6.map dLot) _
      refine lcb_pure (fun _ => false) id (by rw [List.length_map, sizeLine_eq]; omega) ?_ ?_
      · intro x hx ν3 N Y _ hN hY
        obtain ⟨t, ht, rfl⟩ := List.mem_map.mp hx
        obtain ⟨htl, et⟩ := h6.mem.mp ht
        have od := level_sided u he hwl htl ew et
        refine ⟨w, t, _, rfl, .inl rfl, by omega, ?_⟩
        refine ⟨show (2 : Int) ≠ 0 by decide, ?_⟩
        have e : decide ((((w.filter fun k => decide (k ∈ t)).length : Nat) : Int).fmod 2 = 1) = oddM w t := by
          rw [Int.fmod_eq_emod_of_nonneg _ (by decide)]
          unfold oddM
          exact decide_eq_decide.mpr (by omega)
        refine if_case (c := decide ((((w.filter fun k => decide (k ∈ t)).length : Nat) : Int).fmod 2 = 1)) (fun z => ?_) (fun z => ?_)
        · rw [e, od] at z
          cases z
        · exact hN rfl
      rw [List.filter_eq_nil_iff.mpr (fun _ _ => Bool.false_ne_true), List.map_nil]
      refine ⟨z0, ?_⟩
      refine lst_sameN (layL_nil 0) (by decide) ?_
      exact ⟨rfl, _, _, _, rfl⟩
    rintro δ' ν ⟨rfl, o4b, o10b, o11b, rfl⟩
    refine ⟨⟨by rw [lt]; omega, by rw [lt]; omega⟩, ?_⟩
    rw [lt, Int.toNat_natCast]
    show LcB _ _ _ _ _ _ ((List.range ts.length).map fun i => D.int (i : Nat)) _
    refine lcb_pure (aloneJ p ts) id (by rw [List.length_map, List.length_range, sizeLine_eq]; omega) ?_ ?_
    · intro x hx ν3 N Y _ hN hY
      obtain ⟨k, hk, rfl⟩ := List.mem_map.mp hx
      have hk := List.mem_range.mp hk
      have hN : bondB p ts [k] = false → N ν3 := hN
      have hY : bondB p ts [k] = true → Y (.int (k : Nat)) ν3 := hY
      show LcB _ _ _ _ _ _ (S5.map dLot) _
      refine lcb_pure (fun d => decide (k ∈ lotOf d)) id (by rw [List.length_map, sizeLine_eq]; omega) ?_ ?_
      · intro x hx ν4 N4 Y4 _ hN4 hY4
        obtain ⟨w, hw, rfl⟩ := List.mem_map.mp hx
        rw [lotOf_dLot] at hN4 hY4
        show DL.inDs (.int (k : Nat)) ((w.map Int.ofNat).map D.int) fun b => DL.bK _ (.bl b) ν4
        refine in_lot ?_
        exact if_case (c := decide (k ∈ w)) (fun e => hY4 e) (fun e => hN4 e)
      rw [lots_filterD (q := fun w => decide (k ∈ w))]
      refine ⟨z0, ?_⟩
      refine LayL.none (k := id) (lay_lots _) (by decide) ?_
      have en : decide ((S5.filter fun w => decide (k ∈ w)).map dLot = []) = bondB p ts [k] := by
        rw [Bool.eq_iff_iff, decide_eq_true_iff, List.map_eq_nil_iff, List.filter_eq_nil_iff, ← no_ring u he hk]
        refine forall_congr' fun r => ?_
        rw [ring_of h5 r, decide_eq_true_iff]
      rw [en]
      exact if_case (c := bondB p ts [k]) (fun e => hY e) (fun e => hN e)
    rw [alone_list]
    refine ⟨p, ts, rfl, ok, ?_⟩
    refine tup_sameN (layL_ints _ 0) (by decide) ?_
    show LcB _ _ _ _ _ _ (S8.map dLot) _
    refine lcb_pure (fun d => decide (((lotOf d).length : Int) = 1)) (fun d => .int ((lotOf d).getD 0 0 : Nat)) (by rw [List.length_map, sizeLine_eq]; omega) ?_ ?_
    · intro x hx ν3 N Y _ hN hY
      obtain ⟨w, hw, rfl⟩ := List.mem_map.mp hx
      rw [lotOf_dLot] at hN hY
      have e1 : (((w.map Int.ofNat).map D.int).length : Int) = (w.length : Int) := by rw [List.length_map, List.length_map]
      refine if_case (c := decide ((((w.map Int.ofNat).map D.int).length : Int) = 1)) (fun z => ?_) (fun z => ?_)
      · rw [e1] at z
        have z1 := of_decide_eq_true z
        refine atK_nat (ds := (w.map Int.ofNat).map D.int) (j := 0) (d := .int (w.getD 0 0 : Nat)) ?_ (hY z)
        cases w with
        | nil => simp at z1
        | cons c r => rfl
      · rw [e1] at z
        exact hN z
    have e8 : ((S8.map dLot).filter fun d => decide (((lotOf d).length : Int) = 1)).map (fun d => D.int ((lotOf d).getD 0 0 : Nat)) = (((List.range ts.length).filter fun k => bondB p ts [k]).map Int.ofNat).map D.int := by
      rw [← singles h8, List.filter_map, List.map_map, List.map_map, List.map_map]
      have ef : S8.filter ((fun d => decide (((lotOf d).length : Int) = 1)) ∘ dLot) = S8.filter fun v => decide (((v.length : Nat) : Int) = 1) := List.filter_congr fun w _ => by
        show decide (((lotOf (dLot w)).length : Int) = 1) = _
        rw [lotOf_dLot]
      rw [ef]
      refine List.map_congr_left fun w _ => ?_
      show D.int ((lotOf (dLot w)).getD 0 0 : Nat) = _
      rw [lotOf_dLot]
      rfl
    rw [e8]
    refine lst_sameN (layL_ints _ 0) (by decide) ?_
    have small : ∀ (q : List Nat → Bool) (S : List (List Nat)), Listed q ts.length S → ∀ w ∈ S, w.length ≤ 11 := fun q S hS w hw => by
      have := (lots_in _ w (hS.mem.mp hw).1).2.1
      omega
    refine ⟨S5, rfl, f5, small _ S5 h5, fun c hc d hd ne e ec ed => ?_, ?_⟩
    · obtain ⟨r, r1, r2⟩ := ring_change u he ((ring_of h5 c).mp hc) ((ring_of h5 d).mp hd) ne ec ed
      exact ⟨r, (ring_of h5 r).mpr r1, r2⟩
    refine ⟨S8, rfl, f8, small _ S8 h8, fun c hc d hd ne e ec ed => ?_, ?_⟩
    · obtain ⟨r, r1, r2⟩ := bond_change u he ((bond_of h8 c).mp hc) ((bond_of h8 d).mp hd) ne ec ed
      exact ⟨r, (bond_of h8 r).mpr r1, r2⟩
    exact s.back fun x y z => h x y z
end
end K10
set_option Elab.async false
set_option linter.all false
set_option maxRecDepth 100000
namespace K10
open PySem PySem.Spec PyProof.Rows L2 DL
section
variable {P : Program} {w : World} {K : PySem.W.Frag} {mg : Str → Option Value} {base : Heap} {A : Ad}
/-! ### the law -/
def g_law : GC := fun ds μ R => ∃ ns : List Int, ds = [.seq (ns.map D.int)] ∧ ns.length ≤ 63 ∧ ∀ μ', R (.bl true) μ'
def N66 : List Str := ["_law_cells", "_law_at"]
theorem sc66 : FnScope N66 ["_law_cells"] (defScope (top 66)) := ⟨rfl, rfl, rfl, by decide +kernel, rfl, by decide +kernel, by decide +kernel⟩
set_option maxHeartbeats 4000000 in
theorem okG_law (T : Tx K mg A) : FnG P w K mg base 12 A.law A.fd_law ["_law_cells"] (toSp K (g_law)) := by
  refine okDG T.F_law sc66 (fun ds μ R h => ?_) ⟨_, fun cdv A0 outer s H hr hG =>
    (dss_one (ds_ret (de_callB (cr_all (by rfl)) sim_all (by rfl) T.z_all boot_all (da_cons (de_lc (own := [("_law_at", 1)]) (by rfl) sc66.nd (di_range (by rfl) T.z_range (da_cons de_int da_nil)) (blkOk_by (N := N66) (own := [("_law_at", 1)]) (sc := defScope (top 66)) (by decide +kernel)) (fun _ _ _ _ _ => (pg_name (i := 1) sc66.nd rfl (by first | exact Or.inl rfl | exact Or.inr rfl))) (sim_nm (i := 1)) (fun _ _ _ _ _ => dts_nil) (fun _ _ _ _ _ => (de_call ((ok_L_right T).mono (by decide)) hr (by rfl) T.g_L_right T.F_L_right.kp T.b_L_right (da_cons (de_call ((ok_L_cask T).mono (by decide)) hr (by rfl) T.g_L_cask T.F_L_cask.kp T.b_L_cask (da_cons (dv 0) (da_cons (dv 1) da_nil))) da_nil)))) da_nil)))), fun ds μ R h => ?_⟩
  · obtain ⟨ns, rfl, _⟩ := h
    rfl
  · obtain ⟨ns, rfl, ln, h⟩ := h
    have lm : (ns.map D.int).length = ns.length := List.length_map _
    refine ⟨⟨by omega, by omega⟩, ?_⟩
    · show LcB _ _ _ _ _ _ _ _
      refine lcb_eff (fun i ys ν => ys = List.replicate i (.bl true)) ?_ rfl ?_ ?_ ?_
      · rw [List.length_map, List.length_range, sizeLine_eq]
        omega
      · rintro i ys ν rfl
        rw [List.length_replicate]
        exact Nat.le_refl _
      · rintro i it hi b ys ν N Y nb rfl hN hY
        obtain ⟨hi, rfl⟩ := range_at hi
        refine ⟨ns, i, rfl, by omega, fun x y z a na => ?_⟩
        have ne : b ≠ a := fun e => by
          rw [← e, put_same] at na
          cases na
        refine ⟨a, x, y, z, rfl, put_same, fun x' y' z' => ?_⟩
        rw [put_put, put_comm ne]
        refine hY (.bl true) _ (by rw [put_ne ne]; exact nb) ?_
        rw [List.replicate_succ']
      · rintro ys ν rfl
        refine ⟨List.replicate _ true, (List.map_replicate).symm, ?_⟩
        show R (.bl ((List.replicate _ true).all id)) ν
        have e : ∀ k, (List.replicate k true).all id = true := fun k => by
          rw [List.all_eq_true]
          intro c hc
          rw [List.eq_of_mem_replicate hc]
          rfl
        rw [e]
        exact h ν
end
end K10
set_option Elab.async false
set_option linter.all false
set_option maxRecDepth 100000
namespace K10
open PySem L2 DL
/-- a def of the module as the top has written it -/
structure DefAt (K : PySem.W.Frag) (x : Str) (st : Stmt) (f : Addr) : Prop where
  ns : PySem.W.nsIn K mainGlobals x = some (some (.ref f))
  fn : ∃ fd, Fun K x x st f fd
theorem def_mk {K : PySem.W.Frag} {x : Str} {st : Stmt} {f : Addr} {oc : Value} {od an : Option Addr} {osl : Array (Option Value)} {kV doc pm cdv ct : Value} (a : PySem.W.nsIn K mainGlobals x = some (some (.ref f)))
    (l : K.lookup f = some ⟨oc, od, .func (PySem.W.fnOf x x (defArgs st) (defBody st) (defScope st) .none kV doc pm an cdv ct), osl⟩) (c : PySem.W.codeIn K cdv x = true) (k : PySem.W.keepIn K (.ref f) = true) : DefAt K x st f := ⟨a, _, fun_mk l c k⟩
/-- a def of the module with one number as the default of its last parameter -/
structure DefAtD (K : PySem.W.Frag) (x : Str) (st : Stmt) (f : Addr) (dvs : List V) : Prop where
  ns : PySem.W.nsIn K mainGlobals x = some (some (.ref f))
  fn : ∃ fd, FunD K x x (defArgs st) (defBody st) (defScope st) dvs [] f fd
theorem def_mkD {K : PySem.W.Frag} {x : Str} {st : Stmt} {f T : Addr} {oc oc2 : Value} {od od2 an : Option Addr} {osl osl2 : Array (Option Value)} {kV doc pm cdv ct : Value} {i : Int} {t : Tok} {n : Nat} (a : PySem.W.nsIn K mainGlobals x = some (some (.ref f)))
    (l : K.lookup f = some ⟨oc, od, .func (PySem.W.fnOf x x (defArgs st) (defBody st) (defScope st) (.ref T) kV doc pm an cdv ct), osl⟩) (c : PySem.W.codeIn K cdv x = true) (k : PySem.W.keepIn K (.ref f) = true)
    (lT : K.lookup T = some ⟨oc2, od2, .seq #[.int i t] n, osl2⟩) : DefAtD K x st f [.int i] :=
  ⟨a, _, ⟨⟨oc, od, .ref T, kV, doc, pm, an, cdv, ct, osl, rfl, l, c, Or.inr ⟨List.cons_ne_nil _ _, T, _, [.int i t], n, rfl, lT, rfl, .cons ⟨t, rfl⟩ .nil⟩, Or.inl rfl⟩, k⟩⟩
theorem init_mk {K : PySem.W.Frag} {st : Stmt} {f : Addr} {oc : Value} {od an : Option Addr} {osl : Array (Option Value)} {kV doc pm cdv ct : Value}
    (l : K.lookup f = some ⟨oc, od, .func (PySem.W.fnOf "__init__" "Web.__init__" (defArgs st) (defBody st) (defScope st) .none kV doc pm an cdv ct), osl⟩) (c : PySem.W.codeIn K cdv "Web.__init__" = true) (k : PySem.W.keepIn K (.ref f) = true) : ∃ fd, Fun K "__init__" "Web.__init__" st f fd := ⟨_, fun_mk l c k⟩
theorem int_mk {K : PySem.W.Frag} {x : Str} {i : Int} {t : Tok} (e : PySem.W.nsIn K mainGlobals x = some (some (.int i t))) : ∃ t, PySem.W.nsIn K mainGlobals x = some (some (.int i t)) := ⟨t, e⟩
theorem str_mk {K : PySem.W.Frag} {x i : Str} {t : Tok} (e : PySem.W.nsIn K mainGlobals x = some (some (.str i t))) : ∃ t, PySem.W.nsIn K mainGlobals x = some (some (.str i t)) := ⟨t, e⟩
structure Facts (K : PySem.W.Frag) (C I f_is_integer f_is_integer_from f_are_letters f_are_places f_is_tie f_first_wrong_tie f_where_no_lot f_check_places f_check_ties f_check_lot f_check_web f_marks f_check_web_and_lot f_lot_of_all f_without f_outside_of f_lots_within f_all_lots f_all_herds f_crossing f_rank_of f_spare_of f_full_rank f_is_ring_lot f_is_bond_lot f_rank f_spare f_is_ring f_is_bond f_is_even f_is_two_sided f_rings f_bonds f_bridges f_L_cask f_L_tap f_L_pick f_L_spots f_L_joint f_L_net f_L_herds f_L_lots f_L_is_round f_L_spots_lots f_L_parts f_L_met f_L_even_one f_L_exchanged f_L_right f_law : Addr) : Prop where
  d_is_integer : DefAt K "is_integer" (top 12) f_is_integer
  d_is_integer_from : DefAt K "is_integer_from" (top 13) f_is_integer_from
  d_are_letters : DefAt K "are_letters" (top 14) f_are_letters
  d_are_places : DefAt K "are_places" (top 15) f_are_places
  d_is_tie : DefAt K "is_tie" (top 16) f_is_tie
  d_first_wrong_tie : DefAt K "first_wrong_tie" (top 17) f_first_wrong_tie
  d_where_no_lot : DefAt K "where_no_lot" (top 19) f_where_no_lot
  d_check_places : DefAt K "check_places" (top 20) f_check_places
  d_check_ties : DefAt K "check_ties" (top 21) f_check_ties
  d_check_lot : DefAtD K "check_lot" (top 22) f_check_lot [.int (11)]
  d_check_web : DefAt K "check_web" (top 25) f_check_web
  d_marks : DefAt K "marks" (top 26) f_marks
  d_check_web_and_lot : DefAt K "check_web_and_lot" (top 28) f_check_web_and_lot
  d_lot_of_all : DefAt K "lot_of_all" (top 29) f_lot_of_all
  d_without : DefAt K "without" (top 30) f_without
  d_outside_of : DefAt K "outside_of" (top 31) f_outside_of
  d_lots_within : DefAt K "lots_within" (top 32) f_lots_within
  d_all_lots : DefAt K "all_lots" (top 33) f_all_lots
  d_all_herds : DefAt K "all_herds" (top 34) f_all_herds
  d_crossing : DefAt K "crossing" (top 35) f_crossing
  d_rank_of : DefAt K "rank_of" (top 36) f_rank_of
  d_spare_of : DefAt K "spare_of" (top 37) f_spare_of
  d_full_rank : DefAt K "full_rank" (top 38) f_full_rank
  d_is_ring_lot : DefAt K "is_ring_lot" (top 39) f_is_ring_lot
  d_is_bond_lot : DefAt K "is_bond_lot" (top 40) f_is_bond_lot
  d_rank : DefAt K "rank" (top 41) f_rank
  d_spare : DefAt K "spare" (top 42) f_spare
  d_is_ring : DefAt K "is_ring" (top 43) f_is_ring
  d_is_bond : DefAt K "is_bond" (top 44) f_is_bond
  d_is_even : DefAt K "is_even" (top 45) f_is_even
  d_is_two_sided : DefAt K "is_two_sided" (top 46) f_is_two_sided
  d_rings : DefAt K "rings" (top 47) f_rings
  d_bonds : DefAt K "bonds" (top 48) f_bonds
  d_bridges : DefAt K "bridges" (top 49) f_bridges
  d_L_cask : DefAt K "_law_cask" (top 51) f_L_cask
  d_L_tap : DefAt K "_law_tap" (top 52) f_L_tap
  d_L_pick : DefAt K "_law_pick" (top 53) f_L_pick
  d_L_spots : DefAt K "_law_spots" (top 54) f_L_spots
  d_L_joint : DefAt K "_law_joint" (top 55) f_L_joint
  d_L_net : DefAt K "_law_net" (top 56) f_L_net
  d_L_herds : DefAt K "_law_herds" (top 57) f_L_herds
  d_L_lots : DefAt K "_law_lots" (top 58) f_L_lots
  d_L_is_round : DefAt K "_law_is_round" (top 59) f_L_is_round
  d_L_spots_lots : DefAt K "_law_spots_lots" (top 60) f_L_spots_lots
  d_L_parts : DefAt K "_law_parts" (top 61) f_L_parts
  d_L_met : DefAt K "_law_met" (top 62) f_L_met
  d_L_even_one : DefAt K "_law_even_one" (top 63) f_L_even_one
  d_L_exchanged : DefAt K "_law_exchanged" (top 64) f_L_exchanged
  d_L_right : DefAt K "_law_right" (top 65) f_L_right
  d_law : DefAt K "law" (top 66) f_law
  i_d : ∃ fd, Fun K "__init__" "Web.__init__" (inClass (top 24) 0) I fd
  c_ns : PySem.W.nsIn K mainGlobals "Web" = some (some (.ref C))
  c_init : PySem.W.findIn K (.ref C) "__init__" = some (some (.ref I))
  c_fn : PySem.W.isFn K (.ref I) = true
  c_pg : PySem.W.plainGet K C Str.empty = true
  c_hd : PySem.W.hasDictIn K C = true
  c_po : PySem.W.plainOver K C = true
  c_sa : PySem.W.findIn K (.ref C) "__setattr__" = some (some (.builtin "object.__setattr__"))
  c_mk : PySem.W.makesIn K C = true
  c_kc : PySem.W.keepIn K (.ref C) = true
  c_pl : PySem.W.findIn K (.ref C) "places" = some none
  c_ti : PySem.W.findIn K (.ref C) "ties" = some none
  c_ha : PySem.W.findIn K (.ref C) "__class__" = some (some (.builtin "object.__class__"))
  c_hn : PySem.W.specialIn K (.builtin "object.__class__") "__get__" = some (some (.builtin "getset_descriptor.__get__"))
  c_ht : PySem.W.takesIn K (.builtin "object.__class__") = some true
  c_hm : PySem.W.mroIn K C (.type "object") = some true
  z_abs : PySem.W.nsIn K mainGlobals "abs" = some none
  z_all : PySem.W.nsIn K mainGlobals "all" = some none
  z_any : PySem.W.nsIn K mainGlobals "any" = some none
  z_bool : PySem.W.nsIn K mainGlobals "bool" = some none
  z_divmod : PySem.W.nsIn K mainGlobals "divmod" = some none
  z_enumerate : PySem.W.nsIn K mainGlobals "enumerate" = some none
  z_int : PySem.W.nsIn K mainGlobals "int" = some none
  z_isinstance : PySem.W.nsIn K mainGlobals "isinstance" = some none
  z_len : PySem.W.nsIn K mainGlobals "len" = some none
  z_list : PySem.W.nsIn K mainGlobals "list" = some none
  z_max : PySem.W.nsIn K mainGlobals "max" = some none
  z_min : PySem.W.nsIn K mainGlobals "min" = some none
  z_range : PySem.W.nsIn K mainGlobals "range" = some none
  z_sorted : PySem.W.nsIn K mainGlobals "sorted" = some none
  z_str : PySem.W.nsIn K mainGlobals "str" = some none
  z_tuple : PySem.W.nsIn K mainGlobals "tuple" = some none
  z_zip : PySem.W.nsIn K mainGlobals "zip" = some none
  k_MOST_PLACES : ∃ t, PySem.W.nsIn K mainGlobals "MOST_PLACES" = some (some (.int (7) t))
  k_MOST_TIES : ∃ t, PySem.W.nsIn K mainGlobals "MOST_TIES" = some (some (.int (11) t))
  k_LETTERS : ∃ t, PySem.W.nsIn K mainGlobals "LETTERS" = some (some (.str "abcdefgh" t))
  k_NOWHERE : ∃ t, PySem.W.nsIn K mainGlobals "NOWHERE" = some (some (.int (-1) t))
set_option maxHeartbeats 4000000 in
theorem all_mk {K : PySem.W.Frag} {h : Heap} {mg : Str → Option Value} {fa C I f_is_integer f_is_integer_from f_are_letters f_are_places f_is_tie f_first_wrong_tie f_where_no_lot f_check_places f_check_ties f_check_lot f_check_web f_marks f_check_web_and_lot f_lot_of_all f_without f_outside_of f_lots_within f_all_lots f_all_herds f_crossing f_rank_of f_spare_of f_full_rank f_is_ring_lot f_is_bond_lot f_rank f_spare f_is_ring f_is_bond f_is_even f_is_two_sided f_rings f_bonds f_bridges f_L_cask f_L_tap f_L_pick f_L_spots f_L_joint f_L_net f_L_herds f_L_lots f_L_is_round f_L_spots_lots f_L_parts f_L_met f_L_even_one f_L_exchanged f_L_right f_law : Addr} (X : K.In h) (G : h.Ns mainGlobals mg) (hfa : mg "law" = some (.ref fa)) (F : Facts K C I f_is_integer f_is_integer_from f_are_letters f_are_places f_is_tie f_first_wrong_tie f_where_no_lot f_check_places f_check_ties f_check_lot f_check_web f_marks f_check_web_and_lot f_lot_of_all f_without f_outside_of f_lots_within f_all_lots f_all_herds f_crossing f_rank_of f_spare_of f_full_rank f_is_ring_lot f_is_bond_lot f_rank f_spare f_is_ring f_is_bond f_is_even f_is_two_sided f_rings f_bonds f_bridges f_L_cask f_L_tap f_L_pick f_L_spots f_L_joint f_L_net f_L_herds f_L_lots f_L_is_round f_L_spots_lots f_L_parts f_L_met f_L_even_one f_L_exchanged f_L_right f_law) :
    ∃ A : Ad, A.law = fa ∧ Tx K mg A := by
  have e := hfa.symm.trans (PySem.W.mg_of X G F.d_law.ns)
  cases e
  obtain ⟨fd_is_integer, F_is_integer⟩ := F.d_is_integer.fn
  obtain ⟨fd_is_integer_from, F_is_integer_from⟩ := F.d_is_integer_from.fn
  obtain ⟨fd_are_letters, F_are_letters⟩ := F.d_are_letters.fn
  obtain ⟨fd_are_places, F_are_places⟩ := F.d_are_places.fn
  obtain ⟨fd_is_tie, F_is_tie⟩ := F.d_is_tie.fn
  obtain ⟨fd_first_wrong_tie, F_first_wrong_tie⟩ := F.d_first_wrong_tie.fn
  obtain ⟨fd_where_no_lot, F_where_no_lot⟩ := F.d_where_no_lot.fn
  obtain ⟨fd_check_places, F_check_places⟩ := F.d_check_places.fn
  obtain ⟨fd_check_ties, F_check_ties⟩ := F.d_check_ties.fn
  obtain ⟨fd_check_lot, F_check_lot⟩ := F.d_check_lot.fn
  obtain ⟨fd_check_web, F_check_web⟩ := F.d_check_web.fn
  obtain ⟨fd_marks, F_marks⟩ := F.d_marks.fn
  obtain ⟨fd_check_web_and_lot, F_check_web_and_lot⟩ := F.d_check_web_and_lot.fn
  obtain ⟨fd_lot_of_all, F_lot_of_all⟩ := F.d_lot_of_all.fn
  obtain ⟨fd_without, F_without⟩ := F.d_without.fn
  obtain ⟨fd_outside_of, F_outside_of⟩ := F.d_outside_of.fn
  obtain ⟨fd_lots_within, F_lots_within⟩ := F.d_lots_within.fn
  obtain ⟨fd_all_lots, F_all_lots⟩ := F.d_all_lots.fn
  obtain ⟨fd_all_herds, F_all_herds⟩ := F.d_all_herds.fn
  obtain ⟨fd_crossing, F_crossing⟩ := F.d_crossing.fn
  obtain ⟨fd_rank_of, F_rank_of⟩ := F.d_rank_of.fn
  obtain ⟨fd_spare_of, F_spare_of⟩ := F.d_spare_of.fn
  obtain ⟨fd_full_rank, F_full_rank⟩ := F.d_full_rank.fn
  obtain ⟨fd_is_ring_lot, F_is_ring_lot⟩ := F.d_is_ring_lot.fn
  obtain ⟨fd_is_bond_lot, F_is_bond_lot⟩ := F.d_is_bond_lot.fn
  obtain ⟨fd_rank, F_rank⟩ := F.d_rank.fn
  obtain ⟨fd_spare, F_spare⟩ := F.d_spare.fn
  obtain ⟨fd_is_ring, F_is_ring⟩ := F.d_is_ring.fn
  obtain ⟨fd_is_bond, F_is_bond⟩ := F.d_is_bond.fn
  obtain ⟨fd_is_even, F_is_even⟩ := F.d_is_even.fn
  obtain ⟨fd_is_two_sided, F_is_two_sided⟩ := F.d_is_two_sided.fn
  obtain ⟨fd_rings, F_rings⟩ := F.d_rings.fn
  obtain ⟨fd_bonds, F_bonds⟩ := F.d_bonds.fn
  obtain ⟨fd_bridges, F_bridges⟩ := F.d_bridges.fn
  obtain ⟨fd_L_cask, F_L_cask⟩ := F.d_L_cask.fn
  obtain ⟨fd_L_tap, F_L_tap⟩ := F.d_L_tap.fn
  obtain ⟨fd_L_pick, F_L_pick⟩ := F.d_L_pick.fn
  obtain ⟨fd_L_spots, F_L_spots⟩ := F.d_L_spots.fn
  obtain ⟨fd_L_joint, F_L_joint⟩ := F.d_L_joint.fn
  obtain ⟨fd_L_net, F_L_net⟩ := F.d_L_net.fn
  obtain ⟨fd_L_herds, F_L_herds⟩ := F.d_L_herds.fn
  obtain ⟨fd_L_lots, F_L_lots⟩ := F.d_L_lots.fn
  obtain ⟨fd_L_is_round, F_L_is_round⟩ := F.d_L_is_round.fn
  obtain ⟨fd_L_spots_lots, F_L_spots_lots⟩ := F.d_L_spots_lots.fn
  obtain ⟨fd_L_parts, F_L_parts⟩ := F.d_L_parts.fn
  obtain ⟨fd_L_met, F_L_met⟩ := F.d_L_met.fn
  obtain ⟨fd_L_even_one, F_L_even_one⟩ := F.d_L_even_one.fn
  obtain ⟨fd_L_exchanged, F_L_exchanged⟩ := F.d_L_exchanged.fn
  obtain ⟨fd_L_right, F_L_right⟩ := F.d_L_right.fn
  obtain ⟨fd_law, F_law⟩ := F.d_law.fn
  obtain ⟨fd_i, F_i⟩ := F.i_d
  have b_is_integer := F_is_integer.binds (ps := ["value"]) fun _ _ _ _ _ _ us hl => match us, hl with | [_], _ => rfl
  have b_is_integer_from := F_is_integer_from.binds (ps := ["value", "low", "high"]) fun _ _ _ _ _ _ us hl => match us, hl with | [_, _, _], _ => rfl
  have b_are_letters := F_are_letters.binds (ps := ["value"]) fun _ _ _ _ _ _ us hl => match us, hl with | [_], _ => rfl
  have b_are_places := F_are_places.binds (ps := ["value"]) fun _ _ _ _ _ _ us hl => match us, hl with | [_], _ => rfl
  have b_is_tie := F_is_tie.binds (ps := ["places", "value"]) fun _ _ _ _ _ _ us hl => match us, hl with | [_, _], _ => rfl
  have b_first_wrong_tie := F_first_wrong_tie.binds (ps := ["places", "ties"]) fun _ _ _ _ _ _ us hl => match us, hl with | [_, _], _ => rfl
  have b_where_no_lot := F_where_no_lot.binds (ps := ["web", "values", "most"]) fun _ _ _ _ _ _ us hl => match us, hl with | [_, _, _], _ => rfl
  have b_check_places := F_check_places.binds (ps := ["places"]) fun _ _ _ _ _ _ us hl => match us, hl with | [_], _ => rfl
  have b_check_ties := F_check_ties.binds (ps := ["places", "ties"]) fun _ _ _ _ _ _ us hl => match us, hl with | [_, _], _ => rfl
  have b_check_lot : ∃ ds, Vals [.int (11)] ds ∧ Binds K fd_check_lot ["web", "lot", "most"] ds := F_check_lot.binds1 (ps := ["web", "lot", "most"]) 2 0 (List.cons_ne_nil _ _) rfl fun _ _ _ _ _ _ _ us its hl hi => match us, hl, its, hi with | [_, _], _, [_], _ => ⟨_, rfl, rfl⟩
  have b_check_web := F_check_web.binds (ps := ["web"]) fun _ _ _ _ _ _ us hl => match us, hl with | [_], _ => rfl
  have b_marks := F_marks.binds (ps := ["web", "lot"]) fun _ _ _ _ _ _ us hl => match us, hl with | [_, _], _ => rfl
  have b_check_web_and_lot := F_check_web_and_lot.binds (ps := ["web", "lot"]) fun _ _ _ _ _ _ us hl => match us, hl with | [_, _], _ => rfl
  have b_lot_of_all := F_lot_of_all.binds (ps := ["web"]) fun _ _ _ _ _ _ us hl => match us, hl with | [_], _ => rfl
  have b_without := F_without.binds (ps := ["lot", "index"]) fun _ _ _ _ _ _ us hl => match us, hl with | [_, _], _ => rfl
  have b_outside_of := F_outside_of.binds (ps := ["web", "lot"]) fun _ _ _ _ _ _ us hl => match us, hl with | [_, _], _ => rfl
  have b_lots_within := F_lots_within.binds (ps := ["lot"]) fun _ _ _ _ _ _ us hl => match us, hl with | [_], _ => rfl
  have b_all_lots := F_all_lots.binds (ps := ["web"]) fun _ _ _ _ _ _ us hl => match us, hl with | [_], _ => rfl
  have b_all_herds := F_all_herds.binds (ps := ["web"]) fun _ _ _ _ _ _ us hl => match us, hl with | [_], _ => rfl
  have b_crossing := F_crossing.binds (ps := ["web", "herd"]) fun _ _ _ _ _ _ us hl => match us, hl with | [_, _], _ => rfl
  have b_rank_of := F_rank_of.binds (ps := ["web", "lot"]) fun _ _ _ _ _ _ us hl => match us, hl with | [_, _], _ => rfl
  have b_spare_of := F_spare_of.binds (ps := ["web", "lot"]) fun _ _ _ _ _ _ us hl => match us, hl with | [_, _], _ => rfl
  have b_full_rank := F_full_rank.binds (ps := ["web"]) fun _ _ _ _ _ _ us hl => match us, hl with | [_], _ => rfl
  have b_is_ring_lot := F_is_ring_lot.binds (ps := ["web", "lot"]) fun _ _ _ _ _ _ us hl => match us, hl with | [_, _], _ => rfl
  have b_is_bond_lot := F_is_bond_lot.binds (ps := ["web", "lot"]) fun _ _ _ _ _ _ us hl => match us, hl with | [_, _], _ => rfl
  have b_rank := F_rank.binds (ps := ["web", "lot"]) fun _ _ _ _ _ _ us hl => match us, hl with | [_, _], _ => rfl
  have b_spare := F_spare.binds (ps := ["web", "lot"]) fun _ _ _ _ _ _ us hl => match us, hl with | [_, _], _ => rfl
  have b_is_ring := F_is_ring.binds (ps := ["web", "lot"]) fun _ _ _ _ _ _ us hl => match us, hl with | [_, _], _ => rfl
  have b_is_bond := F_is_bond.binds (ps := ["web", "lot"]) fun _ _ _ _ _ _ us hl => match us, hl with | [_, _], _ => rfl
  have b_is_even := F_is_even.binds (ps := ["web", "lot"]) fun _ _ _ _ _ _ us hl => match us, hl with | [_, _], _ => rfl
  have b_is_two_sided := F_is_two_sided.binds (ps := ["web", "lot"]) fun _ _ _ _ _ _ us hl => match us, hl with | [_, _], _ => rfl
  have b_rings := F_rings.binds (ps := ["web"]) fun _ _ _ _ _ _ us hl => match us, hl with | [_], _ => rfl
  have b_bonds := F_bonds.binds (ps := ["web"]) fun _ _ _ _ _ _ us hl => match us, hl with | [_], _ => rfl
  have b_bridges := F_bridges.binds (ps := ["web"]) fun _ _ _ _ _ _ us hl => match us, hl with | [_], _ => rfl
  have b_L_cask := F_L_cask.binds (ps := ["_law_cells", "_law_at"]) fun _ _ _ _ _ _ us hl => match us, hl with | [_, _], _ => rfl
  have b_L_tap := F_L_tap.binds (ps := ["_law_cask_here", "_law_upto"]) fun _ _ _ _ _ _ us hl => match us, hl with | [_, _], _ => rfl
  have b_L_pick := F_L_pick.binds (ps := ["_law_cask_here", "_law_things"]) fun _ _ _ _ _ _ us hl => match us, hl with | [_, _], _ => rfl
  have b_L_spots := F_L_spots.binds (ps := ["_law_cask_here", "_law_many_here"]) fun _ _ _ _ _ _ us hl => match us, hl with | [_, _], _ => rfl
  have b_L_joint := F_L_joint.binds (ps := ["_law_one", "_law_two"]) fun _ _ _ _ _ _ us hl => match us, hl with | [_, _], _ => rfl
  have b_L_net := F_L_net.binds (ps := ["_law_cask_here", "_law_most_spots", "_law_most_rows"]) fun _ _ _ _ _ _ us hl => match us, hl with | [_, _, _], _ => rfl
  have b_L_herds := F_L_herds.binds (ps := ["_law_spots_here", "_law_rows"]) fun _ _ _ _ _ _ us hl => match us, hl with | [_, _], _ => rfl
  have b_L_lots := F_L_lots.binds (ps := ["_law_net_here"]) fun _ _ _ _ _ _ us hl => match us, hl with | [_], _ => rfl
  have b_L_is_round := F_L_is_round.binds (ps := ["_law_net_here", "_law_lot_here"]) fun _ _ _ _ _ _ us hl => match us, hl with | [_, _], _ => rfl
  have b_L_spots_lots := F_L_spots_lots.binds (ps := ["_law_net_here"]) fun _ _ _ _ _ _ us hl => match us, hl with | [_], _ => rfl
  have b_L_parts := F_L_parts.binds (ps := ["_law_net_here", "_law_lot_here"]) fun _ _ _ _ _ _ us hl => match us, hl with | [_, _], _ => rfl
  have b_L_met := F_L_met.binds (ps := ["_law_one", "_law_two"]) fun _ _ _ _ _ _ us hl => match us, hl with | [_, _], _ => rfl
  have b_L_even_one := F_L_even_one.binds (ps := ["_law_net_here", "_law_lot_here"]) fun _ _ _ _ _ _ us hl => match us, hl with | [_, _], _ => rfl
  have b_L_exchanged := F_L_exchanged.binds (ps := ["_law_lots_here"]) fun _ _ _ _ _ _ us hl => match us, hl with | [_], _ => rfl
  have b_L_right := F_L_right.binds (ps := ["_law_cask_here"]) fun _ _ _ _ _ _ us hl => match us, hl with | [_], _ => rfl
  have b_law := F_law.binds (ps := ["_law_cells"]) fun _ _ _ _ _ _ us hl => match us, hl with | [_], _ => rfl
  have b_i := F_i.binds (ps := ["self", "places", "ties"]) fun _ _ _ _ _ _ us hl => match us, hl with | [_, _, _], _ => rfl
  have kb_is_ring : KBn K fd_is_ring ["web", "lot"] 0 ["lot", "web"] (fun _ ws => swp2 ws) (fun _ zs => swp2 zs) := by
    obtain ⟨oc, od, kV, doc, pm, an, cdv, ct, osl, rfl, lk, hcd⟩ := F_is_ring.ex
    exact ⟨fun s us ws _ h1 h2 => match us, ws, h1, h2 with | [], [_, _], _, _ => .of_eq (by first | kernel_rfl | rfl), fun _ r => swp2_vals r⟩
  have kb_is_bond : KBn K fd_is_bond ["web", "lot"] 0 ["lot", "web"] (fun _ ws => swp2 ws) (fun _ zs => swp2 zs) := by
    obtain ⟨oc, od, kV, doc, pm, an, cdv, ct, osl, rfl, lk, hcd⟩ := F_is_bond.ex
    exact ⟨fun s us ws _ h1 h2 => match us, ws, h1, h2 with | [], [_, _], _, _ => .of_eq (by first | kernel_rfl | rfl), fun _ r => swp2_vals r⟩
  have kb_is_even : KBn K fd_is_even ["web", "lot"] 0 ["lot", "web"] (fun _ ws => swp2 ws) (fun _ zs => swp2 zs) := by
    obtain ⟨oc, od, kV, doc, pm, an, cdv, ct, osl, rfl, lk, hcd⟩ := F_is_even.ex
    exact ⟨fun s us ws _ h1 h2 => match us, ws, h1, h2 with | [], [_, _], _, _ => .of_eq (by first | kernel_rfl | rfl), fun _ r => swp2_vals r⟩
  have kb_rings : KBn K fd_rings ["web"] 0 ["web"] (fun _ ws => ws) (fun _ zs => zs) := by
    obtain ⟨oc, od, kV, doc, pm, an, cdv, ct, osl, rfl, lk, hcd⟩ := F_rings.ex
    exact ⟨fun s us ws _ h1 h2 => match us, ws, h1, h2 with | [], [_], _, _ => .of_eq (by first | kernel_rfl | rfl), fun _ r => r⟩
  have kb_bonds : KBn K fd_bonds ["web"] 0 ["web"] (fun _ ws => ws) (fun _ zs => zs) := by
    obtain ⟨oc, od, kV, doc, pm, an, cdv, ct, osl, rfl, lk, hcd⟩ := F_bonds.ex
    exact ⟨fun s us ws _ h1 h2 => match us, ws, h1, h2 with | [], [_], _, _ => .of_eq (by first | kernel_rfl | rfl), fun _ r => r⟩
  have kb_is_two_sided : KBn K fd_is_two_sided ["web", "lot"] 0 ["lot", "web"] (fun _ ws => swp2 ws) (fun _ zs => swp2 zs) := by
    obtain ⟨oc, od, kV, doc, pm, an, cdv, ct, osl, rfl, lk, hcd⟩ := F_is_two_sided.ex
    exact ⟨fun s us ws _ h1 h2 => match us, ws, h1, h2 with | [], [_, _], _, _ => .of_eq (by first | kernel_rfl | rfl), fun _ r => swp2_vals r⟩
  have kc : Cls K C := ⟨F.c_pg, F.c_hd, F.c_po, F.c_sa⟩
  refine ⟨{ is_integer := f_is_integer, fd_is_integer := fd_is_integer, is_integer_from := f_is_integer_from, fd_is_integer_from := fd_is_integer_from, are_letters := f_are_letters, fd_are_letters := fd_are_letters, are_places := f_are_places, fd_are_places := fd_are_places, is_tie := f_is_tie, fd_is_tie := fd_is_tie, first_wrong_tie := f_first_wrong_tie, fd_first_wrong_tie := fd_first_wrong_tie, where_no_lot := f_where_no_lot, fd_where_no_lot := fd_where_no_lot, check_places := f_check_places, fd_check_places := fd_check_places, check_ties := f_check_ties, fd_check_ties := fd_check_ties, check_lot := f_check_lot, fd_check_lot := fd_check_lot, check_web := f_check_web, fd_check_web := fd_check_web, marks := f_marks, fd_marks := fd_marks, check_web_and_lot := f_check_web_and_lot, fd_check_web_and_lot := fd_check_web_and_lot, lot_of_all := f_lot_of_all, fd_lot_of_all := fd_lot_of_all, without := f_without, fd_without := fd_without, outside_of := f_outside_of, fd_outside_of := fd_outside_of, lots_within := f_lots_within, fd_lots_within := fd_lots_within, all_lots := f_all_lots, fd_all_lots := fd_all_lots, all_herds := f_all_herds, fd_all_herds := fd_all_herds, crossing := f_crossing, fd_crossing := fd_crossing, rank_of := f_rank_of, fd_rank_of := fd_rank_of, spare_of := f_spare_of, fd_spare_of := fd_spare_of, full_rank := f_full_rank, fd_full_rank := fd_full_rank, is_ring_lot := f_is_ring_lot, fd_is_ring_lot := fd_is_ring_lot, is_bond_lot := f_is_bond_lot, fd_is_bond_lot := fd_is_bond_lot, rank := f_rank, fd_rank := fd_rank, spare := f_spare, fd_spare := fd_spare, is_ring := f_is_ring, fd_is_ring := fd_is_ring, is_bond := f_is_bond, fd_is_bond := fd_is_bond, is_even := f_is_even, fd_is_even := fd_is_even, is_two_sided := f_is_two_sided, fd_is_two_sided := fd_is_two_sided, rings := f_rings, fd_rings := fd_rings, bonds := f_bonds, fd_bonds := fd_bonds, bridges := f_bridges, fd_bridges := fd_bridges, L_cask := f_L_cask, fd_L_cask := fd_L_cask, L_tap := f_L_tap, fd_L_tap := fd_L_tap, L_pick := f_L_pick, fd_L_pick := fd_L_pick, L_spots := f_L_spots, fd_L_spots := fd_L_spots, L_joint := f_L_joint, fd_L_joint := fd_L_joint, L_net := f_L_net, fd_L_net := fd_L_net, L_herds := f_L_herds, fd_L_herds := fd_L_herds, L_lots := f_L_lots, fd_L_lots := fd_L_lots, L_is_round := f_L_is_round, fd_L_is_round := fd_L_is_round, L_spots_lots := f_L_spots_lots, fd_L_spots_lots := fd_L_spots_lots, L_parts := f_L_parts, fd_L_parts := fd_L_parts, L_met := f_L_met, fd_L_met := fd_L_met, L_even_one := f_L_even_one, fd_L_even_one := fd_L_even_one, L_exchanged := f_L_exchanged, fd_L_exchanged := fd_L_exchanged, L_right := f_L_right, fd_L_right := fd_L_right, law := fa, fd_law := fd_law, Web := C, Web_init := I, fd_Web_init := fd_i }, rfl, ?_⟩
  exact {
    F_is_integer := F_is_integer,
    b_is_integer := b_is_integer,
    g_is_integer := PySem.W.mg_of X G F.d_is_integer.ns,
    F_is_integer_from := F_is_integer_from,
    b_is_integer_from := b_is_integer_from,
    g_is_integer_from := PySem.W.mg_of X G F.d_is_integer_from.ns,
    F_are_letters := F_are_letters,
    b_are_letters := b_are_letters,
    g_are_letters := PySem.W.mg_of X G F.d_are_letters.ns,
    F_are_places := F_are_places,
    b_are_places := b_are_places,
    g_are_places := PySem.W.mg_of X G F.d_are_places.ns,
    F_is_tie := F_is_tie,
    b_is_tie := b_is_tie,
    g_is_tie := PySem.W.mg_of X G F.d_is_tie.ns,
    F_first_wrong_tie := F_first_wrong_tie,
    b_first_wrong_tie := b_first_wrong_tie,
    g_first_wrong_tie := PySem.W.mg_of X G F.d_first_wrong_tie.ns,
    F_where_no_lot := F_where_no_lot,
    b_where_no_lot := b_where_no_lot,
    g_where_no_lot := PySem.W.mg_of X G F.d_where_no_lot.ns,
    F_check_places := F_check_places,
    b_check_places := b_check_places,
    g_check_places := PySem.W.mg_of X G F.d_check_places.ns,
    F_check_ties := F_check_ties,
    b_check_ties := b_check_ties,
    g_check_ties := PySem.W.mg_of X G F.d_check_ties.ns,
    F_check_lot := F_check_lot,
    b_check_lot := b_check_lot,
    g_check_lot := PySem.W.mg_of X G F.d_check_lot.ns,
    F_check_web := F_check_web,
    b_check_web := b_check_web,
    g_check_web := PySem.W.mg_of X G F.d_check_web.ns,
    F_marks := F_marks,
    b_marks := b_marks,
    g_marks := PySem.W.mg_of X G F.d_marks.ns,
    F_check_web_and_lot := F_check_web_and_lot,
    b_check_web_and_lot := b_check_web_and_lot,
    g_check_web_and_lot := PySem.W.mg_of X G F.d_check_web_and_lot.ns,
    F_lot_of_all := F_lot_of_all,
    b_lot_of_all := b_lot_of_all,
    g_lot_of_all := PySem.W.mg_of X G F.d_lot_of_all.ns,
    F_without := F_without,
    b_without := b_without,
    g_without := PySem.W.mg_of X G F.d_without.ns,
    F_outside_of := F_outside_of,
    b_outside_of := b_outside_of,
    g_outside_of := PySem.W.mg_of X G F.d_outside_of.ns,
    F_lots_within := F_lots_within,
    b_lots_within := b_lots_within,
    g_lots_within := PySem.W.mg_of X G F.d_lots_within.ns,
    F_all_lots := F_all_lots,
    b_all_lots := b_all_lots,
    g_all_lots := PySem.W.mg_of X G F.d_all_lots.ns,
    F_all_herds := F_all_herds,
    b_all_herds := b_all_herds,
    g_all_herds := PySem.W.mg_of X G F.d_all_herds.ns,
    F_crossing := F_crossing,
    b_crossing := b_crossing,
    g_crossing := PySem.W.mg_of X G F.d_crossing.ns,
    F_rank_of := F_rank_of,
    b_rank_of := b_rank_of,
    g_rank_of := PySem.W.mg_of X G F.d_rank_of.ns,
    F_spare_of := F_spare_of,
    b_spare_of := b_spare_of,
    g_spare_of := PySem.W.mg_of X G F.d_spare_of.ns,
    F_full_rank := F_full_rank,
    b_full_rank := b_full_rank,
    g_full_rank := PySem.W.mg_of X G F.d_full_rank.ns,
    F_is_ring_lot := F_is_ring_lot,
    b_is_ring_lot := b_is_ring_lot,
    g_is_ring_lot := PySem.W.mg_of X G F.d_is_ring_lot.ns,
    F_is_bond_lot := F_is_bond_lot,
    b_is_bond_lot := b_is_bond_lot,
    g_is_bond_lot := PySem.W.mg_of X G F.d_is_bond_lot.ns,
    F_rank := F_rank,
    b_rank := b_rank,
    g_rank := PySem.W.mg_of X G F.d_rank.ns,
    F_spare := F_spare,
    b_spare := b_spare,
    g_spare := PySem.W.mg_of X G F.d_spare.ns,
    F_is_ring := F_is_ring,
    b_is_ring := b_is_ring,
    g_is_ring := PySem.W.mg_of X G F.d_is_ring.ns,
    F_is_bond := F_is_bond,
    b_is_bond := b_is_bond,
    g_is_bond := PySem.W.mg_of X G F.d_is_bond.ns,
    F_is_even := F_is_even,
    b_is_even := b_is_even,
    g_is_even := PySem.W.mg_of X G F.d_is_even.ns,
    F_is_two_sided := F_is_two_sided,
    b_is_two_sided := b_is_two_sided,
    g_is_two_sided := PySem.W.mg_of X G F.d_is_two_sided.ns,
    F_rings := F_rings,
    b_rings := b_rings,
    g_rings := PySem.W.mg_of X G F.d_rings.ns,
    F_bonds := F_bonds,
    b_bonds := b_bonds,
    g_bonds := PySem.W.mg_of X G F.d_bonds.ns,
    F_bridges := F_bridges,
    b_bridges := b_bridges,
    g_bridges := PySem.W.mg_of X G F.d_bridges.ns,
    F_L_cask := F_L_cask,
    b_L_cask := b_L_cask,
    g_L_cask := PySem.W.mg_of X G F.d_L_cask.ns,
    F_L_tap := F_L_tap,
    b_L_tap := b_L_tap,
    g_L_tap := PySem.W.mg_of X G F.d_L_tap.ns,
    F_L_pick := F_L_pick,
    b_L_pick := b_L_pick,
    g_L_pick := PySem.W.mg_of X G F.d_L_pick.ns,
    F_L_spots := F_L_spots,
    b_L_spots := b_L_spots,
    g_L_spots := PySem.W.mg_of X G F.d_L_spots.ns,
    F_L_joint := F_L_joint,
    b_L_joint := b_L_joint,
    g_L_joint := PySem.W.mg_of X G F.d_L_joint.ns,
    F_L_net := F_L_net,
    b_L_net := b_L_net,
    g_L_net := PySem.W.mg_of X G F.d_L_net.ns,
    F_L_herds := F_L_herds,
    b_L_herds := b_L_herds,
    g_L_herds := PySem.W.mg_of X G F.d_L_herds.ns,
    F_L_lots := F_L_lots,
    b_L_lots := b_L_lots,
    g_L_lots := PySem.W.mg_of X G F.d_L_lots.ns,
    F_L_is_round := F_L_is_round,
    b_L_is_round := b_L_is_round,
    g_L_is_round := PySem.W.mg_of X G F.d_L_is_round.ns,
    F_L_spots_lots := F_L_spots_lots,
    b_L_spots_lots := b_L_spots_lots,
    g_L_spots_lots := PySem.W.mg_of X G F.d_L_spots_lots.ns,
    F_L_parts := F_L_parts,
    b_L_parts := b_L_parts,
    g_L_parts := PySem.W.mg_of X G F.d_L_parts.ns,
    F_L_met := F_L_met,
    b_L_met := b_L_met,
    g_L_met := PySem.W.mg_of X G F.d_L_met.ns,
    F_L_even_one := F_L_even_one,
    b_L_even_one := b_L_even_one,
    g_L_even_one := PySem.W.mg_of X G F.d_L_even_one.ns,
    F_L_exchanged := F_L_exchanged,
    b_L_exchanged := b_L_exchanged,
    g_L_exchanged := PySem.W.mg_of X G F.d_L_exchanged.ns,
    F_L_right := F_L_right,
    b_L_right := b_L_right,
    g_L_right := PySem.W.mg_of X G F.d_L_right.ns,
    F_law := F_law,
    b_law := b_law,
    g_law := PySem.W.mg_of X G F.d_law.ns,
    z_abs := PySem.W.mg_none_of X G F.z_abs,
    z_all := PySem.W.mg_none_of X G F.z_all,
    z_any := PySem.W.mg_none_of X G F.z_any,
    z_bool := PySem.W.mg_none_of X G F.z_bool,
    z_divmod := PySem.W.mg_none_of X G F.z_divmod,
    z_enumerate := PySem.W.mg_none_of X G F.z_enumerate,
    z_int := PySem.W.mg_none_of X G F.z_int,
    z_isinstance := PySem.W.mg_none_of X G F.z_isinstance,
    z_len := PySem.W.mg_none_of X G F.z_len,
    z_list := PySem.W.mg_none_of X G F.z_list,
    z_max := PySem.W.mg_none_of X G F.z_max,
    z_min := PySem.W.mg_none_of X G F.z_min,
    z_range := PySem.W.mg_none_of X G F.z_range,
    z_sorted := PySem.W.mg_none_of X G F.z_sorted,
    z_str := PySem.W.mg_none_of X G F.z_str,
    z_tuple := PySem.W.mg_none_of X G F.z_tuple,
    z_zip := PySem.W.mg_none_of X G F.z_zip,
    c_MOST_PLACES := F.k_MOST_PLACES.elim fun t e => ⟨t, PySem.W.mg_of X G e⟩,
    c_MOST_TIES := F.k_MOST_TIES.elim fun t e => ⟨t, PySem.W.mg_of X G e⟩,
    c_LETTERS := F.k_LETTERS.elim fun t e => ⟨t, PySem.W.mg_of X G e⟩,
    c_NOWHERE := F.k_NOWHERE.elim fun t e => ⟨t, PySem.W.mg_of X G e⟩,
    g_Web := PySem.W.mg_of X G F.c_ns,
    k_Web := kc,
    i_Web := ⟨kc, F.c_ha, F.c_hn, F.c_ht, F.c_hm⟩,
    n_places := F.c_pl,
    n_ties := F.c_ti,
    m_Web := ⟨F.c_mk, F.c_init, F.c_fn, F.c_kc⟩,
    F_Web_init := F_i,
    b_Web_init := b_i,
    kb_is_ring := kb_is_ring,
    kb_is_bond := kb_is_bond,
    kb_is_even := kb_is_even,
    kb_rings := kb_rings,
    kb_bonds := kb_bonds,
    kb_is_two_sided := kb_is_two_sided }
theorem law_fn {P : Program} {w : World} {K : PySem.W.Frag} {mg : Str → Option Value} {fa : Addr} {h : Heap} (X : K.In h) (G : h.Ns mainGlobals mg) (H : ∃ A : Ad, A.law = fa ∧ Tx K mg A) :
    ∃ fd : FuncData, (∀ (s : Shared) (u : Value), BindsTo s fd ⟨[u], []⟩ [("_law_cells", u)]) ∧ ∀ base : Heap, K.In base → base.Ns mainGlobals mg → FnG P w K mg base 12 fa fd ["_law_cells"] (toSp K g_law) := by
  obtain ⟨A, rfl, T⟩ := H
  refine ⟨A.fd_law, fun s u => ?_, fun base _ _ => okG_law T⟩
  obtain ⟨oc, od, kV, doc, pm, an, cdv, ct, osl, e, lk, hcd⟩ := T.F_law.ex
  rw [e]
  exact .of_eq rfl
end K10
set_option Elab.async false
set_option linter.all false
open PySem PySem.W PyProof.Rows
set_option maxRecDepth 100000 in
set_option maxHeartbeats 0 in
theorem PySem.Challenge.cw_webreckon_k04_whole_rings_and_bonds_holds : PySem.Challenge.rw_webreckon_k04_whole_rings_and_bonds.Holds := by
  w_on; o_law; k_head; (case hw => w_witness2)
  k_fill
  refine DL.walk_ofD (l := PySem.Challenge.rw_webreckon_k04_whole_rings_and_bonds) (n := 63) (k := 12) (x := "_law_cells") (g := K10.g_law) rfl (by decide) rfl ⟨rfl, by decide, by decide⟩ (fun w h Y => PySem.W.kIn_of Y) ?F ?hsp
  case hsp => exact fun ns hl _ => ⟨ns, rfl, hl, fun _ => rfl⟩
  case F =>
    intro w mg fa h KX G hmg
    refine' K10.law_fn KX G (K10.all_mk KX G hmg ?FF)
    case FF =>
      refine' K10.Facts.mk ?d_is_integer ?d_is_integer_from ?d_are_letters ?d_are_places ?d_is_tie ?d_first_wrong_tie ?d_where_no_lot ?d_check_places ?d_check_ties ?d_check_lot ?d_check_web ?d_marks ?d_check_web_and_lot ?d_lot_of_all ?d_without ?d_outside_of ?d_lots_within ?d_all_lots ?d_all_herds ?d_crossing ?d_rank_of ?d_spare_of ?d_full_rank ?d_is_ring_lot ?d_is_bond_lot ?d_rank ?d_spare ?d_is_ring ?d_is_bond ?d_is_even ?d_is_two_sided ?d_rings ?d_bonds ?d_bridges ?d_L_cask ?d_L_tap ?d_L_pick ?d_L_spots ?d_L_joint ?d_L_net ?d_L_herds ?d_L_lots ?d_L_is_round ?d_L_spots_lots ?d_L_parts ?d_L_met ?d_L_even_one ?d_L_exchanged ?d_L_right ?d_law ?i_d ?c_ns ?c_init ?c_fn ?c_pg ?c_hd ?c_po ?c_sa ?c_mk ?c_kc ?c_pl ?c_ti ?c_ha ?c_hn ?c_ht ?c_hm ?z_abs ?z_all ?z_any ?z_bool ?z_divmod ?z_enumerate ?z_int ?z_isinstance ?z_len ?z_list ?z_max ?z_min ?z_range ?z_sorted ?z_str ?z_tuple ?z_zip ?k_MOST_PLACES ?k_MOST_TIES ?k_LETTERS ?k_NOWHERE
      (case d_is_integer => refine' K10.def_mk ?a ?l ?c ?k; (case a => k_is); (case l => k_is); (case c => k_is); (case k => k_is))
      (case d_is_integer_from => refine' K10.def_mk ?a ?l ?c ?k; (case a => k_is); (case l => k_is); (case c => k_is); (case k => k_is))
      (case d_are_letters => refine' K10.def_mk ?a ?l ?c ?k; (case a => k_is); (case l => k_is); (case c => k_is); (case k => k_is))
      (case d_are_places => refine' K10.def_mk ?a ?l ?c ?k; (case a => k_is); (case l => k_is); (case c => k_is); (case k => k_is))
      (case d_is_tie => refine' K10.def_mk ?a ?l ?c ?k; (case a => k_is); (case l => k_is); (case c => k_is); (case k => k_is))
      (case d_first_wrong_tie => refine' K10.def_mk ?a ?l ?c ?k; (case a => k_is); (case l => k_is); (case c => k_is); (case k => k_is))
      (case d_where_no_lot => refine' K10.def_mk ?a ?l ?c ?k; (case a => k_is); (case l => k_is); (case c => k_is); (case k => k_is))
      (case d_check_places => refine' K10.def_mk ?a ?l ?c ?k; (case a => k_is); (case l => k_is); (case c => k_is); (case k => k_is))
      (case d_check_ties => refine' K10.def_mk ?a ?l ?c ?k; (case a => k_is); (case l => k_is); (case c => k_is); (case k => k_is))
      (case d_check_lot => refine' K10.def_mkD ?a ?l ?c ?k ?lT; (case a => k_is); (case l => k_is); (case c => k_is); (case k => k_is); (case lT => k_is))
      (case d_check_web => refine' K10.def_mk ?a ?l ?c ?k; (case a => k_is); (case l => k_is); (case c => k_is); (case k => k_is))
      (case d_marks => refine' K10.def_mk ?a ?l ?c ?k; (case a => k_is); (case l => k_is); (case c => k_is); (case k => k_is))
      (case d_check_web_and_lot => refine' K10.def_mk ?a ?l ?c ?k; (case a => k_is); (case l => k_is); (case c => k_is); (case k => k_is))
      (case d_lot_of_all => refine' K10.def_mk ?a ?l ?c ?k; (case a => k_is); (case l => k_is); (case c => k_is); (case k => k_is))
      (case d_without => refine' K10.def_mk ?a ?l ?c ?k; (case a => k_is); (case l => k_is); (case c => k_is); (case k => k_is))
      (case d_outside_of => refine' K10.def_mk ?a ?l ?c ?k; (case a => k_is); (case l => k_is); (case c => k_is); (case k => k_is))
      (case d_lots_within => refine' K10.def_mk ?a ?l ?c ?k; (case a => k_is); (case l => k_is); (case c => k_is); (case k => k_is))
      (case d_all_lots => refine' K10.def_mk ?a ?l ?c ?k; (case a => k_is); (case l => k_is); (case c => k_is); (case k => k_is))
      (case d_all_herds => refine' K10.def_mk ?a ?l ?c ?k; (case a => k_is); (case l => k_is); (case c => k_is); (case k => k_is))
      (case d_crossing => refine' K10.def_mk ?a ?l ?c ?k; (case a => k_is); (case l => k_is); (case c => k_is); (case k => k_is))
      (case d_rank_of => refine' K10.def_mk ?a ?l ?c ?k; (case a => k_is); (case l => k_is); (case c => k_is); (case k => k_is))
      (case d_spare_of => refine' K10.def_mk ?a ?l ?c ?k; (case a => k_is); (case l => k_is); (case c => k_is); (case k => k_is))
      (case d_full_rank => refine' K10.def_mk ?a ?l ?c ?k; (case a => k_is); (case l => k_is); (case c => k_is); (case k => k_is))
      (case d_is_ring_lot => refine' K10.def_mk ?a ?l ?c ?k; (case a => k_is); (case l => k_is); (case c => k_is); (case k => k_is))
      (case d_is_bond_lot => refine' K10.def_mk ?a ?l ?c ?k; (case a => k_is); (case l => k_is); (case c => k_is); (case k => k_is))
      (case d_rank => refine' K10.def_mk ?a ?l ?c ?k; (case a => k_is); (case l => k_is); (case c => k_is); (case k => k_is))
      (case d_spare => refine' K10.def_mk ?a ?l ?c ?k; (case a => k_is); (case l => k_is); (case c => k_is); (case k => k_is))
      (case d_is_ring => refine' K10.def_mk ?a ?l ?c ?k; (case a => k_is); (case l => k_is); (case c => k_is); (case k => k_is))
      (case d_is_bond => refine' K10.def_mk ?a ?l ?c ?k; (case a => k_is); (case l => k_is); (case c => k_is); (case k => k_is))
      (case d_is_even => refine' K10.def_mk ?a ?l ?c ?k; (case a => k_is); (case l => k_is); (case c => k_is); (case k => k_is))
      (case d_is_two_sided => refine' K10.def_mk ?a ?l ?c ?k; (case a => k_is); (case l => k_is); (case c => k_is); (case k => k_is))
      (case d_rings => refine' K10.def_mk ?a ?l ?c ?k; (case a => k_is); (case l => k_is); (case c => k_is); (case k => k_is))
      (case d_bonds => refine' K10.def_mk ?a ?l ?c ?k; (case a => k_is); (case l => k_is); (case c => k_is); (case k => k_is))
      (case d_bridges => refine' K10.def_mk ?a ?l ?c ?k; (case a => k_is); (case l => k_is); (case c => k_is); (case k => k_is))
      (case d_L_cask => refine' K10.def_mk ?a ?l ?c ?k; (case a => k_is); (case l => k_is); (case c => k_is); (case k => k_is))
      (case d_L_tap => refine' K10.def_mk ?a ?l ?c ?k; (case a => k_is); (case l => k_is); (case c => k_is); (case k => k_is))
      (case d_L_pick => refine' K10.def_mk ?a ?l ?c ?k; (case a => k_is); (case l => k_is); (case c => k_is); (case k => k_is))
      (case d_L_spots => refine' K10.def_mk ?a ?l ?c ?k; (case a => k_is); (case l => k_is); (case c => k_is); (case k => k_is))
      (case d_L_joint => refine' K10.def_mk ?a ?l ?c ?k; (case a => k_is); (case l => k_is); (case c => k_is); (case k => k_is))
      (case d_L_net => refine' K10.def_mk ?a ?l ?c ?k; (case a => k_is); (case l => k_is); (case c => k_is); (case k => k_is))
      (case d_L_herds => refine' K10.def_mk ?a ?l ?c ?k; (case a => k_is); (case l => k_is); (case c => k_is); (case k => k_is))
      (case d_L_lots => refine' K10.def_mk ?a ?l ?c ?k; (case a => k_is); (case l => k_is); (case c => k_is); (case k => k_is))
      (case d_L_is_round => refine' K10.def_mk ?a ?l ?c ?k; (case a => k_is); (case l => k_is); (case c => k_is); (case k => k_is))
      (case d_L_spots_lots => refine' K10.def_mk ?a ?l ?c ?k; (case a => k_is); (case l => k_is); (case c => k_is); (case k => k_is))
      (case d_L_parts => refine' K10.def_mk ?a ?l ?c ?k; (case a => k_is); (case l => k_is); (case c => k_is); (case k => k_is))
      (case d_L_met => refine' K10.def_mk ?a ?l ?c ?k; (case a => k_is); (case l => k_is); (case c => k_is); (case k => k_is))
      (case d_L_even_one => refine' K10.def_mk ?a ?l ?c ?k; (case a => k_is); (case l => k_is); (case c => k_is); (case k => k_is))
      (case d_L_exchanged => refine' K10.def_mk ?a ?l ?c ?k; (case a => k_is); (case l => k_is); (case c => k_is); (case k => k_is))
      (case d_L_right => refine' K10.def_mk ?a ?l ?c ?k; (case a => k_is); (case l => k_is); (case c => k_is); (case k => k_is))
      (case d_law => refine' K10.def_mk ?a ?l ?c ?k; (case a => k_is); (case l => k_is); (case c => k_is); (case k => k_is))
      (case c_ns => k_is)
      (case c_init => k_is)
      (case i_d => refine' K10.init_mk ?l ?c ?k; (case l => k_is); (case c => k_is); (case k => k_is))
      (case c_fn => k_is)
      (case c_pg => k_is)
      (case c_hd => k_is)
      (case c_po => k_is)
      (case c_sa => k_is)
      (case c_mk => k_is)
      (case c_kc => k_is)
      (case c_pl => k_is)
      (case c_ti => k_is)
      (case c_ha => k_is)
      (case c_hn => k_is)
      (case c_ht => k_is)
      (case c_hm => k_is)
      (case z_abs => k_is)
      (case z_all => k_is)
      (case z_any => k_is)
      (case z_bool => k_is)
      (case z_divmod => k_is)
      (case z_enumerate => k_is)
      (case z_int => k_is)
      (case z_isinstance => k_is)
      (case z_len => k_is)
      (case z_list => k_is)
      (case z_max => k_is)
      (case z_min => k_is)
      (case z_range => k_is)
      (case z_sorted => k_is)
      (case z_str => k_is)
      (case z_tuple => k_is)
      (case z_zip => k_is)
      (case k_MOST_PLACES => refine' K10.int_mk ?e; (case e => k_is))
      (case k_MOST_TIES => refine' K10.int_mk ?e; (case e => k_is))
      (case k_LETTERS => refine' K10.str_mk ?e; (case e => k_is))
      (case k_NOWHERE => refine' K10.int_mk ?e; (case e => k_is))
