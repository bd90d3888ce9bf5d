import PyProof.Rows.All
import Wide.All
import OpenK.AllK
import Wide.FinOn
import HandS.ForMost
import HandS.Walk
import HandS.TupAny
import HandS.WideBits
import HandS.IsInst
import HandS.Replace
import HandS.More
import PyProof.ListStr
import HandS.Conv
import KE.GoesMore
import KE.GoesEnum
import PyProof.Rows.SortShellAny
import HandS.SortOrd
import HandS.TupLe
import HandS.TupSets
import HandS.Small
import HandS.Strs
import HandS.Zip
import HandS.Defaults
import HandS.Ends
import HandS.EndBits
import HandS.RaiseMore
import PyProof.ReprRoads
import PyProof.Rows.RegFStrParts
import HandS.Style
import HandS.ReplaceList
import PyProof.StrLawsIn
import HandS.TupMul
import HandS.CallLocal
import HandS.SetFor
import HandS.Deep
import PyProof.CallFns
import HandS.Gcd
import KE.KMathGC
import HandS.Star
import KE.KDictZip
import KE.SortData
import KE.DataMinMax
import HandS.SortKw
import OpenK.KMake
import PySem.Challenge.RW_webreckon_k18_whole_single_leanings
import PyProof.StrBlock2
import HandS.Comp
import PyProof.ToksMono
import HandS.DictComp
import HandS.ListItems
import KE.KDictList
import PyProof.TupleOfSeq
import HandS.SetKeys
import PyProof.DictMoreH
import PyProof.SliceStr2
import KE.KRevSl
set_option Elab.async false
set_option linter.all false
set_option maxRecDepth 100000
/-! A data layer over the hand layer: values as deep data, a small store for what is mutable; readings without addresses of what never changes. -/
namespace DL
open PySem PySem.Spec PyProof.Rows L2
/-! ### data -/
inductive D where
  | non | bl (b : Bool) | int (i : Int) | str (x : Str) | tup (ds : List D) | lst (ds : List D) | seq (ds : List D)
  | ins (C : Addr) (fs : List (Str × D)) | adr (a : Addr)
/-- what is mutable -/
inductive MO where
  | lst (ds : List D) | dct (kvs : List (Key × D)) | dtt (kvs : List (List Key × D)) | ins (C : Addr) (fs : List (Str × D))
  /-- a dict that is walked -/
  | lck (kvs : List (List Key × D))
  /-- a tuple that was just made, its object known -/
  | ftp (ds : List D)
abbrev Mu := Addr → Option MO
def put (μ : Mu) (a : Addr) (o : MO) : Mu := fun b => if b = a then some o else μ b
def del (μ : Mu) (a : Addr) : Mu := fun b => if b = a then none else μ b
theorem put_same {μ : Mu} {a : Addr} {o : MO} : put μ a o a = some o := by unfold put; rw [if_pos rfl]
theorem put_ne {μ : Mu} {a b : Addr} {o : MO} (h : b ≠ a) : put μ a o b = μ b := by unfold put; rw [if_neg h]
theorem del_same {μ : Mu} {a : Addr} : del μ a a = none := by unfold del; rw [if_pos rfl]
theorem del_ne {μ : Mu} {a b : Addr} (h : b ≠ a) : del μ a b = μ b := by unfold del; rw [if_neg h]
theorem put_put {μ : Mu} {a : Addr} {o u : MO} : put (put μ a o) a u = put μ a u := by
  funext b; unfold put; split <;> rfl
theorem del_put {μ : Mu} {a : Addr} {o : MO} (h : μ a = none) : del (put μ a o) a = μ := by
  funext b; unfold del put; split
  · rename_i e; rw [e, h]
  · rfl
theorem put_comm {μ : Mu} {a b : Addr} {o u : MO} (h : a ≠ b) : put (put μ a o) b u = put (put μ b u) a o := by
  funext c; unfold put
  by_cases h1 : c = b
  · rw [if_pos h1, if_neg (fun e => h (e.symm.trans h1)), if_pos h1]
  · rw [if_neg h1, if_neg h1]
/-! ### what stands for what -/
section
variable (K : PySem.W.Frag) (H : Hp) (μ : Mu)
/-- a tuple, a list that nobody changes -/
def ImT (a : Addr) (vs : List V) : Prop := (H a = some (.tup vs) ∧ μ a = none) ∨ (∀ H' : Hp, SqT K H' a vs) ∧ False
def ImQ (a : Addr) (vs : List V) : Prop := (Rd H a (.lst vs) ∧ μ a = none) ∨ ∀ H' : Hp, SqL K H' a vs
mutual
def Rep : D → V → Prop
  | .non, v => v = .non
  | .bl b, v => v = .bl b
  | .int i, v => v = .int i
  | .str x, v => v = .str x
  | .tup ds, v => ∃ a vs, v = .ref a ∧ ImT K H μ a vs ∧ RepL ds vs
  | .lst ds, v => ∃ a vs, v = .ref a ∧ H a = some (.lst vs) ∧ μ a = none ∧ RepL ds vs
  | .seq ds, v => ∃ a vs, v = .ref a ∧ ImQ K H μ a vs ∧ RepL ds vs
  | .ins C fs, v => ∃ a dx fv, v = .ref a ∧ H a = some (.ins C dx fv) ∧ μ a = none ∧ RepF fs fv
  | .adr a, v => v = .ref a
def RepL : List D → List V → Prop
  | [], vs => vs = []
  | d :: ds, vs => ∃ v r, vs = v :: r ∧ Rep d v ∧ RepL ds r
def RepF : List (Str × D) → List (Str × V) → Prop
  | [], fv => fv = []
  | (x, d) :: fs, fv => ∃ v r, fv = (x, v) :: r ∧ Rep d v ∧ RepF fs r
end
def RepK {κ : Type} : List (κ × D) → List (κ × V) → Prop
  | [], kv => kv = []
  | (k, d) :: r, kv => ∃ v s, kv = (k, v) :: s ∧ Rep K H μ d v ∧ RepK r s
def RepO : MO → Addr → Prop
  | .lst ds, a => ∃ vs, H a = some (.lst vs) ∧ RepL K H μ ds vs
  | .dct kvs, a => ∃ kv, H a = some (.dK kv) ∧ RepK K H μ kvs kv
  | .dtt kvs, a => ∃ kv, H a = some (.dT kv) ∧ RepK K H μ kvs kv
  | .lck kvs, a => ∃ o kv, H a = some (.frz o (.dT kv)) ∧ RepK K H μ kvs kv
  | .ftp ds, a => ∃ o vs, H a = some (.frz o (.tup vs)) ∧ o.dict = none ∧ RepL K H μ ds vs
  | .ins C fs, a => ∃ dx fv, H a = some (.ins C dx fv) ∧ RepF K H μ fs fv
/-- the store is there -/
def RM : Prop := ∀ a o, μ a = some o → RepO K H μ o a
end
abbrev DS := List (Option D)
def RepS (K : PySem.W.Frag) (H : Hp) (μ : Mu) : DS → L2.St → Prop
  | [], σ => σ = []
  | none :: δ, σ => ∃ o r, σ = o :: r ∧ RepS K H μ δ r
  | some d :: δ, σ => ∃ v r, σ = some v :: r ∧ Rep K H μ d v ∧ RepS K H μ δ r
/-- what was tracked and not in the store stays; the store only takes what was there, or new -/
structure Kp (H : Hp) (μ : Mu) (H' : Hp) (μ' : Mu) : Prop where
  k1 : ∀ b o, H b = some o → μ b = none → H' b = some o
  k2 : ∀ b, μ' b ≠ none → μ b ≠ none ∨ H b = none
theorem Kp.refl (H : Hp) (μ : Mu) : Kp H μ H μ := ⟨fun _ _ h _ => h, fun _ h => .inl h⟩
theorem Kp.free {H H' : Hp} {μ μ' : Mu} (k : Kp H μ H' μ') {b : Addr} {o : HO} (h : H b = some o) (n : μ b = none) : μ' b = none := by
  cases q : μ' b with
  | none => rfl
  | some u =>
    rcases k.k2 b (by rw [q]; simp) with z | z
    · exact absurd n z
    · rw [h] at z; cases z
theorem Kp.trans {H H1 H2 : Hp} {μ μ1 μ2 : Mu} (a : Kp H μ H1 μ1) (b : Kp H1 μ1 H2 μ2) : Kp H μ H2 μ2 := by
  refine ⟨fun c o h n => b.k1 c o (a.k1 c o h n) (a.free h n), fun c h => ?_⟩
  rcases b.k2 c h with z | z
  · exact a.k2 c z
  · cases q : H c with
    | none => exact .inr rfl
    | some o =>
      left
      intro n
      have := a.k1 c o q n
      rw [z] at this; cases this
/-- something new, not in the store -/
theorem Kp.new {H : Hp} {μ : Mu} {p : Addr} {o : HO} (n : H p = none) : Kp H μ (upd H p o) μ :=
  ⟨fun b u e _ => by rw [upd_ne (ne_of_none e n)]; exact e, fun _ h => .inl h⟩
/-- something new, in the store -/
theorem Kp.cell {H : Hp} {μ : Mu} {p : Addr} {o : HO} {m : MO} (n : H p = none) : Kp H μ (upd H p o) (put μ p m) := by
  refine ⟨fun b u e _ => by rw [upd_ne (ne_of_none e n)]; exact e, fun b h => ?_⟩
  by_cases e : b = p
  · right; rw [e]; exact n
  · left; rw [put_ne e] at h; exact h
/-- what is in the store changes -/
theorem Kp.write {H : Hp} {μ : Mu} {p : Addr} {o : HO} {m u : MO} (n : μ p = some u) : Kp H μ (upd H p o) (put μ p m) := by
  refine ⟨fun b w e z => ?_, fun b h => ?_⟩
  · have : b ≠ p := by rintro rfl; rw [n] at z; cases z
    rw [upd_ne this]; exact e
  · by_cases e : b = p
    · left; rw [e, n]; simp
    · left; rw [put_ne e] at h; exact h
theorem Kp.drop {H : Hp} {μ : Mu} {p : Addr} : Kp H μ H (del μ p) := by
  refine ⟨fun b o e _ => e, fun b h => ?_⟩
  by_cases e : b = p
  · rw [e, del_same] at h; exact absurd rfl h
  · left; rw [del_ne e] at h; exact h
section
variable {K : PySem.W.Frag} {H H' : Hp} {μ μ' : Mu}
theorem ImT.mono {a : Addr} {vs : List V} (k : Kp H μ H' μ') (h : ImT K H μ a vs) : ImT K H' μ' a vs := by
  rcases h with ⟨h, n⟩ | h
  · exact .inl ⟨k.k1 _ _ h n, k.free h n⟩
  · exact .inr h
theorem ImQ.mono {a : Addr} {vs : List V} (k : Kp H μ H' μ') (h : ImQ K H μ a vs) : ImQ K H' μ' a vs := by
  rcases h with ⟨h, n⟩ | h
  · rcases h with h | ⟨o, h⟩
    · exact .inl ⟨.inl (k.k1 _ _ h n), k.free h n⟩
    · exact .inl ⟨.inr ⟨o, k.k1 _ _ h n⟩, k.free h n⟩
  · exact .inr h
theorem ImT.sq {a : Addr} {vs : List V} (h : ImT K H μ a vs) : SqT K H a vs := h.elim (fun h => .inl (.inl h.1)) fun h => h.2.elim
theorem ImT.at_ {a : Addr} {vs : List V} (h : ImT K H μ a vs) : H a = some (.tup vs) ∧ μ a = none := h.elim id fun h => h.2.elim
theorem ImQ.sq {a : Addr} {vs : List V} (h : ImQ K H μ a vs) : SqL K H a vs := h.elim (fun h => .inl h.1) fun h => h H
mutual
theorem Rep.mono (k : Kp H μ H' μ') : ∀ (d : D) (v : V), Rep K H μ d v → Rep K H' μ' d v
  | .non, _, h => by unfold Rep at h ⊢; exact h
  | .bl _, _, h => by unfold Rep at h ⊢; exact h
  | .int _, _, h => by unfold Rep at h ⊢; exact h
  | .str _, _, h => by unfold Rep at h ⊢; exact h
  | .tup ds, _, h => by
    unfold Rep at h ⊢
    obtain ⟨a, vs, e, i, r⟩ := h
    exact ⟨a, vs, e, i.mono k, RepL.mono k ds vs r⟩
  | .lst ds, _, h => by
    unfold Rep at h ⊢
    obtain ⟨a, vs, e, i, n, r⟩ := h
    exact ⟨a, vs, e, k.k1 _ _ i n, k.free i n, RepL.mono k ds vs r⟩
  | .seq ds, _, h => by
    unfold Rep at h ⊢
    obtain ⟨a, vs, e, i, r⟩ := h
    exact ⟨a, vs, e, i.mono k, RepL.mono k ds vs r⟩
  | .ins C fs, _, h => by
    unfold Rep at h ⊢
    obtain ⟨a, dx, fv, e, i, n, r⟩ := h
    exact ⟨a, dx, fv, e, k.k1 _ _ i n, k.free i n, RepF.mono k fs fv r⟩
  | .adr _, _, h => by unfold Rep at h ⊢; exact h
theorem RepL.mono (k : Kp H μ H' μ') : ∀ (ds : List D) (vs : List V), RepL K H μ ds vs → RepL K H' μ' ds vs
  | [], _, h => by unfold RepL at h ⊢; exact h
  | d :: ds, _, h => by
    unfold RepL at h ⊢
    obtain ⟨v, r, e, h1, h2⟩ := h
    exact ⟨v, r, e, Rep.mono k d v h1, RepL.mono k ds r h2⟩
theorem RepF.mono (k : Kp H μ H' μ') : ∀ (fs : List (Str × D)) (fv : List (Str × V)), RepF K H μ fs fv → RepF K H' μ' fs fv
  | [], _, h => by unfold RepF at h ⊢; exact h
  | (x, d) :: fs, _, h => by
    unfold RepF at h ⊢
    obtain ⟨v, r, e, h1, h2⟩ := h
    exact ⟨v, r, e, Rep.mono k d v h1, RepF.mono k fs r h2⟩
end
theorem RepK.mono {κ : Type} (k : Kp H μ H' μ') : ∀ (fs : List (κ × D)) (fv : List (κ × V)), RepK K H μ fs fv → RepK K H' μ' fs fv
  | [], _, h => by unfold RepK at h ⊢; exact h
  | (x, d) :: fs, _, h => by
    unfold RepK at h ⊢
    obtain ⟨v, r, e, h1, h2⟩ := h
    exact ⟨v, r, e, Rep.mono k d v h1, RepK.mono k fs r h2⟩
theorem RepS.mono (k : Kp H μ H' μ') : ∀ (δ : DS) (σ : L2.St), RepS K H μ δ σ → RepS K H' μ' δ σ
  | [], _, h => by unfold RepS at h ⊢; exact h
  | none :: δ, _, h => by
    unfold RepS at h ⊢
    obtain ⟨o, r, e, h2⟩ := h
    exact ⟨o, r, e, RepS.mono k δ r h2⟩
  | some d :: δ, _, h => by
    unfold RepS at h ⊢
    obtain ⟨v, r, e, h1, h2⟩ := h
    exact ⟨v, r, e, h1.mono k, RepS.mono k δ r h2⟩
end
section
variable {K : PySem.W.Frag} {H H' : Hp} {μ μ' : Mu}
theorem RepL.length : ∀ {ds : List D} {vs : List V}, RepL K H μ ds vs → vs.length = ds.length
  | [], _, h => by
    unfold RepL at h
    rw [h] <;> rfl
  | d :: ds, _, h => by
    unfold RepL at h
    obtain ⟨v, r, rfl, _, h2⟩ := h
    show r.length + 1 = ds.length + 1
    rw [RepL.length h2]
theorem RepL.at_ : ∀ {ds : List D} {vs : List V} {i : Nat} {d : D}, RepL K H μ ds vs → ds[i]? = some d → ∃ v, vs[i]? = some v ∧ Rep K H μ d v
  | [], _, _, _, h, e => by simp at e
  | d :: ds, _, 0, x, h, e => by
    unfold RepL at h
    obtain ⟨v, r, rfl, h1, _⟩ := h
    have e' : d = x := by simpa using e
    subst e'
    exact ⟨v, rfl, h1⟩
  | d :: ds, _, i + 1, x, h, e => by
    unfold RepL at h
    obtain ⟨v, r, rfl, _, h2⟩ := h
    obtain ⟨u, e1, h3⟩ := RepL.at_ (i := i) h2 (by simpa using e)
    exact ⟨u, by simpa using e1, h3⟩
theorem RepL.atV : ∀ {ds : List D} {vs : List V} {i : Nat} {v : V}, RepL K H μ ds vs → vs[i]? = some v → ∃ d, ds[i]? = some d ∧ Rep K H μ d v
  | [], _, _, _, h, e => by
    unfold RepL at h
    rw [h] at e
    simp at e
  | d :: ds, _, 0, x, h, e => by
    unfold RepL at h
    obtain ⟨v, r, rfl, h1, _⟩ := h
    have e' : v = x := by simpa using e
    subst e'
    exact ⟨d, rfl, h1⟩
  | d :: ds, _, i + 1, x, h, e => by
    unfold RepL at h
    obtain ⟨v, r, rfl, _, h2⟩ := h
    obtain ⟨u, e1, h3⟩ := RepL.atV (i := i) h2 (by simpa using e)
    exact ⟨u, by simpa using e1, h3⟩
theorem RepL.nil : RepL K H μ [] [] := by unfold RepL; rfl
theorem RepL.cons {d : D} {v : V} {ds : List D} {vs : List V} (h : Rep K H μ d v) (h2 : RepL K H μ ds vs) : RepL K H μ (d :: ds) (v :: vs) := by
  unfold RepL; exact ⟨v, vs, rfl, h, h2⟩
theorem RepL.append : ∀ {ds es : List D} {vs us : List V}, RepL K H μ ds vs → RepL K H μ es us → RepL K H μ (ds ++ es) (vs ++ us)
  | [], _, _, _, h, h' => by
    unfold RepL at h
    rw [h]
    exact h'
  | d :: ds, _, _, _, h, h' => by
    unfold RepL at h
    obtain ⟨v, r, rfl, h1, h2⟩ := h
    exact RepL.cons h1 (RepL.append h2 h')
theorem RepL.take : ∀ {ds : List D} {vs : List V} (n : Nat), RepL K H μ ds vs → RepL K H μ (ds.take n) (vs.take n)
  | _, _, 0, _ => by simpa using RepL.nil
  | [], _, n + 1, h => by
    unfold RepL at h
    rw [h]
    simpa using RepL.nil
  | d :: ds, _, n + 1, h => by
    unfold RepL at h
    obtain ⟨v, r, rfl, h1, h2⟩ := h
    simpa using RepL.cons h1 (RepL.take n h2)
theorem RepL.drop : ∀ {ds : List D} {vs : List V} (n : Nat), RepL K H μ ds vs → RepL K H μ (ds.drop n) (vs.drop n)
  | _, _, 0, h => by simpa using h
  | [], _, n + 1, h => by
    unfold RepL at h
    rw [h]
    simpa using RepL.nil
  | d :: ds, _, n + 1, h => by
    unfold RepL at h
    obtain ⟨v, r, rfl, h1, h2⟩ := h
    simpa using RepL.drop n h2
theorem RepL.set : ∀ {ds : List D} {vs : List V} {d : D} {v : V} (i : Nat), RepL K H μ ds vs → Rep K H μ d v → RepL K H μ (ds.set i d) (vs.set i v)
  | [], _, _, _, _, h, _ => by
    unfold RepL at h
    rw [h]
    simpa using RepL.nil
  | e :: ds, _, d, v, 0, h, h' => by
    unfold RepL at h
    obtain ⟨u, r, rfl, h1, h2⟩ := h
    simpa using RepL.cons h' h2
  | e :: ds, _, d, v, i + 1, h, h' => by
    unfold RepL at h
    obtain ⟨u, r, rfl, h1, h2⟩ := h
    simpa using RepL.cons h1 (RepL.set i h2 h')
theorem RepL.erase : ∀ {ds : List D} {vs : List V} (i : Nat), RepL K H μ ds vs → RepL K H μ (ds.eraseIdx i) (vs.eraseIdx i)
  | [], _, _, h => by
    unfold RepL at h
    rw [h]
    simpa using RepL.nil
  | e :: ds, _, 0, h => by
    unfold RepL at h
    obtain ⟨u, r, rfl, h1, h2⟩ := h
    simpa using h2
  | e :: ds, _, i + 1, h => by
    unfold RepL at h
    obtain ⟨u, r, rfl, h1, h2⟩ := h
    simpa using RepL.cons h1 (RepL.erase i h2)
theorem RepL.ints : ∀ {ns : List Int} {vs : List V}, RepL K H μ (ns.map D.int) vs → vs = ns.map V.int
  | [], _, h => by unfold RepL at h; exact h
  | n :: ns, _, h => by
    unfold RepL at h
    obtain ⟨v, r, rfl, h1, h2⟩ := h
    unfold Rep at h1
    rw [h1, RepL.ints h2]
    rfl
theorem RepL.bools : ∀ {ns : List Bool} {vs : List V}, RepL K H μ (ns.map D.bl) vs → vs = ns.map V.bl
  | [], _, h => by unfold RepL at h; exact h
  | n :: ns, _, h => by
    unfold RepL at h
    obtain ⟨v, r, rfl, h1, h2⟩ := h
    unfold Rep at h1
    rw [h1, RepL.bools h2]
    rfl
theorem RepL.strs : ∀ {ns : List Str} {vs : List V}, RepL K H μ (ns.map D.str) vs → vs = ns.map V.str
  | [], _, h => by unfold RepL at h; exact h
  | n :: ns, _, h => by
    unfold RepL at h
    obtain ⟨v, r, rfl, h1, h2⟩ := h
    unfold Rep at h1
    rw [h1, RepL.strs h2]
    rfl
theorem RepL.of_ints : ∀ (ns : List Int), RepL K H μ (ns.map D.int) (ns.map V.int)
  | [] => RepL.nil
  | n :: ns => RepL.cons (by unfold Rep; rfl) (RepL.of_ints ns)
theorem RepL.of_strs : ∀ (ns : List Str), RepL K H μ (ns.map D.str) (ns.map V.str)
  | [] => RepL.nil
  | n :: ns => RepL.cons (by unfold Rep; rfl) (RepL.of_strs ns)
/-! ### slots -/
theorem RepS.get : ∀ {δ : DS} {σ : L2.St} {i : Nat} {d : D}, RepS K H μ δ σ → δ[i]? = some (some d) → ∃ v, σ[i]? = some (some v) ∧ Rep K H μ d v
  | [], _, _, _, h, e => by simp at e
  | none :: δ, _, 0, x, h, e => by simp at e
  | some y :: δ, _, 0, x, h, e => by
    unfold RepS at h
    obtain ⟨v, r, rfl, h1, _⟩ := h
    have e' : y = x := by simpa using e
    subst e'
    exact ⟨v, rfl, h1⟩
  | none :: δ, _, i + 1, x, h, e => by
    unfold RepS at h
    obtain ⟨v, r, rfl, h2⟩ := h
    obtain ⟨u, e1, h3⟩ := RepS.get (i := i) h2 (by simpa using e)
    exact ⟨u, by simpa using e1, h3⟩
  | some y :: δ, _, i + 1, x, h, e => by
    unfold RepS at h
    obtain ⟨v, r, rfl, _, h2⟩ := h
    obtain ⟨u, e1, h3⟩ := RepS.get (i := i) h2 (by simpa using e)
    exact ⟨u, by simpa using e1, h3⟩
theorem RepS.set : ∀ {δ : DS} {σ : L2.St} {d : D} {v : V} (i : Nat), RepS K H μ δ σ → Rep K H μ d v → RepS K H μ (δ.set i (some d)) (σ.set i (some v))
  | [], _, _, _, _, h, _ => by
    unfold RepS at h
    rw [h]
    simp [RepS]
  | none :: δ, _, d, v, 0, h, h' => by
    unfold RepS at h
    obtain ⟨o, r, rfl, h2⟩ := h
    show RepS K H μ (some d :: δ) (some v :: r)
    unfold RepS
    exact ⟨v, r, rfl, h', h2⟩
  | some y :: δ, _, d, v, 0, h, h' => by
    unfold RepS at h
    obtain ⟨o, r, rfl, _, h2⟩ := h
    show RepS K H μ (some d :: δ) (some v :: r)
    unfold RepS
    exact ⟨v, r, rfl, h', h2⟩
  | none :: δ, _, d, v, i + 1, h, h' => by
    unfold RepS at h
    obtain ⟨o, r, rfl, h2⟩ := h
    show RepS K H μ (none :: δ.set i (some d)) (o :: r.set i (some v))
    unfold RepS
    exact ⟨o, _, rfl, RepS.set i h2 h'⟩
  | some y :: δ, _, d, v, i + 1, h, h' => by
    unfold RepS at h
    obtain ⟨o, r, rfl, h1, h2⟩ := h
    show RepS K H μ (some y :: δ.set i (some d)) (some o :: r.set i (some v))
    unfold RepS
    exact ⟨o, _, rfl, h1, RepS.set i h2 h'⟩
theorem RepS.unset : ∀ {δ : DS} {σ : L2.St} (i : Nat), RepS K H μ δ σ → RepS K H μ (δ.set i none) (σ.set i none)
  | [], _, _, h => by
    unfold RepS at h
    rw [h]
    simp [RepS]
  | none :: δ, _, 0, h => by
    unfold RepS at h
    obtain ⟨o, r, rfl, h2⟩ := h
    show RepS K H μ (none :: δ) (none :: r)
    unfold RepS
    exact ⟨none, r, rfl, h2⟩
  | some y :: δ, _, 0, h => by
    unfold RepS at h
    obtain ⟨o, r, rfl, _, h2⟩ := h
    show RepS K H μ (none :: δ) (none :: r)
    unfold RepS
    exact ⟨none, r, rfl, h2⟩
  | none :: δ, _, i + 1, h => by
    unfold RepS at h
    obtain ⟨o, r, rfl, h2⟩ := h
    show RepS K H μ (none :: δ.set i none) (o :: r.set i none)
    unfold RepS
    exact ⟨o, _, rfl, RepS.unset i h2⟩
  | some y :: δ, _, i + 1, h => by
    unfold RepS at h
    obtain ⟨o, r, rfl, h1, h2⟩ := h
    show RepS K H μ (some y :: δ.set i none) (some o :: r.set i none)
    unfold RepS
    exact ⟨o, _, rfl, h1, RepS.unset i h2⟩
/-- the slots of a block's own names forgotten -/
def wiped (δ : DS) : List Nat → DS
  | [] => δ
  | v :: vs => (wiped δ vs).set v none
theorem RepS.wipe {δ : DS} {σ : L2.St} (h : RepS K H μ δ σ) : ∀ vs : List Nat, RepS K H μ (wiped δ vs) (L2.wipe σ vs)
  | [] => h
  | v :: vs => (RepS.wipe h vs).unset v
/-- a def's slots at its start -/
def begin_ (N : List Str) (ds : List D) : DS := ds.map some ++ List.replicate (N.length - ds.length) none
end
end DL
set_option Elab.async false
set_option linter.all false
set_option maxRecDepth 100000
namespace DL
open PySem PySem.Spec PyProof.Rows L2
/-! ### readings over data -/
abbrev KD := D → Mu → Prop
abbrev GE := DS → Mu → KD → Prop
abbrev GT := DS → Mu → (Bool → Mu → Prop) → Prop
abbrev GA := DS → Mu → (List D → Mu → Prop) → Prop
structure DEnds where
  nx : DS → Mu → Prop
  rt : KD
  bk : DS → Mu → Prop := fun _ _ => False
  ct : DS → Mu → Prop := fun _ _ => False
abbrev GS := DEnds → DS → Mu → Prop
/-- what must be shown of a value's continuation -/
def Fw (K : PySem.W.Frag) (H : Hp) (μ : Mu) (R : KD) (Q : VK) : Prop := ∀ v d H' μ', Kp H μ H' μ' → RM K H' μ' → Rep K H' μ' d v → R d μ' → Q v H'
theorem Fw.re {K : PySem.W.Frag} {H H1 : Hp} {μ μ1 : Mu} {R : KD} {Q : VK} (k : Kp H μ H1 μ1) (f : Fw K H μ R Q) : Fw K H1 μ1 R Q := fun v d H' μ' k' => f v d H' μ' (k.trans k')
def SimE (K : PySem.W.Frag) (t : TE) (g : GE) : Prop := ∀ σ H δ μ (Q : VK) (R : KD), RM K H μ → RepS K H μ δ σ → g δ μ R → Fw K H μ R Q → t σ H Q
def SimT (K : PySem.W.Frag) (t : TT) (g : GT) : Prop := ∀ σ H δ μ (Q : Bool → Hp → Prop) (R : Bool → Mu → Prop), RM K H μ → RepS K H μ δ σ → g δ μ R →
  (∀ b H' μ', Kp H μ H' μ' → RM K H' μ' → R b μ' → Q b H') → t σ H Q
def SimA (K : PySem.W.Frag) (t : TA) (g : GA) : Prop := ∀ σ H δ μ (Q : List V → Hp → Prop) (R : List D → Mu → Prop), RM K H μ → RepS K H μ δ σ → g δ μ R →
  (∀ vs ds H' μ', Kp H μ H' μ' → RM K H' μ' → RepL K H' μ' ds vs → R ds μ' → Q vs H') → t σ H Q
structure EOk (K : PySem.W.Frag) (H0 : Hp) (μ0 : Mu) (E : Ends) (F : DEnds) : Prop where
  nx : ∀ σ H δ μ, Kp H0 μ0 H μ → RM K H μ → RepS K H μ δ σ → F.nx δ μ → E.nx σ H
  rt : Fw K H0 μ0 F.rt E.rt
  bk : ∀ σ H δ μ, Kp H0 μ0 H μ → RM K H μ → RepS K H μ δ σ → F.bk δ μ → E.bk σ H
  ct : ∀ σ H δ μ, Kp H0 μ0 H μ → RM K H μ → RepS K H μ δ σ → F.ct δ μ → E.ct σ H
theorem EOk.re {K : PySem.W.Frag} {H H1 : Hp} {μ μ1 : Mu} {E : Ends} {F : DEnds} (k : Kp H μ H1 μ1) (e : EOk K H μ E F) : EOk K H1 μ1 E F :=
  ⟨fun σ H δ μ k' => e.nx σ H δ μ (k.trans k'), e.rt.re k, fun σ H δ μ k' => e.bk σ H δ μ (k.trans k'), fun σ H δ μ k' => e.ct σ H δ μ (k.trans k')⟩
def SimS (K : PySem.W.Frag) (t : TS) (g : GS) : Prop := ∀ σ H δ μ (E : Ends) (F : DEnds), RM K H μ → RepS K H μ δ σ → EOk K H μ E F → g F δ μ → t E σ H
structure DE (X : Cx) (e : Expr) (g : GE) : Prop where
  ex : ∃ t, PE X e t ∧ SimE X.K t g
structure DT (X : Cx) (e : Expr) (g : GT) : Prop where
  ex : ∃ t, PT X e t ∧ SimT X.K t g
structure DW (X : Cx) (e : Expr) (g : GT) : Prop where
  ex : ∃ t, PW X e t ∧ SimT X.K t g
structure DA (X : Cx) (es : List Expr) (g : GA) : Prop where
  ex : ∃ t, PA X es t ∧ SimA X.K t g
structure DSt (X : Cx) (st : Stmt) (g : GS) : Prop where
  ex : ∃ t, PS X st t ∧ SimS X.K t g
structure DSs (X : Cx) (st : List Stmt) (g : GS) : Prop where
  ex : ∃ t, PSs X st t ∧ SimS X.K t g
theorem DW.dt {X : Cx} {e : Expr} {g : GT} (h : DW X e g) : DT X e g := let ⟨t, a, b⟩ := h.ex; ⟨t, a.pt, b⟩
/-! ### by values -/
abbrev G1 := D → Mu → KD → Prop
abbrev G2 := D → D → Mu → KD → Prop
abbrev GC := List D → Mu → KD → Prop
def SimO (K : PySem.W.Frag) (r : R2) (g : G2) : Prop := ∀ x y dx dy H μ (Q : VK) (R : KD), RM K H μ → Rep K H μ dx x → Rep K H μ dy y → g dx dy μ R → Fw K H μ R Q → r x y H Q
def SimC (K : PySem.W.Frag) (r : List V → Hp → VK → Prop) (g : GC) : Prop := ∀ vs ds H μ (Q : VK) (R : KD), RM K H μ → RepL K H μ ds vs → g ds μ R → Fw K H μ R Q → r vs H Q
/-! ### expressions -/
def gVar (i : Nat) : GE := fun δ μ R => match δ.getD i none with
  | some d => R d μ
  | none => False
def gC (d : D) : GE := fun _ μ R => R d μ
section
variable {X : Cx}
theorem dv (i : Nat) {x : Str} {pos : Pos} (hN : X.N[i]? = some x := by rfl) (hv : Vis X.env.scope x := by first | exact Or.inl rfl | exact Or.inr (Or.inl rfl) | exact Or.inr (Or.inr rfl)) (hd : (x == ("__debug__" : Str)) = false := by decide)
    (hcd : (x == ("__classdict__" : Str)) = false := by decide) : DE X (.Name x pos) (gVar i) := by
  refine ⟨tVar i, pe_var hN hv hd hcd, fun σ H δ μ Q R rm rs g f => ?_⟩
  unfold gVar at g
  rw [List.getD_eq_getElem?_getD] at g
  cases e : δ[i]? with
  | none => rw [e] at g; exact False.elim g
  | some o =>
    cases o with
    | none => rw [e] at g; exact False.elim g
    | some d =>
      rw [e] at g
      obtain ⟨v, e2, rv⟩ := rs.get e
      exact ⟨v, e2, f v d H μ (Kp.refl _ _) rm rv g⟩
theorem de_c {e : Expr} {v : V} {d : D} (h : PE X e (tC v)) (r : ∀ H μ, Rep X.K H μ d v) : DE X e (gC d) := ⟨tC v, h, fun σ H δ μ Q R rm rs g f => f v d H μ (Kp.refl _ _) rm (r H μ) g⟩
theorem de_int {i j pos} : DE X (.Constant (.int i) j pos) (gC (.int i)) := de_c pe_int fun _ _ => by unfold Rep; rfl
theorem de_bl {i j pos} : DE X (.Constant (.bool i) j pos) (gC (.bl i)) := de_c pe_bl fun _ _ => by unfold Rep; rfl
theorem de_non {j pos} : DE X (.Constant .none j pos) (gC .non) := de_c pe_non fun _ _ => by unfold Rep; rfl
theorem de_str {x j pos} : DE X (.Constant (.str x) j pos) (gC (.str x)) := de_c pe_str fun _ _ => by unfold Rep; rfl
theorem de_globI {x : Str} {i : Int} {t : Tok} {pos : Pos} (hg : Gl X x) (hm : X.mg x = some (.int i t)) (hd : (x == ("__debug__" : Str)) = false := by decide) : DE X (.Name x pos) (gC (.int i)) :=
  de_c (pe_glob (v := .int i) hg hm ⟨t, rfl⟩ hd) fun _ _ => by unfold Rep; rfl
theorem de_globS {x : Str} {i : Str} {t : Tok} {pos : Pos} (hg : Gl X x) (hm : X.mg x = some (.str i t)) (hd : (x == ("__debug__" : Str)) = false := by decide) : DE X (.Name x pos) (gC (.str i)) :=
  de_c (pe_glob (v := .str i) hg hm ⟨t, rfl⟩ hd) fun _ _ => by unfold Rep; rfl
def gOp (r : G2) (ga gb : GE) : GE := fun δ μ R => ga δ μ fun x μ1 => gb δ μ1 fun y μ2 => r x y μ2 R
theorem sim_op {K : PySem.W.Frag} {r : R2} {ta tb : TE} {g : G2} {ga gb : GE} (h : SimO K r g) (ha : SimE K ta ga) (hb : SimE K tb gb) : SimE K (tOp r ta tb) (gOp g ga gb) := by
  intro σ H δ μ Q R rm rs q f
  refine ha σ H δ μ _ _ rm rs q fun v d H1 μ1 k1 rm1 r1 q1 => ?_
  refine hb σ H1 δ μ1 _ _ rm1 (rs.mono k1) q1 fun v2 d2 H2 μ2 k2 rm2 r2 q2 => ?_
  exact h v v2 d d2 H2 μ2 Q R rm2 (r1.mono k2) r2 q2 (f.re (k1.trans k2))
theorem de_op {op : Operator} {a b : Expr} {ga gb : GE} {r : R2} {g : G2} {pos : Pos} (ho : OpR X (binaryOp op) r) (h : SimO X.K r g) (ha : DE X a ga) (hb : DE X b gb) : DE X (.BinOp a op b pos) (gOp g ga gb) :=
  let ⟨_, a1, a2⟩ := ha.ex; let ⟨_, b1, b2⟩ := hb.ex; ⟨_, pe_op ho a1 b1, sim_op h a2 b2⟩
theorem de_cmp {op : CmpOp} {a b : Expr} {ga gb : GE} {r : R2} {g : G2} {pos : Pos} (ho : OpR X (compareOp op) r) (h : SimO X.K r g) (ha : DE X a ga) (hb : DE X b gb) (hm : behindInMarks op b = false) : DE X (.Compare a [op] [b] pos) (gOp g ga gb) :=
  let ⟨_, a1, a2⟩ := ha.ex; let ⟨_, b1, b2⟩ := hb.ex; ⟨_, pe_cmpR ho a1 b1 hm, sim_op h a2 b2⟩
theorem de_ix {a b : Expr} {ga gb : GE} {r : R2} {g : G2} {pos : Pos} (ho : IxR X r) (h : SimO X.K r g) (ha : DE X a ga) (hb : DE X b gb) (hs : PlainIx b) : DE X (.Subscript a b pos) (gOp g ga gb) :=
  let ⟨_, a1, a2⟩ := ha.ex; let ⟨_, b1, b2⟩ := hb.ex; ⟨_, pe_ix ho a1 b1 hs, sim_op h a2 b2⟩
def gUn (r : G1) (ga : GE) : GE := fun δ μ R => ga δ μ fun x μ1 => r x μ1 R
/-- a value that is a bool, as a test -/
def bK (R : Bool → Mu → Prop) : KD := fun d μ => match d with
  | .bl b => R b μ
  | _ => False
def gB (g : GE) : GT := fun δ μ R => g δ μ (bK R)
theorem sim_b {K : PySem.W.Frag} {t : TE} {g : GE} (h : SimE K t g) : SimT K (fun σ H Q => t σ H fun x H1 => ∃ c, x = .bl c ∧ Q c H1) (gB g) := by
  intro σ H δ μ Q R rm rs q f
  refine h σ H δ μ _ _ rm rs q fun v d H1 μ1 k1 rm1 r1 q1 => ?_
  cases d <;> try exact False.elim q1
  rename_i b
  unfold Rep at r1
  exact ⟨b, r1, f b H1 μ1 k1 rm1 q1⟩
theorem dt_cmp {op : CmpOp} {a b : Expr} {ga gb : GE} {r : R2} {g : G2} {pos : Pos} (ho : OpR X (compareOp op) r) (h : SimO X.K r g) (ha : DE X a ga) (hb : DE X b gb) (hm : behindInMarks op b = false) : DT X (.Compare a [op] [b] pos) (gB (gOp g ga gb)) :=
  let ⟨_, a1, a2⟩ := ha.ex; let ⟨_, b1, b2⟩ := hb.ex; ⟨_, pt_cmpR ho a1 b1 hm, sim_b (sim_op h a2 b2)⟩
theorem dt_val {e : Expr} {g : GE} (h : DE X e g) (he : ∀ whole, isTrue e X.env whole = (do let v ← whole; standAt e.pos; holding [v] (truthy v)) := by intro _; rfl) : DT X e (gB g) :=
  let ⟨_, a1, a2⟩ := h.ex; ⟨_, pt_val a1 he, sim_b a2⟩
def gAnd (t u : GT) : GT := fun δ μ R => t δ μ fun c μ1 => if c = true then u δ μ1 R else R false μ1
def gOr (t u : GT) : GT := fun δ μ R => t δ μ fun c μ1 => if c = true then R true μ1 else u δ μ1 R
def gNot (t : GT) : GT := fun δ μ R => t δ μ fun c μ1 => R (!c) μ1
variable {a b : Expr} {rest : List Expr} {pos : Pos} {gt gu : GT} {ga gb : GE}
theorem dw_and1 (h : DT X a gt) : DW X (.BoolOp .And [a] pos) gt := let ⟨_, a1, a2⟩ := h.ex; ⟨_, pw_and1 a1, a2⟩
theorem dw_or1 (h : DT X a gt) : DW X (.BoolOp .Or [a] pos) gt := let ⟨_, a1, a2⟩ := h.ex; ⟨_, pw_or1 a1, a2⟩
theorem dw_and (h : DT X a gt) (h2 : DW X (.BoolOp .And (b :: rest) pos) gu) : DW X (.BoolOp .And (a :: b :: rest) pos) (gAnd gt gu) := by
  obtain ⟨t, a1, a2⟩ := h.ex
  obtain ⟨u, b1, b2⟩ := h2.ex
  refine ⟨_, pw_and a1 b1, fun σ H δ μ Q R rm rs q f => ?_⟩
  refine a2 σ H δ μ _ _ rm rs q fun c H1 μ1 k1 rm1 q1 => ?_
  cases c with
  | true => exact b2 σ H1 δ μ1 Q R rm1 (rs.mono k1) q1 fun b H2 μ2 k2 => f b H2 μ2 (k1.trans k2)
  | false => exact f false H1 μ1 k1 rm1 q1
theorem dw_or (h : DT X a gt) (h2 : DW X (.BoolOp .Or (b :: rest) pos) gu) : DW X (.BoolOp .Or (a :: b :: rest) pos) (gOr gt gu) := by
  obtain ⟨t, a1, a2⟩ := h.ex
  obtain ⟨u, b1, b2⟩ := h2.ex
  refine ⟨_, pw_or a1 b1, fun σ H δ μ Q R rm rs q f => ?_⟩
  refine a2 σ H δ μ _ _ rm rs q fun c H1 μ1 k1 rm1 q1 => ?_
  cases c with
  | false => exact b2 σ H1 δ μ1 Q R rm1 (rs.mono k1) q1 fun b H2 μ2 k2 => f b H2 μ2 (k1.trans k2)
  | true => exact f true H1 μ1 k1 rm1 q1
theorem dt_not (h : DT X a gt) : DT X (.UnaryOp .Not a pos) (gNot gt) := by
  obtain ⟨t, a1, a2⟩ := h.ex
  exact ⟨_, pt_not a1, fun σ H δ μ Q R rm rs q f => a2 σ H δ μ _ _ rm rs q fun c H1 μ1 k1 rm1 q1 => f (!c) H1 μ1 k1 rm1 q1⟩
/-- and, or, not as values (bools) -/
def gAndV (t u : GE) : GE := fun δ μ R => t δ μ (bK fun c μ1 => if c = true then u δ μ1 R else R (.bl false) μ1)
def gNotV (t : GE) : GE := fun δ μ R => t δ μ (bK fun c μ1 => R (.bl (!c)) μ1)
theorem de_one {op} (h : DE X a ga) : DE X (.BoolOp op [a] pos) ga := let ⟨_, a1, a2⟩ := h.ex; ⟨_, pe_one a1, a2⟩
theorem de_and (h : DE X a ga) (h2 : DE X (.BoolOp .And (b :: rest) pos) gb) : DE X (.BoolOp .And (a :: b :: rest) pos) (gAndV ga gb) := by
  obtain ⟨t, a1, a2⟩ := h.ex
  obtain ⟨u, b1, b2⟩ := h2.ex
  refine ⟨_, pe_and a1 b1, fun σ H δ μ Q R rm rs q f => ?_⟩
  refine a2 σ H δ μ _ _ rm rs q fun v d H1 μ1 k1 rm1 r1 q1 => ?_
  cases d <;> try exact False.elim q1
  rename_i c
  unfold Rep at r1
  refine ⟨c, r1, ?_⟩
  cases c with
  | true => exact b2 σ H1 δ μ1 Q R rm1 (rs.mono k1) q1 (f.re k1)
  | false => exact f (.bl false) (.bl false) H1 μ1 k1 rm1 (by unfold Rep; rfl) q1
theorem de_not (h : DE X a ga) : DE X (.UnaryOp .Not a pos) (gNotV ga) := by
  obtain ⟨t, a1, a2⟩ := h.ex
  refine ⟨_, pe_not a1, fun σ H δ μ Q R rm rs q f => ?_⟩
  refine a2 σ H δ μ _ _ rm rs q fun v d H1 μ1 k1 rm1 r1 q1 => ?_
  cases d <;> try exact False.elim q1
  rename_i c
  unfold Rep at r1
  exact ⟨c, r1, f (.bl (!c)) (.bl (!c)) H1 μ1 k1 rm1 (by unfold Rep; rfl) q1⟩
def gIf (t : GT) (ga gb : GE) : GE := fun δ μ R => t δ μ fun c μ1 => if c = true then ga δ μ1 R else gb δ μ1 R
theorem de_if {c : Expr} (h : DT X c gt) (ha : DE X a ga) (hb : DE X b gb) : DE X (.IfExp c a b pos) (gIf gt ga gb) := by
  obtain ⟨t, c1, c2⟩ := h.ex
  obtain ⟨u, a1, a2⟩ := ha.ex
  obtain ⟨w, b1, b2⟩ := hb.ex
  refine ⟨_, pe_ifExp c1 a1 b1, fun σ H δ μ Q R rm rs q f => ?_⟩
  refine c2 σ H δ μ _ _ rm rs q fun c H1 μ1 k1 rm1 q1 => ?_
  cases c with
  | true => exact a2 σ H1 δ μ1 Q R rm1 (rs.mono k1) q1 (f.re k1)
  | false => exact b2 σ H1 δ μ1 Q R rm1 (rs.mono k1) q1 (f.re k1)
/-- a op1 b op2 c -/
def gChain (r r' : G2) (ga gb gc : GE) : GE := fun δ μ R => ga δ μ fun x μ1 => gb δ μ1 fun y μ2 => r x y μ2 (bK fun k μ3 => if k = true then gc δ μ3 fun z μ4 => r' y z μ4 R else R (.bl false) μ3)
theorem de_chain {op op' : CmpOp} {c : Expr} {r r' : R2} {g g' : G2} {gc : GE} (ho : OpR X (compareOp op) r) (h : SimO X.K r g) (ho' : OpR X (compareOp op') r') (h' : SimO X.K r' g') (ha : DE X a ga) (hb : DE X b gb) (hc : DE X c gc)
    (hm : lastMarks [op, op'] [b, c] = false := by with_unfolding_all rfl) : DE X (.Compare a [op, op'] [b, c] pos) (gChain g g' ga gb gc) := by
  obtain ⟨t, a1, a2⟩ := ha.ex
  obtain ⟨u, b1, b2⟩ := hb.ex
  obtain ⟨w, c1, c2⟩ := hc.ex
  refine ⟨_, pe_chain ho ho' a1 b1 c1 hm, fun σ H δ μ Q R rm rs q f => ?_⟩
  refine a2 σ H δ μ _ _ rm rs q fun v d H1 μ1 k1 rm1 r1 q1 => ?_
  refine b2 σ H1 δ μ1 _ _ rm1 (rs.mono k1) q1 fun v2 d2 H2 μ2 k2 rm2 r2 q2 => ?_
  refine h v v2 d d2 H2 μ2 _ _ rm2 (r1.mono k2) r2 q2 fun v3 d3 H3 μ3 k3 rm3 r3 q3 => ?_
  cases d3 <;> try exact False.elim q3
  rename_i k
  unfold Rep at r3
  refine ⟨k, r3, ?_⟩
  cases k with
  | false => exact f (.bl false) (.bl false) H3 μ3 (k1.trans (k2.trans k3)) rm3 (by unfold Rep; rfl) q3
  | true => exact c2 σ H3 δ μ3 _ _ rm3 (rs.mono (k1.trans (k2.trans k3))) q3 fun v4 d4 H4 μ4 k4 rm4 r4 q4 => h' v2 v4 d2 d4 H4 μ4 Q R rm4 (r2.mono (k3.trans k4)) r4 q4 (f.re (k1.trans (k2.trans (k3.trans k4))))
/-! ### arguments, displays -/
def gNil : GA := fun _ μ R => R [] μ
def gCons (ga : GE) (gr : GA) : GA := fun δ μ R => ga δ μ fun x μ1 => gr δ μ1 fun xs μ2 => R (x :: xs) μ2
variable {e : Expr} {es : List Expr} {gr : GA}
theorem da_nil : DA X [] gNil := ⟨_, pa_nil, fun σ H δ μ Q R rm rs q f => f [] [] H μ (Kp.refl _ _) rm RepL.nil q⟩
theorem da_cons (ha : DE X e ga) (hr : DA X es gr) (hs : starEach (e :: es) X.env = (false, eval e X.env) :: starEach es X.env := by rfl) : DA X (e :: es) (gCons ga gr) := by
  obtain ⟨t, a1, a2⟩ := ha.ex
  obtain ⟨u, b1, b2⟩ := hr.ex
  refine ⟨_, pa_cons a1 b1 hs, fun σ H δ μ Q R rm rs q f => ?_⟩
  refine a2 σ H δ μ _ _ rm rs q fun v d H1 μ1 k1 rm1 r1 q1 => ?_
  exact b2 σ H1 δ μ1 _ _ rm1 (rs.mono k1) q1 fun vs ds H2 μ2 k2 rm2 r2 q2 => f (v :: vs) (d :: ds) H2 μ2 (k1.trans k2) rm2 (RepL.cons (r1.mono k2) r2) q2
def gTup (g : GA) : GE := fun δ μ R => g δ μ fun ds μ1 => ds.length ≤ sizeLine ∧ R (.tup ds) μ1
def gLst (g : GA) : GE := fun δ μ R => g δ μ fun ds μ1 => ds.length ≤ sizeLine ∧ R (.lst ds) μ1
/-- a list that will change -/
def gCell (g : GA) : GE := fun δ μ R => g δ μ fun ds μ1 => ds.length ≤ sizeLine ∧ ∀ a, μ1 a = none → R (.adr a) (put μ1 a (.lst ds))
theorem RM.new {K : PySem.W.Frag} {H H' : Hp} {μ : Mu} (rm : RM K H μ) (k : Kp H μ H' μ) (h : ∀ a o, μ a = some o → H' a = H a) : RM K H' μ := fun a o e => by
  have q := rm a o e
  cases o with
  | lst ds => obtain ⟨vs, h1, h2⟩ := q; exact ⟨vs, (h _ _ e).trans h1, h2.mono k _ _⟩
  | dct kvs => obtain ⟨vs, h1, h2⟩ := q; exact ⟨vs, (h _ _ e).trans h1, h2.mono k _ _⟩
  | dtt kvs => obtain ⟨vs, h1, h2⟩ := q; exact ⟨vs, (h _ _ e).trans h1, h2.mono k _ _⟩
  | lck kvs => obtain ⟨o, vs, h1, h2⟩ := q; exact ⟨o, vs, (h _ _ e).trans h1, h2.mono k _ _⟩
  | ftp ds => obtain ⟨o, vs, h1, d, h2⟩ := q; exact ⟨o, vs, (h _ _ e).trans h1, d, h2.mono k _ _⟩
  | ins C fs => obtain ⟨dx, vs, h1, h2⟩ := q; exact ⟨dx, vs, (h _ _ e).trans h1, h2.mono k _ _⟩
theorem RM.has {K : PySem.W.Frag} {H : Hp} {μ : Mu} (rm : RM K H μ) {a : Addr} {o : MO} (e : μ a = some o) : H a ≠ none := by
  have q := rm a o e
  cases o with
  | lst ds => obtain ⟨vs, h1, h2⟩ := q; rw [h1]; simp
  | dct kvs => obtain ⟨vs, h1, h2⟩ := q; rw [h1]; simp
  | dtt kvs => obtain ⟨vs, h1, h2⟩ := q; rw [h1]; simp
  | lck kvs => obtain ⟨o, vs, h1, h2⟩ := q; rw [h1]; simp
  | ftp ds => obtain ⟨o, vs, h1, _, _⟩ := q; rw [h1]; simp
  | ins C fs => obtain ⟨dx, vs, h1, h2⟩ := q; rw [h1]; simp
theorem RM.free {K : PySem.W.Frag} {H : Hp} {μ : Mu} (rm : RM K H μ) {a : Addr} (e : H a = none) : μ a = none := by
  cases q : μ a with
  | none => rfl
  | some o => exact absurd e (rm.has q)
theorem RM.laid {K : PySem.W.Frag} {H : Hp} {μ : Mu} {p : Addr} {o : HO} (rm : RM K H μ) (n : H p = none) : RM K (upd H p o) μ :=
  rm.new (Kp.new n) fun a u e => upd_ne (fun z => rm.has e (by rw [z]; exact n))
/-- the store with p's new content -/
theorem RM.put {K : PySem.W.Frag} {H H' : Hp} {μ : Mu} {p : Addr} {m : MO} (rm : RM K H μ) (k : Kp H μ H' (put μ p m)) (h : ∀ a o, a ≠ p → μ a = some o → H' a = H a) (hp : RepO K H' (put μ p m) m p) : RM K H' (put μ p m) := fun a o e => by
  by_cases ea : a = p
  · rw [ea, put_same] at e
    cases e
    rw [ea]; exact hp
  · rw [put_ne ea] at e
    have q := rm a o e
    cases o with
    | lst ds => obtain ⟨vs, h1, h2⟩ := q; exact ⟨vs, (h _ _ ea e).trans h1, h2.mono k _ _⟩
    | dct kvs => obtain ⟨vs, h1, h2⟩ := q; exact ⟨vs, (h _ _ ea e).trans h1, h2.mono k _ _⟩
    | dtt kvs => obtain ⟨vs, h1, h2⟩ := q; exact ⟨vs, (h _ _ ea e).trans h1, h2.mono k _ _⟩
    | lck kvs => obtain ⟨o, vs, h1, h2⟩ := q; exact ⟨o, vs, (h _ _ ea e).trans h1, h2.mono k _ _⟩
    | ftp ds => obtain ⟨o, vs, h1, d, h2⟩ := q; exact ⟨o, vs, (h _ _ ea e).trans h1, d, h2.mono k _ _⟩
    | ins C fs => obtain ⟨dx, vs, h1, h2⟩ := q; exact ⟨dx, vs, (h _ _ ea e).trans h1, h2.mono k _ _⟩
theorem RM.drop {K : PySem.W.Frag} {H : Hp} {μ : Mu} {p : Addr} (rm : RM K H μ) : RM K H (del μ p) := fun a o e => by
  by_cases ea : a = p
  · rw [ea, del_same] at e; cases e
  · rw [del_ne ea] at e
    have q := rm a o e
    cases o with
    | lst ds => obtain ⟨vs, h1, h2⟩ := q; exact ⟨vs, h1, h2.mono Kp.drop _ _⟩
    | dct kvs => obtain ⟨vs, h1, h2⟩ := q; exact ⟨vs, h1, h2.mono Kp.drop _ _⟩
    | dtt kvs => obtain ⟨vs, h1, h2⟩ := q; exact ⟨vs, h1, h2.mono Kp.drop _ _⟩
    | lck kvs => obtain ⟨o, vs, h1, h2⟩ := q; exact ⟨o, vs, h1, h2.mono Kp.drop _ _⟩
    | ftp ds => obtain ⟨o, vs, h1, d, h2⟩ := q; exact ⟨o, vs, h1, d, h2.mono Kp.drop _ _⟩
    | ins C fs => obtain ⟨dx, vs, h1, h2⟩ := q; exact ⟨dx, vs, h1, h2.mono Kp.drop _ _⟩
theorem de_tup {x1} (h : DA X es gr) : DE X (.Tuple es x1 pos) (gTup gr) := by
  obtain ⟨t, a1, a2⟩ := h.ex
  refine ⟨_, pe_tup a1, fun σ H δ μ Q R rm rs q f => ?_⟩
  refine a2 σ H δ μ _ _ rm rs q fun vs ds H1 μ1 k1 rm1 r1 q1 => ⟨by rw [r1.length]; exact q1.1, fun p n => ?_⟩
  refine f (.ref p) (.tup ds) _ μ1 (k1.trans (Kp.new n)) (rm1.laid n) ?_ q1.2
  unfold Rep
  exact ⟨p, vs, rfl, .inl ⟨upd_same, rm1.free n⟩, r1.mono (Kp.new n) _ _⟩
theorem de_lst (h : DA X es gr) : DE X (.List es pos) (gLst gr) := by
  obtain ⟨t, a1, a2⟩ := h.ex
  refine ⟨_, pe_lst a1, fun σ H δ μ Q R rm rs q f => ?_⟩
  refine a2 σ H δ μ _ _ rm rs q fun vs ds H1 μ1 k1 rm1 r1 q1 => ⟨by rw [r1.length]; exact q1.1, fun p n => ?_⟩
  refine f (.ref p) (.lst ds) _ μ1 (k1.trans (Kp.new n)) (rm1.laid n) ?_ q1.2
  unfold Rep
  exact ⟨p, vs, rfl, upd_same, rm1.free n, r1.mono (Kp.new n) _ _⟩
theorem RM.cell {K : PySem.W.Frag} {H : Hp} {μ : Mu} {p : Addr} {vs : List V} {ds : List D} (rm : RM K H μ) (n : H p = none) (r : RepL K H μ ds vs) : RM K (upd H p (.lst vs)) (DL.put μ p (.lst ds)) :=
  rm.put (Kp.cell n) (fun a o ea e => upd_ne ea) ⟨vs, upd_same, r.mono (Kp.cell n) _ _⟩
theorem de_cell (h : DA X es gr) : DE X (.List es pos) (gCell gr) := by
  obtain ⟨t, a1, a2⟩ := h.ex
  refine ⟨_, pe_lst a1, fun σ H δ μ Q R rm rs q f => ?_⟩
  refine a2 σ H δ μ _ _ rm rs q fun vs ds H1 μ1 k1 rm1 r1 q1 => ⟨by rw [r1.length]; exact q1.1, fun p n => ?_⟩
  exact f (.ref p) (.adr p) _ _ (k1.trans (Kp.cell n)) (rm1.cell n r1) (by unfold Rep; rfl) (q1.2 p (rm1.free n))
end
end DL
set_option Elab.async false
set_option linter.all false
set_option maxRecDepth 100000
namespace DL
open PySem PySem.Spec PyProof.Rows L2
/-! ### the one reading of a data reading -/
def tOf (K : PySem.W.Frag) (g : GE) : TE := fun σ H Q => ∃ δ μ R, RM K H μ ∧ RepS K H μ δ σ ∧ g δ μ R ∧ Fw K H μ R Q
def tTOf (K : PySem.W.Frag) (g : GT) : TT := fun σ H Q => ∃ δ μ R, RM K H μ ∧ RepS K H μ δ σ ∧ g δ μ R ∧ ∀ b H' μ', Kp H μ H' μ' → RM K H' μ' → R b μ' → Q b H'
theorem sim_of {K : PySem.W.Frag} {g : GE} : SimE K (tOf K g) g := fun σ H δ μ Q R rm rs q f => ⟨δ, μ, R, rm, rs, q, f⟩
theorem simT_of {K : PySem.W.Frag} {g : GT} : SimT K (tTOf K g) g := fun σ H δ μ Q R rm rs q f => ⟨δ, μ, R, rm, rs, q, f⟩
theorem DE.pe {X : Cx} {e : Expr} {g : GE} (h : DE X e g) : PE X e (tOf X.K g) := by
  obtain ⟨t, a, b⟩ := h.ex
  refine ⟨fun pins s σ H Q I ⟨δ, μ, R, rm, rs, q, f⟩ => a.run pins s σ H Q I (b σ H δ μ Q R rm rs q f)⟩
structure DTs (X : Cx) (es : List Expr) (g : GT) : Prop where
  ex : ∃ t, PTs X es t ∧ SimT X.K t g
theorem DTs.pt {X : Cx} {e : List Expr} {g : GT} (h : DTs X e g) : PTs X e (tTOf X.K g) := by
  obtain ⟨t, a, b⟩ := h.ex
  refine ⟨fun pins s σ H Q I ⟨δ, μ, R, rm, rs, q, f⟩ => a.run pins s σ H Q I (b σ H δ μ Q R rm rs q f)⟩
def gYes : GT := fun _ μ R => R true μ
theorem dts_nil {X : Cx} : DTs X [] gYes := ⟨_, pts_nil, fun σ H δ μ Q R rm rs q f => f true H μ (Kp.refl _ _) rm q⟩
theorem dts_one {X : Cx} {c : Expr} {g : GT} (h : DT X c g) : DTs X [c] g := let ⟨_, a, b⟩ := h.ex; ⟨_, pts_one a, b⟩
/-! ### targets -/
abbrev GG := D → DS → (DS → Prop) → Prop
abbrev GGs := List D → DS → (DS → Prop) → Prop
/-- ow: the slots that it stores -/
def SimG (K : PySem.W.Frag) (t : TG) (g : GG) (ow : List Nat) : Prop := ∀ v d σ H δ μ (Q : L2.St → Hp → Prop) (R : DS → Prop), RM K H μ → RepS K H μ δ σ → Rep K H μ d v → g d δ R →
  (∀ σ' δ', RepS K H μ δ' σ' → R δ' → (∀ vs : List Nat, (∀ i ∈ ow, i ∈ vs) → L2.wipe σ' vs = L2.wipe σ vs) → Q σ' H) → t v σ H Q
def SimGs (K : PySem.W.Frag) (t : TGs) (g : GGs) (ow : List Nat) : Prop := ∀ vs ds σ H δ μ (Q : L2.St → Hp → Prop) (R : DS → Prop), RM K H μ → RepS K H μ δ σ → RepL K H μ ds vs → g ds δ R →
  (∀ σ' δ', RepS K H μ δ' σ' → R δ' → (∀ vs : List Nat, (∀ i ∈ ow, i ∈ vs) → L2.wipe σ' vs = L2.wipe σ vs) → Q σ' H) → t vs σ H Q
theorem wipe_get (σ : L2.St) (j : Nat) : ∀ vs : List Nat, (L2.wipe σ vs)[j]? = if j ∈ vs then (if j < σ.length then some none else none) else σ[j]?
  | [] => by simp [L2.wipe]
  | v :: vs => by
    unfold L2.wipe
    by_cases h : v = j
    · subst h
      by_cases hl : v < σ.length
      · rw [List.getElem?_set_self (by rw [L2.wipe_length]; exact hl)]
        simp [hl]
      · rw [List.getElem?_eq_none (by rw [List.length_set, L2.wipe_length]; omega)]
        simp [hl]
    · rw [List.getElem?_set_ne h, wipe_get σ j vs]
      have h' : ¬ j = v := fun e => h e.symm
      simp [h']
theorem wipe_set {σ : L2.St} {i : Nat} {o : Option V} {vs : List Nat} (h : i ∈ vs) : L2.wipe (σ.set i o) vs = L2.wipe σ vs := by
  apply List.ext_getElem?
  intro j
  rw [wipe_get, wipe_get, List.length_set]
  by_cases hj : j ∈ vs
  · rw [if_pos hj, if_pos hj]
  · rw [if_neg hj, if_neg hj]
    rw [List.getElem?_set_ne]
    rintro rfl
    exact hj h
theorem wipe_wipe {σ : L2.St} {vs : List Nat} : L2.wipe (L2.wipe σ vs) vs = L2.wipe σ vs := by
  apply List.ext_getElem?
  intro j
  rw [wipe_get, wipe_get, L2.wipe_length]
  by_cases hj : j ∈ vs
  · rw [if_pos hj, if_pos hj]
  · rw [if_neg hj, if_neg hj]
def gNm (i : Nat) : GG := fun d δ R => R (δ.set i (some d))
theorem sim_nm {K : PySem.W.Frag} {i : Nat} : SimG K (gName i) (gNm i) [i] := fun v d σ H δ μ Q R rm rs r q f =>
  f _ _ (rs.set i r) q fun vs h => wipe_set (h i (List.mem_singleton.mpr rfl))
def gNilT : GGs := fun ds δ R => match ds with
  | [] => R δ
  | _ :: _ => False
def gConsT (t : GG) (u : GGs) : GGs := fun ds δ R => match ds with
  | d :: r => t d δ fun δ' => u r δ' R
  | [] => False
theorem sim_nilT {K : PySem.W.Frag} : SimGs K L2.gNil gNilT [] := by
  intro vs ds σ H δ μ Q R rm rs r q f
  cases ds with
  | nil =>
    unfold RepL at r
    exact ⟨r, f σ δ rs q fun _ _ => rfl⟩
  | cons d ds => exact False.elim q
theorem sim_consT {K : PySem.W.Frag} {t : TG} {u : TGs} {g : GG} {gs : GGs} {o os : List Nat} (h : SimG K t g o) (h2 : SimGs K u gs os) : SimGs K (L2.gCons t u) (gConsT g gs) (o ++ os) := by
  intro vs ds σ H δ μ Q R rm rs r q f
  cases ds with
  | nil => exact False.elim q
  | cons d ds =>
    unfold RepL at r
    obtain ⟨v, w, rfl, r1, r2⟩ := r
    refine ⟨v, w, rfl, h v d σ H δ μ _ _ rm rs r1 q fun σ' δ' rs' q' w1 => ?_⟩
    exact h2 w ds σ' H δ' μ _ _ rm rs' r2 q' fun σ2 δ2 rs2 q2 w2 => f σ2 δ2 rs2 q2 fun vs hv => (w2 vs fun i hi => hv i (List.mem_append_right _ hi)).trans (w1 vs fun i hi => hv i (List.mem_append_left _ hi))
def gTupT (n : Nat) (t : GGs) : GG := fun d δ R => match d with
  | .tup ds => ds.length = n ∧ t ds δ R
  | _ => False
theorem sim_tupT {K : PySem.W.Frag} {n : Nat} {t : TGs} {g : GGs} {o : List Nat} (h : SimGs K t g o) : SimG K (L2.gTup K n t) (gTupT n g) o := by
  intro v d σ H δ μ Q R rm rs r q f
  cases d <;> try exact False.elim q
  rename_i ds
  unfold Rep at r
  obtain ⟨a, vs, rfl, im, rl⟩ := r
  exact ⟨a, vs, rfl, im.sq, by rw [rl.length]; exact q.1, h vs ds σ H δ μ Q R rm rs rl q.2 f⟩
/-! ### what is walked -/
abbrev GI := DS → Mu → (List D → Mu → Prop) → Prop
abbrev WalkD (K : PySem.W.Frag) (J : It) (items : List D) (H1 : Hp) (μ1 : Mu) : Prop :=
  Walk J items.length (fun H => ∃ μ, Kp H1 μ1 H μ ∧ RM K H μ) (fun i H x H' => ∀ μ, Kp H1 μ1 H μ → RM K H μ → ∃ d, items[i]? = some d ∧ Rep K H' μ d x ∧ Kp H μ H' μ ∧ RM K H' μ)
def SimI (K : PySem.W.Frag) (t : TI) (g : GI) : Prop := ∀ σ H δ μ (Q : It → Hp → Prop) (R : List D → Mu → Prop), RM K H μ → RepS K H μ δ σ → g δ μ R →
  (∀ J items H' μ', Kp H μ H' μ' → RM K H' μ' → WalkD K J items H' μ' → R items μ' → Q J H') → t σ H Q
structure DI (X : Cx) (tg iter : Expr) (g : GI) : Prop where
  ex : ∃ t, PI X tg iter t ∧ SimI X.K t g
def signs (x : Str) : List D := x.cps.toList.map fun c => D.str ⟨#[c]⟩
def gItemsS (g : GE) : GI := fun δ μ R => g δ μ fun d μ1 => match d with
  | .str x => R (signs x) μ1
  | _ => False
def gRange (g : GA) : GI := fun δ μ R => g δ μ fun ds μ1 => match ds with
  | [.int n] => (-(2 ^ 62) ≤ n ∧ n < 2 ^ 62) ∧ R ((List.range n.toNat).map fun i => D.int (i : Nat)) μ1
  | _ => False
section
variable {X : Cx} {tg e : Expr} {g : GE} {ga : GA}
theorem walk_seq {K : PySem.W.Frag} {a : Addr} {vs : List V} {ds : List D} {H : Hp} {μ : Mu} (hq : ∀ H' μ', Kp H μ H' μ' → SqL K H' a vs) (r : RepL K H μ ds vs) : WalkD K (Itl K a) ds H μ := by
  have e := r.length
  rw [WalkD, ← e]
  refine (walk_list (K := K) (a := a) (xs := vs)).mono (fun H' ⟨μ', k, _⟩ => hq H' μ' k) fun i H' x H2 hi _ ⟨e1, e2⟩ μ' k rm => ?_
  subst e1
  obtain ⟨d, e3, r1⟩ := (r.mono k).atV e2
  exact ⟨d, e3, r1, Kp.refl _ _, rm⟩
theorem di_str (h : DE X e g) : DI X tg e (gItemsS g) := by
  obtain ⟨t, a1, a2⟩ := h.ex
  refine ⟨_, pi_str a1, fun σ H δ μ Q R rm rs q f => ?_⟩
  refine a2 σ H δ μ _ _ rm rs q fun v d H1 μ1 k1 rm1 r1 q1 => ?_
  cases d <;> try exact False.elim q1
  rename_i x
  unfold Rep at r1
  refine ⟨x, r1, f _ (signs x) H1 μ1 k1 rm1 ?_ q1⟩
  have e : x.cps.size = (signs x).length := by simp [signs]
  rw [WalkD, ← e]
  refine (walk_str (z := x)).mono (fun H' _ => True.intro) fun i H' y H2 hi _ ⟨e1, c, e2, e3⟩ μ' k rm => ?_
  subst e1
  subst e3
  refine ⟨.str ⟨#[c]⟩, ?_, by unfold Rep; rfl, Kp.refl _ _, rm⟩
  unfold signs
  rw [List.getElem?_map, Array.getElem?_toList, e2]
  rfl
theorem di_range {p pos : Pos} (hg : Gl X "range") (hm : X.mg "range" = none) (h : DA X [e] ga) (hs : starEach [e] X.env = [(false, eval e X.env)] := by rfl) : DI X tg (.Call (.Name "range" p) [e] [] pos) (gRange ga) := by
  obtain ⟨t, a1, a2⟩ := h.ex
  refine ⟨_, pi_range1 hg hm a1 hs, fun σ H δ μ Q R rm rs q f => ?_⟩
  refine a2 σ H δ μ _ _ rm rs q fun vs ds H1 μ1 k1 rm1 r1 q1 => ?_
  unfold gRange at q
  match ds, q1, r1 with
  | [.int n], q1, r1 =>
    unfold RepL at r1
    obtain ⟨v, r, rfl, r2, r3⟩ := r1
    unfold RepL at r3
    unfold Rep at r2
    subst r2 r3
    refine ⟨n, rfl, q1.1.1, q1.1.2, f _ _ H1 μ1 k1 rm1 ?_ q1.2⟩
    have e : n.toNat = ((List.range n.toNat).map fun i => D.int (i : Nat)).length := by simp
    rw [WalkD, ← e]
    refine (walk_range (lo := 0) (n := n.toNat)).mono (fun H' _ => True.intro) fun i H' y H2 hi _ ⟨e1, e2⟩ μ' k rm => ?_
    subst e1 e2
    refine ⟨.int (0 + (i : Nat)), ?_, by unfold Rep; rfl, Kp.refl _ _, rm⟩
    rw [List.getElem?_map, List.getElem?_range hi]
    simp
end
/-! ### statements -/
def gNext : GS := fun F δ μ => F.nx δ μ
def gSeq (t u : GS) : GS := fun F δ μ => t { F with nx := u F } δ μ
section
variable {X : Cx} {st : Stmt} {rest body : List Stmt} {t u : GS} {e : Expr} {ge : GE} {pos : Pos} {a b : List Stmt}
theorem dss_nil : DSs X [] gNext := ⟨_, pss_nil, fun σ H δ μ E F rm rs e q => e.nx σ H δ μ (Kp.refl _ _) rm rs q⟩
theorem dss_one (h : DSt X st t) : DSs X [st] t := let ⟨_, a, b⟩ := h.ex; ⟨_, pss_one a, b⟩
theorem dss_cons (h : DSt X st t) (h2 : DSs X rest u) : DSs X (st :: rest) (gSeq t u) := by
  obtain ⟨t1, a1, a2⟩ := h.ex
  obtain ⟨u1, b1, b2⟩ := h2.ex
  refine ⟨_, pss_cons a1 b1, fun σ H δ μ E F rm rs e q => ?_⟩
  exact a2 σ H δ μ _ { F with nx := u F } rm rs ⟨fun σ1 H1 δ1 μ1 k1 rm1 rs1 q1 => b2 σ1 H1 δ1 μ1 E F rm1 rs1 (e.re k1) q1, e.rt, e.bk, e.ct⟩ q
def gDrop (g : GE) : GS := fun F δ μ => g δ μ fun _ μ1 => F.nx δ μ1
theorem ds_expr (h : DE X e ge) (hs : swapsWith e none pos.line X.env = pure false := by rfl) : DSt X (.Expr e pos) (gDrop ge) := by
  obtain ⟨t1, a1, a2⟩ := h.ex
  refine ⟨_, ps_expr a1 hs, fun σ H δ μ E F rm rs e q => ?_⟩
  exact a2 σ H δ μ _ _ rm rs q fun v d H1 μ1 k1 rm1 r1 q1 => e.nx σ H1 δ μ1 k1 rm1 (rs.mono k1) q1
def gRet (g : GE) : GS := fun F δ μ => g δ μ F.rt
theorem ds_ret (h : DE X e ge) : DSt X (.Return (some e) pos) (gRet ge) := by
  obtain ⟨t1, a1, a2⟩ := h.ex
  exact ⟨_, ps_ret a1, fun σ H δ μ E F rm rs e q => a2 σ H δ μ _ _ rm rs q e.rt⟩
def gIfS (c : GT) (t u : GS) : GS := fun F δ μ => c δ μ fun k μ1 => if k = true then t F δ μ1 else u F δ μ1
theorem ds_if {c : Expr} {gc : GT} (hc : DT X c gc) (ha : DSs X a t) (hb : DSs X b u) : DSt X (.If c a b pos) (gIfS gc t u) := by
  obtain ⟨t0, c1, c2⟩ := hc.ex
  obtain ⟨t1, a1, a2⟩ := ha.ex
  obtain ⟨u1, b1, b2⟩ := hb.ex
  refine ⟨_, ps_if c1 a1 b1, fun σ H δ μ E F rm rs e q => ?_⟩
  refine c2 σ H δ μ _ _ rm rs q fun k H1 μ1 k1 rm1 q1 => ?_
  cases k with
  | true => exact a2 σ H1 δ μ1 E F rm1 (rs.mono k1) (e.re k1) q1
  | false => exact b2 σ H1 δ μ1 E F rm1 (rs.mono k1) (e.re k1) q1
def gNever : GS := fun _ _ _ => False
theorem ds_never : DSt X st gNever := ⟨_, ps_never, fun _ _ _ _ _ _ _ _ _ q => q.elim⟩
def gAsg (g : GE) (t : GG) : GS := fun F δ μ => g δ μ fun d μ1 => t d δ fun δ' => F.nx δ' μ1
theorem sim_asg {K : PySem.W.Frag} {te : TE} {tg : TG} {g : GE} {gg : GG} {ow : List Nat} (h : SimE K te g) (hg : SimG K tg gg ow) : SimS K (tAsg te tg) (gAsg g gg) := by
  intro σ H δ μ E F rm rs e q
  refine h σ H δ μ _ _ rm rs q fun v d H1 μ1 k1 rm1 r1 q1 => ?_
  exact hg v d σ H1 δ μ1 _ _ rm1 (rs.mono k1) r1 q1 fun σ2 δ2 rs2 q2 _ => e.nx σ2 H1 δ2 μ1 k1 rm1 rs2 q2
theorem ds_asg {tg : Expr} {g : TG} {gg : GG} {ow : List Nat} (he : DE X e ge) (hg : PG X tg g) (sg : SimG X.K g gg ow) (hs : swapsWithSole [tg] e pos.line X.env = pure false := by rfl) (hw : swappedStores [tg] e X.env = pure none := by rfl)
    (h1 : (assignEach [tg] X.env).map (·.2) = [assign tg X.env] := by rfl) : DSt X (.Assign [tg] e pos) (gAsg ge gg) := by
  obtain ⟨t1, a1, a2⟩ := he.ex
  exact ⟨_, ps_asg a1 hg hs hw h1, sim_asg a2 sg⟩
theorem ds_set {i : Nat} {x : Str} {pos' : Pos} (hN : X.N.Nodup) (hi : X.N[i]? = some x) (hx : Loc X.env.scope x) (he : DE X e ge) (hs : swapsWith e (some (.Name x pos')) pos.line X.env = pure false := by rfl) (hf : X.fn x = true ∨ X.env.scope.names.lookup x = some .local := by first | exact .inl rfl | exact .inr rfl | assumption) :
    DSt X (.Assign [.Name x pos'] e pos) (gAsg ge (gNm i)) := by
  obtain ⟨t1, a1, a2⟩ := he.ex
  exact ⟨_, ps_set hN hi hx a1 hs hf, sim_asg a2 sim_nm⟩
/-- a, b = x, y -/
def gPar (i j : Nat) (ga : GA) : GS := fun F δ μ => ga δ μ fun ds μ1 => match ds with
  | [d, e] => F.nx ((δ.set i (some d)).set j (some e)) μ1
  | _ => False
theorem ds_par {i j : Nat} {x y : Str} {a b : Expr} {ga : GA} {px py pt : Pos} {kt k2 pt2} (hc : X.calm = true) (hN : X.N.Nodup) (hi : X.N[i]? = some x) (hj : X.N[j]? = some y) (hij : i ≠ j)
    (hx : X.env.scope.names.lookup x = some .local) (hy : X.env.scope.names.lookup y = some .local) (ha : DA X [a, b] ga)
    (hw : swappedStores [.Tuple [.Name x px, .Name y py] kt pt] (.Tuple [a, b] k2 pt2) X.env = pure (some [x, y]))
    (hs : swapsWithSole [.Tuple [.Name x px, .Name y py] kt pt] (.Tuple [a, b] k2 pt2) pos.line X.env = pure false := by rfl) :
    DSt X (.Assign [.Tuple [.Name x px, .Name y py] kt pt] (.Tuple [a, b] k2 pt2) pos) (gPar i j ga) := by
  obtain ⟨t1, a1, a2⟩ := ha.ex
  refine ⟨_, ps_par hc hN hi hj hij hx hy a1 hw hs, fun σ H δ μ E F rm rs e q => ?_⟩
  refine a2 σ H δ μ _ _ rm rs q fun vs ds H1 μ1 k1 rm1 r1 q1 => ?_
  match ds, r1, q1 with
  | [d, d2], r1, q1 =>
    unfold RepL at r1
    obtain ⟨v, r, rfl, r2, r3⟩ := r1
    unfold RepL at r3
    obtain ⟨v2, r, rfl, r4, r5⟩ := r3
    unfold RepL at r5
    subst r5
    exact ⟨v, v2, rfl, e.nx _ H1 _ μ1 k1 rm1 (((rs.mono k1).set i r2).set j r4) q1⟩
/-- name op= e -/
def gAug (i : Nat) (g : GE) (r : G2) : GS := fun F δ μ => match δ.getD i none with
  | some d => g δ μ fun y μ1 => r d y μ1 fun z μ2 => F.nx (δ.set i (some z)) μ2
  | none => False
theorem ds_aug {i : Nat} {x : Str} {op : Operator} {ti : TIp} {g2 : G2} {pos' : Pos} (hN : X.N.Nodup) (hi : X.N[i]? = some x) (hx : Loc X.env.scope x) (he : DE X e ge) (ho : PIp X op ti) (h : SimO X.K ti g2) (hf : X.fn x = true ∨ X.env.scope.names.lookup x = some .local := by first | exact .inl rfl | exact .inr rfl | assumption) :
    DSt X (.AugAssign (.Name x pos') op e pos) (gAug i ge g2) := by
  obtain ⟨t1, a1, a2⟩ := he.ex
  refine ⟨_, ps_aug hN hi hx a1 ho hf, fun σ H δ μ E F rm rs e q => ?_⟩
  unfold gAug at q
  rw [List.getD_eq_getElem?_getD] at q
  cases e0 : δ[i]? with
  | none => rw [e0] at q; exact False.elim q
  | some o =>
    cases o with
    | none => rw [e0] at q; exact False.elim q
    | some d =>
      rw [e0] at q
      obtain ⟨v, e2, rv⟩ := rs.get e0
      refine ⟨v, e2, a2 σ H δ μ _ _ rm rs q fun w d2 H1 μ1 k1 rm1 r1 q1 => ?_⟩
      exact h v w d d2 H1 μ1 _ _ rm1 (rv.mono k1) r1 q1 fun z d3 H2 μ2 k2 rm2 r2 q2 => e.nx _ H2 _ μ2 (k1.trans k2) rm2 ((rs.mono (k1.trans k2)).set i r2) q2
/-- for -/
def gFor (gi : GI) (gt : GG) (gb : GS) : GS := fun F δ μ => gi δ μ fun items μ1 => ∃ Iv : Nat → DS → Mu → Prop, Iv 0 δ μ1 ∧
  (∀ i x δ' μ', items[i]? = some x → Iv i δ' μ' → gt x δ' fun δ2 => gb { F with nx := Iv (i + 1), ct := Iv (i + 1), bk := F.nx } δ2 μ') ∧ ∀ δ' μ', Iv items.length δ' μ' → F.nx δ' μ'
theorem ds_for {tg iter : Expr} {gi : GI} {g : TG} {gg : GG} {ow : List Nat} {gb : GS} (hp : PassesOwn (model X.prog X.w) X.A X.env X.xe) (hc : X.calm = true) (hi : DI X tg iter gi) (hg : PG X tg g) (sg : SimG X.K g gg ow) (hb : DSs X body gb)
    (hs : ∀ x, foldedSetIterable iter X.env x = pure x := by intro _; rfl) : DSt X (.For tg iter body [] pos) (gFor gi gg gb) := by
  obtain ⟨ti, i1, i2⟩ := hi.ex
  obtain ⟨tb, b1, b2⟩ := hb.ex
  refine ⟨_, ps_for hp hc i1 hg b1 hs, fun σ H δ μ E F rm rs e q => ?_⟩
  refine i2 σ H δ μ _ _ rm rs q fun J items H1 μ1 k1 rm1 wk ⟨Iv, h0, hstep, hend⟩ => ?_
  refine for_it wk (fun i σ H => ∃ δ μ, Kp H1 μ1 H μ ∧ RM X.K H μ ∧ RepS X.K H μ δ σ ∧ Iv i δ μ) ⟨δ, μ1, Kp.refl _ _, rm1, rs.mono k1, h0⟩ (fun i σ H _ ⟨_, μ, k, rm, _⟩ => ⟨μ, k, rm⟩) ?_ ?_
  · rintro i x σ2 H2 H3 hi ⟨δ2, μ2, k2, rm2, rs2, iv⟩ y
    obtain ⟨d, e1, r1, k3, rm3⟩ := y μ2 k2 rm2
    refine sg x d σ2 H3 δ2 μ2 _ _ rm3 (rs2.mono k3) r1 (hstep i d δ2 μ2 e1 iv) fun σ4 δ4 rs4 q4 _ => ?_
    refine b2 σ4 H3 δ4 μ2 _ _ rm3 rs4 ⟨?_, ?_, ?_, ?_⟩ q4
    · exact fun σ5 H5 δ5 μ5 k5 rm5 rs5 q5 => ⟨δ5, μ5, k2.trans (k3.trans k5), rm5, rs5, q5⟩
    · exact e.rt.re (k1.trans (k2.trans k3))
    · exact fun σ5 H5 δ5 μ5 k5 rm5 rs5 q5 => e.nx σ5 H5 δ5 μ5 (k1.trans (k2.trans (k3.trans k5))) rm5 rs5 q5
    · exact fun σ5 H5 δ5 μ5 k5 rm5 rs5 q5 => ⟨δ5, μ5, k2.trans (k3.trans k5), rm5, rs5, q5⟩
  · rintro σ2 H2 ⟨δ2, μ2, k2, rm2, rs2, iv⟩
    exact e.nx σ2 H2 δ2 μ2 (k1.trans k2) rm2 rs2 (hend δ2 μ2 iv)
/-- what a comprehension asks over its items -/
structure LcB (gt : GG) (gc : GT) (ge : GE) (own : List Nat) (δ : DS) (R : KD) (items : List D) (μ1 : Mu) : Prop where
  ex : ∀ a, μ1 a = none → ∃ Iv : Nat → Mu → Prop, Iv 0 (put μ1 a (.lst [])) ∧
  (∀ i x μ', items[i]? = some x → Iv i μ' → gt x (wiped δ own) fun δ2 => gc δ2 μ' fun b μ2 => if b = true then ge δ2 μ2 fun y μ3 => ∃ acc, μ3 a = some (.lst acc) ∧ acc.length < sizeLine ∧ Iv (i + 1) (put μ3 a (.lst (acc ++ [y]))) else Iv (i + 1) μ2) ∧
  ∀ μ', Iv items.length μ' → ∃ acc, μ' a = some (.lst acc) ∧ R (.lst acc) (del μ' a)
/-- [e for t in it if c] -/
def gLc (gi : GI) (gt : GG) (gc : GT) (ge : GE) (own : List Nat) : GE := fun δ μ R => gi δ μ (LcB gt gc ge own δ R)
theorem sim_lc {K : PySem.W.Frag} {ti : TI} {gi : GI} {g : TG} {gg : GG} {ow : List Nat} {tc : TT} {gc : GT} {te : TE} {ge : GE} {own : List Nat} (hi : SimI K ti gi) (sg : SimG K g gg ow) (ho : ∀ i ∈ ow, i ∈ own) (hc : SimT K tc gc) (he : SimE K te ge) :
    SimE K (tLc ti g tc te own) (gLc gi gg gc ge own) := by
  intro σ H δ μ Q R rm rs q f
  refine hi σ H δ μ _ _ rm rs q fun J items H1 μ1 k1 rm1 wk q1 => ?_
  intro D nD
  obtain ⟨Iv, h0, hstep, hend⟩ := q1.ex D (rm1.free nD)
  have kc : Kp H1 μ1 (upd H1 D (.lst [])) (put μ1 D (.lst [])) := Kp.cell nD
  refine lc_it wk (fun i H => ∃ μ, Kp H1 μ1 H μ ∧ RM K H μ ∧ Iv i μ) ⟨_, kc, rm1.cell nD RepL.nil, h0⟩ (fun i H _ ⟨μ, k, rm, _⟩ => ⟨μ, k, rm⟩) ?_ ?_
  · rintro i x H2 H3 hi2 ⟨μ2, k2, rm2, iv⟩ y
    obtain ⟨d, e1, r1, k3, rm3⟩ := y μ2 k2 rm2
    have rsw : RepS K H3 μ2 (wiped δ own) (L2.wipe σ own) := (rs.mono (k1.trans (k2.trans k3))).wipe own
    refine sg x d _ H3 _ μ2 _ _ rm3 rsw r1 (hstep i d μ2 e1 iv) fun σ4 δ4 rs4 q4 w4 => ⟨(w4 own ho).trans wipe_wipe, ?_⟩
    refine hc σ4 H3 δ4 μ2 _ _ rm3 rs4 q4 fun b H5 μ5 k5 rm5 q5 => ?_
    cases b with
    | false => exact ⟨μ5, k2.trans (k3.trans k5), rm5, q5⟩
    | true =>
      rw [if_pos rfl] at q5 ⊢
      refine he σ4 H5 δ4 μ5 _ _ rm5 (rs4.mono k5) q5 fun v d6 H6 μ6 k6 rm6 r6 q6 => ?_
      obtain ⟨acc, ea, hl, iv6⟩ := q6
      obtain ⟨vs, h1, h2⟩ := rm6 D _ ea
      refine ⟨vs, h1, by rw [h2.length]; exact hl, _, k2.trans (k3.trans (k5.trans (k6.trans (Kp.write ea)))), ?_, iv6⟩
      refine rm6.put (Kp.write ea) (fun a o n _ => upd_ne n) ⟨_, upd_same, ?_⟩
      exact (h2.append (RepL.cons r6 RepL.nil)).mono (Kp.write ea) _ _
  · rintro H2 ⟨μ2, k2, rm2, iv⟩
    obtain ⟨acc, ea, q3⟩ := hend μ2 iv
    obtain ⟨vs, h1, h2⟩ := rm2 D _ ea
    refine f (.ref D) (.lst acc) H2 (del μ2 D) (k1.trans (k2.trans Kp.drop)) rm2.drop ?_ q3
    unfold Rep
    exact ⟨D, vs, rfl, h1, del_same, h2.mono Kp.drop _ _⟩
theorem de_lc {elt tg iter : Expr} {ifs : List Expr} {scope : Scope} {own : List (Str × Nat)} {pos : Pos} {gi : GI} {g : TG} {gg : GG} {ow : List Nat} {gc : GT} {ge : GE} (hc : X.calm = true) (hN : X.N.Nodup) (hi : DI X tg iter gi) (ok : BlkOk X.N X.env.scope scope own)
    (hg : ∀ (s : Shared) (H : Hp) (C : Addr) (cl : List (Str × Addr)) (fp : List Addr), PG (X.blk s H scope (compEnvC scope cl C X.env) fp) tg g) (sg : SimG X.K g gg ow) (ht : ∀ (s : Shared) (H : Hp) (C : Addr) (cl : List (Str × Addr)) (fp : List Addr), DTs (X.blk s H scope (compEnvC scope cl C X.env) fp) ifs gc)
    (he : ∀ (s : Shared) (H : Hp) (C : Addr) (cl : List (Str × Addr)) (fp : List Addr), DE (X.blk s H scope (compEnvC scope cl C X.env) fp) elt ge) (ho : ∀ i ∈ ow, i ∈ own.map (·.2) := by decide) (hs : ∀ x, foldedSetIterable iter X.env x = pure x := by intro _; rfl) :
    DE X (.ListComp elt [⟨tg, iter, ifs, 0⟩] scope pos) (gLc gi gg gc ge (own.map (·.2))) := by
  obtain ⟨ti, i1, i2⟩ := hi.ex
  exact ⟨_, pe_lc hc hN i1 ok hg (fun s H C cl fp => (ht s H C cl fp).pt) (fun s H C cl fp => (he s H C cl fp).pe) hs, sim_lc i2 sg ho simT_of sim_of⟩
theorem ds_setLc {i : Nat} {y : Str} {py : Pos} {elt tg iter : Expr} {ifs : List Expr} {scope : Scope} {own : List (Str × Nat)} {pos spos : Pos} {gi : GI} {g : TG} {gg : GG} {ow : List Nat} {gc : GT} {ge : GE} (hc : X.calm = true) (hN : X.N.Nodup) (hy : X.N[i]? = some y) (hyl : X.env.scope.names.lookup y = some .local)
    (hsw : swapsWith (.ListComp elt [⟨tg, iter, ifs, 0⟩] scope pos) (some (.Name y py)) spos.line X.env = pure true) (hi : DI X tg iter gi) (ok : BlkOk X.N X.env.scope scope own)
    (hg : ∀ (s : Shared) (H : Hp) (C : Addr) (cl : List (Str × Addr)) (fp : List Addr), PG (X.blk s H scope (compEnvC scope cl C X.env) fp) tg g) (sg : SimG X.K g gg ow) (ht : ∀ (s : Shared) (H : Hp) (C : Addr) (cl : List (Str × Addr)) (fp : List Addr), DTs (X.blk s H scope (compEnvC scope cl C X.env) fp) ifs gc)
    (he : ∀ (s : Shared) (H : Hp) (C : Addr) (cl : List (Str × Addr)) (fp : List Addr), DE (X.blk s H scope (compEnvC scope cl C X.env) fp) elt ge) (ho : ∀ i ∈ ow, i ∈ own.map (·.2) := by decide) (hs : ∀ x, foldedSetIterable iter X.env x = pure x := by intro _; rfl) :
    DSt X (.Assign [.Name y py] (.ListComp elt [⟨tg, iter, ifs, 0⟩] scope pos) spos) (gAsg (gLc gi gg gc ge (own.map (·.2))) (gNm i)) := by
  obtain ⟨ti, i1, i2⟩ := hi.ex
  exact ⟨_, ps_setLc hc hN hy hyl hsw i1 ok hg (fun s H C cl fp => (ht s H C cl fp).pt) (fun s H C cl fp => (he s H C cl fp).pe) hs, sim_asg (sim_lc i2 sg ho simT_of sim_of) sim_nm⟩
end
/-! ### defs, calls -/
def toSp (K : PySem.W.Frag) (g : GC) : Sp := fun vs H Q _ => ∃ ds μ R, RM K H μ ∧ RepL K H μ ds vs ∧ g ds μ R ∧ Fw K H μ R Q
theorem repS_some {K : PySem.W.Frag} {H : Hp} {μ : Mu} (n : Nat) : ∀ {ds : List D} {vs : List V}, RepL K H μ ds vs → RepS K H μ (ds.map some ++ List.replicate n none) (vs.map some ++ List.replicate n none)
  | [], _, h => by
    unfold RepL at h
    subst h
    show RepS K H μ (List.replicate n none) (List.replicate n none)
    induction n with
    | zero => simp [RepS]
    | succ n ih =>
      rw [List.replicate_succ, List.replicate_succ]
      unfold RepS
      exact ⟨_, _, rfl, ih⟩
  | d :: ds, _, h => by
    unfold RepL at h
    obtain ⟨v, r, rfl, h1, h2⟩ := h
    show RepS K H μ (some d :: (ds.map some ++ List.replicate n none)) (some v :: (r.map some ++ List.replicate n none))
    unfold RepS
    exact ⟨v, _, rfl, h1, repS_some n h2⟩
section
variable {P : Program} {w : World} {K : PySem.W.Frag} {mg : Str → Option Value} {base : Heap}
theorem okD {x qual : Str} {st : Stmt} {f : Addr} {fd : FuncData} {N ps : List Str} {k : Nat} {g : GC} (F : Fun K x qual st f fd) (S : FnScope N ps (defScope st)) (len : ∀ ds μ R, g ds μ R → ds.length = ps.length)
    (h : ∃ gb : GS, (∀ (cdv : Value) (A : Around) (outer : List Env) (s : Shared) (H : Hp) (E : XK), Room k (A.deeper (envOfC qual (defScope st) s.heap.objs.size f cdv)) →
        DSs (cxOf CX0 P w K mg base N qual (defScope st) f cdv A outer s H E).nox (defBody st) gb) ∧
      ∀ ds μ R, g ds μ R → gb { nx := fun _ μ' => R .non μ', rt := R } (begin_ N ds) μ) : FnOk P w K mg base CX0 (k + 1) f fd ps (toSp K g) := by
  obtain ⟨gb, hb, hg⟩ := h
  refine F.ok S (fun vs H Q E ⟨ds, μ, R, rm, rl, q, fw⟩ => by rw [rl.length]; exact len ds μ R q) fun cdv A outer s H vs Q E hr ⟨ds, μ, R, rm, rl, q, fw⟩ => ?_
  obtain ⟨t, a, b⟩ := (hb cdv A outer s H E hr).ex
  refine ⟨t, a, b _ H (begin_ N ds) μ _ { nx := fun _ μ' => R .non μ', rt := R } rm ?_ ⟨fun σ H' δ μ' k rm' _ q' => fw .non .non H' μ' k rm' (by unfold Rep; rfl) q', fw, fun _ _ _ _ _ _ _ z => z, fun _ _ _ _ _ _ _ z => z⟩ (hg ds μ R q)⟩
  show RepS K H μ (ds.map some ++ List.replicate (N.length - ds.length) none) (vs.map some ++ List.replicate (N.length - vs.length) none)
  rw [rl.length]
  exact repS_some _ rl
end
section
variable {X : Cx} {k : Nat} {f C : Addr} {fd : FuncData} {ps : List Str} {g : GC} {x : Str} {p pos : Pos} {e : Expr} {es : List Expr} {ga gk : GA}
def gCall (g : GC) (ga : GA) : GE := fun δ μ R => ga δ μ fun ds μ1 => g ds μ1 R
theorem de_call (F : FnOk X.prog X.w X.K X.mg X.base CX0 k f fd ps (toSp X.K g)) (hr : Room k X.A) (hg : Gl X x) (hm : X.mg x = some (.ref f)) (hk : PySem.W.keepIn X.K (.ref f) = true) (hb : Binds X.K fd ps [])
    (ha : DA X (e :: es) ga) (hdb : (x == ("__debug__" : Str)) = false := by decide) (he : starEach (e :: es) X.env = (false, eval e X.env) :: starEach es X.env := by rfl) (hpl : (backTo pos (starEach es X.env)).any (·.1) = false := by rfl) :
    DE X (.Call (.Name x p) (e :: es) [] pos) (gCall g ga) := by
  obtain ⟨t, a1, a2⟩ := ha.ex
  refine ⟨_, pe_call F hr hg hm hk hb .nil (pass0 (X := X)) a1 hdb he hpl, fun σ H δ μ Q R rm rs q f => ?_⟩
  refine a2 σ H δ μ _ _ rm rs q fun vs ds H1 μ1 k1 rm1 r1 q1 => ?_
  show toSp X.K g (vs ++ []) H1 Q E0
  rw [List.append_nil]
  exact ⟨ds, μ1, R, rm1, r1, q1, f.re k1⟩
/-- C(..), the new instance frozen behind its __init__ -/
def gMake (C : Addr) (g : GC) (ga : GA) : GE := fun δ μ R => ga δ μ fun ds μ1 => ∀ a, μ1 a = none → g (.adr a :: ds) (put μ1 a (.ins C [])) fun d μ2 => match d with
  | .non => ∃ fs, μ2 a = some (.ins C fs) ∧ R (.ins C fs) (del μ2 a)
  | _ => False
theorem de_make (M : Mk X.K C f) (F : FnOk X.prog X.w X.K X.mg X.base CX0 k f fd ps (toSp X.K g)) (hr : Room (k + 1) X.A) (hg : Gl X x) (hm : X.mg x = some (.ref C)) (hb : Binds X.K fd ps [])
    (ha : DA X (e :: es) ga) (hdb : (x == ("__debug__" : Str)) = false := by decide) (he : starEach (e :: es) X.env = (false, eval e X.env) :: starEach es X.env := by rfl) (hpl : (backTo pos (starEach es X.env)).any (·.1) = false := by rfl) :
    DE X (.Call (.Name x p) (e :: es) [] pos) (gMake C g ga) := by
  obtain ⟨t, a1, a2⟩ := ha.ex
  refine ⟨_, pe_make M F hr hg hm hb .nil (pass0 (X := X)) a1 hdb he hpl, fun σ H δ μ Q R rm rs q f => ?_⟩
  refine a2 σ H δ μ _ _ rm rs q fun vs ds H1 μ1 k1 rm1 r1 q1 => ?_
  intro a dx na nd ne
  have n2 : upd H1 dx (.own a) a = none := by rw [upd_ne (Ne.symm ne)]; exact na
  have rm2 : RM X.K (upd H1 dx (.own a)) μ1 := rm1.laid nd
  have kc : Kp (upd H1 dx (.own a)) μ1 (upd (upd H1 dx (.own a)) a (.ins C dx [])) (put μ1 a (.ins C [])) := Kp.cell n2
  have k2 : Kp H1 μ1 (upd (upd H1 dx (.own a)) a (.ins C dx [])) (put μ1 a (.ins C [])) := (Kp.new nd).trans kc
  have rm3 : RM X.K (upd (upd H1 dx (.own a)) a (.ins C dx [])) (put μ1 a (.ins C [])) := rm2.put kc (fun b o n _ => upd_ne n) ⟨dx, [], upd_same, by unfold RepF; rfl⟩
  show toSp X.K g (V.ref a :: (vs ++ [])) _ _ E0
  rw [List.append_nil]
  refine ⟨.adr a :: ds, _, _, rm3, RepL.cons (by unfold Rep; rfl) (r1.mono k2 _ _), q1 a (rm1.free na), fun v d H4 μ4 k4 rm4 r4 q4 => ?_⟩
  cases d <;> try exact False.elim q4
  obtain ⟨fs, e4, q4⟩ := q4
  obtain ⟨dx4, fv, h1, h2⟩ := rm4 a _ e4
  unfold Rep at r4
  refine ⟨r4, f (.ref a) (.ins C fs) H4 (del μ4 a) (k1.trans (k2.trans (k4.trans Kp.drop))) rm4.drop ?_ q4⟩
  unfold Rep
  exact ⟨a, dx4, fv, rfl, h1, del_same, h2.mono Kp.drop _ _⟩
end
end DL
set_option Elab.async false
set_option linter.all false
set_option maxRecDepth 100000
namespace DL
open PySem PySem.Spec PyProof.Rows L2
section
variable {X : Cx}
theorem OpR.or {f : Value → Value → Sem Value} {r r' : R2} (h : OpR X f r) (h' : OpR X f r') : OpR X f (fun x y H Q => r x y H Q ∨ r' x y H Q) := by
  intro pins s σ H x y v u Q I rx ry q
  rcases q with q | q
  · exact h pins s σ H x y v u Q I rx ry q
  · exact h' pins s σ H x y v u Q I rx ry q
theorem CallR.or {f : Value} {r r' : List V → Hp → VK → Prop} (h : CallR X f r) (h' : CallR X f r') : CallR X f (fun xs H Q => r xs H Q ∨ r' xs H Q) := by
  intro pins s σ H xs us Q I rx q
  rcases q with q | q
  · exact h pins s σ H xs us Q I rx q
  · exact h' pins s σ H xs us Q I rx q
end
section
variable {K : PySem.W.Frag} {H : Hp} {μ : Mu}
theorem rep_int {i : Int} {v : V} (h : Rep K H μ (.int i) v) : v = .int i := by unfold Rep at h; exact h
theorem rep_str {i : Str} {v : V} (h : Rep K H μ (.str i) v) : v = .str i := by unfold Rep at h; exact h
theorem rep_bl {i : Bool} {v : V} (h : Rep K H μ (.bl i) v) : v = .bl i := by unfold Rep at h; exact h
theorem rep_non {v : V} (h : Rep K H μ .non v) : v = .non := by unfold Rep at h; exact h
theorem rep_adr {a : Addr} {v : V} (h : Rep K H μ (.adr a) v) : v = .ref a := by unfold Rep at h; exact h
theorem rep_tup {ds : List D} {v : V} (h : Rep K H μ (.tup ds) v) : ∃ a vs, v = .ref a ∧ ImT K H μ a vs ∧ RepL K H μ ds vs := by unfold Rep at h; exact h
theorem rep_lst {ds : List D} {v : V} (h : Rep K H μ (.lst ds) v) : ∃ a vs, v = .ref a ∧ H a = some (.lst vs) ∧ μ a = none ∧ RepL K H μ ds vs := by unfold Rep at h; exact h
theorem rep_seq {ds : List D} {v : V} (h : Rep K H μ (.seq ds) v) : ∃ a vs, v = .ref a ∧ ImQ K H μ a vs ∧ RepL K H μ ds vs := by unfold Rep at h; exact h
theorem rep_ins {C : Addr} {fs : List (Str × D)} {v : V} (h : Rep K H μ (.ins C fs) v) : ∃ a dx fv, v = .ref a ∧ H a = some (.ins C dx fv) ∧ μ a = none ∧ RepF K H μ fs fv := by unfold Rep at h; exact h
theorem to_int {i : Int} : Rep K H μ (.int i) (.int i) := by unfold Rep; rfl
theorem to_str {i : Str} : Rep K H μ (.str i) (.str i) := by unfold Rep; rfl
theorem to_bl {i : Bool} : Rep K H μ (.bl i) (.bl i) := by unfold Rep; rfl
theorem to_non : Rep K H μ .non .non := by unfold Rep; rfl
theorem to_adr {a : Addr} : Rep K H μ (.adr a) (.ref a) := by unfold Rep; rfl
theorem to_tup {p : Addr} {vs : List V} {ds : List D} (h : H p = some (.tup vs)) (n : μ p = none) (r : RepL K H μ ds vs) : Rep K H μ (.tup ds) (.ref p) := by unfold Rep; exact ⟨p, vs, rfl, .inl ⟨h, n⟩, r⟩
theorem to_lst {p : Addr} {vs : List V} {ds : List D} (h : H p = some (.lst vs)) (n : μ p = none) (r : RepL K H μ ds vs) : Rep K H μ (.lst ds) (.ref p) := by unfold Rep; exact ⟨p, vs, rfl, h, n, r⟩
/-- a new tuple, a new list -/
theorem fw_tup {R : KD} {Q : VK} {p : Addr} {vs : List V} {ds : List D} (rm : RM K H μ) (n : H p = none) (r : RepL K H μ ds vs) (q : R (.tup ds) μ) (f : Fw K H μ R Q) : Q (.ref p) (upd H p (.tup vs)) :=
  f _ _ _ μ (Kp.new n) (rm.laid n) (to_tup upd_same (rm.free n) (r.mono (Kp.new n) _ _)) q
theorem fw_lst {R : KD} {Q : VK} {p : Addr} {vs : List V} {ds : List D} (rm : RM K H μ) (n : H p = none) (r : RepL K H μ ds vs) (q : R (.lst ds) μ) (f : Fw K H μ R Q) : Q (.ref p) (upd H p (.lst vs)) :=
  f _ _ _ μ (Kp.new n) (rm.laid n) (to_lst upd_same (rm.free n) (r.mono (Kp.new n) _ _)) q
theorem fw_cell {R : KD} {Q : VK} {p : Addr} {vs : List V} {ds : List D} (rm : RM K H μ) (n : H p = none) (r : RepL K H μ ds vs) (q : ∀ a, μ a = none → R (.adr a) (put μ a (.lst ds))) (f : Fw K H μ R Q) : Q (.ref p) (upd H p (.lst vs)) :=
  f _ _ _ _ (Kp.cell n) (rm.cell n r) to_adr (q p (rm.free n))
/-- a cell written -/
theorem fw_write {R : KD} {Q : VK} {p : Addr} {vs : List V} {ds es : List D} {d : D} {v : V} (rm : RM K H μ) (e : μ p = some (.lst es)) (r : RepL K H μ ds vs) (rv : Rep K H μ d v) (q : R d (put μ p (.lst ds))) (f : Fw K H μ R Q) : Q v (upd H p (.lst vs)) :=
  f v d _ (put μ p (.lst ds)) (Kp.write e) (rm.put (m := .lst ds) (Kp.write e) (fun a o n _ => upd_ne n) ⟨_, upd_same, r.mono (Kp.write e) _ _⟩) (rv.mono (Kp.write e)) q
theorem fw_now {R : KD} {Q : VK} {d : D} {v : V} (rm : RM K H μ) (rv : Rep K H μ d v) (q : R d μ) (f : Fw K H μ R Q) : Q v H := f _ _ _ _ (Kp.refl _ _) rm rv q
end
/-! ### operators -/
def gPlus : G2 := fun x y μ R => match x, y with
  | .int i, .int j => R (.int (i + j)) μ
  | .str a, .str b => a.length + b.length ≤ sizeLine ∧ R (.str (a ++ b)) μ
  | .tup a, .tup b => a.length + b.length ≤ sizeLine ∧ R (.tup (a ++ b)) μ
  | .lst a, .lst b => a.length + b.length ≤ sizeLine ∧ R (.lst (a ++ b)) μ
  | _, _ => False
def rPlus (K : PySem.W.Frag) : R2 := fun x y H Q => (rI0 fun i j => .int (i + j)) x y H Q ∨ (∃ i j, x = .str i ∧ y = .str j ∧ i.length + j.length ≤ sizeLine ∧ Q (.str (i ++ j)) H) ∨ rCatA K x y H Q ∨ rCat x y H Q
theorem op_plus {X : Cx} : OpR X (binaryOp .Add) (rPlus X.K) := OpR.or op_add (OpR.or op_add_str (OpR.or op_catA op_cat))
theorem sim_plus {K : PySem.W.Frag} : SimO K (rPlus K) gPlus := by
  intro x y dx dy H μ Q R rm rx ry q f
  cases dx <;> cases dy <;> try exact False.elim q
  · rw [rep_int rx, rep_int ry]
    exact .inl ⟨_, _, rfl, rfl, fw_now rm to_int q f⟩
  · rw [rep_str rx, rep_str ry]
    exact .inr (.inl ⟨_, _, rfl, rfl, q.1, fw_now rm to_str q.2 f⟩)
  · rename_i a b
    obtain ⟨p, vs, rfl, i1, l1⟩ := rep_tup rx
    obtain ⟨p2, vs2, rfl, i2, l2⟩ := rep_tup ry
    refine .inr (.inr (.inl ⟨p, p2, vs, vs2, rfl, rfl, i1.sq, i2.sq, by rw [l1.length, l2.length]; exact q.1, fun e => ?_, fun e e2 => ?_, fun _ _ t n => fw_tup rm n (l1.append l2) q.2 f⟩))
    · subst e
      have e0 : a = [] := List.eq_nil_of_length_eq_zero (by rw [← l1.length]; rfl)
      subst e0
      exact fw_now rm ry q.2 f
    · subst e2
      have e0 : b = [] := List.eq_nil_of_length_eq_zero (by rw [← l2.length]; rfl)
      subst e0
      have q2 := q.2
      rw [List.append_nil] at q2
      exact fw_now rm rx q2 f
  · obtain ⟨p, vs, rfl, i1, n1, l1⟩ := rep_lst rx
    obtain ⟨p2, vs2, rfl, i2, n2, l2⟩ := rep_lst ry
    exact .inr (.inr (.inr ⟨p, p2, vs, vs2, rfl, rfl, i1, i2, by rw [l1.length, l2.length]; exact q.1, fun t n => fw_lst rm n (l1.append l2) q.2 f⟩))
/-- two ints -/
def gII (C : Int → Int → Prop) (h : Int → Int → D) : G2 := fun x y μ R => match x, y with
  | .int i, .int j => C i j ∧ R (h i j) μ
  | _, _ => False
def gII0 (h : Int → Int → D) : G2 := fun x y μ R => match x, y with
  | .int i, .int j => R (h i j) μ
  | _, _ => False
theorem sim_II {K : PySem.W.Frag} {C : Int → Int → Prop} {g : Int → Int → V} {h : Int → Int → D} (e : ∀ H μ i j, Rep K H μ (h i j) (g i j)) : SimO K (rI C g) (gII C h) := by
  intro x y dx dy H μ Q R rm rx ry q f
  cases dx <;> cases dy <;> try exact False.elim q
  rw [rep_int rx, rep_int ry]
  exact ⟨_, _, rfl, rfl, q.1, fw_now rm (e _ _ _ _) q.2 f⟩
theorem sim_II0 {K : PySem.W.Frag} {g : Int → Int → V} {h : Int → Int → D} (e : ∀ H μ i j, Rep K H μ (h i j) (g i j)) : SimO K (rI0 g) (gII0 h) := by
  intro x y dx dy H μ Q R rm rx ry q f
  cases dx <;> cases dy <;> try exact False.elim q
  rw [rep_int rx, rep_int ry]
  exact ⟨_, _, rfl, rfl, fw_now rm (e _ _ _ _) q f⟩
abbrev gMinus : G2 := gII0 fun i j => .int (i - j)
abbrev gMul : G2 := gII CMul fun i j => .int (i * j)
abbrev gFdiv : G2 := gII CDivN fun i j => .int (i.fdiv j)
abbrev gMod : G2 := gII (fun _ j => j ≠ 0) fun i j => .int (i.fmod j)
abbrev gPow : G2 := gII CPow fun i j => .int (i ^ j.toNat)
theorem sim_minus {K : PySem.W.Frag} : SimO K (rI0 fun i j => .int (i - j)) gMinus := sim_II0 fun _ _ _ _ => to_int
theorem sim_mul {K : PySem.W.Frag} : SimO K (rI CMul fun i j => .int (i * j)) gMul := sim_II fun _ _ _ _ => to_int
theorem sim_fdiv {K : PySem.W.Frag} : SimO K (rI CDivN fun i j => .int (i.fdiv j)) gFdiv := sim_II fun _ _ _ _ => to_int
theorem sim_mod {K : PySem.W.Frag} : SimO K (rI (fun _ j => j ≠ 0) fun i j => .int (i.fmod j)) gMod := sim_II fun _ _ _ _ => to_int
theorem sim_pow {K : PySem.W.Frag} : SimO K (rI CPow fun i j => .int (i ^ j.toNat)) gPow := sim_II fun _ _ _ _ => to_int
/-- <, <=, >, >= of ints, of texts -/
def gOrd (h : Int → Int → Bool) (k : List Nat → List Nat → Bool) : G2 := fun x y μ R => match x, y with
  | .int i, .int j => R (.bl (h i j)) μ
  | .str a, .str b => R (.bl (k a.cps.toList b.cps.toList)) μ
  | _, _ => False
def rOrd (h : Int → Int → Bool) (k : List Nat → List Nat → Bool) : R2 := fun x y H Q => (rI0 fun i j => .bl (h i j)) x y H Q ∨ ∃ i j, x = .str i ∧ y = .str j ∧ Q (.bl (k i.cps.toList j.cps.toList)) H
theorem sim_ord {K : PySem.W.Frag} {h : Int → Int → Bool} {k : List Nat → List Nat → Bool} : SimO K (rOrd h k) (gOrd h k) := by
  intro x y dx dy H μ Q R rm rx ry q f
  cases dx <;> cases dy <;> try exact False.elim q
  · rw [rep_int rx, rep_int ry]
    exact .inl ⟨_, _, rfl, rfl, fw_now rm to_bl q f⟩
  · rw [rep_str rx, rep_str ry]
    exact .inr ⟨_, _, rfl, rfl, fw_now rm to_bl q f⟩
section
variable {X : Cx}
theorem op_ltA : OpR X (compareOp .Lt) (rOrd (fun i j => decide (i < j)) fun a b => decide (a < b)) := OpR.or op_lt op_lt_str
theorem op_leA : OpR X (compareOp .LtE) (rOrd (fun i j => decide (i ≤ j)) fun a b => !decide (b < a)) := OpR.or op_le op_le_str
theorem op_gtA : OpR X (compareOp .Gt) (rOrd (fun i j => decide (j < i)) fun a b => decide (b < a)) := OpR.or op_gt op_gt_str
theorem op_geA : OpR X (compareOp .GtE) (rOrd (fun i j => decide (j ≤ i)) fun a b => !decide (a < b)) := OpR.or op_ge op_ge_str
end
/-! ### ==, != -/
mutual
def py : D → Option PyData
  | .non => some .none
  | .bl b => some (.bool b)
  | .int i => some (.int i)
  | .str x => some (.str x)
  | .tup ds => (pyL ds).map .tuple
  | .lst ds => (pyL ds).map .list
  | .seq ds => (pyL ds).map .list
  | .ins _ _ => none
  | .adr _ => none
def pyL : List D → Option (List PyData)
  | [] => some []
  | d :: ds => match py d, pyL ds with
    | some a, some b => some (a :: b)
    | _, _ => none
end
section
variable {K : PySem.W.Frag} {H : Hp} {μ : Mu}
mutual
theorem Rep.dp : ∀ (d : D) (v : V) (e : PyData), Rep K H μ d v → py d = some e → Dp K H v e
  | .non, _, _, h, q => by
    rw [rep_non h]
    unfold py at q
    cases q
    exact .non
  | .bl _, _, _, h, q => by
    rw [rep_bl h]
    unfold py at q
    cases q
    exact .bl _
  | .int _, _, _, h, q => by
    rw [rep_int h]
    unfold py at q
    cases q
    exact .int _
  | .str _, _, _, h, q => by
    rw [rep_str h]
    unfold py at q
    cases q
    exact .str _
  | .tup ds, _, _, h, q => by
    obtain ⟨a, vs, rfl, i, r⟩ := rep_tup h
    unfold py at q
    cases e : pyL ds with
    | none => rw [e] at q; cases q
    | some es =>
      rw [e] at q
      cases q
      exact .tup i.sq (RepL.dp ds vs es r e)
  | .lst ds, _, _, h, q => by
    obtain ⟨a, vs, rfl, i, _, r⟩ := rep_lst h
    unfold py at q
    cases e : pyL ds with
    | none => rw [e] at q; cases q
    | some es =>
      rw [e] at q
      cases q
      exact .lst (SqL.of i) (RepL.dp ds vs es r e)
  | .seq ds, _, _, h, q => by
    obtain ⟨a, vs, rfl, i, r⟩ := rep_seq h
    unfold py at q
    cases e : pyL ds with
    | none => rw [e] at q; cases q
    | some es =>
      rw [e] at q
      cases q
      exact .lst i.sq (RepL.dp ds vs es r e)
  | .ins _ _, _, _, h, q => by unfold py at q; cases q
  | .adr _, _, _, h, q => by unfold py at q; cases q
theorem RepL.dp : ∀ (ds : List D) (vs : List V) (es : List PyData), RepL K H μ ds vs → pyL ds = some es → DpAll K H vs es
  | [], _, _, h, q => by
    unfold RepL at h
    unfold pyL at q
    cases q
    rw [h]
    exact .nil
  | d :: ds, _, _, h, q => by
    unfold RepL at h
    obtain ⟨v, r, rfl, h1, h2⟩ := h
    unfold pyL at q
    cases e1 : py d with
    | none => rw [e1] at q; cases q
    | some a =>
      cases e2 : pyL ds with
      | none => rw [e1, e2] at q; cases q
      | some b =>
        rw [e1, e2] at q
        cases q
        exact .cons (Rep.dp d v a h1 e1) (RepL.dp ds r b h2 e2)
end
end
def gEqD (k : Bool → Bool) : G2 := fun x y μ R => ∃ a b, py x = some a ∧ py y = some b ∧ SeqAt.shaped a = true ∧ SeqAt.shaped b = true ∧ R (.bl (k (PyData.eqv a b))) μ
def gEqK (k : Bool → Bool) : G2 := fun x y μ R => match x, y with
  | .int i, .int j => R (.bl (k (decide (i = j)))) μ
  | .str i, .str j => R (.bl (k (decide (i = j)))) μ
  | .bl i, .bl j => R (.bl (k (decide (i = j)))) μ
  | .non, .non => R (.bl (k true)) μ
  | x, y => gEqD k x y μ R
abbrev gEq : G2 := gEqK id
abbrev gNe : G2 := gEqK not
def rEqA (K : PySem.W.Frag) : R2 := fun x y H Q => rEq x y H Q ∨ rEqD K x y H Q
def rNeA (K : PySem.W.Frag) : R2 := fun x y H Q => rNe x y H Q ∨ rNeD K x y H Q
section
variable {X : Cx}
theorem op_eqA (hu : X.A.units + 64 < cLine) : OpR X (compareOp .Eq) (rEqA X.K) := OpR.or op_eq (op_eqD hu)
theorem op_neA (hu : X.A.units + 64 < cLine) : OpR X (compareOp .NotEq) (rNeA X.K) := OpR.or op_ne (op_neD hu)
end
theorem dec_ref {α β : Type} [DecidableEq α] [DecidableEq β] {f : α → β} (inj : ∀ x y, f x = f y → x = y) {i j : α} : decide (f i = f j) = decide (i = j) := by
  by_cases h : i = j
  · subst h; simp
  · rw [decide_eq_false h, decide_eq_false fun e => h (inj _ _ e)]
theorem sim_eqD {K : PySem.W.Frag} {x y : V} {dx dy : D} {H : Hp} {μ : Mu} {Q : VK} {R : KD} (rm : RM K H μ) (rx : Rep K H μ dx x) (ry : Rep K H μ dy y) (q : gEqD id dx dy μ R) (f : Fw K H μ R Q) : rEqA K x y H Q := by
  obtain ⟨a, b, e1, e2, s1, s2, q⟩ := q
  exact .inr ⟨a, b, Rep.dp _ _ _ rx e1, Rep.dp _ _ _ ry e2, s1, s2, fw_now rm to_bl q f⟩
theorem sim_neD {K : PySem.W.Frag} {x y : V} {dx dy : D} {H : Hp} {μ : Mu} {Q : VK} {R : KD} (rm : RM K H μ) (rx : Rep K H μ dx x) (ry : Rep K H μ dy y) (q : gEqD not dx dy μ R) (f : Fw K H μ R Q) : rNeA K x y H Q := by
  obtain ⟨a, b, e1, e2, s1, s2, q⟩ := q
  exact .inr ⟨a, b, Rep.dp _ _ _ rx e1, Rep.dp _ _ _ ry e2, s1, s2, fw_now rm to_bl q f⟩
theorem sim_eq {K : PySem.W.Frag} : SimO K (rEqA K) gEq := by
  intro x y dx dy H μ Q R rm rx ry q f
  cases dx <;> cases dy <;> try exact sim_eqD rm rx ry q f
  · rw [rep_non rx, rep_non ry]
    exact .inl ⟨rfl, fw_now rm to_bl q f⟩
  · rw [rep_bl rx, rep_bl ry]
    refine .inl ⟨rfl, ?_⟩
    rw [dec_ref (f := V.bl) fun _ _ e => V.bl.inj e]
    exact fw_now rm to_bl q f
  · rw [rep_int rx, rep_int ry]
    refine .inl ⟨rfl, ?_⟩
    rw [dec_ref (f := V.int) fun _ _ e => V.int.inj e]
    exact fw_now rm to_bl q f
  · rw [rep_str rx, rep_str ry]
    refine .inl ⟨rfl, ?_⟩
    rw [dec_ref (f := V.str) fun _ _ e => V.str.inj e]
    exact fw_now rm to_bl q f
theorem sim_ne {K : PySem.W.Frag} : SimO K (rNeA K) gNe := by
  intro x y dx dy H μ Q R rm rx ry q f
  cases dx <;> cases dy <;> try exact sim_neD rm rx ry q f
  · rw [rep_non rx, rep_non ry]
    exact .inl ⟨rfl, fw_now rm to_bl q f⟩
  · rw [rep_bl rx, rep_bl ry]
    refine .inl ⟨rfl, ?_⟩
    rw [dec_ref (f := V.bl) fun _ _ e => V.bl.inj e]
    exact fw_now rm to_bl q f
  · rw [rep_int rx, rep_int ry]
    refine .inl ⟨rfl, ?_⟩
    rw [dec_ref (f := V.int) fun _ _ e => V.int.inj e]
    exact fw_now rm to_bl q f
  · rw [rep_str rx, rep_str ry]
    refine .inl ⟨rfl, ?_⟩
    rw [dec_ref (f := V.str) fun _ _ e => V.str.inj e]
    exact fw_now rm to_bl q f
/-- is None, is not None -/
def D.isNon : D → Bool
  | .non => true
  | _ => false
def gIsN (k : Bool → Bool) : G2 := fun x y μ R => match y with
  | .non => R (.bl (k x.isNon)) μ
  | _ => False
theorem isNon_rep {K : PySem.W.Frag} {H : Hp} {μ : Mu} {d : D} {v : V} (h : Rep K H μ d v) : decide (v = .non) = d.isNon := by
  cases d
  · rw [rep_non h]; rfl
  · rw [rep_bl h]; rfl
  · rw [rep_int h]; rfl
  · rw [rep_str h]; rfl
  · obtain ⟨a, vs, rfl, _⟩ := rep_tup h; rfl
  · obtain ⟨a, vs, rfl, _⟩ := rep_lst h; rfl
  · obtain ⟨a, vs, rfl, _⟩ := rep_seq h; rfl
  · obtain ⟨a, dx, vs, rfl, _⟩ := rep_ins h; rfl
  · rw [rep_adr h]; rfl
theorem sim_notN {K : PySem.W.Frag} : SimO K (fun x y H Q => y = .non ∧ Q (.bl (!decide (x = .non))) H) (gIsN not) := by
  intro x y dx dy H μ Q R rm rx ry q f
  cases dy <;> try exact False.elim q
  refine ⟨rep_non ry, ?_⟩
  rw [isNon_rep rx]
  exact fw_now rm to_bl q f
/-! ### in, not in -/
def inDs (x : D) (ds : List D) (R : Bool → Prop) : Prop := (∃ i ns, x = .int i ∧ ds = List.map D.int ns ∧ R (decide (i ∈ ns))) ∨ ∃ i ns, x = .str i ∧ ds = List.map D.str ns ∧ R (decide (i ∈ ns))
def gIn (k : Bool → Bool) : G2 := fun x y μ R => match y with
  | .str z => ∃ c, x = .str ⟨#[c]⟩ ∧ R (.bl (k (decide (c ∈ z.cps.toList)))) μ
  | .tup ds => inDs x ds fun b => R (.bl (k b)) μ
  | .lst ds => inDs x ds fun b => R (.bl (k b)) μ
  | _ => False
theorem inV_int (i : Int) : ∀ ns : List Int, inV (.int i) (ns.map V.int) = decide (i ∈ ns)
  | [] => rfl
  | n :: ns => by
    have ih := inV_int i ns
    unfold inV at ih ⊢
    rw [List.map_cons, List.any_cons, ih]
    show ((n == i) || decide (i ∈ ns)) = decide (i ∈ n :: ns)
    by_cases h : n = i
    · subst h; simp
    · have h' : ¬ i = n := fun e => h e.symm
      simp [h, h']
theorem inV_str (i : Str) : ∀ ns : List Str, inV (.str i) (ns.map V.str) = decide (i ∈ ns)
  | [] => rfl
  | n :: ns => by
    have ih := inV_str i ns
    unfold inV at ih ⊢
    rw [List.map_cons, List.any_cons, ih]
    show ((n == i) || decide (i ∈ ns)) = decide (i ∈ n :: ns)
    by_cases h : n = i
    · subst h; simp
    · have h' : ¬ i = n := fun e => h e.symm
      simp [h, h']
theorem flat_ints (ns : List Int) : (ns.map V.int).all flatV = true := by
  rw [List.all_eq_true]
  intro v hv
  obtain ⟨n, _, rfl⟩ := List.mem_map.mp hv
  rfl
theorem flat_strs (ns : List Str) : (ns.map V.str).all flatV = true := by
  rw [List.all_eq_true]
  intro v hv
  obtain ⟨n, _, rfl⟩ := List.mem_map.mp hv
  rfl
theorem inDs_seq {K : PySem.W.Frag} {x : V} {dx : D} {H : Hp} {μ : Mu} {ds : List D} {vs : List V} {R : Bool → Prop} (rx : Rep K H μ dx x) (l : RepL K H μ ds vs) (q : inDs dx ds R) : flatV x = true ∧ vs.all flatV = true ∧ R (inV x vs) := by
  rcases q with ⟨i, ns, rfl, rfl, q⟩ | ⟨i, ns, rfl, rfl, q⟩
  · rw [rep_int rx, l.ints]
    exact ⟨rfl, flat_ints ns, by rw [inV_int]; exact q⟩
  · rw [rep_str rx, l.strs]
    exact ⟨rfl, flat_strs ns, by rw [inV_str]; exact q⟩
def rInA (K : PySem.W.Frag) : R2 := fun x y H Q => (∃ (c : Nat) (z : Str), x = .str ⟨#[c]⟩ ∧ y = .str z ∧ Q (.bl (decide (c ∈ z.cps.toList))) H) ∨ rIn K false x y H Q
def rNotInA (K : PySem.W.Frag) : R2 := fun x y H Q => (∃ (c : Nat) (z : Str), x = .str ⟨#[c]⟩ ∧ y = .str z ∧ Q (.bl (!decide (c ∈ z.cps.toList))) H) ∨ rIn K true x y H Q
section
variable {X : Cx}
theorem op_inA : OpR X (compareOp .In) (rInA X.K) := OpR.or op_in_sign op_in_seq
theorem op_notInA : OpR X (compareOp .NotIn) (rNotInA X.K) := OpR.or op_notIn_sign op_notIn_seq
end
theorem sim_in {K : PySem.W.Frag} : SimO K (rInA K) (gIn id) := by
  intro x y dx dy H μ Q R rm rx ry q f
  cases dy <;> try exact False.elim q
  · obtain ⟨c, rfl, q⟩ := q
    rw [rep_str rx, rep_str ry]
    exact .inl ⟨c, _, rfl, rfl, fw_now rm to_bl q f⟩
  · obtain ⟨p, vs, rfl, i1, l1⟩ := rep_tup ry
    obtain ⟨a, b, q⟩ := inDs_seq (R := fun b => R (.bl b) μ) rx l1 q
    exact .inr ⟨p, vs, rfl, .inr i1.sq, a, b, fw_now rm to_bl q f⟩
  · obtain ⟨p, vs, rfl, i1, n1, l1⟩ := rep_lst ry
    obtain ⟨a, b, q⟩ := inDs_seq (R := fun b => R (.bl b) μ) rx l1 q
    exact .inr ⟨p, vs, rfl, .inl (SqL.of i1), a, b, fw_now rm to_bl q f⟩
theorem sim_notIn {K : PySem.W.Frag} : SimO K (rNotInA K) (gIn not) := by
  intro x y dx dy H μ Q R rm rx ry q f
  cases dy <;> try exact False.elim q
  · obtain ⟨c, rfl, q⟩ := q
    rw [rep_str rx, rep_str ry]
    exact .inl ⟨c, _, rfl, rfl, fw_now rm to_bl q f⟩
  · obtain ⟨p, vs, rfl, i1, l1⟩ := rep_tup ry
    obtain ⟨a, b, q⟩ := inDs_seq (R := fun b => R (.bl (!b)) μ) rx l1 q
    exact .inr ⟨p, vs, rfl, .inr i1.sq, a, b, fw_now rm to_bl q f⟩
  · obtain ⟨p, vs, rfl, i1, n1, l1⟩ := rep_lst ry
    obtain ⟨a, b, q⟩ := inDs_seq (R := fun b => R (.bl (!b)) μ) rx l1 q
    exact .inr ⟨p, vs, rfl, .inl (SqL.of i1), a, b, fw_now rm to_bl q f⟩
/-! ### subscripts -/
theorem RepL.atI {K : PySem.W.Frag} {H : Hp} {μ : Mu} {ds : List D} {vs : List V} {i : Int} {d : D} (r : RepL K H μ ds vs) (e : L2.atI ds i = some d) : ∃ v, L2.atI vs i = some v ∧ Rep K H μ d v := by
  unfold L2.atI at e ⊢
  rw [r.length]
  cases q : ixN ds.length i with
  | none => rw [q] at e; cases e
  | some j =>
    rw [q] at e
    exact r.at_ (by simpa using e)
def atK (ds : List D) (i : Int) (R : D → Prop) : Prop := match L2.atI ds i with
  | some d => R d
  | none => False
def gIx : G2 := fun x y μ R => match x, y with
  | .lst ds, .int i => atK ds i fun d => R d μ
  | .seq ds, .int i => atK ds i fun d => R d μ
  | .tup ds, .int i => atK ds i fun d => R d μ
  | .adr a, .int i => match μ a with
    | some (.lst ds) => atK ds i fun d => R d μ
    | _ => False
  | .str z, .int i => z.length ≤ sizeLine ∧ match L2.atI z.cps.toList i with
    | some c => R (.str ⟨#[c]⟩) μ
    | none => False
  | _, _ => False
def rIxA (K : PySem.W.Frag) : R2 := fun x y H Q => rIxL K x y H Q ∨ rIxT K x y H Q ∨ rIxS x y H Q
theorem ix_any {X : Cx} : IxR X (rIxA X.K) := ix_list.or (ix_tup.or ix_str)
theorem atK_of {ds : List D} {i : Int} {R : D → Prop} (h : atK ds i R) : ∃ d, L2.atI ds i = some d ∧ R d := by
  unfold atK at h
  cases e : L2.atI ds i with
  | none => rw [e] at h; exact False.elim h
  | some d => rw [e] at h; exact ⟨d, rfl, h⟩
theorem sim_ix {K : PySem.W.Frag} : SimO K (rIxA K) gIx := by
  intro x y dx dy H μ Q R rm rx ry q f
  cases dx <;> cases dy <;> try exact False.elim q
  · rename_i z i
    rw [rep_str rx, rep_int ry]
    obtain ⟨h1, h2⟩ := q
    cases e : L2.atI z.cps.toList i with
    | none => rw [e] at h2; exact False.elim h2
    | some c =>
      rw [e] at h2
      exact .inr (.inr ⟨z, i, c, rfl, rfl, h1, e, fw_now rm to_str h2 f⟩)
  · obtain ⟨p, vs, rfl, i1, l1⟩ := rep_tup rx
    obtain ⟨d, e, q⟩ := atK_of q
    obtain ⟨v, e2, rv⟩ := l1.atI e
    rw [rep_int ry]
    exact .inr (.inl ⟨p, vs, _, v, rfl, rfl, i1.sq, e2, fw_now rm rv q f⟩)
  · obtain ⟨p, vs, rfl, i1, n1, l1⟩ := rep_lst rx
    obtain ⟨d, e, q⟩ := atK_of q
    obtain ⟨v, e2, rv⟩ := l1.atI e
    rw [rep_int ry]
    exact .inl ⟨p, vs, _, v, rfl, rfl, SqL.of i1, e2, fw_now rm rv q f⟩
  · obtain ⟨p, vs, rfl, i1, l1⟩ := rep_seq rx
    obtain ⟨d, e, q⟩ := atK_of q
    obtain ⟨v, e2, rv⟩ := l1.atI e
    rw [rep_int ry]
    exact .inl ⟨p, vs, _, v, rfl, rfl, i1.sq, e2, fw_now rm rv q f⟩
  · rename_i a i
    have q : (match μ a with | some (.lst ds) => atK ds i fun d => R d μ | _ => False) := q
    cases e0 : μ a with
    | none => rw [e0] at q; exact False.elim q
    | some o =>
      rw [e0] at q
      cases o <;> try exact False.elim q
      obtain ⟨vs, h1, l1⟩ := rm a _ e0
      obtain ⟨d, e, q⟩ := atK_of q
      obtain ⟨v, e2, rv⟩ := l1.atI e
      rw [rep_int ry, rep_adr rx]
      exact .inl ⟨a, vs, _, v, rfl, rfl, SqL.of h1, e2, fw_now rm rv q f⟩
end DL
set_option Elab.async false
set_option linter.all false
set_option maxRecDepth 100000
namespace DL
open PySem PySem.Spec PyProof.Rows L2
/-! ### built-ins called by name -/
section
variable {X : Cx} {id : String} {T : String} {r : List V → Hp → VK → Prop} {g : GC} {ga : GA} {x : Str} {p pos : Pos} {e : Expr} {es : List Expr}
theorem sim_cb {K : PySem.W.Frag} {t : TA} (h : SimC K r g) (a : SimA K t ga) : SimE K (tCB r t) (gCall g ga) := fun σ H δ μ Q R rm rs q f =>
  a σ H δ μ _ _ rm rs q fun vs ds H1 μ1 k1 rm1 r1 q1 => h vs ds H1 μ1 Q R rm1 r1 q1 (f.re k1)
theorem de_callB (hc : CallR X (.builtin id) r) (h : SimC X.K r g) (hg : Gl X x) (hm : X.mg x = none) (hv : bootBuiltins x = some (.builtin id)) (ha : DA X (e :: es) ga) (hn : x ≠ "__name__" := by decide) (hdb : (x == ("__debug__" : Str)) = false := by decide)
    (he : starEach (e :: es) X.env = (false, eval e X.env) :: starEach es X.env := by rfl) (hpl : (backTo pos (starEach es X.env)).any (·.1) = false := by rfl) : DE X (.Call (.Name x p) (e :: es) [] pos) (gCall g ga) :=
  let ⟨_, a, b⟩ := ha.ex; ⟨_, pe_callB hc hg hm hv a hn hdb he hpl, sim_cb h b⟩
theorem de_callTy (hc : CallR X (.type T) r) (h : SimC X.K r g) (hg : Gl X x) (hm : X.mg x = none) (hv : bootBuiltins x = some (.type T)) (ha : DA X (e :: es) ga) (hn : x ≠ "__name__" := by decide) (hdb : (x == ("__debug__" : Str)) = false := by decide)
    (he : starEach (e :: es) X.env = (false, eval e X.env) :: starEach es X.env := by rfl) (hpl : (backTo pos (starEach es X.env)).any (·.1) = false := by rfl) : DE X (.Call (.Name x p) (e :: es) [] pos) (gCall g ga) :=
  let ⟨_, a, b⟩ := ha.ex; ⟨_, pe_callTy hc hg hm hv a hn hdb he hpl, sim_cb h b⟩
end
theorem repL1 {K : PySem.W.Frag} {H : Hp} {μ : Mu} {d : D} {vs : List V} (h : RepL K H μ [d] vs) : ∃ v, vs = [v] ∧ Rep K H μ d v := by
  unfold RepL at h
  obtain ⟨v, r, rfl, h1, h2⟩ := h
  unfold RepL at h2
  subst h2
  exact ⟨v, rfl, h1⟩
theorem repL2 {K : PySem.W.Frag} {H : Hp} {μ : Mu} {d e : D} {vs : List V} (h : RepL K H μ [d, e] vs) : ∃ v w, vs = [v, w] ∧ Rep K H μ d v ∧ Rep K H μ e w := by
  unfold RepL at h
  obtain ⟨v, r, rfl, h1, h2⟩ := h
  obtain ⟨w, rfl, h3⟩ := repL1 h2
  exact ⟨v, w, rfl, h1, h3⟩
/-- one argument -/
def g1 (g : G1) : GC := fun ds μ R => match ds with
  | [d] => g d μ R
  | _ => False
def g2 (g : G2) : GC := fun ds μ R => match ds with
  | [d, e] => g d e μ R
  | _ => False
theorem sim_g1 {K : PySem.W.Frag} {r : List V → Hp → VK → Prop} {g : G1} (h : ∀ v d H μ (Q : VK) (R : KD), RM K H μ → Rep K H μ d v → g d μ R → Fw K H μ R Q → r [v] H Q) : SimC K r (g1 g) := by
  intro vs ds H μ Q R rm rl q f
  match ds, rl, q with
  | [d], rl, q =>
    obtain ⟨v, rfl, r1⟩ := repL1 rl
    exact h v d H μ Q R rm r1 q f
theorem sim_g2 {K : PySem.W.Frag} {r : List V → Hp → VK → Prop} {g : G2} (h : ∀ v w d e H μ (Q : VK) (R : KD), RM K H μ → Rep K H μ d v → Rep K H μ e w → g d e μ R → Fw K H μ R Q → r [v, w] H Q) : SimC K r (g2 g) := by
  intro vs ds H μ Q R rm rl q f
  match ds, rl, q with
  | [d, e], rl, q =>
    obtain ⟨v, w, rfl, r1, r2⟩ := repL2 rl
    exact h v w d e H μ Q R rm r1 r2 q f
/-- len -/
def gLen1 : G1 := fun x μ R => match x with
  | .lst ds => R (.int ds.length) μ
  | .seq ds => R (.int ds.length) μ
  | .tup ds => R (.int ds.length) μ
  | .str z => z.length ≤ sizeLine ∧ R (.int z.length) μ
  | .adr a => match μ a with
    | some (.lst ds) => R (.int ds.length) μ
    | _ => False
  | _ => False
def rLenA (K : PySem.W.Frag) : List V → Hp → VK → Prop := fun xs H Q => (∃ p ys, xs = [.ref p] ∧ (SqL K H p ys ∨ SqT K H p ys) ∧ Q (.int ys.length) H) ∨ ∃ z, xs = [.str z] ∧ z.length ≤ sizeLine ∧ Q (.int z.length) H
theorem cr_len {X : Cx} : CallR X (.builtin "len") (rLenA X.K) := CallR.or call_len_seq call_len_str
theorem sim_len {K : PySem.W.Frag} : SimC K (rLenA K) (g1 gLen1) := sim_g1 fun v d H μ Q R rm rv q f => by
  cases d <;> try exact False.elim q
  · rw [rep_str rv]
    exact .inr ⟨_, rfl, q.1, fw_now rm to_int q.2 f⟩
  · obtain ⟨p, vs, rfl, i, l⟩ := rep_tup rv
    exact .inl ⟨p, vs, rfl, .inr i.sq, by rw [l.length]; exact fw_now rm to_int q f⟩
  · obtain ⟨p, vs, rfl, i, _, l⟩ := rep_lst rv
    exact .inl ⟨p, vs, rfl, .inl (SqL.of i), by rw [l.length]; exact fw_now rm to_int q f⟩
  · obtain ⟨p, vs, rfl, i, l⟩ := rep_seq rv
    exact .inl ⟨p, vs, rfl, .inl i.sq, by rw [l.length]; exact fw_now rm to_int q f⟩
  · rename_i a
    have q : (match μ a with | some (.lst ds) => R (.int ds.length) μ | _ => False) := q
    cases e0 : μ a with
    | none => rw [e0] at q; exact False.elim q
    | some o =>
      rw [e0] at q
      cases o <;> try exact False.elim q
      obtain ⟨vs, h1, l⟩ := rm a _ e0
      rw [rep_adr rv]
      exact .inl ⟨a, vs, rfl, .inl (SqL.of h1), by rw [l.length]; exact fw_now rm to_int q f⟩
/-- all, any of a list of bools -/
def gBools (k : List Bool → Bool) : G1 := fun x μ R => match x with
  | .lst ds => ∃ bs, ds = List.map D.bl bs ∧ R (.bl (k bs)) μ
  | _ => False
theorem sim_all {K : PySem.W.Frag} : SimC K (rAll K) (g1 (gBools fun bs => bs.all id)) := sim_g1 fun v d H μ Q R rm rv q f => by
  cases d <;> try exact False.elim q
  obtain ⟨bs, rfl, q⟩ := q
  obtain ⟨p, vs, rfl, i, _, l⟩ := rep_lst rv
  exact ⟨p, bs, rfl, SqL.of (by rw [i, l.bools]), fw_now rm to_bl q f⟩
/-- int(n), abs(n) -/
def gInt1 : G1 := fun x μ R => match x with
  | .int i => R (.int i) μ
  | _ => False
theorem sim_int {K : PySem.W.Frag} : SimC K (fun xs H Q => (∃ i, xs = [.int i] ∧ Q (.int i) H) ∨ ∃ k, xs = [.bl k] ∧ Q (.int (if k then 1 else 0)) H) (g1 gInt1) := sim_g1 fun v d H μ Q R rm rv q f => by
  cases d <;> try exact False.elim q
  rw [rep_int rv]
  exact .inl ⟨_, rfl, fw_now rm to_int q f⟩
def gAbs1 : G1 := fun x μ R => match x with
  | .int i => R (.int (if i < 0 then -i else i)) μ
  | _ => False
theorem sim_abs {K : PySem.W.Frag} : SimC K (fun xs H Q => ∃ i, xs = [.int i] ∧ Q (.int (if i < 0 then -i else i)) H) (g1 gAbs1) := sim_g1 fun v d H μ Q R rm rv q f => by
  cases d <;> try exact False.elim q
  rw [rep_int rv]
  exact ⟨_, rfl, fw_now rm to_int q f⟩
/-- max, min of two ints -/
theorem sim_max2 {K : PySem.W.Frag} : SimC K (fun xs H Q => ∃ i j, xs = [.int i, .int j] ∧ Q (.int (if j > i then j else i)) H) (g2 (gII0 fun i j => .int (if j > i then j else i))) := sim_g2 fun v w d e H μ Q R rm rv rw q f => by
  cases d <;> cases e <;> try exact False.elim q
  rw [rep_int rv, rep_int rw]
  exact ⟨_, _, rfl, fw_now rm to_int q f⟩
theorem sim_min2 {K : PySem.W.Frag} : SimC K (fun xs H Q => ∃ i j, xs = [.int i, .int j] ∧ Q (.int (if j < i then j else i)) H) (g2 (gII0 fun i j => .int (if j < i then j else i))) := sim_g2 fun v w d e H μ Q R rm rv rw q f => by
  cases d <;> cases e <;> try exact False.elim q
  rw [rep_int rv, rep_int rw]
  exact ⟨_, _, rfl, fw_now rm to_int q f⟩
/-- tuple(list), tuple(tuple) -/
def gTuple1 : G1 := fun x μ R => match x with
  | .lst ds => R (.tup ds) μ
  | .seq ds => R (.tup ds) μ
  | .tup ds => R (.tup ds) μ
  | .adr a => match μ a with
    | some (.lst ds) => R (.tup ds) μ
    | _ => False
  | _ => False
theorem sim_tuple {K : PySem.W.Frag} : SimC K (fun xs H Q => ∃ p ys, xs = [.ref p] ∧ ((SqL K H p ys ∧ ∀ l, H l = none → Q (.ref l) (upd H l (.tup ys))) ∨ (SqT K H p ys ∧ Q (.ref p) H))) (g1 gTuple1) := sim_g1 fun v d H μ Q R rm rv q f => by
  cases d <;> try exact False.elim q
  · obtain ⟨p, vs, rfl, i, l⟩ := rep_tup rv
    exact ⟨p, vs, rfl, .inr ⟨i.sq, fw_now rm rv q f⟩⟩
  · obtain ⟨p, vs, rfl, i, _, l⟩ := rep_lst rv
    exact ⟨p, vs, rfl, .inl ⟨SqL.of i, fun t n => fw_tup rm n l q f⟩⟩
  · obtain ⟨p, vs, rfl, i, l⟩ := rep_seq rv
    exact ⟨p, vs, rfl, .inl ⟨i.sq, fun t n => fw_tup rm n l q f⟩⟩
  · rename_i a
    have q : (match μ a with | some (.lst ds) => R (.tup ds) μ | _ => False) := q
    cases e0 : μ a with
    | none => rw [e0] at q; exact False.elim q
    | some o =>
      rw [e0] at q
      cases o <;> try exact False.elim q
      obtain ⟨vs, h1, l⟩ := rm a _ e0
      rw [rep_adr rv]
      exact ⟨a, vs, rfl, .inl ⟨SqL.of h1, fun t n => fw_tup rm n l q f⟩⟩
/-- list(list), list(tuple): a new list; one that will change -/
def gList1 : G1 := fun x μ R => match x with
  | .lst ds => R (.lst ds) μ
  | .seq ds => R (.lst ds) μ
  | .tup ds => R (.lst ds) μ
  | _ => False
abbrev rListOf (K : PySem.W.Frag) : List V → Hp → VK → Prop := fun xs H Q => ∃ p ys, xs = [.ref p] ∧ (SqL K H p ys ∨ SqT K H p ys) ∧ ∀ l, H l = none → Q (.ref l) (upd H l (.lst ys))
theorem sim_list {K : PySem.W.Frag} : SimC K (rListOf K) (g1 gList1) := sim_g1 fun v d H μ Q R rm rv q f => by
  cases d <;> try exact False.elim q
  · obtain ⟨p, vs, rfl, i, l⟩ := rep_tup rv
    exact ⟨p, vs, rfl, .inr i.sq, fun t n => fw_lst rm n l q f⟩
  · obtain ⟨p, vs, rfl, i, _, l⟩ := rep_lst rv
    exact ⟨p, vs, rfl, .inl (SqL.of i), fun t n => fw_lst rm n l q f⟩
  · obtain ⟨p, vs, rfl, i, l⟩ := rep_seq rv
    exact ⟨p, vs, rfl, .inl i.sq, fun t n => fw_lst rm n l q f⟩
/-- sorted of texts -/
def gSortedS1 : G1 := fun x μ R => match x with
  | .lst ds => ∃ ss : List Str, ds = List.map D.str ss ∧ ss.length < 64 ∧ ∀ ys : List Str, ys.Perm ss → sortedS ys = true → R (.lst (List.map D.str ys)) μ
  | .adr a => match μ a with
    | some (.lst ds) => ∃ ss : List Str, ds = List.map D.str ss ∧ ss.length < 64 ∧ ∀ ys : List Str, ys.Perm ss → sortedS ys = true → R (.lst (List.map D.str ys)) μ
    | _ => False
  | _ => False
theorem sim_sortedS {K : PySem.W.Frag} : SimC K (rSortedS K) (g1 gSortedS1) := sim_g1 fun v d H μ Q R rm rv q f => by
  cases d <;> try exact False.elim q
  · obtain ⟨ss, rfl, h64, q⟩ := q
    obtain ⟨p, vs, rfl, i, _, l⟩ := rep_lst rv
    exact ⟨p, ss, rfl, SqL.of (by rw [i, l.strs]), h64, fun ys t hp hs n => fw_lst rm n (RepL.of_strs ys) (q ys hp hs) f⟩
  · rename_i a
    have q : (match μ a with | some (.lst ds) => ∃ ss : List Str, ds = List.map D.str ss ∧ ss.length < 64 ∧ ∀ ys : List Str, ys.Perm ss → sortedS ys = true → R (.lst (List.map D.str ys)) μ | _ => False) := q
    cases e0 : μ a with
    | none => rw [e0] at q; exact False.elim q
    | some o =>
      rw [e0] at q
      cases o <;> try exact False.elim q
      obtain ⟨ss, rfl, h64, q⟩ := q
      obtain ⟨vs, h1, l⟩ := rm a _ e0
      rw [rep_adr rv]
      exact ⟨a, ss, rfl, SqL.of (by rw [h1, l.strs]), h64, fun ys t hp hs n => fw_lst rm n (RepL.of_strs ys) (q ys hp hs) f⟩
/-- isinstance(x, T), T a built-in class written by its name -/
def tyName : D → Option String
  | .non => some "NoneType"
  | .bl _ => some "bool"
  | .int _ => some "int"
  | .str _ => some "str"
  | .tup _ => some "tuple"
  | .lst _ => some "list"
  | _ => none
/-! ### methods -/
abbrev GM := D → List D → Mu → KD → Prop
def gBM (ok : D → Mu → Prop) (g : GM) (go : GE) (ga : GA) : GE := fun δ μ R => go δ μ fun x μ1 => ok x μ1 ∧ ga δ μ1 fun xs μ2 => g x xs μ2 R
def okStr : D → Mu → Prop := fun d _ => match d with
  | .str _ => True
  | _ => False
def okCell : D → Mu → Prop := fun d μ => match d with
  | .adr a => match μ a with
    | some (.lst _) => True
    | _ => False
  | _ => False
def OkTy (K : PySem.W.Frag) (T : String) (ok : D → Mu → Prop) : Prop := ∀ v d H μ, RM K H μ → Rep K H μ d v → ok d μ → tyV K T v H
theorem ok_str {K : PySem.W.Frag} : OkTy K "str" okStr := fun v d H μ rm r h => by
  cases d <;> try exact False.elim h
  rw [rep_str r]
  rfl
theorem ok_cell {K : PySem.W.Frag} : OkTy K "list" okCell := fun v d H μ rm r h => by
  cases d <;> try exact False.elim h
  rename_i a
  have h : (match μ a with | some (.lst _) => True | _ => False) := h
  cases e0 : μ a with
  | none => rw [e0] at h; exact False.elim h
  | some o =>
    rw [e0] at h
    cases o <;> try exact False.elim h
    obtain ⟨vs, h1, l⟩ := rm a _ e0
    rw [rep_adr r]
    exact .inl ⟨rfl, _, SqL.of h1⟩
def SimM (K : PySem.W.Frag) (r : V → List V → Hp → VK → Prop) (g : GM) : Prop := ∀ x dx vs ds H μ (Q : VK) (R : KD), RM K H μ → Rep K H μ dx x → RepL K H μ ds vs → g dx ds μ R → Fw K H μ R Q → r x vs H Q
section
variable {X : Cx} {o e : Expr} {es : List Expr} {name : Str} {apos cpos : Pos} {T id : String} {r : V → List V → Hp → VK → Prop} {ok : D → Mu → Prop} {g : GM} {go : GE} {ga : GA}
theorem de_bm (pa : PlainAttrs T) (slot : Slot T name id) (hty : typeOf (.builtin id) = pure (.type "method_descriptor")) (hm : MtR X id r) (sm : SimM X.K r g) (hok : OkTy X.K T ok) (ho : DE X o go) (ha : DA X (e :: es) ga)
    (hbase : attributeBase o name X.env (eval o X.env) = eval o X.env := by rfl)
    (hfew : ((backTo cpos (starEach (e :: es) X.env)).all (fun x => !x.1) && (backToKw cpos (keywordEach [] X.env)).all (fun x => x.1.isSome)
      && decide ((e :: es).length + ([] : List Keyword).length + (if ([] : List Keyword).isEmpty then 0 else 1) < 30)) = true := by rfl)
    (hline : (apos.endLine == cpos.line) = true := by rfl) (hs : starEach (e :: es) X.env = (false, eval e X.env) :: starEach es X.env := by rfl) (hplain : (backTo cpos (starEach es X.env)).any (·.1) = false := by rfl) :
    DE X (.Call (.Attribute o name apos) (e :: es) [] cpos) (gBM ok g go ga) := by
  obtain ⟨t, a1, a2⟩ := ho.ex
  obtain ⟨u, b1, b2⟩ := ha.ex
  refine ⟨_, pe_bm pa slot hty hm a1 b1 hbase hfew hline hs hplain, fun σ H δ μ Q R rm rs q f => ?_⟩
  refine a2 σ H δ μ _ _ rm rs q fun v d H1 μ1 k1 rm1 r1 q1 => ⟨hok v d H1 μ1 rm1 r1 q1.1, ?_⟩
  exact b2 σ H1 δ μ1 _ _ rm1 (rs.mono k1) q1.2 fun vs ds H2 μ2 k2 rm2 r2 q2 => sm v d vs ds H2 μ2 Q R rm2 (r1.mono k2) r2 q2 (f.re (k1.trans k2))
end
/-- one argument; two -/
def gM1 (g : G2) : GM := fun x xs μ R => match xs with
  | [d] => g x d μ R
  | _ => False
theorem sim_m1 {K : PySem.W.Frag} {r : V → List V → Hp → VK → Prop} {g : G2} (h : ∀ x v dx d H μ (Q : VK) (R : KD), RM K H μ → Rep K H μ dx x → Rep K H μ d v → g dx d μ R → Fw K H μ R Q → r x [v] H Q) : SimM K r (gM1 g) := by
  intro x dx vs ds H μ Q R rm rx rl q f
  match ds, rl, q with
  | [d], rl, q =>
    obtain ⟨v, rfl, r1⟩ := repL1 rl
    exact h x v dx d H μ Q R rm rx r1 q f
/-- two texts -/
def gSS (h : Str → Str → KD → Mu → Prop) : G2 := fun x y μ R => match x, y with
  | .str a, .str b => h a b R μ
  | _, _ => False
/-- text.count(text) -/
abbrev gCount : GM := gM1 (gSS fun a b R μ => R (.int (Txt.count a b)) μ)
theorem sim_count {K : PySem.W.Frag} : SimM K (fun x xs H Q => ∃ a b, x = .str a ∧ xs = [.str b] ∧ Q (.int (Txt.count a b)) H) gCount := sim_m1 fun x v dx d H μ Q R rm rx rv q f => by
  cases dx <;> cases d <;> try exact False.elim q
  rw [rep_str rx, rep_str rv]
  exact ⟨_, _, rfl, rfl, fw_now rm to_int q f⟩
/-- sep.join(texts) -/
def gJoin2 : G2 := fun x y μ R => match x, y with
  | .str a, .lst ds => ∃ ys : List Str, ds = List.map D.str ys ∧ (ys.map (·.length)).sum + ys.length * a.length ≤ 16777216 ∧ R (.str (Txt.join a ys)) μ
  | _, _ => False
theorem sim_join {K : PySem.W.Frag} : SimM K (fun x xs H Q => ∃ a p, ∃ ys : List Str, x = .str a ∧ xs = [.ref p] ∧ (SqL K H p (ys.map V.str) ∨ SqT K H p (ys.map V.str)) ∧ (ys.map (·.length)).sum + ys.length * a.length ≤ 16777216 ∧ Q (.str (Txt.join a ys)) H) (gM1 gJoin2) := sim_m1 fun x v dx d H μ Q R rm rx rv q f => by
  cases dx <;> cases d <;> try exact False.elim q
  obtain ⟨ys, rfl, hz, q⟩ := q
  obtain ⟨p, vs, rfl, i, _, l⟩ := rep_lst rv
  exact ⟨_, p, ys, rep_str rx, rfl, .inl (SqL.of (by rw [i, l.strs])), hz, fw_now rm to_str q f⟩
/-- cell.append(v) -/
def gAppend2 : G2 := fun x d μ R => match x with
  | .adr a => ∃ ds, μ a = some (.lst ds) ∧ ds.length < sizeLine ∧ R .non (put μ a (.lst (ds ++ [d])))
  | _ => False
theorem sim_append {K : PySem.W.Frag} : SimM K rAppend (gM1 gAppend2) := sim_m1 fun x v dx d H μ Q R rm rx rv q f => by
  cases dx <;> try exact False.elim q
  rename_i a
  obtain ⟨ds, e0, hz, q⟩ := q
  obtain ⟨vs, h1, l⟩ := rm a _ e0
  exact ⟨a, vs, v, rep_adr rx, rfl, h1, by rw [l.length]; exact hz, fw_write rm e0 (l.append (RepL.cons rv RepL.nil)) to_non q f⟩
/-- cell.pop(i), 0 ≤ i in bounds -/
def gPopAt2 : G2 := fun x y μ R => match x, y with
  | .adr a, .int i => ∃ ds, μ a = some (.lst ds) ∧ 0 ≤ i ∧ i < 2 ^ 63 ∧ ∃ d, ds[i.toNat]? = some d ∧ R d (put μ a (.lst (ds.eraseIdx i.toNat)))
  | _, _ => False
theorem sim_popAt {K : PySem.W.Frag} : SimM K rPopAt (gM1 gPopAt2) := sim_m1 fun x v dx d H μ Q R rm rx rv q f => by
  cases dx <;> cases d <;> try exact False.elim q
  rename_i a i
  obtain ⟨ds, e0, h0, hz, d, ed, q⟩ := q
  obtain ⟨vs, h1, l⟩ := rm a _ e0
  obtain ⟨y, ey, ry⟩ := l.at_ ed
  have hl : i.toNat < vs.length := (List.getElem?_eq_some_iff.mp ey).1
  rw [rep_int rv]
  exact ⟨a, vs, i, i.toNat, y, rep_adr rx, rfl, h1, by omega, hz, (ixN_seq (by unfold ixN; rw [if_pos h0, if_pos (by omega)])).1, ey, fw_write rm e0 (l.erase _) ry q f⟩
/-! ### fields -/
theorem RepF.look {K : PySem.W.Frag} {H : Hp} {μ : Mu} {x : Str} {d : D} : ∀ {fs : List (Str × D)} {fv : List (Str × V)}, RepF K H μ fs fv → fs.lookup x = some d → ∃ v, fv.lookup x = some v ∧ Rep K H μ d v
  | [], _, _, e => by cases e
  | (y, c) :: fs, _, h, e => by
    unfold RepF at h
    obtain ⟨v, r, rfl, h1, h2⟩ := h
    rw [List.lookup_cons] at e ⊢
    cases hb : x == y with
    | true =>
      rw [hb] at e
      have e' : c = d := Option.some.inj e
      subst e'
      exact ⟨v, rfl, h1⟩
    | false =>
      rw [hb] at e
      exact RepF.look h2 e
theorem RepF.length {K : PySem.W.Frag} {H : Hp} {μ : Mu} : ∀ {fs : List (Str × D)} {fv : List (Str × V)}, RepF K H μ fs fv → fv.length = fs.length
  | [], _, h => by
    unfold RepF at h
    rw [h] <;> rfl
  | (y, c) :: fs, _, h => by
    unfold RepF at h
    obtain ⟨v, r, rfl, h1, h2⟩ := h
    show r.length + 1 = fs.length + 1
    rw [RepF.length h2]
def dPut (f : Str) (d : D) : List (Str × D) → List (Str × D)
  | [] => [(f, d)]
  | (g, x) :: r => if g = f then (g, d) :: r else (g, x) :: dPut f d r
theorem RepF.put {K : PySem.W.Frag} {H : Hp} {μ : Mu} {x : Str} {d : D} {v : V} (rv : Rep K H μ d v) : ∀ {fs : List (Str × D)} {fv : List (Str × V)}, RepF K H μ fs fv → RepF K H μ (dPut x d fs) (putF x v fv)
  | [], _, h => by
    unfold RepF at h
    subst h
    show RepF K H μ [(x, d)] [(x, v)]
    unfold RepF
    exact ⟨v, [], rfl, rv, by unfold RepF; rfl⟩
  | (y, c) :: fs, _, h => by
    unfold RepF at h
    obtain ⟨u, r, rfl, h1, h2⟩ := h
    show RepF K H μ (if y = x then (y, d) :: fs else (y, c) :: dPut x d fs) (if y = x then (y, v) :: r else (y, u) :: putF x v r)
    by_cases e : y = x
    · rw [if_pos e, if_pos e]
      unfold RepF
      exact ⟨v, r, rfl, rv, h2⟩
    · rw [if_neg e, if_neg e]
      unfold RepF
      exact ⟨u, _, rfl, h1, RepF.put rv h2⟩
/-- o.f of an instance that stays as it is -/
def gFld (C : Addr) (f : Str) (g : GE) : GE := fun δ μ R => g δ μ fun d μ1 => match d with
  | .ins C' fs => C' = C ∧ ∃ x, fs.lookup f = some x ∧ R x μ1
  | _ => False
section
variable {X : Cx} {e o value : Expr} {f : Str} {pos pos' : Pos} {g gv : GE} {C : Addr}
theorem de_fld (c : Cls X.K C) (n : NoAttr X.K C f) (he : DE X e g) (hb : attributeBase e f X.env (eval e X.env) = eval e X.env := by rfl) : DE X (.Attribute e f pos) (gFld C f g) := by
  obtain ⟨t, a1, a2⟩ := he.ex
  refine ⟨_, pe_fld a1 hb, fun σ H δ μ Q R rm rs q fw => ?_⟩
  refine a2 σ H δ μ _ _ rm rs q fun v d H1 μ1 k1 rm1 r1 q1 => ?_
  cases d <;> try exact False.elim q1
  obtain ⟨rfl, x, e1, q1⟩ := q1
  obtain ⟨a, dx, fv, rfl, h1, _, rf⟩ := rep_ins r1
  obtain ⟨y, e2, ry⟩ := rf.look e1
  exact ⟨a, _, dx, fv, y, rfl, h1, c, n, e2, fw_now rm1 ry q1 (fw.re k1)⟩
/-- o.f = e, o an instance in the store -/
def gSetF (C : Addr) (f : Str) (go gv : GE) : GS := fun F δ μ => gv δ μ fun d μ1 => go δ μ1 fun x μ2 => match x with
  | .adr a => ∃ fs, μ2 a = some (.ins C fs) ∧ fs.length < 1000 ∧ F.nx δ (put μ2 a (.ins C (dPut f d fs)))
  | _ => False
theorem ds_fld (c : Cls X.K C) (n : NoAttr X.K C f) (ho : DE X o g) (hv : DE X value gv) (hs : swapsWith value (some (.Attribute o f pos')) pos.line X.env = pure false := by rfl) : DSt X (.Assign [.Attribute o f pos'] value pos) (gSetF C f g gv) := by
  obtain ⟨t, a1, a2⟩ := ho.ex
  obtain ⟨u, b1, b2⟩ := hv.ex
  refine ⟨_, ps_fld a1 b1 hs, fun σ H δ μ E F rm rs e q => ?_⟩
  refine b2 σ H δ μ _ _ rm rs q fun v d H1 μ1 k1 rm1 r1 q1 => ?_
  refine a2 σ H1 δ μ1 _ _ rm1 (rs.mono k1) q1 fun v2 d2 H2 μ2 k2 rm2 r2 q2 => ?_
  cases d2 <;> try exact False.elim q2
  rename_i a
  obtain ⟨fs, e0, hl, q2⟩ := q2
  obtain ⟨dx, fv, h1, rf⟩ := rm2 a _ e0
  have kw : Kp H2 μ2 (upd H2 a (.ins C dx (putF f v fv))) (put μ2 a (.ins C (dPut f d fs))) := Kp.write e0
  refine ⟨a, C, dx, fv, rep_adr r2, h1, c, n, by rw [rf.length]; exact hl, e.nx _ _ _ _ (k1.trans (k2.trans kw)) ?_ (rs.mono (k1.trans (k2.trans kw))) q2⟩
  exact rm2.put (m := .ins C (dPut f d fs)) kw (fun b o nb _ => upd_ne nb) ⟨dx, _, upd_same, (rf.put (r1.mono k2)).mono kw _ _⟩
end
end DL
set_option Elab.async false
set_option linter.all false
set_option maxRecDepth 100000
namespace DL
open PySem PySem.Spec PyProof.Rows L2
/-! ### targets that store into what is mutable -/
abbrev GH := D → DS → Mu → (DS → Mu → Prop) → Prop
abbrev GHs := List D → DS → Mu → (DS → Mu → Prop) → Prop
def SimH (K : PySem.W.Frag) (t : TG) (g : GH) : Prop := ∀ v d σ H δ μ (Q : L2.St → Hp → Prop) (R : DS → Mu → Prop), RM K H μ → RepS K H μ δ σ → Rep K H μ d v → g d δ μ R →
  (∀ σ' H' δ' μ', Kp H μ H' μ' → RM K H' μ' → RepS K H' μ' δ' σ' → R δ' μ' → Q σ' H') → t v σ H Q
def SimHs (K : PySem.W.Frag) (t : TGs) (g : GHs) : Prop := ∀ vs ds σ H δ μ (Q : L2.St → Hp → Prop) (R : DS → Mu → Prop), RM K H μ → RepS K H μ δ σ → RepL K H μ ds vs → g ds δ μ R →
  (∀ σ' H' δ' μ', Kp H μ H' μ' → RM K H' μ' → RepS K H' μ' δ' σ' → R δ' μ' → Q σ' H') → t vs σ H Q
def hNm (i : Nat) : GH := fun d δ μ R => R (δ.set i (some d)) μ
theorem simH_nm {K : PySem.W.Frag} {i : Nat} : SimH K (gName i) (hNm i) := fun v d σ H δ μ Q R rm rs r q f => f _ H _ μ (Kp.refl _ _) rm (rs.set i r) q
def hNil : GHs := fun ds δ μ R => match ds with
  | [] => R δ μ
  | _ :: _ => False
def hCons (t : GH) (u : GHs) : GHs := fun ds δ μ R => match ds with
  | d :: r => t d δ μ fun δ' μ' => u r δ' μ' R
  | [] => False
theorem simH_nil {K : PySem.W.Frag} : SimHs K L2.gNil hNil := by
  intro vs ds σ H δ μ Q R rm rs r q f
  cases ds with
  | nil =>
    unfold RepL at r
    exact ⟨r, f σ H δ μ (Kp.refl _ _) rm rs q⟩
  | cons d ds => exact False.elim q
theorem simH_cons {K : PySem.W.Frag} {t : TG} {u : TGs} {g : GH} {gs : GHs} (h : SimH K t g) (h2 : SimHs K u gs) : SimHs K (L2.gCons t u) (hCons g gs) := by
  intro vs ds σ H δ μ Q R rm rs r q f
  cases ds with
  | nil => exact False.elim q
  | cons d ds =>
    unfold RepL at r
    obtain ⟨v, w, rfl, r1, r2⟩ := r
    refine ⟨v, w, rfl, h v d σ H δ μ _ _ rm rs r1 q fun σ1 H1 δ1 μ1 k1 rm1 rs1 q1 => ?_⟩
    exact h2 w ds σ1 H1 δ1 μ1 _ _ rm1 rs1 (r2.mono k1 _ _) q1 fun σ2 H2 δ2 μ2 k2 rm2 rs2 q2 => f σ2 H2 δ2 μ2 (k1.trans k2) rm2 rs2 q2
def hTup (n : Nat) (t : GHs) : GH := fun d δ μ R => match d with
  | .tup ds => ds.length = n ∧ t ds δ μ R
  | _ => False
theorem simH_tup {K : PySem.W.Frag} {n : Nat} {t : TGs} {g : GHs} (h : SimHs K t g) : SimH K (L2.gTup K n t) (hTup n g) := by
  intro v d σ H δ μ Q R rm rs r q f
  cases d <;> try exact False.elim q
  rename_i ds
  obtain ⟨a, vs, rfl, im, rl⟩ := rep_tup r
  exact ⟨a, vs, rfl, im.sq, by rw [rl.length]; exact q.1, h vs ds σ H δ μ Q R rm rs rl q.2 f⟩
/-- cell[k] = d -/
def setK (x y d : D) (μ : Mu) (R : Mu → Prop) : Prop := match x, y with
  | .adr a, .int k => ∃ ds j, μ a = some (.lst ds) ∧ ixN ds.length k = some j ∧ R (put μ a (.lst (ds.set j d)))
  | _, _ => False
def hSub (go gi : GE) : GH := fun d δ μ R => go δ μ fun x μ1 => gi δ μ1 fun y μ2 => setK x y d μ2 fun μ3 => R δ μ3
theorem simH_sub {K : PySem.W.Frag} {to ti : TE} {go gi : GE} (h1 : SimE K to go) (h2 : SimE K ti gi) : SimH K (gSub to ti rSetL) (hSub go gi) := by
  intro v d σ H δ μ Q R rm rs r q f
  refine h1 σ H δ μ _ _ rm rs q fun x dx H1 μ1 k1 rm1 r1 q1 => ?_
  refine h2 σ H1 δ μ1 _ _ rm1 (rs.mono k1) q1 fun y dy H2 μ2 k2 rm2 r2 q2 => ?_
  cases dx <;> cases dy <;> try exact False.elim q2
  rename_i a k
  obtain ⟨ds, j, e0, ej, q2⟩ := q2
  obtain ⟨vs, e1, l⟩ := rm2 a _ e0
  have kw : Kp H2 μ2 (upd H2 a (.lst (vs.set j v))) (put μ2 a (.lst (ds.set j d))) := Kp.write e0
  refine ⟨a, vs, k, j, rep_adr (r1.mono k2), rep_int r2, e1, by rw [l.length]; exact ej, f _ _ _ _ (k1.trans (k2.trans kw)) ?_ (rs.mono (k1.trans (k2.trans kw))) q2⟩
  exact rm2.put (m := .lst (ds.set j d)) kw (fun b o n _ => upd_ne n) ⟨_, upd_same, (l.set j (r.mono (k1.trans k2))).mono kw _ _⟩
def gAsgH (g : GE) (t : GH) : GS := fun F δ μ => g δ μ fun d μ1 => t d δ μ1 F.nx
section
variable {X : Cx} {e tg o i : Expr} {pos : Pos} {ge go gi : GE} {gh : GH} {g : TG}
theorem pg_subD (ho : DE X o go) (hi : DE X i gi)
    (ha : ∀ v, assign (.Subscript o i pos) X.env v = (do
      let ov ← holding [v] (eval o X.env)
      let iv ← holding [v, ov] (eval i X.env)
      standAt pos
      holding [v, ov, iv] (setItem ov iv v)
      release [v, ov, iv] []) := by intro _; rfl) : PG X (.Subscript o i pos) (gSub (tOf X.K go) (tOf X.K gi) rSetL) := pg_sub ho.pe hi.pe set_list ha
theorem simH_subD {K : PySem.W.Frag} : SimH K (gSub (tOf K go) (tOf K gi) rSetL) (hSub go gi) := simH_sub sim_of sim_of
theorem ds_asgH (he : DE X e ge) (hg : PG X tg g) (sg : SimH X.K g gh) (hs : swapsWithSole [tg] e pos.line X.env = pure false := by rfl) (hw : swappedStores [tg] e X.env = pure none := by rfl)
    (h1 : (assignEach [tg] X.env).map (·.2) = [assign tg X.env] := by rfl) : DSt X (.Assign [tg] e pos) (gAsgH ge gh) := by
  obtain ⟨t1, a1, a2⟩ := he.ex
  refine ⟨_, ps_asg a1 hg hs hw h1, fun σ H δ μ E F rm rs e q => ?_⟩
  refine a2 σ H δ μ _ _ rm rs q fun v d H1 μ1 k1 rm1 r1 q1 => ?_
  exact sg v d σ H1 δ μ1 _ _ rm1 (rs.mono k1) r1 q1 fun σ2 H2 δ2 μ2 k2 rm2 rs2 q2 => e.nx σ2 H2 δ2 μ2 (k1.trans k2) rm2 rs2 q2
end
/-! ### slices -/
abbrev GP := DS → Mu → (Option Int → Mu → Prop) → Prop
def SimP (K : PySem.W.Frag) (t : TO) (g : GP) : Prop := ∀ σ H δ μ (Q : Option Int → Hp → Prop) (R : Option Int → Mu → Prop), RM K H μ → RepS K H μ δ σ → g δ μ R → (∀ o H' μ', Kp H μ H' μ' → RM K H' μ' → R o μ' → Q o H') → t σ H Q
structure DP (X : Cx) (e : Option Expr) (g : GP) : Prop where
  ex : ∃ t, PO X e t ∧ SimP X.K t g
def gNoP : GP := fun _ μ R => R none μ
def gP (g : GE) : GP := fun δ μ R => g δ μ fun d μ1 => match d with
  | .int i => R (some i) μ1
  | _ => False
def cutD (ds : List D) (lo hi : Option Int) : List D := (ds.drop (HT.sIx ds.length 0 lo)).take (HT.sIx ds.length ds.length hi - HT.sIx ds.length 0 lo)
theorem RepL.cut {K : PySem.W.Frag} {H : Hp} {μ : Mu} {ds : List D} {vs : List V} (h : RepL K H μ ds vs) (lo hi : Option Int) : RepL K H μ (cutD ds lo hi) (cutV vs lo hi) := by
  unfold cutD cutV
  rw [h.length]
  exact (h.drop _).take _
def gSl (ge : GE) (gl gh : GP) : GE := fun δ μ R => ge δ μ fun x μ1 => gl δ μ1 fun lo μ2 => gh δ μ2 fun hi μ3 => match x with
  | .lst ds => R (.lst (cutD ds lo hi)) μ3
  | .seq ds => R (.lst (cutD ds lo hi)) μ3
  | .tup ds => R (.tup (cutD ds lo hi)) μ3
  | .str z => z.length ≤ sizeLine ∧ R (.str (cutS z lo hi)) μ3
  | _ => False
section
variable {X : Cx} {e i : Expr} {lo hi : Option Expr} {pos p2 : Pos} {ge : GE} {gl gh : GP}
theorem dp_none : DP X none gNoP := ⟨_, po_none, fun σ H δ μ Q R rm rs q f => f none H μ (Kp.refl _ _) rm q⟩
theorem dp_some (h : DE X i ge) : DP X (some i) (gP ge) := by
  obtain ⟨t, a1, a2⟩ := h.ex
  refine ⟨_, po_some a1, fun σ H δ μ Q R rm rs q f => ?_⟩
  refine a2 σ H δ μ _ _ rm rs q fun v d H1 μ1 k1 rm1 r1 q1 => ?_
  cases d <;> try exact False.elim q1
  exact ⟨_, rep_int r1, f _ H1 μ1 k1 rm1 q1⟩
def rSlAny (K : PySem.W.Frag) : V → Option Int → Option Int → Hp → VK → Prop := fun x lo hi H Q => rSlL K x lo hi H Q ∨ rSlA K x lo hi H Q ∨ rSlS x lo hi H Q
theorem sl_any : SlR X (rSlAny X.K) := by
  intro pins s σ H x v vl vu lo hi sl Q I rx hs pl pu h
  rcases h with h | h | h
  · exact sl_list pins s σ H x v vl vu lo hi sl Q I rx hs pl pu h
  · exact sl_tupA pins s σ H x v vl vu lo hi sl Q I rx hs pl pu h
  · exact sl_str pins s σ H x v vl vu lo hi sl Q I rx hs pl pu h
theorem cut_all {α : Type} (xs : List α) {a b : Nat} (h : a = 0) (h2 : b = xs.length) : (xs.drop a).take (b - a) = xs := by
  subst h h2
  simp
theorem de_slice (he : DE X e ge) (hl : DP X lo gl) (hu : DP X hi gh) : DE X (.Subscript e (.Slice lo hi none p2) pos) (gSl ge gl gh) := by
  obtain ⟨t, a1, a2⟩ := he.ex
  obtain ⟨u, b1, b2⟩ := hl.ex
  obtain ⟨w, c1, c2⟩ := hu.ex
  refine ⟨_, pe_slice sl_any a1 b1 c1, fun σ H δ μ Q R rm rs q f => ?_⟩
  refine a2 σ H δ μ _ _ rm rs q fun v d H1 μ1 k1 rm1 r1 q1 => ?_
  refine b2 σ H1 δ μ1 _ _ rm1 (rs.mono k1) q1 fun l H2 μ2 k2 rm2 q2 => ?_
  refine c2 σ H2 δ μ2 _ _ rm2 (rs.mono (k1.trans k2)) q2 fun h H3 μ3 k3 rm3 q3 => ?_
  have r3 := r1.mono (k2.trans k3)
  have f3 := f.re (k1.trans (k2.trans k3))
  cases d <;> try exact False.elim q3
  · exact .inr (.inr ⟨_, rep_str r3, q3.1, fw_now rm3 to_str q3.2 f3⟩)
  · rename_i ds
    obtain ⟨p, vs, rfl, im, rl⟩ := rep_tup r3
    refine .inr (.inl ⟨p, vs, rfl, im.sq, fun ⟨z1, z2⟩ => ?_, fun _ t n => fw_tup rm3 n (rl.cut l h) q3 f3⟩)
    rw [rl.length] at z1 z2
    have e : cutD ds l h = ds := cut_all ds z1 z2
    have q4 : R (.tup (cutD ds l h)) μ3 := q3
    rw [e] at q4
    exact fw_now rm3 r3 q4 f3
  · obtain ⟨p, vs, rfl, i, _, rl⟩ := rep_lst r3
    exact .inl ⟨p, vs, rfl, SqL.of i, fun t n => fw_lst rm3 n (rl.cut l h) q3 f3⟩
  · obtain ⟨p, vs, rfl, i, rl⟩ := rep_seq r3
    exact .inl ⟨p, vs, rfl, i.sq, fun t n => fw_lst rm3 n (rl.cut l h) q3 f3⟩
end
/-! ### list(text) -/
def rListS : List V → Hp → VK → Prop := fun xs H Q => ∃ x : Str, xs = [.str x] ∧ x.length ≤ sizeLine ∧ ∀ l, H l = none → Q (.ref l) (upd H l (.lst (x.cps.toList.map fun c => V.str ⟨#[c]⟩)))
theorem signs_vals (x : Str) (acc : Array Value) (h : ItemsOf (SignAt x) acc x.cps.size) : Vals (x.cps.toList.map fun c => V.str ⟨#[c]⟩) acc.toList := by
  have key : ∀ (l : List Nat) (us : List Value), us.length = l.length → (∀ (j : Nat) (v : Value), us[j]? = some v → ∃ (c : Nat) (u : Tok), l[j]? = some c ∧ v = Value.str ⟨#[c]⟩ u) → Vals (l.map fun c => V.str ⟨#[c]⟩) us := by
    intro l
    induction l with
    | nil =>
      intro us hl _
      have e : us = [] := List.eq_nil_of_length_eq_zero hl
      subst e
      exact .nil
    | cons c l ih =>
      intro us hl hs
      cases us with
      | nil => simp at hl
      | cons u us =>
        obtain ⟨c', t, e1, e2⟩ := hs 0 u rfl
        have e1' : c = c' := by simpa using e1
        subst e1'
        subst e2
        exact .cons ⟨t, rfl⟩ (ih us (by simpa using hl) fun j v hv => hs (j + 1) v (by simpa using hv))
  refine key _ _ (by rw [Array.length_toList, Array.length_toList]; exact h.1) fun j v hv => ?_
  obtain ⟨c, u, e1, e2⟩ := h.2 j v (by rw [← Array.getElem?_toList]; exact hv)
  exact ⟨c, u, by rw [Array.getElem?_toList]; exact e1, e2⟩
theorem call_listS {X : Cx} (hc : X.calm = true) : CallR X (.type "list") rListS := by
  intro pins s σ H xs us Q I r h
  obtain ⟨x, rfl, hz, q⟩ := h
  obtain ⟨u, rfl, t, rfl⟩ := vals1 r
  refine call_list_str (I.ok.hd hc) x t (fun h' tk acc c' hk ho hi => ?_) hz
  have hn : H s.heap.objs.size = none := I.hok.fresh (Nat.le_refl _)
  have new : ObjOk X.prog X.w (upd H s.heap.objs.size (.lst (x.cps.toList.map fun c => V.str ⟨#[c]⟩))) h' s.heap.objs.size (.lst (x.cps.toList.map fun c => V.str ⟨#[c]⟩)) :=
    ⟨by rw [List.length_map, Array.length_toList]; exact hz, acc.toList, c', signs_vals x acc hi, ho⟩
  exact ⟨.ref s.heap.objs.size, _, I.laid hk (Nat.le_refl _) new, rfl, q _ hn⟩
theorem signs_rep {K : PySem.W.Frag} {H : Hp} {μ : Mu} (x : Str) : RepL K H μ (signs x) (x.cps.toList.map fun c => V.str ⟨#[c]⟩) := by
  unfold signs
  generalize x.cps.toList = l
  induction l with
  | nil => exact RepL.nil
  | cons c l ih => exact RepL.cons to_str ih
def gListSC1 : G1 := fun x μ R => match x with
  | .str z => z.length ≤ sizeLine ∧ ∀ a, μ a = none → R (.adr a) (put μ a (.lst (signs z)))
  | _ => False
theorem sim_listSC {K : PySem.W.Frag} : SimC K rListS (g1 gListSC1) := sim_g1 fun v d H μ Q R rm rv q f => by
  cases d <;> try exact False.elim q
  exact ⟨_, by rw [rep_str rv], q.1, fun l n => fw_cell rm n (signs_rep _) q.2 f⟩
/-! ### isinstance -/
theorem tyX_rep {K : PySem.W.Frag} {H : Hp} {μ : Mu} {d : D} {v : V} {n : String} (h : Rep K H μ d v) (e : tyName d = some n) : TyX K H v (.type n) := by
  cases d <;> cases e
  · rw [rep_non h]; exact .base .non
  · rw [rep_bl h]; exact .base (.bl _)
  · rw [rep_int h]; exact .base (.int _)
  · rw [rep_str h]; exact .base (.str _)
  · obtain ⟨a, vs, rfl, im, _⟩ := rep_tup h
    rcases im with ⟨h1, _⟩ | h1
    · exact .base (.tup h1)
    · exact h1.2.elim
  · obtain ⟨a, vs, rfl, i, _⟩ := rep_lst h
    exact .base (.lst i)
def gIsi (T : String) : G1 := fun x μ R => ∃ n b, tyName x = some n ∧ kitB n T = some b ∧ R (.bl b) μ
section
variable {X : Cx} {p p2 pos : Pos} {e : Expr} {g : GE} {nm : Str} {T : String}
/-- isinstance(e, T), T a built-in class by its name -/
theorem de_isi (hg : Gl X "isinstance") (hm : X.mg "isinstance" = none) (hg2 : Gl X nm) (hm2 : X.mg nm = none) (hv : bootBuiltins nm = some (.type T)) (he : DE X e g) (hn : nm ≠ "__name__" := by decide) (hd : (nm == ("__debug__" : Str)) = false := by decide)
    (hs : starEach [e, .Name nm p2] X.env = (false, eval e X.env) :: starEach [.Name nm p2] X.env := by rfl) (hpl : (backTo pos (starEach [.Name nm p2] X.env)).any (·.1) = false := by rfl) (hs2 : starEach [.Name nm p2] X.env = (false, eval (.Name nm p2) X.env) :: starEach [] X.env := by rfl) :
    DE X (.Call (.Name "isinstance" p) [e, .Name nm p2] [] pos) (gUn (gIsi T) g) := by
  obtain ⟨t, a1, a2⟩ := he.ex
  refine ⟨_, pe_callB call_isi hg hm (by decide +kernel) (pa_cons a1 (pa_cons (pe_bltn (v := .ty T) hg2 hm2 hv rfl hn hd) pa_nil hs2) hs) (by decide) (by decide) hs hpl, fun σ H δ μ Q R rm rs q f => ?_⟩
  refine a2 σ H δ μ _ _ rm rs q fun v d H1 μ1 k1 rm1 r1 ⟨n, b, e1, e2, q1⟩ => ?_
  exact ⟨v, .ty T, .type n, .type T, b, rfl, .ty T, tyX_rep r1 e1, kit_ty e2, fw_now rm1 to_bl q1 (f.re k1)⟩
/-- what isinstance asks of an own class -/
structure IsC (K : PySem.W.Frag) (C : Addr) : Prop where
  cl : Cls K C
  ha : PySem.W.findIn K (.ref C) "__class__" = some (some (.builtin "object.__class__"))
  hn : PySem.W.specialIn K (.builtin "object.__class__") "__get__" = some (some (.builtin "getset_descriptor.__get__"))
  ht : PySem.W.takesIn K (.builtin "object.__class__") = some true
  hm : PySem.W.mroIn K C (.type "object") = some true
def gIsC (C : Addr) : G1 := fun x μ R => match x with
  | .ins C' _ => C' = C ∧ R (.bl true) μ
  | _ => False
theorem de_isc {C : Addr} (hc : IsC X.K C) (hg : Gl X "isinstance") (hm : X.mg "isinstance" = none) (hg2 : Gl X nm) (hm2 : X.mg nm = some (.ref C)) (he : DE X e g) (hd : (nm == ("__debug__" : Str)) = false := by decide)
    (hs : starEach [e, .Name nm p2] X.env = (false, eval e X.env) :: starEach [.Name nm p2] X.env := by rfl) (hpl : (backTo pos (starEach [.Name nm p2] X.env)).any (·.1) = false := by rfl) (hs2 : starEach [.Name nm p2] X.env = (false, eval (.Name nm p2) X.env) :: starEach [] X.env := by rfl) :
    DE X (.Call (.Name "isinstance" p) [e, .Name nm p2] [] pos) (gUn (gIsC C) g) := by
  obtain ⟨t, a1, a2⟩ := he.ex
  refine ⟨_, pe_callB call_isi hg hm (by decide +kernel) (pa_cons a1 (pa_cons (pe_glob (v := .ref C) hg2 hm2 rfl hd) pa_nil hs2) hs) (by decide) (by decide) hs hpl, fun σ H δ μ Q R rm rs q f => ?_⟩
  refine a2 σ H δ μ _ _ rm rs q fun v d H1 μ1 k1 rm1 r1 q1 => ?_
  cases d <;> try exact False.elim q1
  obtain ⟨rfl, q1⟩ := q1
  obtain ⟨a, dx, fv, rfl, h1, _, _⟩ := rep_ins r1
  refine ⟨.ref a, .ref _, .ref _, .ref _, true, rfl, .own _, .base (.ins h1 hc.cl hc.ha hc.hn hc.ht hc.hm), ?_, fw_now rm1 to_bl q1 (f.re k1)⟩
  unfold PySem.W.kitOne
  rw [if_pos (beq_self_eq_true _)]
end
end DL
set_option Elab.async false
set_option linter.all false
set_option maxRecDepth 100000
namespace DL
open PySem PySem.Spec PyProof.Rows L2
/-! ### max, min of two texts: which object comes back -/
section
variable {prog : Program} {w : World} {A : Around} {E : Value → Shared → Prop} {s : Shared}
theorem cmpS_gt {P : Nat → Value → Prop} (val : Nat → Str) (hv : ∀ i v, P i v → ∃ t, v = .str (val i) t) : CmpOf prog w A .Gt P (fun i j => decide ((val j).cps.toList < (val i).cps.toList)) := fun i j vi vj s Q E hi hj h => by
  obtain ⟨t, rfl⟩ := hv i vi hi
  obtain ⟨u, rfl⟩ := hv j vj hj
  exact richCompare_gives (op := .Gt) (typeIs_str s _ t) (typeIs_str s _ u) F.slot_str_gt F.entry_str_gt (F.args_str_gt_2 _ _) (gives_str_gt _ _ t u) (fun x => nomatch x) h
theorem cmpS_lt {P : Nat → Value → Prop} (val : Nat → Str) (hv : ∀ i v, P i v → ∃ t, v = .str (val i) t) : CmpOf prog w A .Lt P (fun i j => decide ((val i).cps.toList < (val j).cps.toList)) := fun i j vi vj s Q E hi hj h => by
  obtain ⟨t, rfl⟩ := hv i vi hi
  obtain ⟨u, rfl⟩ := hv j vj hj
  exact richCompare_gives (op := .Lt) (typeIs_str s _ t) (typeIs_str s _ u) F.slot_str_lt F.entry_str_lt (F.args_str_lt_2 _ _) (gives_str_lt _ _ t u) (fun x => nomatch x) h
theorem two_at {a b v : Value} {bt : Nat → Nat → Bool} (h : (#[a, b] : Array Value)[argBest bt ((#[a, b] : Array Value).size - 1)]? = some v) : v = if bt 1 0 = true then b else a := by
  have e : (#[a, b] : Array Value).size - 1 = 1 := rfl
  rw [e] at h
  cases hb : bt 1 0 with
  | true =>
    have e1 : argBest bt 1 = 1 := by simp [argBest, hb]
    rw [e1] at h
    simpa using h.symm
  | false =>
    have e1 : argBest bt 1 = 0 := by simp [argBest, hb]
    rw [e1] at h
    simpa using h.symm
theorem pair_val {x y : Str} {t u : Tok} : ∀ (i : Nat) (v : Value), (#[.str x t, .str y u] : Array Value)[i]? = some v → ∃ k, v = .str (if i = 0 then x else y) k
  | 0, v, h => ⟨t, by simpa using h.symm⟩
  | 1, v, h => ⟨u, by simpa using h.symm⟩
  | i + 2, v, h => by simp at h
theorem max_strs {x y : Str} {t u : Tok} {Q : Value → Shared → Prop} (hh : A.handled = none)
    (h : ∀ h' tk, (∀ c o, s.heap.get? c = some o → h'.get? c = some o) → Q (if x.cps.toList < y.cps.toList then .str y u else .str x t) { s with heap := h', toks := tk }) :
    wpAny (model prog w) A (call (.builtin "max") [.str x t, .str y u]) Q E s := by
  have hT : (s.heap.push { cls := .type "tuple", data := .seq #[.str x t, .str y u] }).IsTuple s.heap.objs.size #[.str x t, .str y u] := ⟨_, Heap.get?_push_size _ rfl, rfl, 0, rfl⟩
  have sz : (s.heap.push { cls := .type "tuple", data := .seq #[.str x t, .str y u] }).objs.size = s.heap.objs.size + 1 := Heap.size_push ..
  refine call_max_two (wpAny_pyIter_tuple hT ?_)
  refine ⟨_, [_, s.heap.objs.size], [_], _, _, _, _, rfl, Walks.tuple (A := A.in1) hh _ s.heap.objs.size (by rw [sz]; exact Nat.ne_of_lt (Nat.lt_succ_self _)) #[.str x t, .str y u],
    ⟨⟨_, Heap.get?_push_size _ rfl, rfl, rfl⟩, hT.push _⟩, fun c hc => ?_, (by decide : 0 < 2), cmpS_gt (fun i => if i = 0 then x else y) pair_val, fun v h' tk hP hk => ?_⟩
  · show c < ((s.heap.push _).push _).objs.size
    rw [Heap.size_push, sz]
    have hc' : c = (s.heap.push { cls := .type "tuple", data := .seq #[.str x t, .str y u] }).objs.size ∨ c = s.heap.objs.size := by simpa using hc
    rcases hc' with e | e
    · rw [e, sz]; exact Nat.lt_succ_self _
    · rw [e]; exact Nat.lt_succ_of_lt (Nat.lt_succ_self _)
  · have old : ∀ c o, s.heap.get? c = some o → h'.get? c = some o := fun c o e => hk c o (fun hm => by
      have e1 : c = (s.heap.push { cls := .type "tuple", data := .seq #[.str x t, .str y u] }).objs.size := by simpa using hm
      have lt := Heap.lt_size e
      rw [e1, sz] at lt
      exact Nat.lt_irrefl _ (Nat.lt_of_succ_lt lt)) (Heap.get?_push_of_some _ (Heap.get?_push_of_some _ e))
    have q := h h' tk old
    have e := two_at (bt := fun i j => decide ((if j = 0 then x else y).cps.toList < (if i = 0 then x else y).cps.toList)) hP
    have e2 : v = if x.cps.toList < y.cps.toList then .str y u else .str x t := by
      rw [e]
      simp
    rw [e2]
    exact q
theorem min_strs {x y : Str} {t u : Tok} {Q : Value → Shared → Prop} (hh : A.handled = none)
    (h : ∀ h' tk, (∀ c o, s.heap.get? c = some o → h'.get? c = some o) → Q (if y.cps.toList < x.cps.toList then .str y u else .str x t) { s with heap := h', toks := tk }) :
    wpAny (model prog w) A (call (.builtin "min") [.str x t, .str y u]) Q E s := by
  have hT : (s.heap.push { cls := .type "tuple", data := .seq #[.str x t, .str y u] }).IsTuple s.heap.objs.size #[.str x t, .str y u] := ⟨_, Heap.get?_push_size _ rfl, rfl, 0, rfl⟩
  have sz : (s.heap.push { cls := .type "tuple", data := .seq #[.str x t, .str y u] }).objs.size = s.heap.objs.size + 1 := Heap.size_push ..
  refine call_min_two (wpAny_pyIter_tuple hT ?_)
  refine ⟨_, [_, s.heap.objs.size], [_], _, _, _, _, rfl, Walks.tuple (A := A.in1) hh _ s.heap.objs.size (by rw [sz]; exact Nat.ne_of_lt (Nat.lt_succ_self _)) #[.str x t, .str y u],
    ⟨⟨_, Heap.get?_push_size _ rfl, rfl, rfl⟩, hT.push _⟩, fun c hc => ?_, (by decide : 0 < 2), cmpS_lt (fun i => if i = 0 then x else y) pair_val, fun v h' tk hP hk => ?_⟩
  · show c < ((s.heap.push _).push _).objs.size
    rw [Heap.size_push, sz]
    have hc' : c = (s.heap.push { cls := .type "tuple", data := .seq #[.str x t, .str y u] }).objs.size ∨ c = s.heap.objs.size := by simpa using hc
    rcases hc' with e | e
    · rw [e, sz]; exact Nat.lt_succ_self _
    · rw [e]; exact Nat.lt_succ_of_lt (Nat.lt_succ_self _)
  · have old : ∀ c o, s.heap.get? c = some o → h'.get? c = some o := fun c o e => hk c o (fun hm => by
      have e1 : c = (s.heap.push { cls := .type "tuple", data := .seq #[.str x t, .str y u] }).objs.size := by simpa using hm
      have lt := Heap.lt_size e
      rw [e1, sz] at lt
      exact Nat.lt_irrefl _ (Nat.lt_of_succ_lt lt)) (Heap.get?_push_of_some _ (Heap.get?_push_of_some _ e))
    have q := h h' tk old
    have e := two_at (bt := fun i j => decide ((if i = 0 then x else y).cps.toList < (if j = 0 then x else y).cps.toList)) hP
    have e2 : v = if y.cps.toList < x.cps.toList then .str y u else .str x t := by
      rw [e]
      simp
    rw [e2]
    exact q
/-! ### text.replace(x, x), one object twice -/
open Builtin Builtin.Str
end
end DL
set_option Elab.async false
set_option linter.all false
set_option maxRecDepth 100000
namespace DL
open PySem PySem.Spec PyProof.Rows L2
end DL
set_option Elab.async false
set_option linter.all false
set_option maxRecDepth 100000
namespace DL
open PySem PySem.Spec PyProof.Rows L2
section
variable {X : Cx} {pins : List (Addr × Obj)} {σ : L2.St} {H : Hp} {s : Shared} {E : Value → Shared → Prop}
theorem lt_one {a b : Nat} : (([a] : List Nat) < [b]) ↔ a < b := by
  constructor
  · intro h
    cases h with
    | rel h => exact h
    | cons h => cases h
  · intro h
    exact .rel h
end
end DL
set_option Elab.async false
set_option linter.all false
set_option maxRecDepth 100000
namespace DL
open PySem PySem.Spec PyProof.Rows L2
end DL
set_option Elab.async false
set_option linter.all false
set_option maxRecDepth 100000
namespace DL
open PySem PySem.Spec PyProof.Rows L2
/-! ### zip of two texts -/
end DL
set_option Elab.async false
set_option linter.all false
set_option maxRecDepth 100000
namespace DL
open PySem PySem.Spec PyProof.Rows L2
/-! ### enumerate of a tuple -/
set_option maxHeartbeats 1000000 in
theorem enum_new1 {v : Value} {o : Obj} {H : Heap → Prop} (B : Begins v o H) :
    Meets (Builtin.«enumerate.__new__» ⟨[.type "enumerate", v], []⟩) (fun _ R s => H s.heap ∧
      R (.ok (.ret (.ref (s.heap.push o).objs.size))) { s with heap := (s.heap.push o).push { cls := .type "enumerate", data := .fields #[.none, .bool false, .ref s.heap.objs.size, rawInt 0, .none, .none] } }) :=
  .of_wp fun prog w A R s h => by
    obtain ⟨hp, g, d, tk, os⟩ := s; obtain ⟨h1, h⟩ := h
    have hsub := sub_enumerate
    have q1 : ∀ {A' : Around} {E : Value → Shared → Prop} {Q : Value → Shared → Prop}, Q (.ref hp.objs.size) ⟨hp.push o, g, d, tk, os⟩ → wpAny (model prog w) A' (pyIter v) Q E ⟨hp, g, d, tk, os⟩ :=
      fun q => B.iter prog w _ _ ⟨hp, g, d, tk, os⟩ _ h1 q
    wp_walk using q1
    refine wpAny_stack_any fun st => wpAny_pure ?_
    split
    · rename_i c _ _ _ _ _
      cases (c == Value.type "enumerate")
      · wp_walk using q1
        exact ⟨_, rfl, h⟩
      · wp_walk using q1
        exact ⟨_, rfl, h⟩
    · wp_walk using q1
      exact ⟨_, rfl, h⟩
theorem enum_begins1 {prog : Program} {w : World} {A : Around} {E : Value → Shared → Prop} {s : Shared} {v : Value} {o : Obj} {H : Heap → Prop} {Q : Value → Shared → Prop} (B : Begins v o H) (h1 : H s.heap)
    (h : ∀ h', IsEnum h' (s.heap.objs.size + 1) s.heap.objs.size 0 .none → h'.get? s.heap.objs.size = some o → h'.objs.size = s.heap.objs.size + 2 →
      (∀ b o, s.heap.get? b = some o → h'.get? b = some o) → Q (.ref (s.heap.objs.size + 1)) { s with heap := h' }) :
    wpAny (model prog w) A (call (.type "enumerate") [v]) Q E s := by
  refine callType_new F.called_enumerate (by decide) (F.typeCall_enumerate_1 _) (F.newCall_enumerate_1 _) (fun obj => F.args_object_init_2 obj _) F.entry_enumerate_new
    (enum_new1 B) ⟨h1, ?_⟩
  have hz : (s.heap.push o).objs.size = s.heap.objs.size + 1 := Heap.size_push ..
  show _ ∧ _
  rw [hz]
  have he : IsEnum ((s.heap.push o).push { cls := .type "enumerate", data := .fields #[.none, .bool false, .ref s.heap.objs.size, rawInt 0, .none, .none] }) (s.heap.objs.size + 1) s.heap.objs.size 0 .none := by
    have := Heap.get?_push_size (s.heap.push o) (o := { cls := .type "enumerate", data := .fields #[.none, .bool false, .ref s.heap.objs.size, rawInt 0, .none, .none] }) rfl
    rw [hz] at this; exact this
  exact ⟨⟨_, he, rfl⟩, h _ he (Heap.get?_push_of_some _ (Heap.get?_push_size _ B.free)) (by rw [Heap.size_push, hz]) fun b o x => Heap.get?_push_of_some _ (Heap.get?_push_of_some _ x)⟩
def IteT (K : PySem.W.Frag) (a : Addr) : It :=
  ⟨fun i H => ∃ (xs : List V) (x : V), SqT K H a xs ∧ xs[i]? = some x, fun i H v H' => ∃ T x, v = .ref T ∧ H T = none ∧ H' = upd H T (.tup [.int (i : Nat), x]) ∧ ∀ xs, SqT K H a xs → xs[i]? = some x, fun i H => ∃ xs : List V, SqT K H a xs ∧ xs.length = i⟩
theorem turn_enumT {P : Program} {w : World} {K : PySem.W.Frag} {elts : List Expr} {kk : Nat} {tpos : Pos} (a e it : Addr) :
    Turn P w K (.Tuple elts kk tpos) (IteT K a) [e, it] e (fun i h => (∃ old, IsEnum h e it ((i : Nat) : Int) old) ∧ h.IsTupleIter it a i ∧ e ≠ it ∧ a ≠ it ∧ e ≠ a) where
  mem := by simp
  obj := fun i h st b hb => by
    obtain ⟨⟨old, he⟩, ⟨o, ho, hc, hd⟩, _⟩ := st
    have e' : b = e ∨ b = it := by simpa using hb
    rcases e' with z | z
    · rw [z]; exact ⟨_, he, fun v q => nomatch q⟩
    · rw [z]; exact ⟨o, ho, fun v q => by rw [hd] at q; cases q⟩
  keep := fun i h h' st k => let ⟨⟨old, he⟩, hi, hne⟩ := st; ⟨⟨old, k e (by simp) _ he⟩, hi.at fun o q => k it (by simp) o q, hne⟩
  item := by
    intro X hP hw hK hc i pins s σ H E I hf st hg
    subst hP hw hK
    obtain ⟨⟨old, he⟩, hit, hne, hai, hea⟩ := st
    obtain ⟨xs, x, hq, hx⟩ := hg
    obtain ⟨its, rv, p, hz⟩ := I.tuple hq
    obtain ⟨u, hu, ru⟩ := rv.get hx
    have hel : e < s.heap.objs.size := Heap.lt_size he
    have hil : it < s.heap.objs.size := by obtain ⟨_, q, _⟩ := hit; exact Heap.lt_size q
    have hh : X.A.in1.handled = none := I.ok.hd hc
    have hl : i < its.toArray.size := by simpa using (List.getElem?_eq_some_iff.mp hu).1
    refine wpAny_pyNext_enum_itemD (Draws.tuple hh it a hai its.toArray) he ⟨hit, p⟩ hl hne (by simp [hne, hea]) fun u2 h' tk pu ho hit' hT hsz hk => ?_
    have eu : u2 = u := by
      have : its.toArray[i]? = some u2 := pu
      rw [List.getElem?_toArray, hu] at this
      exact (Option.some.inj this).symm
    subst eu
    refine ⟨_, rfl, wpAny_letOwnedTupleGo_enum (s := { s with heap := h', toks := tk + 1 }) ho fun h'' he' sb => ?_⟩
    have hT2 : h''.get? s.heap.objs.size = some { cls := .type "tuple", data := .seq #[.int i tk, u2] } := (sb.2 _ (Nat.ne_of_gt hel)).trans hT
    have new : ObjOk X.prog X.w (upd H s.heap.objs.size (.tup [.int (i : Nat), x])) h'' s.heap.objs.size (.tup [.int (i : Nat), x]) :=
      ⟨by show 2 ≤ sizeLine; decide, [.int i tk, u2], .cons ⟨_, rfl⟩ (.cons ru .nil), ⟨_, hT2, rfl, _, rfl⟩⟩
    have I1 : Inv X pins σ (upd H s.heap.objs.size (.tup [.int (i : Nat), x])) { s with heap := h'', toks := tk + 1 } :=
      I.turnedNew (ch := [e, it]) (fun b ob hb q => (sb.2 b (fun z => hb (by simp [z]))).trans (hk b ob (fun z => hb (by simp [z])) (fun z => hb (by simp [z])) q)) hf (Nat.le_refl _) new
    refine ⟨.ref s.heap.objs.size, _, I1, rfl, ⟨_, x, rfl, I.hok.fresh (Nat.le_refl _), rfl, fun ys hy => by rw [I.tuple_inj hy hq]; exact hx⟩, ⟨⟨u2, ?_⟩, hit'.1.at fun o q => (sb.2 it (Ne.symm hne)).trans q, hne, hai, hea⟩, fun b hb => ?_⟩
    · have e1 : ((i + 1 : Nat) : Int) = (i : Int) + 1 := by omega
      rw [e1]; exact he'
    · have hb' : b < s.heap.objs.size := by
        have e' : b = e ∨ b = it := by simpa using hb
        rcases e' with z | z
        · rw [z]; exact hel
        · rw [z]; exact hil
      rw [upd_ne (Nat.ne_of_lt hb')]
      exact (hf b hb).1
  done := by
    intro X hP hw hK hc i pins s σ H E I hf st hg
    subst hP hw hK
    obtain ⟨⟨old, he⟩, hit, hne, hai, hea⟩ := st
    obtain ⟨xs, hq, hx⟩ := hg
    obtain ⟨its, rv, p, hz⟩ := I.tuple hq
    obtain ⟨f0, f1, f2, f3, f4, f5⟩ := hf it (by simp)
    have hl : i = its.toArray.size := by
      have := rv.length
      simp; omega
    subst hl
    have hh : X.A.in1.handled = none := I.ok.hd hc
    exact wpAny_pyNext_enum_endD (Draws.tuple hh it a hai its.toArray) he ⟨hit, p⟩ fun h' eb => ⟨rfl, I.turned (t' := s.toks) (fun b o hb q => eb b o hb q) f0 f1 f3 f4 f5⟩
  self := fun A i s Q E st h => let ⟨⟨_, he⟩, _⟩ := st; wpAny_pyIter_enum he h
def iEnumT (K : PySem.W.Frag) (ta : TA) : TI := fun σ H R => ta σ H fun vs H1 => ∃ a xs, vs = [.ref a] ∧ SqT K H1 a xs ∧ R (IteT K a) H1
theorem pi_enumT {X : Cx} {e : Expr} {ta : TA} {p pos tpos : Pos} {elts : List Expr} {kk : Nat} (hg : Gl X "enumerate") (hm : X.mg "enumerate" = none) (ha : PA X [e] ta) (hs : starEach [e] X.env = [(false, eval e X.env)] := by rfl) :
    PI X (.Tuple elts kk tpos) (.Call (.Name "enumerate" p) [e] [] pos) (iEnumT X.K ta) := by
  refine ⟨fun pins s σ H R I h => ?_⟩
  refine Call_ (ld_blt I hg hm boot_enumerate (PyProof.Rows.callWith_type1 (thn (ha.run pos pins s σ H _ I h) fun us s1 ⟨vs, H1, I1, r1, q1⟩ => ?_) hs rfl))
  obtain ⟨a, xs, ex, hq, q⟩ := q1
  subst ex
  cases r1 with
  | cons r rr =>
    cases rr
    cases r
    obtain ⟨its, rv, p', hz⟩ := I1.tuple hq
    have hal : a < s1.heap.objs.size := by obtain ⟨_, z, _⟩ := id p'; exact Heap.lt_size z
    refine enum_begins1 (begins_tuple a its.toArray) p' fun h' he hit hsz hk => wpAny_pyIter_enum he ?_
    have I2 : Inv X pins σ H1 { s1 with heap := h' } := I1.kept (t' := s1.toks) hk
    refine ⟨s1.heap.objs.size + 1, [s1.heap.objs.size + 1, s1.heap.objs.size], _, _, H1, rfl, I2, turn_enumT a (s1.heap.objs.size + 1) s1.heap.objs.size, ⟨⟨.none, he⟩, ⟨_, hit, rfl, rfl⟩, Nat.succ_ne_self _, Nat.ne_of_lt hal, Nat.ne_of_gt (Nat.lt_succ_of_lt hal)⟩, fun b hb => ?_, q⟩
    have e' : b = s1.heap.objs.size + 1 ∨ b = s1.heap.objs.size := by simpa using hb
    have hle : s1.heap.objs.size ≤ b := by
      rcases e' with z | z
      · rw [z]; exact Nat.le_add_right _ _
      · rw [z]; exact Nat.le_refl _
    exact I1.fpOk hle (I1.hok.fresh hle)
/-- i, x of enumerate -/
def numbered (ds : List D) : List D := ds.mapIdx fun i d => D.tup [.int (i : Nat), d]
def gEnumT (ga : GA) : GI := fun δ μ R => ga δ μ fun ds μ1 => match ds with
  | [.tup xs] => R (numbered xs) μ1
  | _ => False
section
variable {X : Cx} {e : Expr} {ga : GA}
theorem di_enumT {p pos tpos : Pos} {elts : List Expr} {kk : Nat} (hg : Gl X "enumerate") (hm : X.mg "enumerate" = none) (h : DA X [e] ga) (hs : starEach [e] X.env = [(false, eval e X.env)] := by rfl) :
    DI X (.Tuple elts kk tpos) (.Call (.Name "enumerate" p) [e] [] pos) (gEnumT ga) := by
  obtain ⟨t, a1, a2⟩ := h.ex
  refine ⟨_, pi_enumT hg hm a1 hs, fun σ H δ μ Q R rm rs q f => ?_⟩
  refine a2 σ H δ μ _ _ rm rs q fun vs ds H1 μ1 k1 rm1 r1 q1 => ?_
  match ds, q1, r1 with
  | [.tup xs], q1, r1 =>
    obtain ⟨v, rfl, r2⟩ := repL1 r1
    unfold Rep at r2
    obtain ⟨a, ys, rfl, im, rl⟩ := r2
    have hl : (numbered xs).length = ys.length := by rw [rl.length]; simp [numbered]
    refine ⟨a, ys, rfl, im.sq, f _ (numbered xs) H1 μ1 k1 rm1 ?_ q1⟩
    refine ⟨fun i H' hi ⟨μ', k, _⟩ => ?_, fun H' ⟨μ', k, _⟩ => ⟨ys, (im.mono k).sq, hl.symm⟩, fun i H' v H2 hi _ y => ?_⟩
    · have h1 : i < ys.length := by rw [← hl]; exact hi
      exact ⟨ys, ys[i], (im.mono k).sq, by simp [h1]⟩
    · intro μ' k rm
      obtain ⟨T, x, rfl, nT, rfl, e4⟩ := y
      have ex := e4 ys (im.mono k).sq
      obtain ⟨d, e3, r3⟩ := (rl.mono k).atV ex
      have nm : μ' T = none := rm.free nT
      have k2 : Kp H' μ' (upd H' T (.tup [.int (i : Nat), x])) μ' := Kp.new nT
      refine ⟨.tup [.int (i : Nat), d], ?_, ?_, k2, rm.laid nT⟩
      · unfold numbered
        rw [List.getElem?_mapIdx, e3]
        rfl
      · unfold Rep
        exact ⟨T, _, rfl, .inl ⟨upd_same, nm⟩, by unfold RepL; exact ⟨_, _, rfl, by unfold Rep; rfl, by unfold RepL; exact ⟨_, _, rfl, r3.mono k2, RepL.nil⟩⟩⟩
end
end DL
set_option Elab.async false
set_option linter.all false
set_option maxRecDepth 100000
namespace DL
open PySem PySem.Spec PyProof.Rows L2
/-! ### sorted of a text -/
theorem strsAre_signs (x : Str) (acc : Array Value) (h : ItemsOf (SignAt x) acc x.cps.size) : StrsAre acc.toList (x.cps.toList.map fun c => (⟨#[c]⟩ : Str)) := by
  have v := signs_vals x acc h
  have key : ∀ (l : List Nat) (us : List Value), Vals (l.map fun c => V.str ⟨#[c]⟩) us → StrsAre us (l.map fun c => (⟨#[c]⟩ : Str)) := by
    intro l
    induction l with
    | nil => intro us v; cases v; exact .nil
    | cons c l ih =>
      intro us v
      cases v with
      | cons r rr =>
        obtain ⟨t, rfl⟩ := r
        exact .cons _ t (ih _ rr)
  exact key _ _ v
theorem sorted_text {prog : Program} {w : World} {A : Around} {E : Value → Shared → Prop} {s : Shared} {x : Str} {t : Tok} {Q : Value → Shared → Prop} (hh : A.handled = none) (hz : x.cps.size ≤ sizeLine)
    (h : ∀ (h1 h2 : Heap) (tk : Nat) (out : Array Value) (n : Nat) (ss' : List Str), (∀ b o, s.heap.get? b = some o → h1.get? b = some o) → (∀ b o, h1.get? b = some o → h2.get? b = some o) → h2.get? h1.objs.size = some (seqObj "list" out n) →
      StrsAre out.toList ss' → ss'.Perm (x.cps.toList.map fun c => (⟨#[c]⟩ : Str)) → sortedS ss' = true → Q (.ref h1.objs.size) { s with heap := h2, toks := tk }) :
    wpAny (model prog w) A (call (.builtin "sorted") [.str x t]) Q E s := by
  refine Calls.call_function_entry kind_sorted plain_sorted entry_sorted (args_sorted1 _) ?_
  unfold Builtin.«sorted»
  refine wpAny_bind (m := checkCount "sorted" 1 1 _) (wpAny_pure ?_)
  refine wpAny_bind (wpAny_collect_str (show A.in1.handled = none from hh) x t (fun s' acc k g d o hi => ?_) hz)
  have es : s' = { s with heap := s'.heap, toks := s'.toks } := by
    cases s'
    cases s
    cases g
    cases d
    cases o
    rfl
  generalize s'.heap = h1 at *
  generalize s'.toks = tk at *
  subst es
  have hS := strsAre_signs x acc hi
  have hl : acc.toList.length ≤ sizeLine := by rw [Array.length_toList, hi.1]; exact hz
  refine wpAny_bind (wpAny_newList ?_)
  have hoL : (h1.push (seqObj "list" acc.toList.toArray 0)).get? h1.objs.size = some (seqObj "list" acc.toList.toArray 0) := Heap.get?_push_size _ rfl
  refine wpAny_bind (wpAny_holding (wpAny_call_entry slot_list_sort ⟨_, hoL, rfl⟩ entry_list_sort (list_sort_treeKAny strKind_oneLt hoL hS.keysOf (fun v₁ v₂ rest e => keyKind_strs (by rw [← e]; exact hS)) hl fun st' hp hs => ⟨_, rfl, ?_⟩) (args_list_sort _)))
  obtain ⟨ss', q1, q2, q3⟩ := sorted_out_str hS hp hs
  obtain ⟨n, hn⟩ := sortedHeap_at (vs := acc.toList) (out := (arrOf st').map (·.2)) hoL
  refine wpAny_pure ⟨_, rfl, h h1 _ tk _ n ss' k (fun b ob e => ?_) hn q1 q2 q3⟩
  have hb := Heap.lt_size e
  rw [sortedHeap_old (Nat.ne_of_lt hb) (by rw [Heap.size_push]; exact Nat.lt_succ_of_lt hb)]
  exact Heap.get?_push_of_some _ e
def rSortedT : List V → Hp → VK → Prop := fun vs H Q => ∃ x : Str, vs = [V.str x] ∧ x.cps.size ≤ sizeLine ∧
  ∀ (ys : List Str) (p : Addr), ys.Perm (x.cps.toList.map fun c => (⟨#[c]⟩ : Str)) → sortedS ys = true → H p = none → Q (.ref p) (upd H p (.lst (ys.map V.str)))
theorem cr_sortedT {X : Cx} (hc : X.calm = true) : CallR X (.builtin "sorted") rSortedT := by
  intro pins s σ H vs us Q I r h
  obtain ⟨x, rfl, hz, q⟩ := h
  obtain ⟨u, rfl, t, rfl⟩ := vals1 r
  refine sorted_text (I.ok.hd hc) hz fun h1 h2 tk out n ss' k1 k2 ho hS hp hs => ?_
  have I1 : Inv X pins σ H { s with heap := h1, toks := tk } := I.kept (t' := tk) k1
  have hlen : (ss'.map V.str).length ≤ sizeLine := by rw [List.length_map, hp.length_eq, List.length_map, Array.length_toList]; exact hz
  exact ⟨.ref _, upd H h1.objs.size (.lst (ss'.map V.str)), I1.laid (t' := tk) k2 (Nat.le_refl _) ⟨hlen, out.toList, n, vals_of_strs hS, ho⟩, rfl, q ss' _ hp hs (I1.hok.fresh (Nat.le_refl _))⟩
def gSortedT1 : G1 := fun x μ R => match x with
  | .str z => z.cps.size ≤ sizeLine ∧ ∀ ys : List Str, ys.Perm (z.cps.toList.map fun c => (⟨#[c]⟩ : Str)) → sortedS ys = true → R (.lst (List.map D.str ys)) μ
  | _ => False
theorem sim_sortedT {K : PySem.W.Frag} : SimC K rSortedT (g1 gSortedT1) := sim_g1 fun v d H μ Q R rm rv q f => by
  cases d <;> try exact False.elim q
  exact ⟨_, by rw [rep_str rv], q.1, fun ys p hp hs n => fw_lst rm n (RepL.of_strs ys) (q.2 ys hp hs) f⟩
end DL
set_option Elab.async false
set_option linter.all false
set_option maxRecDepth 100000
namespace DL
open PySem PySem.Spec PyProof.Rows L2
/-! ### the order of lists of ints -/
section
variable {prog : Program} {w : World} {A : Around} {E : Value → Shared → Prop} {s : Shared}
/-- the i-th is a tuple of the i-th ints -/
def TupsI (h : Heap) : List Value → List (List Int) → Prop
  | [], [] => True
  | v :: vs, ns :: r => TS.TupInts h v ns ∧ TupsI h vs r
  | _, _ => False
theorem TupsI.all {h : Heap} : ∀ {vs : List Value} {nss : List (List Int)}, TupsI h vs nss → ∀ v ∈ vs, ∃ ns ∈ nss, TS.TupInts h v ns
  | [], [], _, v, hv => by cases hv
  | v :: vs, ns :: nss, t, u, hu => by
    rcases List.mem_cons.mp hu with rfl | hu
    · exact ⟨ns, List.mem_cons_self, t.1⟩
    · obtain ⟨ms, h1, h2⟩ := TupsI.all t.2 u hu
      exact ⟨ms, List.mem_cons_of_mem _ h1, h2⟩
theorem TupsI.length {h : Heap} : ∀ {vs : List Value} {nss : List (List Int)}, TupsI h vs nss → vs.length = nss.length
  | [], [], _ => rfl
  | v :: vs, ns :: nss, t => by rw [List.length_cons, List.length_cons, TupsI.length t.2]
end
end DL
set_option Elab.async false
set_option linter.all false
set_option maxRecDepth 100000
namespace DL
open PySem PySem.Spec PyProof.Rows L2
/-! ### sorted of tuples of ints -/
def TupIs (K : PySem.W.Frag) (H : Hp) : List V → List (List Int) → Prop
  | [], [] => True
  | x :: xs, ns :: r => TupI K H x ns ∧ TupIs K H xs r
  | _, _ => False
theorem TupIs.has {K : PySem.W.Frag} {H : Hp} : ∀ {xs : List V} {nss : List (List Int)}, TupIs K H xs nss → ∀ x ∈ xs, ∃ ns, TupI K H x ns
  | [], [], _, x, hx => by cases hx
  | y :: xs, ns :: r, t, x, hx => by
    rcases List.mem_cons.mp hx with rfl | hx
    · exact ⟨ns, t.1⟩
    · exact TupIs.has t.2 x hx
/-- a tuple of ints -/
def dI (ns : List Int) : D := .tup (ns.map D.int)
end DL
set_option Elab.async false
set_option linter.all false
set_option maxRecDepth 100000
namespace DL
open PySem PySem.Spec PyProof.Rows L2
/-! ### dicts of keys that are ints or texts -/
def valD {κ : Type} [DecidableEq κ] (kvs : List (κ × D)) (k : κ) : Option D := (kvs.find? fun kv => decide (kv.1 = k)).map (·.2)
def putD {κ : Type} [DecidableEq κ] (kvs : List (κ × D)) (k : κ) (v : D) : List (κ × D) :=
  if (kvs.any fun kv => decide (kv.1 = k)) = true then kvs.map (fun kv => if kv.1 = k then (kv.1, v) else kv) else kvs ++ [(k, v)]
def keyOf : D → Option Key
  | .int i => some (.inl i)
  | .str x => some (.inr x)
  | _ => none
section
variable {K : PySem.W.Frag} {H : Hp} {μ : Mu}
theorem key_rep {d : D} {k : Key} {v : V} (e : keyOf d = some k) (h : Rep K H μ d v) : v = kV k := by
  cases d <;> try cases e
  · exact rep_int h
  · exact rep_str h
theorem RepK.look {κ : Type} [DecidableEq κ] {k : κ} {d : D} : ∀ {kvs : List (κ × D)} {kv : List (κ × V)}, RepK K H μ kvs kv → valD kvs k = some d → ∃ v, valV kv k = some v ∧ Rep K H μ d v
  | [], _, _, e => by cases e
  | (k0, d0) :: r, kv, h, e => by
    unfold RepK at h
    obtain ⟨v, s, rfl, h1, h2⟩ := h
    by_cases q : k0 = k
    · have e' : d0 = d := by simpa [valD, q] using e
      exact ⟨v, valV_pos q, e' ▸ h1⟩
    · have e' : valD r k = some d := by simpa [valD, q] using e
      obtain ⟨w, g1, g2⟩ := RepK.look h2 e'
      exact ⟨w, (valV_neg q).trans g1, g2⟩
theorem RepK.any {κ : Type} [DecidableEq κ] {k : κ} : ∀ {kvs : List (κ × D)} {kv : List (κ × V)}, RepK K H μ kvs kv → (kv.any fun p => decide (p.1 = k)) = (kvs.any fun p => decide (p.1 = k))
  | [], _, h => by
    unfold RepK at h
    subst h
    rfl
  | (k0, d0) :: r, kv, h => by
    unfold RepK at h
    obtain ⟨v, s, rfl, h1, h2⟩ := h
    rw [List.any_cons, List.any_cons, RepK.any h2]
theorem RepK.length {κ : Type} : ∀ {kvs : List (κ × D)} {kv : List (κ × V)}, RepK K H μ kvs kv → kv.length = kvs.length
  | [], _, h => by
    unfold RepK at h
    subst h
    rfl
  | (k0, d0) :: r, kv, h => by
    unfold RepK at h
    obtain ⟨v, s, rfl, h1, h2⟩ := h
    rw [List.length_cons, List.length_cons, RepK.length h2]
theorem RepK.change {κ : Type} [DecidableEq κ] {k : κ} {d : D} {v : V} (rv : Rep K H μ d v) : ∀ {kvs : List (κ × D)} {kv : List (κ × V)}, RepK K H μ kvs kv →
    RepK K H μ (kvs.map fun p => if p.1 = k then (p.1, d) else p) (kv.map fun p => if p.1 = k then (p.1, v) else p)
  | [], _, h => by
    unfold RepK at h
    subst h
    unfold RepK
    rfl
  | (k0, d0) :: r, kv, h => by
    unfold RepK at h
    obtain ⟨w, s, rfl, h1, h2⟩ := h
    rw [List.map_cons, List.map_cons]
    by_cases q : k0 = k
    · rw [if_pos q, if_pos q]
      unfold RepK
      exact ⟨v, _, rfl, rv, RepK.change rv h2⟩
    · rw [if_neg q, if_neg q]
      unfold RepK
      exact ⟨w, _, rfl, h1, RepK.change rv h2⟩
theorem RepK.snoc {κ : Type} [DecidableEq κ] {k : κ} {d : D} {v : V} (rv : Rep K H μ d v) : ∀ {kvs : List (κ × D)} {kv : List (κ × V)}, RepK K H μ kvs kv → RepK K H μ (kvs ++ [(k, d)]) (kv ++ [(k, v)])
  | [], _, h => by
    unfold RepK at h
    subst h
    show RepK K H μ [(k, d)] [(k, v)]
    unfold RepK
    exact ⟨v, [], rfl, rv, by unfold RepK; rfl⟩
  | (k0, d0) :: r, kv, h => by
    unfold RepK at h
    obtain ⟨w, s, rfl, h1, h2⟩ := h
    rw [List.cons_append, List.cons_append]
    unfold RepK
    exact ⟨w, _, rfl, h1, RepK.snoc rv h2⟩
theorem RepK.put {κ : Type} [DecidableEq κ] {k : κ} {d : D} {v : V} {kvs : List (κ × D)} {kv : List (κ × V)} (h : RepK K H μ kvs kv) (rv : Rep K H μ d v) : RepK K H μ (putD kvs k d) (putK kv k v) := by
  unfold putD putK
  rw [RepK.any h]
  split
  · exact RepK.change rv h
  · exact RepK.snoc rv h
theorem RepK.lookN {κ : Type} [DecidableEq κ] {k : κ} : ∀ {kvs : List (κ × D)} {kv : List (κ × V)}, RepK K H μ kvs kv → valD kvs k = none → valV kv k = none
  | [], _, h, _ => by
    unfold RepK at h
    subst h
    rfl
  | (k0, d0) :: r, kv, h, e => by
    unfold RepK at h
    obtain ⟨v, s, rfl, h1, h2⟩ := h
    by_cases q : k0 = k
    · simp [valD, q] at e
    · have e' : valD r k = none := by simpa [valD, q] using e
      exact (valV_neg q).trans (RepK.lookN h2 e')
end
theorem RM.cellD {K : PySem.W.Frag} {H : Hp} {μ : Mu} {p : Addr} {kv : List (Key × V)} {kvs : List (Key × D)} (rm : RM K H μ) (n : H p = none) (r : RepK K H μ kvs kv) : RM K (upd H p (.dK kv)) (DL.put μ p (.dct kvs)) :=
  rm.put (Kp.cell n) (fun a o ea e => upd_ne ea) ⟨kv, upd_same, r.mono (Kp.cell n) _ _⟩
/-- d[k] -/
def gDGet (go gi : GE) : GE := fun δ μ R => go δ μ fun x μ1 => gi δ μ1 fun y μ2 => match x with
  | .adr a => ∃ kvs k d, μ2 a = some (.dct kvs) ∧ keyOf y = some k ∧ valD kvs k = some d ∧ R d μ2
  | _ => False
section
variable {X : Cx} {o i e : Expr} {pos : Pos} {go gi ge : GE}
theorem de_dget (hu : X.A.units + 1 < cLine) (ho : DE X o go) (hi : DE X i gi) (hs : NoSl i) : DE X (.Subscript o i pos) (gDGet go gi) := by
  obtain ⟨t, a1, a2⟩ := ho.ex
  obtain ⟨t2, b1, b2⟩ := hi.ex
  refine ⟨_, pe_dget hu a1 b1 hs, fun σ H δ μ Q R rm rs q f => ?_⟩
  refine a2 σ H δ μ _ _ rm rs q fun v d H1 μ1 k1 rm1 r1 q1 => ?_
  refine b2 σ H1 δ μ1 _ _ rm1 (rs.mono k1) q1 fun y dy H2 μ2 k2 rm2 r2 q2 => ?_
  cases d <;> try exact False.elim q2
  rename_i a
  obtain ⟨kvs, k, d, e0, ek, ed, q2⟩ := q2
  obtain ⟨kv, h1, l⟩ := rm2 a _ e0
  obtain ⟨w, g1, g2⟩ := l.look ed
  have ey := key_rep ek r2
  refine ⟨a, w, rep_adr (r1.mono k2), ?_, f w d H2 μ2 (k1.trans k2) rm2 g2 q2⟩
  rw [ey, ← g1]
  exact DGet.k h1
def setD (x y d : D) (μ : Mu) (R : Mu → Prop) : Prop := match x with
  | .adr a => ∃ kvs k, μ a = some (.dct kvs) ∧ keyOf y = some k ∧ kvs.length < sizeLine ∧ R (put μ a (.dct (putD kvs k d)))
  | _ => False
def hSubD (go gi : GE) : GH := fun d δ μ R => go δ μ fun x μ1 => gi δ μ1 fun y μ2 => setD x y d μ2 fun μ3 => R δ μ3
theorem simH_subDD {K : PySem.W.Frag} : SimH K (gSub (tOf K go) (tOf K gi) rSetD) (hSubD go gi) := by
  intro v d σ H δ μ Q R rm rs r q f
  refine sim_of σ H δ μ _ _ rm rs q fun x dx H1 μ1 k1 rm1 r1 q1 => ?_
  refine sim_of σ H1 δ μ1 _ _ rm1 (rs.mono k1) q1 fun y dy H2 μ2 k2 rm2 r2 q2 => ?_
  cases dx <;> try exact False.elim q2
  rename_i a
  obtain ⟨kvs, k, e0, ek, hl, q2⟩ := q2
  obtain ⟨kv, e1, l⟩ := rm2 a _ e0
  have kw : Kp H2 μ2 (upd H2 a (.dK (putK kv k v))) (put μ2 a (.dct (putD kvs k d))) := Kp.write e0
  have ey := key_rep ek r2
  refine ⟨a, _, rep_adr (r1.mono k2), by rw [ey]; exact DPut.k e1 (by rw [l.length]; exact hl), f _ _ _ _ (k1.trans (k2.trans kw)) ?_ (rs.mono (k1.trans (k2.trans kw))) q2⟩
  exact rm2.put (m := .dct (putD kvs k d)) kw (fun b o n _ => upd_ne n) ⟨_, upd_same, (l.put (r.mono (k1.trans k2))).mono kw _ _⟩
theorem pg_subDD (hu : X.A.units + 1 < cLine) (ho : DE X o go) (hi : DE X i gi)
    (ha : ∀ v, assign (.Subscript o i pos) X.env v = (do
      let ov ← holding [v] (eval o X.env)
      let iv ← holding [v, ov] (eval i X.env)
      standAt pos
      holding [v, ov, iv] (setItem ov iv v)
      release [v, ov, iv] []) := by intro _; rfl) : PG X (.Subscript o i pos) (gSub (tOf X.K go) (tOf X.K gi) rSetD) := pg_sub ho.pe hi.pe (set_dict hu) ha
end
end DL
set_option Elab.async false
set_option linter.all false
set_option maxRecDepth 100000
namespace DL
open PySem PySem.Spec PyProof.Rows L2
/-! ### set(list), of keys of any kind -/
end DL
set_option Elab.async false
set_option linter.all false
set_option maxRecDepth 100000
namespace DL
open PySem PySem.Spec PyProof.Rows L2
/-! ### len(set(list of texts)) -/
end DL
set_option Elab.async false
set_option linter.all false
set_option maxRecDepth 100000
namespace DL
open PySem PySem.Spec PyProof.Rows L2
/-! ### f(k = v, ..) -/
structure DK (X : Cx) (kws : List Keyword) (g : GA) : Prop where
  ex : ∃ t, PK X kws t ∧ SimA X.K t g
theorem dk_nil {X : Cx} : DK X [] (fun _ μ R => R [] μ) := ⟨_, pk_nil, fun σ H δ μ Q R rm rs q f => f [] [] H μ (Kp.refl _ _) rm RepL.nil q⟩
theorem dk_cons {X : Cx} {nm : Option Str} {e : Expr} {kpos : Pos} {kws : List Keyword} {ge : GE} {ga : GA} (he : DE X e ge) (hr : DK X kws ga) : DK X (⟨nm, e, kpos⟩ :: kws) (fun δ μ R => ge δ μ fun d μ1 => ga δ μ1 fun ds μ2 => R (d :: ds) μ2) := by
  obtain ⟨t, a1, a2⟩ := he.ex
  obtain ⟨u, b1, b2⟩ := hr.ex
  refine ⟨_, pk_cons a1 b1, fun σ H δ μ Q R rm rs q f => ?_⟩
  refine a2 σ H δ μ _ _ rm rs q fun v d H1 μ1 k1 rm1 r1 q1 => ?_
  exact b2 σ H1 δ μ1 _ _ rm1 (rs.mono k1) q1 fun vs ds H2 μ2 k2 rm2 r2 q2 => f (v :: vs) (d :: ds) H2 μ2 (k1.trans k2) rm2 (RepL.cons (r1.mono k2) r2) q2
/-- the parameters' order -/
def gCallK (g : GC) (gD : List D → List D) (n : Nat) (ga : GA) : GE := fun δ μ R => ga δ μ fun ds μ1 => ds.length = n ∧ g (gD ds) μ1 R
section
variable {X : Cx} {k : Nat} {f : Addr} {fd : FuncData} {ps ks : List Str} {g : GC} {x : Str} {p pos : Pos} {kws : List Keyword} {ga : GA} {gp : List Value → List Value → List Value} {gV : List V → List V → List V} {gD : List D → List D}
theorem de_callK0 (F : FnOk X.prog X.w X.K X.mg X.base CX0 k f fd ps (toSp X.K g)) (hr : Room k X.A) (hg : Gl X x) (hm : X.mg x = some (.ref f)) (hk : PySem.W.keepIn X.K (.ref f) = true) (hb : KBn X.K fd ps 0 ks gp gV)
    (hD : ∀ (H : Hp) (μ : Mu) (ds : List D) (vs : List V), RepL X.K H μ ds vs → ds.length = ks.length → RepL X.K H μ (gD ds) (gV [] vs))
    (hkw : DK X kws ga) (hall : (backToKw pos (keywordEach kws X.env)).all (·.1.isSome) = true := by rfl) (hks : (backToKw pos (keywordEach kws X.env)).filterMap (·.1) = ks := by rfl)
    (hdb : (x == ("__debug__" : Str)) = false := by decide)
    (hpl : ((backTo pos (starEach [] X.env)).any (·.1) || (backToKw pos (keywordEach kws X.env)).any (·.1.isNone)) = false := by rfl) :
    DE X (.Call (.Name x p) [] kws pos) (gCallK g gD ks.length ga) := by
  obtain ⟨t, a1, a2⟩ := hkw.ex
  refine ⟨fun σ H Q => t σ H fun vs H1 => vs.length = ks.length ∧ toSp X.K g (gV [] vs) H1 Q E0, ⟨fun pins s σ H Q I h => ?_⟩, fun σ H δ μ Q R rm rs q f => ?_⟩
  · refine wpAny_Call_Name_kw (ld_glob I hg hm ?_ hdb)
    refine PySem.W.callWith_KW0 (h₀ := X.base) I.ok.mod.kin hk hall (thn (a1.run pos pins s σ H _ I h) fun us s1 ⟨vs, H1, I1, r, l, q⟩ => ⟨I1.kIn, ?_⟩) hpl
    rw [hks]
    exact run_fnN F hr hb (pass0 (X := X)) I1 .nil r rfl l q
  · refine a2 σ H δ μ _ _ rm rs q fun vs ds H1 μ1 k1 rm1 r1 q1 => ⟨by rw [r1.length]; exact q1.1, gD ds, μ1, R, rm1, hD H1 μ1 ds vs r1 q1.1, q1.2, f.re k1⟩
end
/-! ### tuple(range(n)), list(range(n)) -/
end DL
set_option Elab.async false
set_option linter.all false
set_option maxRecDepth 100000
namespace DL
open PySem PySem.Spec PyProof.Rows L2
/-! ### defs that are called where nothing is under way of repr: what they promise there -/
structure FnG (P : Program) (w : World) (K : PySem.W.Frag) (mg : Str → Option Value) (base : Heap) (k : Nat) (f : Addr) (fd : FuncData) (ps : List Str) (sp : Sp) : Prop where
  len : ∀ vs H Q E, sp vs H Q E → vs.length = ps.length
  run : ∀ (A : Around) (outer : List Env) (s : Shared) (H : Hp) (args : Args) (us : List Value) (vs : List V) (Q : VK), A.guards = some [] → Room k A → Env0 P w K mg base A outer s H → BindsTo s fd args (ps.zip us) → Vals vs us → sp vs H Q E0 →
    codeAny (model P w) A (.call (.ref f) args) (CR CX0 outer P w H s Q E0) s
section
variable {P : Program} {w : World} {K : PySem.W.Frag} {mg : Str → Option Value} {base : Heap}
theorem Fun.okG {x qual : Str} {st : Stmt} {f : Addr} {fd : FuncData} {N ps : List Str} {k : Nat} {sp : Sp} (F : Fun K x qual st f fd) (S : FnScope N ps (defScope st)) (len : ∀ vs H Q E, sp vs H Q E → vs.length = ps.length)
    (hbody : ∀ (cdv : Value) (A : Around) (outer : List Env) (s : Shared) (H : Hp) (vs : List V) (Q : VK), Room k (A.deeper (envOfC qual (defScope st) s.heap.objs.size f cdv)) → A.guards = some [] → sp vs H Q E0 →
      ∃ t, PSs (cxOf CX0 P w K mg base N qual (defScope st) f cdv A outer s H E0).nox (defBody st) t ∧ t { nx := fun _ H' => Q .non H', rt := Q } (start N vs) H) : FnG P w K mg base (k + 1) f fd ps sp := by
  obtain ⟨oc, od, kV, doc, pm, an, cdv, ct, osl, rfl, lk, hcd⟩ := F.ex
  refine ⟨len, fun A outer s H args us vs Q hG hr e0 hb r hsp => ?_⟩
  have hl := len _ _ _ _ hsp
  have stays : ∀ b o, base.get? b = some o → s.heap.get? b = some o := fun b o e => (e0.bs b o e).1
  have KX : K.In s.heap := e0.mod.kin.keeps stays
  have lim : s.heap.NoLimit := e0.mod.nolimit.keeps stays
  have hkind : ∀ y ∈ ps.zip us, (defScope st).names.lookup y.1 = some .local ∨ ((defScope st).names.lookup y.1 = some .cell ∧ ((cellsFrom (s.heap.objs.size + 1) (defScope st).names []).lookup y.1).isSome = true) := fun ⟨n, v⟩ hy =>
    (S.par n (List.of_mem_zip hy).1).imp id fun q => ⟨q, PySem.W.cellsFrom_some _ _ _ (.inl q)⟩
  refine codeAny_call_function hr.depth (KX _ _ lk) rfl S.co S.gen rfl (PySem.W.codeRec_of KX hcd) (hb _ _ _ _ ?_)
  refine wpAny_newFunctionEnv_cells S.kind hkind fun env he s1 x => ?_
  subst he
  refine ⟨lim.keeps x.toInCall.keep, codeAny_func ?_⟩
  obtain ⟨t, ht, hq⟩ := hbody cdv A outer s H vs Q (hr.deeper _) hG hsp
  have I : Inv (cxOf CX0 P w K mg base N qual (defScope st) f cdv A outer s H E0) [] (start N vs) H s1 := inv_start S hr.hd e0 hl r x
  refine wpAny_mono (ht.nox.run [] s1 (start N vs) H _ I hq) (fun fl s' hs => ?_) fun e s' hs => hs
  cases fl with
  | ret u =>
    obtain ⟨v, σ', H', J, rv, q⟩ := hs
    exact ⟨v, H', J.os, J.bare, J.base, J.hok, rv, q⟩
  | next =>
    obtain ⟨σ', H', J, q⟩ := hs
    exact ⟨V.non, H', J.os, J.bare, J.base, J.hok, rfl, q⟩
  | brk =>
    obtain ⟨_, _, _, q⟩ := hs
    exact False.elim q
  | cont =>
    obtain ⟨_, _, _, q⟩ := hs
    exact False.elim q
theorem okDG {x qual : Str} {st : Stmt} {f : Addr} {fd : FuncData} {N ps : List Str} {k : Nat} {g : GC} (F : Fun K x qual st f fd) (S : FnScope N ps (defScope st)) (len : ∀ ds μ R, g ds μ R → ds.length = ps.length)
    (h : ∃ gb : GS, (∀ (cdv : Value) (A : Around) (outer : List Env) (s : Shared) (H : Hp), Room k (A.deeper (envOfC qual (defScope st) s.heap.objs.size f cdv)) → A.guards = some [] →
        DSs (cxOf CX0 P w K mg base N qual (defScope st) f cdv A outer s H E0).nox (defBody st) gb) ∧
      ∀ ds μ R, g ds μ R → gb { nx := fun _ μ' => R .non μ', rt := R } (begin_ N ds) μ) : FnG P w K mg base (k + 1) f fd ps (toSp K g) := by
  obtain ⟨gb, hb, hg⟩ := h
  refine Fun.okG F S (fun vs H Q E ⟨ds, μ, R, rm, rl, q, fw⟩ => by rw [rl.length]; exact len ds μ R q) fun cdv A outer s H vs Q hr hG ⟨ds, μ, R, rm, rl, q, fw⟩ => ?_
  obtain ⟨t, a, b⟩ := (hb cdv A outer s H hr hG).ex
  refine ⟨t, a, b _ H (begin_ N ds) μ _ { nx := fun _ μ' => R .non μ', rt := R } rm ?_ ⟨fun σ H' δ μ' k rm' _ q' => fw .non .non H' μ' k rm' (by unfold Rep; rfl) q', fw, fun _ _ _ _ _ _ _ z => z, fun _ _ _ _ _ _ _ z => z⟩ (hg ds μ R q)⟩
  show RepS K H μ (ds.map some ++ List.replicate (N.length - ds.length) none) (vs.map some ++ List.replicate (N.length - vs.length) none)
  rw [rl.length]
  exact repS_some _ rl
end
/-! ### calls of them -/
section
variable {X : Cx} {k : Nat} {f : Addr} {fd : FuncData} {ps : List Str} {sp : Sp} {x : Str} {p pos : Pos} {e : Expr} {es : List Expr} {t : TA}
theorem run_fnG {pins : List (Addr × Obj)} {σ : L2.St} {H : Hp} {s : Shared} {Q : VK} {us : List Value} {vs : List V} (F : FnG X.prog X.w X.K X.mg X.base k f fd ps sp) (hG : X.A.guards = some []) (hr : Room k X.A) (hb : Binds X.K fd ps [])
    (I : Inv X pins σ H s) (r : Vals vs us) (h : sp vs H Q E0) : wpAny (model X.prog X.w) X.A (call (.ref f) us) (EP X pins σ Q) X.xe s := by
  have hl : us.length = ps.length := by rw [← r.length]; exact F.len _ _ _ _ h
  have hb' := hb s us I.kIn (by rw [List.append_nil]; exact hl)
  rw [List.append_nil] at hb'
  refine wpAny_call (codeAny_mono (F.run X.A X.stack s H ⟨us, []⟩ us vs Q hG hr I.env0 hb' r h) fun r s' hq => ?_)
  cases r with
  | error e => exact hq.elim
  | ok fl =>
    cases fl with
    | ret u => exact I.after hq
    | next => exact False.elim hq
    | brk => exact False.elim hq
    | cont => exact False.elim hq
variable {g : GC} {ga : GA}
theorem de_callG (F : FnG X.prog X.w X.K X.mg X.base k f fd ps (toSp X.K g)) (hG : X.A.guards = some []) (hr : Room k X.A) (hg : Gl X x) (hm : X.mg x = some (.ref f)) (hk : PySem.W.keepIn X.K (.ref f) = true) (hb : Binds X.K fd ps [])
    (ha : DA X (e :: es) ga) (hdb : (x == ("__debug__" : Str)) = false := by decide) (he : starEach (e :: es) X.env = (false, eval e X.env) :: starEach es X.env := by rfl) (hpl : (backTo pos (starEach es X.env)).any (·.1) = false := by rfl) :
    DE X (.Call (.Name x p) (e :: es) [] pos) (gCall g ga) := by
  obtain ⟨t, a1, a2⟩ := ha.ex
  refine ⟨fun σ H Q => t σ H fun vs H1 => toSp X.K g vs H1 Q E0, ⟨fun pins s σ H Q I h => ?_⟩, fun σ H δ μ Q R rm rs q f => ?_⟩
  · refine wpAny_Call_Name_kw (ld_glob I hg hm ?_ hdb)
    refine PySem.W.callWith_K (h₀ := X.base) I.ok.mod.kin hk (thn (a1.run pos pins s σ H _ I h) fun us s1 ⟨vs, H1, I1, r, q⟩ => ⟨I1.kIn, ?_⟩) he hpl
    exact run_fnG F hG hr hb I1 r q
  · exact a2 σ H δ μ _ _ rm rs q fun vs ds H1 μ1 k1 rm1 r1 q1 => ⟨ds, μ1, R, rm1, r1, q1, f.re k1⟩
end
/-! ### the law's call -/
theorem caller_guards : callerA.guards = some [] := rfl
section
variable {P : Program} {w : World} {K : PySem.W.Frag} {mg mb : Str → Option Value} {k : Nat} {fa a : Addr} {fd : FuncData} {x : Str} {g : GC} {s₁ : Shared} {vs : List Value} {ns : List Int}
theorem law_callD (KX : K.In s₁.heap) (hns : s₁.heap.Ns mainGlobals mg) (hb : s₁.heap.Ns builtinsNs mb) (hbb : ∀ x : Str, x ≠ "__name__" → mb x = bootBuiltins x) (hlim : s₁.heap.NoLimit) (hg : s₁.gens = #[])
    (ha : s₁.heap.get? a = some { cls := .type "list", data := .seq vs.toArray }) (hi : IntsAre vs ns) (hl : ns.length ≤ sizeLine) (hr : Room k callerA)
    (F : ∀ base : Heap, K.In base → base.Ns mainGlobals mg → FnG P w K mg base k fa fd [x] (toSp K g)) (hbind : ∀ (s : Shared) (u : Value), BindsTo s fd ⟨[u], []⟩ [(x, u)])
    (hsp : g [.seq (ns.map D.int)] (fun _ => none) fun d _ => d = .bl true) :
    codeAny (model P w) callerA (.call (.ref fa) ⟨[.ref a], []⟩) (fun r s' => r = .ok (.ret (.bool true)) ∧ OldK s₁.heap s'.heap ∧ s'.os = s₁.os ∧ AllBare s'.gens) s₁ := by
  have key : ∀ H : Hp, Only H → SqL K H a (ns.map V.int) → toSp K g [.ref a] H (fun v _ => v = .bl true) fun _ _ _ => False := fun H hO hS => by
    have rm : RM K H (fun _ => none) := fun b o e => nomatch e
    refine ⟨[.seq (ns.map D.int)], fun _ => none, fun d _ => d = .bl true, rm, ?_, hsp, fun v d H' μ' _ _ r e => ?_⟩
    · refine RepL.cons ?_ RepL.nil
      unfold Rep
      refine ⟨a, ns.map V.int, rfl, ?_, RepL.of_ints ns⟩
      rcases hS with h | h
      · exact .inl ⟨h, rfl⟩
      · exact .inr fun H' => .inr h
    · subst e
      exact rep_bl r
  have rv := vals_ints hi
  have lenV := hi.length
  have core : ∀ H : Hp, Only H → SqL K H a (ns.map V.int) → HOk P w H s₁.heap → (∀ b, H b ≠ none → b = a) → (H a ≠ none → K.lookup a = none) →
      codeAny (model P w) callerA (.call (.ref fa) ⟨[.ref a], []⟩) (fun r s' => r = .ok (.ret (.bool true)) ∧ OldK s₁.heap s'.heap ∧ s'.os = s₁.os ∧ AllBare s'.gens) s₁ := by
    intro H hO hS hok hA hK
    have free : ∀ {b : Addr}, b ≠ a → H b = none := fun {b} n => Classical.byContradiction fun q => n (hA b q)
    have nsK : ∀ {b : Addr} {m : Str → Option Value}, s₁.heap.Ns b m → (hidT s₁.heap H).Ns b m := fun {b m} ⟨o, es, ep, e, d, r⟩ =>
      ⟨o, es, ep, hidT_get e (free fun z => by
        subst z
        rw [ha] at e
        cases e
        cases d), d, r⟩
    have hKb : K.In (hidT s₁.heap H) := fun b o e => hidT_get (KX b o e) (Classical.byContradiction fun q => by
      have z := hA b q
      subst z
      rw [hK q] at e
      cases e)
    obtain ⟨mc, l1, l2⟩ := hlim
    have hM : Mod K mg (hidT s₁.heap H) := ⟨hKb, nsK hns, ⟨mb, nsK hb, hbb⟩, ⟨mc, nsK l1, l2⟩⟩
    have e0 : Env0 P w K mg (hidT s₁.heap H) callerA [] s₁ H := ⟨rfl, hM, fun b o e => of_hidT e, Nat.le_of_eq (hidT_size _ _), trivial, fun b hb => absurd (show b ∈ ([] : List Addr) from hb) (by simp), hok, .of_eq hg⟩
    refine codeAny_mono ((F _ hKb (nsK hns)).run callerA [] s₁ H ⟨[.ref a], []⟩ [.ref a] [.ref a] _ caller_guards hr e0 (hbind s₁ (.ref a)) (.cons rfl .nil) (key H hO hS)) fun r s' h => ?_
    cases r with
    | error e => exact h.elim
    | ok fl =>
      cases fl with
      | next => exact False.elim h
      | brk => exact False.elim h
      | cont => exact False.elim h
      | ret u =>
        obtain ⟨v, H', os, bare, un, hok', r', q⟩ := h
        have q' : v = .bl true := q
        subst q'
        obtain rfl : u = Value.bool true := r'
        refine ⟨rfl, OldK.of_keep fun b o e => ?_, os, bare⟩
        rcases hO b with z | ⟨ob, xs, z⟩
        · exact un.keep b o e z (fun z => absurd (show b ∈ ([] : List Addr) from z) (by simp)) (by simp)
        · obtain ⟨e1, _⟩ := hok b _ z
          obtain ⟨e2, _⟩ := hok' b _ (un.frzs b ob _ z)
          rw [e] at e1
          cases e1
          exact e2
  cases hk : K.lookup a with
  | some o =>
    have e := KX a o hk
    rw [ha] at e
    cases e
    exact core (fun _ => none) (fun _ => .inl rfl) (.inr ⟨_, vs.toArray, _, hk, rfl, rfl, rfl, by rw [List.size_toArray, lenV]; exact hl, by simpa using rv⟩) (fun b u z => nomatch z) (fun b z => absurd rfl z) fun z => absurd rfl z
  | none =>
    have at_ : ∀ b, (if b = a then some (HO.frz { cls := .type "list", data := .seq vs.toArray } (.lst (ns.map V.int))) else none) ≠ none → b = a := fun b z => Classical.byContradiction fun n => z (if_neg n)
    refine core (fun b => if b = a then some (.frz { cls := .type "list", data := .seq vs.toArray } (.lst (ns.map V.int))) else none) (fun b => ?_) (.inl (.inr ⟨{ cls := .type "list", data := .seq vs.toArray }, if_pos rfl⟩)) (fun b u z => ?_) at_ fun _ => hk
    · by_cases hb : b = a
      · exact .inr ⟨_, _, if_pos hb⟩
      · exact .inl (if_neg hb)
    · have hb : b = a := at_ b (fun q => by
        have z' := q.symm.trans z
        cases z')
      subst hb
      have z' := (if_pos rfl).symm.trans z
      cases z'
      exact ⟨ha, by rw [List.length_map]; exact hl, vs, _, rv, ha⟩
end
/-- the goal that the head leaves, from the law's reading -/
theorem walk_ofD {l : PySem.W.OpenLaw} {n k : Nat} {q : Program} {loose : List Str} {XP : (Str → Option Value) → Heap → Prop} {YP : World → Heap → Prop} {d : DefRec} {K : Params → PySem.W.Frag} {g : GC} {x : Str}
    (hn : l.most = some n) (hn2 : n ≤ sizeLine) (hdf : d.params.defaults = []) (hr : Room k callerA)
    (hY : ∀ (w : World) (h : Heap), YP w h → (K w.params).In h)
    (F : ∀ (w : World) (mg : Str → Option Value) (fa : Addr) (h : Heap), (K w.params).In h → h.Ns mainGlobals mg → mg d.name = some (.ref fa) →
      ∃ fd : FuncData, (∀ (s : Shared) (u : Value), BindsTo s fd ⟨[u], []⟩ [(x, u)]) ∧
        ∀ base : Heap, (K w.params).In base → base.Ns mainGlobals mg → FnG l.prog w (K w.params) mg base k fa fd [x] (toSp (K w.params) g))
    (hsp : ∀ (ns : List Int), ns.length ≤ n → (∀ z ∈ ns, Builtin.Int.intBits z ≤ 1048576) → g [.seq (ns.map D.int)] (fun _ => none) fun d _ => d = .bl true) :
    PySem.W.WalkO q loose XP YP l.row.toRowW d [] (fun f vs => PySem.call f vs) := by
  refine Att.attach_callB hn hdf fun w s₀ s₁ mg mb fa o pm cd doc a vs ns G Y ho hd hcd hmg hobj hints hlen hbits hg => ?_
  have KX := hY w _ Y
  obtain ⟨fd, hb, hF⟩ := F w mg fa _ KX G.T.g hmg
  exact law_callD KX G.T.g G.T.b G.T.builtins G.T.nolimit hg hobj hints (Nat.le_trans hlen hn2) hr hF hb (hsp ns hlen hbits)
end DL
set_option Elab.async false
set_option linter.all false
set_option maxRecDepth 100000
namespace DL
open PySem PySem.Spec PyProof.Rows L2
/-! ### repr of nested tuples and lists -/
def isBox : D → Bool
  | .tup _ => true
  | .lst _ => true
  | .seq _ => true
  | _ => false
structure ShowOk (p : PyData) : Prop where
  lay : p.layable0 = true
  shrt : p.intsShort 13 = true
  show_ : p.showable = true
  nod : p.hasDict = false
  dp : p.depth ≤ 20
def gRepr1 : G1 := fun x μ R => (∃ i : Int, x = .int i ∧ i.natAbs.log2 < 1920 ∧ R (.str (toString i)) μ) ∨ ∃ p, isBox x = true ∧ py x = some p ∧ ShowOk p ∧ R (.str p.shown) μ
def rRepr (K : PySem.W.Frag) : List V → Hp → VK → Prop := fun xs H Q => (∃ i : Int, xs = [.int i] ∧ i.natAbs.log2 < 1920 ∧ Q (.str (toString i)) H) ∨ ∃ a p, xs = [.ref a] ∧ Dp K H (.ref a) p ∧ ShowOk p ∧ Q (.str p.shown) H
theorem cr_repr {X : Cx} (hG : X.A.guards = some []) (hu : X.A.units + 64 < cLine) : CallR X (.builtin "repr") (rRepr X.K) := by
  intro pins s σ H vs us Q I r h
  rcases h with h | ⟨a, p, rfl, hd, hs, q⟩
  · exact SkE.call_repr_int pins s σ H vs us Q I r h
  · obtain ⟨u, rfl, ru⟩ := vals1 r
    obtain ⟨as, rd⟩ := hd.reads I p _ _ ru
    cases ru
    refine repr_of_reads' (h₀ := s.heap) rd hs.show_ (PyData.noDict_hsm hs.nod) hG (by have := hs.dp; omega) (fun _ _ e => e) (fun h' t tk hk => ?_) ?_
    · exact ⟨.str p.shown, H, I.kept (t' := tk) hk, ⟨t, rfl⟩, q⟩
    · have := shown_le13 hs.lay hs.shrt
      rw [sizeLine_eq]
      omega
theorem sim_repr {K : PySem.W.Frag} : SimC K (rRepr K) (g1 gRepr1) := sim_g1 fun v d H μ Q R rm rv q f => by
  rcases q with ⟨i, rfl, hl, q⟩ | ⟨p, hb, hp, hs, q⟩
  · exact .inl ⟨i, by rw [rep_int rv], hl, fw_now rm to_str q f⟩
  · have hd := rv.dp _ _ _ hp
    have : ∃ a, v = .ref a := by
      cases d <;> try cases hb
      · obtain ⟨a, vs, rfl, _⟩ := rep_tup rv
        exact ⟨a, rfl⟩
      · obtain ⟨a, vs, rfl, _⟩ := rep_lst rv
        exact ⟨a, rfl⟩
      · obtain ⟨a, vs, rfl, _⟩ := rep_seq rv
        exact ⟨a, rfl⟩
    obtain ⟨a, rfl⟩ := this
    exact .inr ⟨a, p, rfl, hd, hs, fw_now rm to_str q f⟩
end DL
set_option Elab.async false
set_option linter.all false
set_option maxRecDepth 100000
namespace DL
open PySem PySem.Spec PyProof.Rows L2
/-! ### max, min of two texts -/
def rMaxS : List V → Hp → VK → Prop := fun xs H Q => ∃ x y : Str, xs = [.str x, .str y] ∧ Q (.str (if x.cps.toList < y.cps.toList then y else x)) H
def rMinS : List V → Hp → VK → Prop := fun xs H Q => ∃ x y : Str, xs = [.str x, .str y] ∧ Q (.str (if y.cps.toList < x.cps.toList then y else x)) H
theorem vals2 {x y : V} {us : List Value} (r : Vals [x, y] us) : ∃ u v, us = [u, v] ∧ RelV x u ∧ RelV y v := by
  cases r with
  | cons r rr =>
    cases rr with
    | cons r' rr =>
      cases rr
      exact ⟨_, _, rfl, r, r'⟩
theorem cr_maxS {X : Cx} (hc : X.calm = true) : CallR X (.builtin "max") rMaxS := by
  intro pins s σ H vs us Q I r h
  obtain ⟨x, y, rfl, q⟩ := h
  obtain ⟨u, v, rfl, ⟨t, rfl⟩, ⟨t', rfl⟩⟩ := vals2 r
  refine max_strs (I.ok.hd hc) fun h' tk hk => ⟨.str (if x.cps.toList < y.cps.toList then y else x), H, I.kept (t' := tk) hk, ?_, q⟩
  split
  · exact ⟨t', rfl⟩
  · exact ⟨t, rfl⟩
theorem cr_minS {X : Cx} (hc : X.calm = true) : CallR X (.builtin "min") rMinS := by
  intro pins s σ H vs us Q I r h
  obtain ⟨x, y, rfl, q⟩ := h
  obtain ⟨u, v, rfl, ⟨t, rfl⟩, ⟨t', rfl⟩⟩ := vals2 r
  refine min_strs (I.ok.hd hc) fun h' tk hk => ⟨.str (if y.cps.toList < x.cps.toList then y else x), H, I.kept (t' := tk) hk, ?_, q⟩
  split
  · exact ⟨t', rfl⟩
  · exact ⟨t, rfl⟩
def gMaxS2 : G2 := fun x y μ R => match x, y with
  | .str x, .str y => R (.str (if x.cps.toList < y.cps.toList then y else x)) μ
  | _, _ => False
def gMinS2 : G2 := fun x y μ R => match x, y with
  | .str x, .str y => R (.str (if y.cps.toList < x.cps.toList then y else x)) μ
  | _, _ => False
theorem sim_maxS {K : PySem.W.Frag} : SimC K rMaxS (g2 gMaxS2) := sim_g2 fun v w d e H μ Q R rm rv rw q f => by
  cases d <;> cases e <;> try exact False.elim q
  exact ⟨_, _, by rw [rep_str rv, rep_str rw], fw_now rm to_str q f⟩
theorem sim_minS {K : PySem.W.Frag} : SimC K rMinS (g2 gMinS2) := sim_g2 fun v w d e H μ Q R rm rv rw q f => by
  cases d <;> cases e <;> try exact False.elim q
  exact ⟨_, _, by rw [rep_str rv, rep_str rw], fw_now rm to_str q f⟩
/-! ### a walk over a list or a tuple -/
def iBoth (K : PySem.W.Frag) (tl : TE) : TI := fun σ H R => tl σ H fun x H1 => ∃ a, x = .ref a ∧ (((∃ xs, SqL K H1 a xs) ∧ R (Itl K a) H1) ∨ ((∃ xs, SqT K H1 a xs) ∧ R (Itt K a) H1))
theorem pi_both {X : Cx} {tg l : Expr} {tl : TE} (hl : PE X l tl) : PI X tg l (iBoth X.K tl) := by
  refine ⟨fun pins s σ H R I h => ?_⟩
  refine thn (hl.run pins s σ H _ I h) fun v s1 ⟨x, H1, I1, r1, a, e, q1⟩ => ?_
  subst e
  cases r1
  have fp : ∀ b, b ∈ [s1.heap.objs.size] → FpOk X pins H1 b := fun b hb => by
    have e : b = s1.heap.objs.size := by simpa using hb
    subst e
    exact I1.fpOk (Nat.le_refl _) (I1.hok.fresh (Nat.le_refl _))
  rcases q1 with ⟨⟨xs, hq⟩, q⟩ | ⟨⟨xs, hq⟩, q⟩
  · obtain ⟨its, rv, p, hz⟩ := I1.list hq
    exact wpAny_pyIter_list p.isList ⟨s1.heap.objs.size, [s1.heap.objs.size], _, _, H1, rfl, I1.kept (t' := s1.toks) fun b o e => Heap.get?_push_of_some _ e, turn_list a _, ⟨_, Heap.get?_push_size _ rfl, rfl, rfl⟩, fp, q⟩
  · obtain ⟨its, rv, p, hz⟩ := I1.tuple hq
    exact wpAny_pyIter_tuple (show s1.heap.IsTuple a its.toArray from p) ⟨s1.heap.objs.size, [s1.heap.objs.size], _, _, H1, rfl, I1.kept (t' := s1.toks) fun b o e => Heap.get?_push_of_some _ e, turn_tuple a _, ⟨_, Heap.get?_push_size _ rfl, rfl, rfl⟩, fp, q⟩
def gItemsB (g : GE) : GI := fun δ μ R => g δ μ fun d μ1 => match d with
  | .lst ds => R ds μ1
  | .seq ds => R ds μ1
  | .tup ds => R ds μ1
  | _ => False
theorem walk_tupD {K : PySem.W.Frag} {a : Addr} {vs : List V} {ds : List D} {H : Hp} {μ : Mu} (im : ImT K H μ a vs) (rl : RepL K H μ ds vs) : WalkD K (Itt K a) ds H μ := by
  have e := rl.length
  rw [WalkD, ← e]
  refine (walk_tup (K := K) (a := a) (xs := vs)).mono (fun H' ⟨μ', k, _⟩ => (im.mono k).sq) fun i H' x H2 hi _ ⟨e1, e2⟩ μ' k rm => ?_
  subst e1
  obtain ⟨d, e3, r1⟩ := (rl.mono k).atV e2
  exact ⟨d, e3, r1, Kp.refl _ _, rm⟩
theorem di_both {X : Cx} {tg e : Expr} {g : GE} (h : DE X e g) : DI X tg e (gItemsB g) := by
  obtain ⟨t, a1, a2⟩ := h.ex
  refine ⟨_, pi_both a1, fun σ H δ μ Q R rm rs q f => ?_⟩
  refine a2 σ H δ μ _ _ rm rs q fun v d H1 μ1 k1 rm1 r1 q1 => ?_
  cases d <;> try exact False.elim q1
  · obtain ⟨a, vs, rfl, im, rl⟩ := rep_tup r1
    exact ⟨a, rfl, .inr ⟨⟨vs, im.sq⟩, f _ _ H1 μ1 k1 rm1 (walk_tupD im rl) q1⟩⟩
  · obtain ⟨a, vs, rfl, e1, e2, rl⟩ := rep_lst r1
    exact ⟨a, rfl, .inl ⟨⟨vs, SqL.of e1⟩, f _ _ H1 μ1 k1 rm1 (walk_seq (fun H' μ' k => SqL.of (k.k1 _ _ e1 e2)) rl) q1⟩⟩
  · obtain ⟨a, vs, rfl, im, rl⟩ := rep_seq r1
    exact ⟨a, rfl, .inl ⟨⟨vs, im.sq⟩, f _ _ H1 μ1 k1 rm1 (walk_seq (fun H' μ' k => (im.mono k).sq) rl) q1⟩⟩
end DL
set_option Elab.async false
set_option linter.all false
set_option maxRecDepth 100000
namespace DL
open PySem PySem.Spec PyProof.Rows L2
/-! ### comprehensions -/
theorem take_succ_get {α : Type} {l : List α} {i : Nat} {x : α} (h : l[i]? = some x) : l.take (i + 1) = l.take i ++ [x] := by
  rw [List.take_add_one, h]
  rfl
section
variable {gt : GG} {gc : GT} {ge : GE} {own : List Nat} {δ : DS} {μ1 : Mu} {R : KD} {items : List D}
/-- nothing changes but the new list -/
theorem lcb_pure (p : D → Bool) (f : D → D) (hl : items.length < sizeLine)
    (hx : ∀ x ∈ items, ∀ (μ' : Mu) (N : Mu → Prop) (Y : KD), (∀ b o, μ1 b = some o → μ' b = some o) → (p x = false → N μ') → (p x = true → Y (f x) μ') →
      gt x (wiped δ own) fun δ2 => gc δ2 μ' fun b μ2 => if b = true then ge δ2 μ2 Y else N μ2) (hr : R (.lst ((items.filter p).map f)) μ1) : LcB gt gc ge own δ R items μ1 := by
  refine ⟨fun a na => ?_⟩
  refine ⟨fun i μ' => μ' = put μ1 a (.lst (((items.take i).filter p).map f)), rfl, fun i x μ' hi e => ?_, fun μ' e => ?_⟩
  · subst e
    have ht := take_succ_get hi
    have hm : x ∈ items := List.mem_of_getElem? hi
    refine hx x hm _ _ _ (fun b o e => ?_) (fun hp => ?_) fun hp => ?_
    · rw [put_ne (fun z => by rw [z, na] at e; cases e)]
      exact e
    · show put μ1 a _ = put μ1 a _
      rw [ht, List.filter_append, List.filter_cons_of_neg (by rw [hp]; simp), List.filter_nil, List.append_nil]
    · refine ⟨_, put_same, ?_, ?_⟩
      · have : (((items.take i).filter p).map f).length ≤ items.length := by
          rw [List.length_map]
          exact Nat.le_trans (List.length_filter_le _ _) (by rw [List.length_take]; omega)
        omega
      · show put (put μ1 a _) a _ = put μ1 a _
        rw [put_put, ht, List.filter_append, List.filter_cons_of_pos hp, List.filter_nil, List.map_append]
        rfl
  · subst e
    refine ⟨_, put_same, ?_⟩
    rw [del_put na, List.take_length]
    exact hr
/-- no condition -/
theorem lcb_map (f : D → D) (hl : items.length < sizeLine)
    (hx : ∀ x ∈ items, ∀ (μ' : Mu) (Y : KD), (∀ b o, μ1 b = some o → μ' b = some o) → Y (f x) μ' → gt x (wiped δ own) fun δ2 => ge δ2 μ' Y) (hr : R (.lst (items.map f)) μ1) : LcB gt gYes ge own δ R items μ1 := by
  refine lcb_pure (fun _ => true) f hl (fun x hm μ' N Y k _ hy => hx x hm μ' Y k (hy rfl)) ?_
  rw [show items.filter (fun _ => true) = items from List.filter_eq_self.mpr fun _ _ => rfl]
  exact hr
/-- the other cells change with the turns: J i ys ν, ys the list so far, ν the store without it -/
theorem lcb_eff (J : Nat → List D → Mu → Prop) (hl : items.length < sizeLine) (h0 : J 0 [] μ1) (hlen : ∀ i ys ν, J i ys ν → ys.length ≤ i)
    (hx : ∀ i x, items[i]? = some x → ∀ (a : Addr) (ys : List D) (ν : Mu) (N : Mu → Prop) (Y : KD), ν a = none → J i ys ν → (∀ ν', ν' a = none → J (i + 1) ys ν' → N (put ν' a (.lst ys))) →
      (∀ y ν', ν' a = none → J (i + 1) (ys ++ [y]) ν' → Y y (put ν' a (.lst ys))) →
      gt x (wiped δ own) fun δ2 => gc δ2 (put ν a (.lst ys)) fun b μ2 => if b = true then ge δ2 μ2 Y else N μ2)
    (hr : ∀ ys ν, J items.length ys ν → R (.lst ys) ν) : LcB gt gc ge own δ R items μ1 := by
  refine ⟨fun a na => ?_⟩
  refine ⟨fun i μ' => ∃ ys ν, ν a = none ∧ J i ys ν ∧ μ' = put ν a (.lst ys), ⟨[], μ1, na, h0, rfl⟩, ?_, ?_⟩
  · rintro i x μ' hi ⟨ys, ν, nν, hj, rfl⟩
    have hi' : i < items.length := (List.getElem?_eq_some_iff.mp hi).1
    refine hx i x hi a ys ν _ _ nν hj (fun ν' n j => ⟨ys, ν', n, j, rfl⟩) fun y ν' n j => ⟨ys, put_same, ?_, ys ++ [y], ν', n, j, put_put⟩
    have := hlen i ys ν hj
    omega
  · rintro μ' ⟨ys, ν, nν, hj, rfl⟩
    refine ⟨ys, put_same, ?_⟩
    rw [del_put nν]
    exact hr ys ν hj
end
theorem sim_chain {K : PySem.W.Frag} {r r' : R2} {ta tb tc : TE} {g g' : G2} {ga gb gc : GE} (h : SimO K r g) (h' : SimO K r' g') (a2 : SimE K ta ga) (b2 : SimE K tb gb) (c2 : SimE K tc gc) : SimE K (tChain r r' ta tb tc) (gChain g g' ga gb gc) := by
  intro σ H δ μ Q R rm rs q f
  refine a2 σ H δ μ _ _ rm rs q fun v d H1 μ1 k1 rm1 r1 q1 => ?_
  refine b2 σ H1 δ μ1 _ _ rm1 (rs.mono k1) q1 fun v2 d2 H2 μ2 k2 rm2 r2 q2 => ?_
  refine h v v2 d d2 H2 μ2 _ _ rm2 (r1.mono k2) r2 q2 fun v3 d3 H3 μ3 k3 rm3 r3 q3 => ?_
  cases d3 <;> try exact False.elim q3
  rename_i k
  unfold Rep at r3
  refine ⟨k, r3, ?_⟩
  cases k with
  | false => exact f (.bl false) (.bl false) H3 μ3 (k1.trans (k2.trans k3)) rm3 (by unfold Rep; rfl) q3
  | true => exact c2 σ H3 δ μ3 _ _ rm3 (rs.mono (k1.trans (k2.trans k3))) q3 fun v4 d4 H4 μ4 k4 rm4 r4 q4 => h' v2 v4 d2 d4 H4 μ4 Q R rm4 (r2.mono (k3.trans k4)) r4 q4 (f.re (k1.trans (k2.trans (k3.trans k4))))
theorem dt_chain {X : Cx} {a b c : Expr} {ga gb gc : GE} {pos : Pos} {op op' : CmpOp} {r r' : R2} {g g' : G2} (ho : OpR X (compareOp op) r) (h : SimO X.K r g) (ho' : OpR X (compareOp op') r') (h' : SimO X.K r' g') (ha : DE X a ga) (hb : DE X b gb) (hc : DE X c gc)
    (hm : lastMarks [op, op'] [b, c] = false := by with_unfolding_all rfl) : DT X (.Compare a [op, op'] [b, c] pos) (gB (gChain g g' ga gb gc)) := by
  obtain ⟨t, a1, a2⟩ := ha.ex
  obtain ⟨u, b1, b2⟩ := hb.ex
  obtain ⟨w, c1, c2⟩ := hc.ex
  exact ⟨_, pt_chain ho ho' a1 b1 c1 hm, sim_b (sim_chain h h' a2 b2 c2)⟩
end DL
set_option Elab.async false
set_option linter.all false
set_option maxRecDepth 100000
namespace DL
open PySem PySem.Spec PyProof.Rows L2
/-! ### a comprehension whose list goes on as a cell -/
end DL
set_option Elab.async false
set_option linter.all false
set_option maxRecDepth 100000
namespace K10
open PySem PySem.Spec PyProof.Rows L2 DL
open Builtin.Str (occurrences subAt)
/-! ### where a sign stands first -/
/-! ### marks -/
/-- one tie's step over the row of marks -/
def stepM (p r : List Nat) (y : Nat × Nat) : List Nat :=
  let a := r.getD (p.idxOf y.1) 0
  let b := r.getD (p.idxOf y.2) 0
  r.map fun x => if x = max a b then min a b else x
def marksL (p : List Nat) (ys : List (Nat × Nat)) : List Nat := ys.foldl (stepM p) p
theorem stepM_len (p r : List Nat) (y : Nat × Nat) : (stepM p r y).length = r.length := by
  unfold stepM
  rw [List.length_map]
theorem foldl_len (p : List Nat) : ∀ (ys : List (Nat × Nat)) (r : List Nat), (ys.foldl (stepM p) r).length = r.length
  | [], r => rfl
  | y :: ys, r => by
    rw [List.foldl_cons, foldl_len p ys, stepM_len]
/-- a text of two signs as the pair of both -/
def ends (y : Str) : Nat × Nat := (y.cps.toList.getD 0 0, y.cps.toList.getD 1 0)
def toS (l : List Nat) : Str := ⟨l.toArray⟩
theorem toS_list (l : List Nat) : (toS l).cps.toList = l := by simp [toS]
end K10
set_option Elab.async false
set_option linter.all false
set_option maxRecDepth 100000
namespace DL
open PySem PySem.Spec PyProof.Rows L2
/-! ### what is forgotten, or goes on as a list that nobody changes, at a return -/
structure Into (d : D) (μ : Mu) (d' : D) (μ' : Mu) : Prop where
  ok : ∀ (K : PySem.W.Frag) (H : Hp) (v : V), RM K H μ → Rep K H μ d v → Kp H μ H μ' ∧ RM K H μ' ∧ Rep K H μ' d' v
section
variable {d d1 d2 : D} {μ μ1 μ2 : Mu} {K : PySem.W.Frag} {H : Hp} {R : KD} {Q : VK}
theorem Into.refl : Into d μ d μ := ⟨fun K H v rm r => ⟨Kp.refl _ _, rm, r⟩⟩
theorem Into.trans (a : Into d μ d1 μ1) (b : Into d1 μ1 d2 μ2) : Into d μ d2 μ2 := ⟨fun K H v rm r => by
  obtain ⟨k1, rm1, r1⟩ := a.ok K H v rm r
  obtain ⟨k2, rm2, r2⟩ := b.ok K H v rm1 r1
  exact ⟨k1.trans k2, rm2, r2⟩⟩
theorem Into.drop (a : Addr) : Into d μ d (del μ a) := ⟨fun K H v rm r => ⟨Kp.drop, rm.drop, r.mono Kp.drop⟩⟩
theorem Into.frz {a : Addr} {ds : List D} (e : μ a = some (.lst ds)) : Into (.adr a) μ (.lst ds) (del μ a) := ⟨fun K H v rm r => by
  obtain ⟨vs, h1, h2⟩ := rm a _ e
  refine ⟨Kp.drop, rm.drop, ?_⟩
  unfold Rep at r ⊢
  exact ⟨a, vs, r, h1, del_same, h2.mono Kp.drop _ _⟩⟩
theorem Into.less (h : ∀ c o, μ1 c = some o → μ c = some o) : Into d μ d μ1 := ⟨fun K H v rm r => by
  have k : Kp H μ H μ1 := ⟨fun b o e _ => e, fun b e => by
    left
    intro z
    cases q : μ1 b with
    | none => exact e q
    | some o =>
      rw [h b o q] at z
      cases z⟩
  refine ⟨k, fun a o e => ?_, r.mono k⟩
  have q := rm a o (h a o e)
  cases o with
  | lst ds => obtain ⟨vs, h1, h2⟩ := q; exact ⟨vs, h1, h2.mono k _ _⟩
  | dct kvs => obtain ⟨vs, h1, h2⟩ := q; exact ⟨vs, h1, h2.mono k _ _⟩
  | dtt kvs => obtain ⟨vs, h1, h2⟩ := q; exact ⟨vs, h1, h2.mono k _ _⟩
  | lck kvs => obtain ⟨o, vs, h1, h2⟩ := q; exact ⟨o, vs, h1, h2.mono k _ _⟩
  | ftp ds => obtain ⟨o, vs, h1, d, h2⟩ := q; exact ⟨o, vs, h1, d, h2.mono k _ _⟩
  | ins C fs => obtain ⟨dx, vs, h1, h2⟩ := q; exact ⟨dx, vs, h1, h2.mono k _ _⟩⟩
def freed (R : KD) : KD := fun d μ => ∃ d' μ', Into d μ d' μ' ∧ R d' μ'
theorem fw_freed (f : Fw K H μ R Q) : Fw K H μ (freed R) Q := fun v d H' μ' k rm r ⟨d', μ2, i, q⟩ => by
  obtain ⟨k2, rm2, r2⟩ := i.ok K H' v rm r
  exact f v d' H' μ2 (k.trans k2) rm2 r2 q
end
section
variable {P : Program} {w : World} {K : PySem.W.Frag} {mg : Str → Option Value} {base : Heap}
theorem okDF {x qual : Str} {st : Stmt} {f : Addr} {fd : FuncData} {N ps : List Str} {k : Nat} {g : GC} (F : Fun K x qual st f fd) (S : FnScope N ps (defScope st)) (len : ∀ ds μ R, g ds μ R → ds.length = ps.length)
    (h : ∃ gb : GS, (∀ (cdv : Value) (A : Around) (outer : List Env) (s : Shared) (H : Hp) (E : XK), Room k (A.deeper (envOfC qual (defScope st) s.heap.objs.size f cdv)) →
        DSs (cxOf CX0 P w K mg base N qual (defScope st) f cdv A outer s H E).nox (defBody st) gb) ∧
      ∀ ds μ R, g ds μ R → gb { nx := fun _ μ' => freed R .non μ', rt := freed R } (begin_ N ds) μ) : FnOk P w K mg base CX0 (k + 1) f fd ps (toSp K g) := by
  obtain ⟨gb, hb, hg⟩ := h
  refine F.ok S (fun vs H Q E ⟨ds, μ, R, rm, rl, q, fw⟩ => by rw [rl.length]; exact len ds μ R q) fun cdv A outer s H vs Q E hr ⟨ds, μ, R, rm, rl, q, fw⟩ => ?_
  obtain ⟨t, a, b⟩ := (hb cdv A outer s H E hr).ex
  have fw' := fw_freed fw
  refine ⟨t, a, b _ H (begin_ N ds) μ _ { nx := fun _ μ' => freed R .non μ', rt := freed R } rm ?_ ⟨fun σ H' δ μ' k rm' _ q' => fw' .non .non H' μ' k rm' (by unfold Rep; rfl) q', fw', fun _ _ _ _ _ _ _ z => z, fun _ _ _ _ _ _ _ z => z⟩ (hg ds μ R q)⟩
  show RepS K H μ (ds.map some ++ List.replicate (N.length - ds.length) none) (vs.map some ++ List.replicate (N.length - vs.length) none)
  rw [rl.length]
  exact repS_some _ rl
end
end DL
set_option Elab.async false
set_option linter.all false
set_option maxRecDepth 100000
namespace DL
open PySem PySem.Spec PyProof.Rows L2
/-! ### tuple * int, also once and no time -/
end DL
set_option Elab.async false
set_option linter.all false
set_option maxRecDepth 100000
namespace DL
open PySem PySem.Spec PyProof.Rows L2
/-! ### min, max of a list, of a tuple of ints; divmod by more -/
/-- divmod by what is below 2 ** 64 -/
def gDivmodW2 : G2 := fun x y μ R => match x, y with
  | .int i, .int j => (0 < j ∧ j < 2 ^ 64) ∧ R (.tup [.int (i / j), .int (i % j)]) μ
  | _, _ => False
theorem noPy64 {i j : Int} (h0 : 0 < j) (h : j < 2 ^ 64) : Builtin.divisionGoesByPylong i j = false := by
  refine PyProof.noPylong_of_log2 ?_
  by_cases e : j.natAbs = 0
  · omega
  · exact Nat.lt_trans ((Nat.log2_lt e).mpr (show j.natAbs < 2 ^ 64 by omega)) (by decide)
theorem sim_divmodW2 {K : PySem.W.Frag} : SimC K (fun xs H Q => ∃ i j, xs = [.int i, .int j] ∧ CDivP i j ∧ ∀ p, H p = none → Q (.ref p) (upd H p (.tup [.int (i / j), .int (i % j)]))) (g2 gDivmodW2) := sim_g2 fun v w d e H μ Q R rm rv rw q f => by
  cases d <;> cases e <;> try exact False.elim q
  rename_i i j
  rw [rep_int rv, rep_int rw]
  obtain ⟨⟨h0, h1⟩, q⟩ := q
  exact ⟨i, j, rfl, ⟨h0, noPy64 h0 h1⟩, fun t n => fw_tup rm n (RepL.cons to_int (RepL.cons to_int RepL.nil)) q f⟩
/-! ### count, index of a list of ints -/
/-! ### defs as values -/
section
variable {X : Cx}
theorem de_globF {x : Str} {f : Addr} {pos : Pos} (hg : Gl X x) (hm : X.mg x = some (.ref f)) (hd : (x == ("__debug__" : Str)) = false := by decide) : DE X (.Name x pos) (gC (.adr f)) :=
  de_c (pe_glob (v := .ref f) hg hm rfl hd) fun _ _ => by unfold Rep; rfl
variable {k i : Nat} {f : Addr} {fd : FuncData} {ps : List Str} {g : GC} {x : Str} {p pos : Pos} {e : Expr} {es : List Expr} {ga : GA}
end
/-! ### minus -/
/-! ### two in the other order -/
def swp2 {α : Type} : List α → List α
  | [a, b] => [b, a]
  | l => l
theorem swp2_rep {K : PySem.W.Frag} {H : Hp} {μ : Mu} {ds : List D} {vs : List V} (h : RepL K H μ ds vs) (l : ds.length = 2) : RepL K H μ (swp2 ds) (swp2 vs) := by
  obtain ⟨a, b, rfl⟩ : ∃ a b, ds = [a, b] := by
    cases ds with
    | nil => cases l
    | cons a ds =>
      cases ds with
      | nil => cases l
      | cons b ds =>
        cases ds with
        | nil => exact ⟨a, b, rfl⟩
        | cons c ds => cases l
  obtain ⟨v, w, rfl, r1, r2⟩ := repL2 h
  exact RepL.cons r2 (RepL.cons r1 RepL.nil)
theorem swp2_vals {zs : List V} {ws : List Value} (h : Vals zs ws) : Vals (swp2 zs) (swp2 ws) := by
  cases h with
  | nil => exact .nil
  | cons a h =>
    cases h with
    | nil => exact .cons a .nil
    | cons b h =>
      cases h with
      | nil => exact .cons b (.cons a .nil)
      | cons c h => exact .cons a (.cons b (.cons c h))
/-! ### int * int, tuple * int -/
end DL
set_option Elab.async false
set_option linter.all false
set_option maxRecDepth 100000
namespace DL
open PySem PySem.Spec PyProof.Rows L2
/-! ### x in l of nested data; sorted of ints; three the other way round -/
def rev3 {α : Type} : List α → List α
  | [a, b, c] => [c, b, a]
  | l => l
theorem rev3_rep {K : PySem.W.Frag} {H : Hp} {μ : Mu} {ds : List D} {vs : List V} (h : RepL K H μ ds vs) (l : ds.length = 3) : RepL K H μ (rev3 ds) (rev3 vs) := by
  obtain ⟨a, b, c, rfl⟩ : ∃ a b c, ds = [a, b, c] := by
    cases ds with
    | nil => cases l
    | cons a ds =>
      cases ds with
      | nil => cases l
      | cons b ds =>
        cases ds with
        | nil => cases l
        | cons c ds =>
          cases ds with
          | nil => exact ⟨a, b, c, rfl⟩
          | cons _ _ => simp at l
  unfold RepL at h
  obtain ⟨v, r, rfl, r1, h⟩ := h
  obtain ⟨v2, v3, rfl, r2, r3⟩ := repL2 h
  exact RepL.cons r3 (RepL.cons r2 (RepL.cons r1 RepL.nil))
theorem rev3_vals {zs : List V} {ws : List Value} (h : Vals zs ws) : Vals (rev3 zs) (rev3 ws) := by
  cases h with
  | nil => exact .nil
  | cons a h =>
    cases h with
    | nil => exact .cons a .nil
    | cons b h =>
      cases h with
      | nil => exact .cons a (.cons b .nil)
      | cons c h =>
        cases h with
        | nil => exact .cons c (.cons b (.cons a .nil))
        | cons d h => exact .cons a (.cons b (.cons c (.cons d h)))
end DL
set_option Elab.async false
set_option linter.all false
set_option maxRecDepth 100000
namespace DL
open PySem PySem.Spec PyProof.Rows L2
/-! ### repr, also of None -/
def rRepr2 (K : PySem.W.Frag) : List V → Hp → VK → Prop := fun xs H Q => rRepr K xs H Q ∨ (xs = [.non] ∧ Q (.str "None") H)
theorem call_reprNon {X : Cx} : CallR X (.builtin "repr") (fun xs H Q => xs = [.non] ∧ Q (.str "None") H) := by
  intro pins s σ H vs us Q I r h
  obtain ⟨rfl, q⟩ := h
  obtain ⟨u, rfl, ru⟩ := vals1 r
  cases ru
  refine PySem.P.repr_of_none ?_
  exact ⟨.str "None", H, I.tok _, ⟨s.toks, rfl⟩, q⟩
theorem cr_repr2 {X : Cx} (hG : X.A.guards = some []) (hu : X.A.units + 64 < cLine) : CallR X (.builtin "repr") (rRepr2 X.K) := CallR.or (cr_repr hG hu) call_reprNon
def gRepr2 : G1 := fun x μ R => gRepr1 x μ R ∨ (x = .non ∧ R (.str "None") μ)
theorem sim_repr2 {K : PySem.W.Frag} : SimC K (rRepr2 K) (g1 gRepr2) := sim_g1 fun v d H μ Q R rm rv q f => by
  rcases q with q | ⟨rfl, q⟩
  · exact .inl (sim_repr [v] [d] H μ Q R rm (RepL.cons rv RepL.nil) q f)
  · exact .inr ⟨by rw [rep_non rv], fw_now rm to_str q f⟩
end DL
set_option Elab.async false
set_option linter.all false
set_option maxRecDepth 100000
namespace DL
open PySem PySem.Spec PyProof.Rows L2
/-! ### list * int as a new cell; cell[i] op= e -/
end DL
set_option Elab.async false
set_option linter.all false
set_option maxRecDepth 100000
namespace DL
open PySem PySem.Spec PyProof.Rows L2
/-! ### gcd, comb by the module's names -/
section
variable {X : Cx} {x : Str} {p pos : Pos} {e : Expr} {es : List Expr} {ga : GA} {id : String} {r : List V → Hp → VK → Prop} {g : GC}
/-! ### enumerate of a list -/
def gEnumL (ga : GA) : GI := fun δ μ R => ga δ μ fun ds μ1 => match ds with
  | [.lst xs] => R (numbered xs) μ1
  | _ => False
theorem di_enumL {p pos tpos : Pos} {elts : List Expr} {kk : Nat} {ga : GA} {e : Expr} (hg : Gl X "enumerate") (hm : X.mg "enumerate" = none) (h : DA X [e] ga) (hs : starEach [e] X.env = [(false, eval e X.env)] := by rfl) :
    DI X (.Tuple elts kk tpos) (.Call (.Name "enumerate" p) [e] [] pos) (gEnumL ga) := by
  obtain ⟨t, a1, a2⟩ := h.ex
  refine ⟨_, pi_enum hg hm a1 hs, fun σ H δ μ Q R rm rs q f => ?_⟩
  refine a2 σ H δ μ _ _ rm rs q fun vs ds H1 μ1 k1 rm1 r1 q1 => ?_
  match ds, q1, r1 with
  | [.lst xs], q1, r1 =>
    obtain ⟨v, rfl, r2⟩ := repL1 r1
    obtain ⟨a, ys, rfl, hH, hn, rl⟩ := rep_lst r2
    have sq : ∀ {H' μ'}, Kp H1 μ1 H' μ' → SqL X.K H' a ys := fun k => SqL.of (k.k1 a _ hH hn)
    have hl : (numbered xs).length = ys.length := by rw [rl.length]; simp [numbered]
    refine ⟨a, ys, rfl, SqL.of hH, f _ (numbered xs) H1 μ1 k1 rm1 ?_ q1⟩
    refine ⟨fun i H' hi ⟨μ', k, _⟩ => ?_, fun H' ⟨μ', k, _⟩ => ⟨ys, sq k, by omega⟩, fun i H' v H2 hi _ y => ?_⟩
    · have h1 : i < ys.length := by rw [← hl]; exact hi
      exact ⟨ys, ys[i], sq k, by simp [h1]⟩
    · intro μ' k rm
      obtain ⟨T, x, rfl, nT, rfl, e4⟩ := y
      have ex := e4 ys (sq k)
      obtain ⟨d, e3, r3⟩ := (rl.mono k).atV ex
      have nm : μ' T = none := rm.free nT
      have k2 : Kp H' μ' (upd H' T (.tup [.int (i : Nat), x])) μ' := Kp.new nT
      refine ⟨.tup [.int (i : Nat), d], ?_, ?_, k2, rm.laid nT⟩
      · unfold numbered
        rw [List.getElem?_mapIdx, e3]
        rfl
      · unfold Rep
        exact ⟨T, _, rfl, .inl ⟨upd_same, nm⟩, by unfold RepL; exact ⟨_, _, rfl, by unfold Rep; rfl, by unfold RepL; exact ⟨_, _, rfl, r3.mono k2, RepL.nil⟩⟩⟩
end
end DL
set_option Elab.async false
set_option linter.all false
set_option maxRecDepth 100000
namespace PySem
open Sem (wp)
end PySem
set_option Elab.async false
set_option linter.all false
set_option maxRecDepth 100000
namespace PySem
open Sem (wp)
def ItemsN (h : Heap) (ps : List (Addr × Addr)) (i : Nat) (us : List Value) : Prop :=
  us.length = ps.length ∧ ∀ (k : Nat) p u, ps[k]? = some p → us[k]? = some u → ∃ its, h.IsList p.2 its ∧ its[i]? = some u
theorem ItemsN.at {h : Heap} {ps done todo : List (Addr × Addr)} {p : Addr × Addr} {i : Nat} {us : List Value} (hu : ItemsN h ps i us) (e : ps = done ++ p :: todo) : ∃ u its, us[done.length]? = some u ∧ h.IsList p.2 its ∧ its[i]? = some u := by
  have hp : ps[done.length]? = some p := by rw [e]; simp
  have hl : done.length < us.length := by rw [hu.1, e]; simp
  obtain ⟨its, a, b⟩ := hu.2 done.length p us[done.length] hp (List.getElem?_eq_getElem hl)
  exact ⟨_, its, List.getElem?_eq_getElem hl, a, b⟩
end PySem
set_option Elab.async false
set_option linter.all false
set_option maxRecDepth 100000
namespace DL
open PySem PySem.Spec PyProof.Rows L2 RZ
/-- two lists, each of one with each of the other at its place -/
def A2 {α β : Type} (P : α → β → Prop) : List α → List β → Prop
  | [], [] => True
  | a :: as, b :: bs => P a b ∧ A2 P as bs
  | _, _ => False
theorem A2.len {α β : Type} {P : α → β → Prop} : ∀ {as : List α} {bs : List β}, A2 P as bs → as.length = bs.length
  | [], [], _ => rfl
  | _ :: _, _ :: _, h => congrArg (· + 1) h.2.len
  | [], _ :: _, h => h.elim
  | _ :: _, [], h => h.elim
theorem A2.imp {α β : Type} {P Q : α → β → Prop} (f : ∀ a b, P a b → Q a b) : ∀ {as : List α} {bs : List β}, A2 P as bs → A2 Q as bs
  | [], [], _ => trivial
  | _ :: _, _ :: _, h => ⟨f _ _ h.1, h.2.imp f⟩
  | [], _ :: _, h => h.elim
  | _ :: _, [], h => h.elim
end DL
set_option Elab.async false
set_option linter.all false
set_option maxRecDepth 100000
namespace DL
open PySem PySem.Spec PyProof.Rows L2 RZ
theorem A2.left {α β : Type} {P : α → β → Prop} : ∀ {as : List α} {bs : List β}, A2 P as bs → ∀ a ∈ as, ∃ b, P a b
  | a :: as, b :: bs, h, x, hx => by
    rcases List.mem_cons.mp hx with q | q
    · subst q; exact ⟨b, h.1⟩
    · exact h.2.left x q
  | [], _, _, x, hx => (List.not_mem_nil hx).elim
  | _ :: _, [], h, _, _ => h.elim
/-! ### zip(*rows), rows a list of lists of one length -/
end DL
set_option Elab.async false
set_option linter.all false
set_option maxRecDepth 100000
namespace DL
open PySem PySem.Spec PyProof.Rows L2 RZ
/-! ### break -/
/-! ### zip of two lists -/
def pairsL (xs ys : List D) : List D := List.zipWith (fun c d => D.tup [c, d]) xs ys
/-! ### cells in a list, all forgotten at once -/
end DL
set_option Elab.async false
set_option linter.all false
set_option maxRecDepth 100000
namespace DL
open PySem PySem.Spec PyProof.Rows L2
/-! ### defs whose last parameters have numbers as defaults -/
section
variable {P : Program} {w : World} {K : PySem.W.Frag} {mg : Str → Option Value} {base : Heap}
theorem okDV {x qual : Str} {st : Stmt} {dvs : List V} {f : Addr} {fd : FuncData} {N ps : List Str} {k : Nat} {g : GC} (F : FunD K x qual (defArgs st) (defBody st) (defScope st) dvs [] f fd) (S : FnScope N ps (defScope st)) (len : ∀ ds μ R, g ds μ R → ds.length = ps.length)
    (h : ∃ gb : GS, (∀ (cdv : Value) (A : Around) (outer : List Env) (s : Shared) (H : Hp) (E : XK), Room k (A.deeper (envOfC qual (defScope st) s.heap.objs.size f cdv)) →
        DSs (cxOf CX0 P w K mg base N qual (defScope st) f cdv A outer s H E).nox (defBody st) gb) ∧
      ∀ ds μ R, g ds μ R → gb { nx := fun _ μ' => R .non μ', rt := R } (begin_ N ds) μ) : FnOk P w K mg base CX0 (k + 1) f fd ps (toSp K g) := by
  obtain ⟨gb, hb, hg⟩ := h
  refine F.ok S (fun vs H Q E ⟨ds, μ, R, rm, rl, q, fw⟩ => by rw [rl.length]; exact len ds μ R q) fun cdv A outer s H vs Q E hr ⟨ds, μ, R, rm, rl, q, fw⟩ => ?_
  obtain ⟨t, a, b⟩ := (hb cdv A outer s H E hr).ex
  refine ⟨t, a.nox, b _ H (begin_ N ds) μ _ { nx := fun _ μ' => R .non μ', rt := R } rm ?_ ⟨fun σ H' δ μ' k rm' _ q' => fw .non .non H' μ' k rm' (by unfold Rep; rfl) q', fw, fun _ _ _ _ _ _ _ z => z, fun _ _ _ _ _ _ _ z => z⟩ (hg ds μ R q)⟩
  show RepS K H μ (ds.map some ++ List.replicate (N.length - ds.length) none) (vs.map some ++ List.replicate (N.length - vs.length) none)
  rw [rl.length]
  exact repS_some _ rl
end
section
variable {X : Cx} {k : Nat} {f : Addr} {fd : FuncData} {ps : List Str} {g : GC} {x : Str} {p pos : Pos} {e : Expr} {es : List Expr} {ga : GA}
def gCallV (dd : List Int) (g : GC) (ga : GA) : GE := fun δ μ R => ga δ μ fun ds μ1 => g (ds ++ dd.map D.int) μ1 R
theorem repL_ints {K : PySem.W.Frag} {H : Hp} {μ : Mu} : ∀ dd : List Int, RepL K H μ (dd.map D.int) (dd.map V.int)
  | [] => RepL.nil
  | _ :: dd => RepL.cons to_int (repL_ints dd)
theorem repL_two {K : PySem.W.Frag} {H : Hp} {μ : Mu} : ∀ {as bs : List D} {vs us : List V}, RepL K H μ as vs → RepL K H μ bs us → RepL K H μ (as ++ bs) (vs ++ us) := by
  intro as
  induction as with
  | nil =>
    intro bs vs us h k
    unfold RepL at h
    rw [h]
    exact k
  | cons a as ih =>
    intro bs vs us h k
    unfold RepL at h
    obtain ⟨v, r, rfl, h1, h2⟩ := h
    exact RepL.cons h1 (ih h2 k)
theorem de_callV {dd : List Int} (F : FnOk X.prog X.w X.K X.mg X.base CX0 k f fd ps (toSp X.K g)) (hr : Room k X.A) (hg : Gl X x) (hm : X.mg x = some (.ref f)) (hk : PySem.W.keepIn X.K (.ref f) = true) (hb : ∃ ds, Vals (dd.map V.int) ds ∧ Binds X.K fd ps ds)
    (ha : DA X (e :: es) ga) (hdb : (x == ("__debug__" : Str)) = false := by decide) (he : starEach (e :: es) X.env = (false, eval e X.env) :: starEach es X.env := by rfl) (hpl : (backTo pos (starEach es X.env)).any (·.1) = false := by rfl) :
    DE X (.Call (.Name x p) (e :: es) [] pos) (gCallV dd g ga) := by
  obtain ⟨t, a1, a2⟩ := ha.ex
  obtain ⟨dv, hv, hb⟩ := hb
  refine ⟨_, pe_call F hr hg hm hk hb hv (pass0 (X := X)) a1 hdb he hpl, fun σ H δ μ Q R rm rs q f => ?_⟩
  refine a2 σ H δ μ _ _ rm rs q fun vs ds H1 μ1 k1 rm1 r1 q1 => ?_
  exact ⟨ds ++ dd.map D.int, μ1, R, rm1, repL_two r1 (repL_ints dd), q1, f.re k1⟩
end
end DL
set_option Elab.async false
set_option linter.all false
set_option maxRecDepth 100000
namespace DL
open PySem PySem.Spec PyProof.Rows L2
/-! ### in, of a list of bools -/
theorem inV_bl (i : Bool) : ∀ ns : List Bool, inV (.bl i) (ns.map V.bl) = decide (i ∈ ns)
  | [] => rfl
  | n :: ns => by
    have ih := inV_bl i ns
    unfold inV at ih ⊢
    rw [List.map_cons, List.any_cons, ih]
    have e : eqV (.bl n) (.bl i) = decide (n = i) := by cases n <;> cases i <;> rfl
    rw [e]
    by_cases h : n = i
    · subst h; simp
    · have h' : ¬ i = n := fun e => h e.symm
      simp [h, h']
theorem flat_bls (ns : List Bool) : (ns.map V.bl).all flatV = true := by
  rw [List.all_eq_true]
  intro v hv
  obtain ⟨n, _, rfl⟩ := List.mem_map.mp hv
  rfl
theorem repL_bls {K : PySem.W.Frag} {H : Hp} {μ : Mu} : ∀ {ns : List Bool} {vs : List V}, RepL K H μ (ns.map D.bl) vs → vs = ns.map V.bl
  | [], vs, h => by
    rw [List.map_nil] at h
    unfold RepL at h
    exact h
  | n :: ns, vs, h => by
    rw [List.map_cons] at h
    unfold RepL at h
    obtain ⟨v, r, rfl, h1, h2⟩ := h
    rw [rep_bl h1, repL_bls h2]
    rfl
/-! ### repr of a few long numbers -/
structure ShowOkW (p : PyData) : Prop where
  lay : PyData.canLay0 p = true
  shrt : p.intsShort 600 = true
  show_ : p.showable = true
  dp : p.depth ≤ 20
  wt : p.weight ≤ 20000
theorem ShowOkW.len {p : PyData} (h : ShowOkW p) : p.shown.length ≤ sizeLine := by
  have h1 := PyData.shown_le 600 (by decide) p (PyData.leavesShort_of_canLay0 600 p h.lay h.shrt)
  have := h.wt
  rw [sizeLine_eq]
  omega
end DL
set_option Elab.async false
set_option linter.all false
set_option maxRecDepth 100000
namespace DL
open PySem PySem.Spec PyProof.Rows L2 PySem.W
/-! ### sorted and min of nested data -/
/-! readings -/
end DL
set_option Elab.async false
set_option linter.all false
set_option maxRecDepth 100000
namespace DL
open PySem PySem.Spec PyProof.Rows L2
/-! ### len of an instance whose class has a __len__ of its own -/
end DL
set_option Elab.async false
set_option linter.all false
set_option maxRecDepth 100000
namespace K10
open PySem PySem.Spec PyProof.Rows L2 DL
def top (i : Nat) : Stmt := PySem.Challenge.pw_webreckon_k18_whole_single_leanings.main.body.getD i (.Pass ⟨0, 0, 0, 0⟩)
structure Ad where
  is_integer : Addr
  fd_is_integer : FuncData
  is_integer_from : Addr
  fd_is_integer_from : FuncData
  are_letters : Addr
  fd_are_letters : FuncData
  are_places : Addr
  fd_are_places : FuncData
  is_tie : Addr
  fd_is_tie : FuncData
  first_wrong_tie : Addr
  fd_first_wrong_tie : FuncData
  where_no_lot : Addr
  fd_where_no_lot : FuncData
  check_places : Addr
  fd_check_places : FuncData
  check_ties : Addr
  fd_check_ties : FuncData
  check_index : Addr
  fd_check_index : FuncData
  check_lot : Addr
  fd_check_lot : FuncData
  check_leaning : Addr
  fd_check_leaning : FuncData
  check_web : Addr
  fd_check_web : FuncData
  crossing : Addr
  fd_crossing : FuncData
  check_web_and_leaning : Addr
  fd_check_web_and_leaning : FuncData
  arrow_of : Addr
  fd_arrow_of : FuncData
  arrows_of : Addr
  fd_arrows_of : FuncData
  turned_by : Addr
  fd_turned_by : FuncData
  fronts_among : Addr
  fd_fronts_among : FuncData
  first_order : Addr
  fd_first_order : FuncData
  ways_along : Addr
  fd_ways_along : FuncData
  is_each_in_a_ring : Addr
  fd_is_each_in_a_ring : FuncData
  arrows : Addr
  fd_arrows : FuncData
  turned : Addr
  fd_turned : FuncData
  is_ringless : Addr
  fd_is_ringless : FuncData
  is_ringed : Addr
  fd_is_ringed : FuncData
  fronts : Addr
  fd_fronts : FuncData
  ring_or_cut : Addr
  fd_ring_or_cut : FuncData
  order_of : Addr
  fd_order_of : FuncData
  L_purse : Addr
  fd_L_purse : FuncData
  L_take : Addr
  fd_L_take : FuncData
  L_one : Addr
  fd_L_one : FuncData
  L_web : Addr
  fd_L_web : FuncData
  L_lean : Addr
  fd_L_lean : FuncData
  L_ways : Addr
  fd_L_ways : FuncData
  L_reach : Addr
  fd_L_reach : FuncData
  L_in_ring : Addr
  fd_L_in_ring : FuncData
  L_goes_round : Addr
  fd_L_goes_round : FuncData
  L_herds : Addr
  fd_L_herds : FuncData
  L_leads_out : Addr
  fd_L_leads_out : FuncData
  L_flip : Addr
  fd_L_flip : FuncData
  L_first_order : Addr
  fd_L_first_order : FuncData
  L_ties_right : Addr
  fd_L_ties_right : FuncData
  L_right : Addr
  fd_L_right : FuncData
  law : Addr
  fd_law : FuncData
  Web : Addr
  Web_init : Addr
  fd_Web_init : FuncData
  OPPOSITE : Addr
  w : World
structure Tx (K : PySem.W.Frag) (mg : Str → Option Value) (A : Ad) : Prop where
  F_is_integer : Fun K "is_integer" "is_integer" (top 15) A.is_integer A.fd_is_integer
  b_is_integer : Binds K A.fd_is_integer ["value"] []
  g_is_integer : mg "is_integer" = some (.ref A.is_integer)
  F_is_integer_from : Fun K "is_integer_from" "is_integer_from" (top 16) A.is_integer_from A.fd_is_integer_from
  b_is_integer_from : Binds K A.fd_is_integer_from ["value", "low", "high"] []
  g_is_integer_from : mg "is_integer_from" = some (.ref A.is_integer_from)
  F_are_letters : Fun K "are_letters" "are_letters" (top 17) A.are_letters A.fd_are_letters
  b_are_letters : Binds K A.fd_are_letters ["value"] []
  g_are_letters : mg "are_letters" = some (.ref A.are_letters)
  F_are_places : Fun K "are_places" "are_places" (top 18) A.are_places A.fd_are_places
  b_are_places : Binds K A.fd_are_places ["value"] []
  g_are_places : mg "are_places" = some (.ref A.are_places)
  F_is_tie : Fun K "is_tie" "is_tie" (top 19) A.is_tie A.fd_is_tie
  b_is_tie : Binds K A.fd_is_tie ["places", "value"] []
  g_is_tie : mg "is_tie" = some (.ref A.is_tie)
  F_first_wrong_tie : Fun K "first_wrong_tie" "first_wrong_tie" (top 20) A.first_wrong_tie A.fd_first_wrong_tie
  b_first_wrong_tie : Binds K A.fd_first_wrong_tie ["places", "ties"] []
  g_first_wrong_tie : mg "first_wrong_tie" = some (.ref A.first_wrong_tie)
  F_where_no_lot : Fun K "where_no_lot" "where_no_lot" (top 22) A.where_no_lot A.fd_where_no_lot
  b_where_no_lot : Binds K A.fd_where_no_lot ["web", "values", "most"] []
  g_where_no_lot : mg "where_no_lot" = some (.ref A.where_no_lot)
  F_check_places : Fun K "check_places" "check_places" (top 23) A.check_places A.fd_check_places
  b_check_places : Binds K A.fd_check_places ["places"] []
  g_check_places : mg "check_places" = some (.ref A.check_places)
  F_check_ties : Fun K "check_ties" "check_ties" (top 24) A.check_ties A.fd_check_ties
  b_check_ties : Binds K A.fd_check_ties ["places", "ties"] []
  g_check_ties : mg "check_ties" = some (.ref A.check_ties)
  F_check_index : Fun K "check_index" "check_index" (top 25) A.check_index A.fd_check_index
  b_check_index : Binds K A.fd_check_index ["web", "index"] []
  g_check_index : mg "check_index" = some (.ref A.check_index)
  F_check_lot : FunD K "check_lot" "check_lot" (defArgs (top 26)) (defBody (top 26)) (defScope (top 26)) [.int (11)] [] A.check_lot A.fd_check_lot
  b_check_lot : ∃ ds, Vals [.int (11)] ds ∧ Binds K A.fd_check_lot ["web", "lot", "most"] ds
  g_check_lot : mg "check_lot" = some (.ref A.check_lot)
  F_check_leaning : Fun K "check_leaning" "check_leaning" (top 27) A.check_leaning A.fd_check_leaning
  b_check_leaning : Binds K A.fd_check_leaning ["web", "leaning"] []
  g_check_leaning : mg "check_leaning" = some (.ref A.check_leaning)
  F_check_web : Fun K "check_web" "check_web" (top 30) A.check_web A.fd_check_web
  b_check_web : Binds K A.fd_check_web ["web"] []
  g_check_web : mg "check_web" = some (.ref A.check_web)
  F_crossing : Fun K "crossing" "crossing" (top 32) A.crossing A.fd_crossing
  b_crossing : Binds K A.fd_crossing ["web", "herd"] []
  g_crossing : mg "crossing" = some (.ref A.crossing)
  F_check_web_and_leaning : Fun K "check_web_and_leaning" "check_web_and_leaning" (top 35) A.check_web_and_leaning A.fd_check_web_and_leaning
  b_check_web_and_leaning : Binds K A.fd_check_web_and_leaning ["web", "leaning"] []
  g_check_web_and_leaning : mg "check_web_and_leaning" = some (.ref A.check_web_and_leaning)
  F_arrow_of : Fun K "arrow_of" "arrow_of" (top 36) A.arrow_of A.fd_arrow_of
  b_arrow_of : Binds K A.fd_arrow_of ["tie", "sign"] []
  g_arrow_of : mg "arrow_of" = some (.ref A.arrow_of)
  F_arrows_of : Fun K "arrows_of" "arrows_of" (top 37) A.arrows_of A.fd_arrows_of
  b_arrows_of : Binds K A.fd_arrows_of ["web", "leaning"] []
  g_arrows_of : mg "arrows_of" = some (.ref A.arrows_of)
  F_turned_by : Fun K "turned_by" "turned_by" (top 38) A.turned_by A.fd_turned_by
  b_turned_by : Binds K A.fd_turned_by ["leaning", "lot"] []
  g_turned_by : mg "turned_by" = some (.ref A.turned_by)
  F_fronts_among : Fun K "fronts_among" "fronts_among" (top 39) A.fronts_among A.fd_fronts_among
  b_fronts_among : Binds K A.fd_fronts_among ["places", "row"] []
  g_fronts_among : mg "fronts_among" = some (.ref A.fronts_among)
  F_first_order : Fun K "first_order" "first_order" (top 40) A.first_order A.fd_first_order
  b_first_order : Binds K A.fd_first_order ["web", "leaning"] []
  g_first_order : mg "first_order" = some (.ref A.first_order)
  F_ways_along : Fun K "ways_along" "ways_along" (top 41) A.ways_along A.fd_ways_along
  b_ways_along : Binds K A.fd_ways_along ["row", "start"] []
  g_ways_along : mg "ways_along" = some (.ref A.ways_along)
  F_is_each_in_a_ring : Fun K "is_each_in_a_ring" "is_each_in_a_ring" (top 42) A.is_each_in_a_ring A.fd_is_each_in_a_ring
  b_is_each_in_a_ring : Binds K A.fd_is_each_in_a_ring ["web", "leaning"] []
  g_is_each_in_a_ring : mg "is_each_in_a_ring" = some (.ref A.is_each_in_a_ring)
  F_arrows : Fun K "arrows" "arrows" (top 43) A.arrows A.fd_arrows
  b_arrows : Binds K A.fd_arrows ["web", "leaning"] []
  g_arrows : mg "arrows" = some (.ref A.arrows)
  F_turned : Fun K "turned" "turned" (top 44) A.turned A.fd_turned
  b_turned : Binds K A.fd_turned ["web", "leaning", "lot"] []
  g_turned : mg "turned" = some (.ref A.turned)
  F_is_ringless : Fun K "is_ringless" "is_ringless" (top 45) A.is_ringless A.fd_is_ringless
  b_is_ringless : Binds K A.fd_is_ringless ["web", "leaning"] []
  g_is_ringless : mg "is_ringless" = some (.ref A.is_ringless)
  F_is_ringed : Fun K "is_ringed" "is_ringed" (top 46) A.is_ringed A.fd_is_ringed
  b_is_ringed : Binds K A.fd_is_ringed ["web", "leaning"] []
  g_is_ringed : mg "is_ringed" = some (.ref A.is_ringed)
  F_fronts : Fun K "fronts" "fronts" (top 47) A.fronts A.fd_fronts
  b_fronts : Binds K A.fd_fronts ["web", "leaning"] []
  g_fronts : mg "fronts" = some (.ref A.fronts)
  F_ring_or_cut : Fun K "ring_or_cut" "ring_or_cut" (top 48) A.ring_or_cut A.fd_ring_or_cut
  b_ring_or_cut : Binds K A.fd_ring_or_cut ["web", "leaning", "index"] []
  g_ring_or_cut : mg "ring_or_cut" = some (.ref A.ring_or_cut)
  F_order_of : Fun K "order_of" "order_of" (top 49) A.order_of A.fd_order_of
  b_order_of : Binds K A.fd_order_of ["web", "leaning"] []
  g_order_of : mg "order_of" = some (.ref A.order_of)
  F_L_purse : Fun K "_law_purse" "_law_purse" (top 51) A.L_purse A.fd_L_purse
  b_L_purse : Binds K A.fd_L_purse ["_law_script", "_law_k"] []
  g_L_purse : mg "_law_purse" = some (.ref A.L_purse)
  F_L_take : Fun K "_law_take" "_law_take" (top 52) A.L_take A.fd_L_take
  b_L_take : Binds K A.fd_L_take ["_law_purse_here", "_law_many"] []
  g_L_take : mg "_law_take" = some (.ref A.L_take)
  F_L_one : Fun K "_law_one" "_law_one" (top 53) A.L_one A.fd_L_one
  b_L_one : Binds K A.fd_L_one ["_law_purse_here", "_law_things"] []
  g_L_one : mg "_law_one" = some (.ref A.L_one)
  F_L_web : Fun K "_law_web" "_law_web" (top 54) A.L_web A.fd_L_web
  b_L_web : Binds K A.fd_L_web ["_law_purse_here", "_law_most_places", "_law_most_ties"] []
  g_L_web : mg "_law_web" = some (.ref A.L_web)
  F_L_lean : Fun K "_law_lean" "_law_lean" (top 55) A.L_lean A.fd_L_lean
  b_L_lean : Binds K A.fd_L_lean ["_law_purse_here", "_law_ties_here"] []
  g_L_lean : mg "_law_lean" = some (.ref A.L_lean)
  F_L_ways : Fun K "_law_ways" "_law_ways" (top 56) A.L_ways A.fd_L_ways
  b_L_ways : Binds K A.fd_L_ways ["_law_ties_here", "_law_leaning_here"] []
  g_L_ways : mg "_law_ways" = some (.ref A.L_ways)
  F_L_reach : Fun K "_law_reach" "_law_reach" (top 57) A.L_reach A.fd_L_reach
  b_L_reach : Binds K A.fd_L_reach ["_law_ways_here", "_law_start"] []
  g_L_reach : mg "_law_reach" = some (.ref A.L_reach)
  F_L_in_ring : Fun K "_law_in_ring" "_law_in_ring" (top 58) A.L_in_ring A.fd_L_in_ring
  b_L_in_ring : Binds K A.fd_L_in_ring ["_law_ways_here", "_law_k"] []
  g_L_in_ring : mg "_law_in_ring" = some (.ref A.L_in_ring)
  F_L_goes_round : Fun K "_law_goes_round" "_law_goes_round" (top 59) A.L_goes_round A.fd_L_goes_round
  b_L_goes_round : Binds K A.fd_L_goes_round ["_law_ways_here", "_law_lot"] []
  g_L_goes_round : mg "_law_goes_round" = some (.ref A.L_goes_round)
  F_L_herds : Fun K "_law_herds" "_law_herds" (top 60) A.L_herds A.fd_L_herds
  b_L_herds : Binds K A.fd_L_herds ["_law_places_here"] []
  g_L_herds : mg "_law_herds" = some (.ref A.L_herds)
  F_L_leads_out : Fun K "_law_leads_out" "_law_leads_out" (top 61) A.L_leads_out A.fd_L_leads_out
  b_L_leads_out : Binds K A.fd_L_leads_out ["_law_ties_here", "_law_ways_here", "_law_herd", "_law_lot"] []
  g_L_leads_out : mg "_law_leads_out" = some (.ref A.L_leads_out)
  F_L_flip : Fun K "_law_flip" "_law_flip" (top 62) A.L_flip A.fd_L_flip
  b_L_flip : Binds K A.fd_L_flip ["_law_leaning_here", "_law_lot"] []
  g_L_flip : mg "_law_flip" = some (.ref A.L_flip)
  F_L_first_order : Fun K "_law_first_order" "_law_first_order" (top 63) A.L_first_order A.fd_L_first_order
  b_L_first_order : Binds K A.fd_L_first_order ["_law_places_here", "_law_ways_here"] []
  g_L_first_order : mg "_law_first_order" = some (.ref A.L_first_order)
  F_L_ties_right : Fun K "_law_ties_right" "_law_ties_right" (top 64) A.L_ties_right A.fd_L_ties_right
  b_L_ties_right : Binds K A.fd_L_ties_right ["_law_mine", "_law_places_here", "_law_ways_here", "_law_leaning_here"] []
  g_L_ties_right : mg "_law_ties_right" = some (.ref A.L_ties_right)
  F_L_right : Fun K "_law_right" "_law_right" (top 65) A.L_right A.fd_L_right
  b_L_right : Binds K A.fd_L_right ["_law_purse_here"] []
  g_L_right : mg "_law_right" = some (.ref A.L_right)
  F_law : Fun K "law" "law" (top 66) A.law A.fd_law
  b_law : Binds K A.fd_law ["_law_script"] []
  g_law : mg "law" = some (.ref A.law)
  z_abs : mg "abs" = none
  z_all : mg "all" = none
  z_bool : mg "bool" = none
  z_divmod : mg "divmod" = none
  z_enumerate : mg "enumerate" = none
  z_int : mg "int" = none
  z_isinstance : mg "isinstance" = none
  z_len : mg "len" = none
  z_list : mg "list" = none
  z_max : mg "max" = none
  z_min : mg "min" = none
  z_range : mg "range" = none
  z_repr : mg "repr" = none
  z_set : mg "set" = none
  z_sorted : mg "sorted" = none
  z_str : mg "str" = none
  z_tuple : mg "tuple" = none
  z_zip : mg "zip" = none
  c_MOST_PLACES : ∃ t, mg "MOST_PLACES" = some (.int (7) t)
  c_MOST_TIES : ∃ t, mg "MOST_TIES" = some (.int (11) t)
  c_LETTERS : ∃ t, mg "LETTERS" = some (.str "abcdefgh" t)
  c_SIGNS : ∃ t, mg "SIGNS" = some (.str "+-" t)
  c_NOWHERE : ∃ t, mg "NOWHERE" = some (.int (-1) t)
  g_OPPOSITE : mg "OPPOSITE" = some (.ref A.OPPOSITE)
  k_OPPOSITE : ∀ z v : Str, (z, v) ∈ ([("+", "-"), ("-", "+")] : List (Str × Str)) → KDct K A.w A.OPPOSITE z (.str v)
  g_Web : mg "Web" = some (.ref A.Web)
  k_Web : Cls K A.Web
  i_Web : IsC K A.Web
  n_places : NoAttr K A.Web "places"
  n_ties : NoAttr K A.Web "ties"
  m_Web : Mk K A.Web A.Web_init
  F_Web_init : Fun K "__init__" "Web.__init__" (inClass (top 29) 0) A.Web_init A.fd_Web_init
  b_Web_init : Binds K A.fd_Web_init ["self", "places", "ties"] []
  kb_ring_or_cut : KBn K A.fd_ring_or_cut ["web", "leaning", "index"] 0 ["index", "leaning", "web"] (fun _ ws => rev3 ws) (fun _ zs => rev3 zs)
  kb_is_ringless : KBn K A.fd_is_ringless ["web", "leaning"] 0 ["leaning", "web"] (fun _ ws => swp2 ws) (fun _ zs => swp2 zs)
  kb_is_ringed : KBn K A.fd_is_ringed ["web", "leaning"] 0 ["leaning", "web"] (fun _ ws => swp2 ws) (fun _ zs => swp2 zs)
  kb_fronts : KBn K A.fd_fronts ["web", "leaning"] 0 ["leaning", "web"] (fun _ ws => swp2 ws) (fun _ zs => swp2 zs)
def dWeb (C : Addr) (p : List Nat) (ts : List Str) : D := .ins C [("places", .str (toS p)), ("ties", .tup (ts.map D.str))]
def dLot (lot : List Nat) : D := dI (lot.map Int.ofNat)
structure OkWeb (p : List Nat) (ts : List Str) : Prop where
  few : p.length ≤ 8
  many : ts.length ≤ 11
  ties : ∀ y ∈ ts, y.cps.size = 2 ∧ (ends y).1 ∈ p ∧ (ends y).2 ∈ p
def tiesOf (ts : List Str) (lot : List Nat) : List (Nat × Nat) := lot.map fun i => ends (ts.getD i Str.empty)
section
variable {P : Program} {w : World} {K : PySem.W.Frag} {mg : Str → Option Value} {base : Heap} {A : Ad}
theorem atK_nat {ds : List D} {j : Nat} {d : D} {R : D → Prop} (h : ds[j]? = some d) (r : R d) : atK ds (j : Int) R := by
  unfold atK
  rw [atI_nat h]
  exact r
theorem lot_at {lot : List Nat} {i : Nat} {x : D} (h : ((lot.map Int.ofNat).map D.int)[i]? = some x) : ∃ k, lot[i]? = some k ∧ x = .int (k : Nat) := by
  rw [List.getElem?_map, List.getElem?_map] at h
  cases e : lot[i]? with
  | none => rw [e] at h; cases h
  | some k =>
    rw [e] at h
    exact ⟨k, rfl, (Option.some.inj h).symm⟩
theorem two_signs {y : Str} (h : y.cps.size = 2) : ∃ a b, y.cps[0]? = some a ∧ y.cps[1]? = some b ∧ ends y = (a, b) := by
  obtain ⟨l⟩ := y
  obtain ⟨l⟩ := l
  match l, h with
  | [a, b], _ => exact ⟨a, b, rfl, rfl, rfl⟩
def rankOf (p : List Nat) (ts : List Str) (lot : List Nat) : Nat := ((List.zip (marksL p (tiesOf ts lot)) p).filter fun q => decide (q.1 ≠ q.2)).length
theorem perm_map {α β : Type} {f : α → β} {L : List α} {out : List β} (h : out.Perm (L.map f)) : ∃ L' : List α, L'.Perm L ∧ out = L'.map f := by
  generalize e : L.map f = M at h
  induction h generalizing L with
  | nil =>
    have : L = [] := by simpa using e
    subst this
    exact ⟨[], .refl _, rfl⟩
  | cons x p ih =>
    obtain ⟨a, l, rfl, rfl, e2⟩ := List.map_eq_cons_iff.mp e
    obtain ⟨L', p', rfl⟩ := ih e2
    exact ⟨a :: L', p'.cons a, rfl⟩
  | swap x y l =>
    obtain ⟨a, l', rfl, rfl, e2⟩ := List.map_eq_cons_iff.mp e
    obtain ⟨b, l'', rfl, rfl, e3⟩ := List.map_eq_cons_iff.mp e2
    subst e3
    exact ⟨b :: a :: l'', List.Perm.swap _ _ _, rfl⟩
  | trans p q ih1 ih2 =>
    obtain ⟨L2, p2, e2⟩ := ih2 e
    obtain ⟨L1, p1, e1⟩ := ih1 e2.symm
    exact ⟨L1, p1.trans p2, e1⟩
theorem range_at {n i : Nat} {x : D} (h : ((List.range n).map fun i => D.int (i : Nat))[i]? = some x) : i < n ∧ x = .int (i : Nat) := by
  rw [List.getElem?_map] at h
  by_cases hi : i < n
  · rw [List.getElem?_range hi] at h
    exact ⟨hi, (Option.some.inj h).symm⟩
  · rw [List.getElem?_eq_none (by simp; omega)] at h
    cases h
def g_check_web (C : Addr) : GC := fun ds μ R => ∃ (p : List Nat) (ts : List Str), ds = [dWeb C p ts] ∧ R .non μ
def N30 : List Str := ["web"]
theorem sc30 : FnScope N30 ["web"] (defScope (top 30)) := ⟨rfl, rfl, rfl, by decide +kernel, rfl, by decide +kernel, by decide +kernel⟩
theorem ok_check_web (T : Tx K mg A) : FnOk P A.w K mg base CX0 1 A.check_web A.fd_check_web ["web"] (toSp K (g_check_web A.Web)) := by
  refine okD T.F_check_web sc30 (fun ds μ R h => ?_) ⟨_, fun cdv A0 outer s H E hr =>
    (dss_one (ds_if (dt_not (dt_val (de_isc T.i_Web (by rfl) T.z_isinstance (by rfl) T.g_Web (dv 0)))) (dss_one ds_never) dss_nil)), fun ds μ R h => ?_⟩
  · obtain ⟨p, ts, rfl, _⟩ := h
    rfl
  · obtain ⟨p, ts, rfl, h⟩ := h
    exact ⟨rfl, h⟩
def g_is_integer : GC := g1 fun d μ R => match d with
  | .int _ => R (.bl true) μ
  | _ => False
def N15 : List Str := ["value"]
theorem sc15 : FnScope N15 ["value"] (defScope (top 15)) := ⟨rfl, rfl, rfl, by decide +kernel, rfl, by decide +kernel, by decide +kernel⟩
theorem ok_is_integer (T : Tx K mg A) : FnOk P A.w K mg base CX0 1 A.is_integer A.fd_is_integer ["value"] (toSp K (g_is_integer)) := by
  refine okD T.F_is_integer sc15 (fun ds μ R h => ?_) ⟨_, fun cdv A0 outer s H E hr =>
    (dss_one (ds_ret (de_and (de_isi (T := "int") (by rfl) T.z_isinstance (by rfl) T.z_int (by decide +kernel) (dv 0)) (de_one (de_not (de_isi (T := "bool") (by rfl) T.z_isinstance (by rfl) T.z_bool (by decide +kernel) (dv 0))))))), fun ds μ R h => ?_⟩
  · match ds, h with
    | [d], h => rfl
  · match ds, h with
    | [d], h =>
      cases d <;> try exact False.elim h
      exact ⟨_, true, rfl, by decide +kernel, ⟨_, false, rfl, by decide +kernel, h⟩⟩
def g_is_integer_from : GC := fun ds μ R => match ds with
  | [.int v, .int lo, .int hi] => R (.bl (decide (lo ≤ v) && decide (v ≤ hi))) μ
  | _ => False
def N16 : List Str := ["value", "low", "high"]
theorem sc16 : FnScope N16 ["value", "low", "high"] (defScope (top 16)) := ⟨rfl, rfl, rfl, by decide +kernel, rfl, by decide +kernel, by decide +kernel⟩
theorem ok_is_integer_from (T : Tx K mg A) : FnOk P A.w K mg base CX0 2 A.is_integer_from A.fd_is_integer_from ["value", "low", "high"] (toSp K (g_is_integer_from)) := by
  refine okD T.F_is_integer_from sc16 (fun ds μ R h => ?_) ⟨_, fun cdv A0 outer s H E hr =>
    (dss_one (ds_ret (de_and (de_call ((ok_is_integer T).mono (by decide)) hr (by rfl) T.g_is_integer T.F_is_integer.kp T.b_is_integer (da_cons (dv 0) da_nil)) (de_one (de_chain op_leA sim_ord op_leA sim_ord (dv 1) (dv 0) (dv 2)))))), fun ds μ R h => ?_⟩
  · match ds, h with
    | [.int v, .int lo, .int hi], h => rfl
  · match ds, h with
    | [.int v, .int lo, .int hi], h =>
      show if decide (lo ≤ v) = true then R (.bl (decide (v ≤ hi))) μ else R (.bl false) μ
      have h : R (.bl (decide (lo ≤ v) && decide (v ≤ hi))) μ := h
      cases e : decide (lo ≤ v) with
      | true => rw [e] at h; exact h
      | false => rw [e] at h; exact h
structure AscLot (lot : List Nat) (n : Nat) : Prop where
  asc : lot.Pairwise (· < ·)
  few : ∀ i ∈ lot, i < n
def g_check_lot (C : Addr) : GC := fun ds μ R => ∃ (p : List Nat) (ts : List Str) (lot : List Nat), ds = [dWeb C p ts, dLot lot] ∧ AscLot lot ts.length ∧ R .non μ
theorem numbered_at {ds : List D} {i : Nat} {x : D} (h : (DL.numbered ds)[i]? = some x) : ∃ d, ds[i]? = some d ∧ x = .tup [.int (i : Nat), d] := by
  unfold DL.numbered at h
  rw [List.getElem?_mapIdx] at h
  cases e : ds[i]? with
  | none => rw [e] at h; cases h
  | some d =>
    rw [e] at h
    exact ⟨d, rfl, (Option.some.inj h).symm⟩
theorem asc_next {lot : List Nat} (h : lot.Pairwise (· < ·)) {i a b : Nat} (ha : lot[i]? = some a) (hb : lot[i + 1]? = some b) : a < b := by
  obtain ⟨h1, e1⟩ := List.getElem?_eq_some_iff.mp ha
  obtain ⟨h2, e2⟩ := List.getElem?_eq_some_iff.mp hb
  rw [← e1, ← e2]
  exact List.pairwise_iff_getElem.mp h i (i + 1) h1 h2 (Nat.lt_succ_self _)
def g_where_no_lot (C : Addr) : GC := fun ds μ R => ∃ (p : List Nat) (ts : List Str) (lot : List Nat) (m : Nat), ds = [dWeb C p ts, dLot lot, .int (m : Nat)] ∧ AscLot lot ts.length ∧ lot.length ≤ m ∧ R (.int (-1)) μ
def g_check_lotV (C : Addr) : GC := fun ds μ R => ∃ (p : List Nat) (ts : List Str) (lot : List Nat), ds = [dWeb C p ts, dLot lot, .int 11] ∧ AscLot lot ts.length ∧ lot.length ≤ 11 ∧ R .non μ
theorem asc_short {lot : List Nat} {n : Nat} (h : AscLot lot n) : lot.length ≤ n := by
  have nd : lot.Nodup := h.asc.imp fun q => Nat.ne_of_lt q
  have s : lot ⊆ List.range n := fun k hk => List.mem_range.mpr (h.few k hk)
  have := nd.length_le_of_subset s
  rwa [List.length_range] at this
def N22 : List Str := ["web", "values", "most", "least", "at", "index"]
theorem sc22 : FnScope N22 ["web", "values", "most"] (defScope (top 22)) := ⟨rfl, rfl, rfl, by decide +kernel, rfl, by decide +kernel, by decide +kernel⟩
theorem ok_where_no_lot (T : Tx K mg A) : FnOk P A.w K mg base CX0 3 A.where_no_lot A.fd_where_no_lot ["web", "values", "most"] (toSp K (g_where_no_lot A.Web)) := by
  refine okD T.F_where_no_lot sc22 (fun ds μ R h => ?_) ⟨_, fun cdv A0 outer s H E hr =>
    (dss_cons (ds_if (dt_not (dt_val (de_isi (T := "tuple") (by rfl) T.z_isinstance (by rfl) T.z_tuple (by decide +kernel) (dv 1)))) (dss_one (ds_ret de_non)) dss_nil)
      (dss_cons (ds_set sc22.nd (i := 3) rfl (by first | exact Or.inl rfl | exact Or.inr rfl) de_int)
      (dss_cons (ds_for PassesOwn.never rfl (di_enumT (by rfl) T.z_enumerate (da_cons (dv 1) da_nil)) (pg_tup (n := 2) (by rfl) (pgs_cons (pg_name (i := 4) sc22.nd rfl (by first | exact Or.inl rfl | exact Or.inr rfl)) (pgs_cons (pg_name (i := 5) sc22.nd rfl (by first | exact Or.inl rfl | exact Or.inr rfl)) pgs_nil))) (sim_tupT (n := 2) (sim_consT (sim_nm (i := 4)) (sim_consT (sim_nm (i := 5)) sim_nilT)))
      (dss_cons (ds_if (dw_or (dt_cmp op_geA sim_ord (dv 4) (dv 2) (nomark _)) (dw_or1 (dt_not (dt_val (de_call ((ok_is_integer_from T).mono (by decide)) hr (by rfl) T.g_is_integer_from T.F_is_integer_from.kp T.b_is_integer_from (da_cons (dv 5) (da_cons (dv 3) (da_cons (de_op op_sub sim_minus (de_callB cr_len sim_len (by rfl) T.z_len boot_len (da_cons (de_fld T.k_Web T.n_ties (dv 0)) da_nil)) de_int) da_nil)))))))).dt (dss_one (ds_ret (dv 4))) dss_nil)
      (dss_one (ds_set sc22.nd (i := 3) rfl (by first | exact Or.inl rfl | exact Or.inr rfl) (de_op op_plus sim_plus (dv 5) de_int)))))
      (dss_one (ds_ret (de_globI (by rfl) T.c_NOWHERE.choose_spec)))))), fun ds μ R h => ?_⟩
  · obtain ⟨p, ts, lot, m, rfl, _⟩ := h
    rfl
  · obtain ⟨p, ts, lot, m, rfl, al, hm, h⟩ := h
    refine ⟨_, true, rfl, by decide +kernel, ?_⟩
    refine ⟨fun i δ' μ' => μ' = μ ∧ ∃ (l : Int) (o3 o4 : Option D), δ' = [some (dWeb A.Web p ts), some (dLot lot), some (.int (m : Nat)), some (.int l), o3, o4] ∧ ∀ k, lot[i]? = some k → l ≤ (k : Int), ⟨rfl, 0, none, none, rfl, fun k _ => by omega⟩, ?_, ?_⟩
    · rintro i x δ' μ' hx ⟨rfl, l, o3, o4, rfl, hle⟩
      obtain ⟨d, hd, rfl⟩ := numbered_at hx
      obtain ⟨k, hk, rfl⟩ := lot_at hd
      have h1 := hle k hk
      have h2 := al.few k (List.mem_of_getElem? hk)
      have hi : i < lot.length := (List.getElem?_eq_some_iff.mp hk).1
      have hn : ¬ decide ((m : Int) ≤ (i : Int)) = true := by
        rw [decide_eq_true_eq]
        omega
      refine ⟨rfl, ?_⟩
      show (if decide ((m : Int) ≤ (i : Int)) = true then _ else _)
      rw [if_neg hn]
      refine ⟨rfl, _, rfl, ?_⟩
      show if (!(decide (l ≤ (k : Int)) && decide ((k : Int) ≤ ((ts.map D.str).length : Int) - 1))) = true then _ else _
      rw [decide_eq_true h1, decide_eq_true (show (k : Int) ≤ ((ts.map D.str).length : Int) - 1 by rw [List.length_map]; omega)]
      refine ⟨rfl, (k : Int) + 1, _, _, rfl, fun k2 hk2 => ?_⟩
      have := asc_next al.asc hk hk2
      omega
    · rintro δ' μ' ⟨rfl, l, o3, o4, rfl, _⟩
      exact h
def N26 : List Str := ["web", "lot", "most", "wrong"]
theorem sc26 : FnScope N26 ["web", "lot", "most"] (defScope (top 26)) := ⟨rfl, rfl, rfl, by decide +kernel, rfl, by decide +kernel, by decide +kernel⟩
theorem ok_check_lot (T : Tx K mg A) : FnOk P A.w K mg base CX0 4 A.check_lot A.fd_check_lot ["web", "lot", "most"] (toSp K (g_check_lotV A.Web)) := by
  refine okDV T.F_check_lot sc26 (fun ds μ R h => ?_) ⟨_, fun cdv A0 outer s H E hr =>
    (dss_cons (ds_set sc26.nd (i := 3) rfl (by first | exact Or.inl rfl | exact Or.inr rfl) (de_call ((ok_where_no_lot T).mono (by decide)) hr (by rfl) T.g_where_no_lot T.F_where_no_lot.kp T.b_where_no_lot (da_cons (dv 0) (da_cons (dv 1) (da_cons (dv 2) da_nil)))))
      (dss_one (ds_if (dt_cmp (op_neA hr.units) sim_ne (dv 3) (de_globI (by rfl) T.c_NOWHERE.choose_spec) (nomark _)) (dss_one ds_never) dss_nil))), fun ds μ R h => ?_⟩
  · obtain ⟨p, ts, lot, rfl, _⟩ := h
    rfl
  · obtain ⟨p, ts, lot, rfl, al, hm, h⟩ := h
    refine ⟨p, ts, lot, 11, rfl, al, hm, ?_⟩
    exact h
theorem bK_case {c : Bool} {F : Bool → Mu → Prop} {μ : Mu} (h1 : c = true → F true μ) (h2 : c = false → F false μ) : bK F (.bl c) μ := by
  cases c with
  | true => exact h1 rfl
  | false => exact h2 rfl
theorem in_lot {k : Nat} {t : List Nat} {R : Bool → Prop} (h : R (decide (k ∈ t))) : inDs (.int (k : Nat)) ((t.map Int.ofNat).map D.int) R := by
  refine .inl ⟨(k : Int), t.map Int.ofNat, rfl, rfl, ?_⟩
  have e : decide ((k : Int) ∈ t.map Int.ofNat) = decide (k ∈ t) := by
    rw [decide_eq_decide]
    constructor
    · intro h
      obtain ⟨j, hj, e⟩ := List.mem_map.mp h
      have e : j = k := Int.ofNat.inj e
      rw [← e]
      exact hj
    · intro h
      exact List.mem_map.mpr ⟨k, h, rfl⟩
  rw [e]
  exact h
def g_is_tie : GC := fun ds μ R => match ds with
  | [.str p, .str v] => ∃ a b, v = ⟨#[a, b]⟩ ∧ a ∈ p.cps.toList ∧ b ∈ p.cps.toList ∧ a ≤ b ∧ R (.bl true) μ
  | _ => False
def N19 : List Str := ["places", "value"]
theorem sc19 : FnScope N19 ["places", "value"] (defScope (top 19)) := ⟨rfl, rfl, rfl, by decide +kernel, rfl, by decide +kernel, by decide +kernel⟩
theorem ok_is_tie (T : Tx K mg A) : FnOk P A.w K mg base CX0 1 A.is_tie A.fd_is_tie ["places", "value"] (toSp K (g_is_tie)) := by
  refine okD T.F_is_tie sc19 (fun ds μ R h => ?_) ⟨_, fun cdv A0 outer s H E hr =>
    (dss_cons (ds_if (dw_or (dt_not (dt_val (de_isi (T := "str") (by rfl) T.z_isinstance (by rfl) T.z_str (by decide +kernel) (dv 1)))) (dw_or1 (dt_cmp (op_neA hr.units) sim_ne (de_callB cr_len sim_len (by rfl) T.z_len boot_len (da_cons (dv 1) da_nil)) de_int (nomark _)))).dt (dss_one (ds_ret de_bl)) dss_nil)
      (dss_one (ds_ret (de_and (de_cmp op_inA sim_in (de_ix ix_any sim_ix (dv 1) de_int (fun _ _ => rfl)) (dv 0) rfl) (de_and (de_cmp op_inA sim_in (de_ix ix_any sim_ix (dv 1) de_int (fun _ _ => rfl)) (dv 0) rfl) (de_one (de_cmp op_leA sim_ord (de_ix ix_any sim_ix (dv 1) de_int (fun _ _ => rfl)) (de_ix ix_any sim_ix (dv 1) de_int (fun _ _ => rfl)) (nomark _)))))))), fun ds μ R h => ?_⟩
  · match ds, h with
    | [.str p, .str v], h => rfl
  · match ds, h with
    | [.str p, .str v], h =>
      obtain ⟨a, b, rfl, ha, hb, hab, h⟩ := h
      refine ⟨_, true, rfl, by decide +kernel, ?_⟩
      refine ⟨(by show 2 ≤ sizeLine; decide), ?_⟩
      refine ⟨(by show 2 ≤ sizeLine; decide), a, rfl, ?_⟩
      have e1 : decide (a ∈ p.cps.toList) = true := decide_eq_true ha
      have e2 : decide (b ∈ p.cps.toList) = true := decide_eq_true hb
      rw [e1]
      refine ⟨(by show 2 ≤ sizeLine; decide), b, rfl, ?_⟩
      rw [e2]
      refine ⟨(by show 2 ≤ sizeLine; decide), (by show 2 ≤ sizeLine; decide), ?_⟩
      have e3 : (!decide (([b] : List Nat) < [a])) = true := by
        rw [decide_eq_false (fun z => by have := lt_one.mp z; omega)]
        rfl
      show R (.bl (!decide (([b] : List Nat) < [a]))) μ
      rw [e3]
      exact h
structure OkTies (p : List Nat) (ts : List Str) : Prop where
  many : ts.length ≤ 11
  ties : ∀ y ∈ ts, ∃ a b, y = ⟨#[a, b]⟩ ∧ a ∈ p ∧ b ∈ p ∧ a ≤ b
def g_first_wrong_tie : GC := fun ds μ R => ∃ (p : List Nat) (ts : List Str), ds = [.str (toS p), .tup (ts.map D.str)] ∧ OkTies p ts ∧ R .non μ
def N20 : List Str := ["places", "ties", "at", "tie"]
theorem sc20 : FnScope N20 ["places", "ties"] (defScope (top 20)) := ⟨rfl, rfl, rfl, by decide +kernel, rfl, by decide +kernel, by decide +kernel⟩
theorem ok_first_wrong_tie (T : Tx K mg A) : FnOk P A.w K mg base CX0 2 A.first_wrong_tie A.fd_first_wrong_tie ["places", "ties"] (toSp K (g_first_wrong_tie)) := by
  refine okD T.F_first_wrong_tie sc20 (fun ds μ R h => ?_) ⟨_, fun cdv A0 outer s H E hr =>
    (dss_cons (ds_for PassesOwn.never rfl (di_enumT (by rfl) T.z_enumerate (da_cons (dv 1) da_nil)) (pg_tup (n := 2) (by rfl) (pgs_cons (pg_name (i := 2) sc20.nd rfl (by first | exact Or.inl rfl | exact Or.inr rfl)) (pgs_cons (pg_name (i := 3) sc20.nd rfl (by first | exact Or.inl rfl | exact Or.inr rfl)) pgs_nil))) (sim_tupT (n := 2) (sim_consT (sim_nm (i := 2)) (sim_consT (sim_nm (i := 3)) sim_nilT)))
      (dss_one (ds_if (dw_or (dt_cmp op_geA sim_ord (dv 2) (de_globI (by rfl) T.c_MOST_TIES.choose_spec) (nomark _)) (dw_or1 (dt_not (dt_val (de_call ((ok_is_tie T).mono (by decide)) hr (by rfl) T.g_is_tie T.F_is_tie.kp T.b_is_tie (da_cons (dv 0) (da_cons (dv 3) da_nil))))))).dt (dss_one (ds_ret (dv 2))) dss_nil)))
      (dss_one (ds_ret de_non))), fun ds μ R h => ?_⟩
  · obtain ⟨p, ts, rfl, _⟩ := h
    rfl
  · obtain ⟨p, ts, rfl, ok, h⟩ := h
    refine ⟨fun i δ' μ' => μ' = μ ∧ ∃ o2 o3, δ' = [some (.str (toS p)), some (.tup (ts.map D.str)), o2, o3], ⟨rfl, none, none, rfl⟩, ?_, ?_⟩
    · rintro i x δ' μ' hx ⟨rfl, o2, o3, rfl⟩
      obtain ⟨d, hd, rfl⟩ := numbered_at hx
      rw [List.getElem?_map] at hd
      obtain ⟨y, hy, rfl⟩ : ∃ y, ts[i]? = some y ∧ D.str y = d := by
        cases e : ts[i]? with
        | none => rw [e] at hd; cases hd
        | some t => rw [e] at hd; exact ⟨t, rfl, Option.some.inj hd⟩
      have hi : i < ts.length := (List.getElem?_eq_some_iff.mp hy).1
      have many := ok.many
      obtain ⟨a, b, rfl, ha, hb, hab⟩ := ok.ties y (List.mem_of_getElem? hy)
      refine ⟨rfl, ?_⟩
      have hn : ¬ decide ((11 : Int) ≤ (i : Int)) = true := by
        rw [decide_eq_true_eq]
        omega
      show (if decide ((11 : Int) ≤ (i : Int)) = true then _ else _)
      rw [if_neg hn]
      refine ⟨a, b, rfl, by rw [toS_list]; exact ha, by rw [toS_list]; exact hb, hab, ?_⟩
      exact ⟨rfl, _, _, rfl⟩
    · rintro δ' μ' ⟨rfl, o2, o3, rfl⟩
      exact h
def g_check_ties : GC := g_first_wrong_tie
def N24 : List Str := ["places", "ties", "wrong"]
theorem sc24 : FnScope N24 ["places", "ties"] (defScope (top 24)) := ⟨rfl, rfl, rfl, by decide +kernel, rfl, by decide +kernel, by decide +kernel⟩
theorem ok_check_ties (T : Tx K mg A) : FnOk P A.w K mg base CX0 3 A.check_ties A.fd_check_ties ["places", "ties"] (toSp K (g_check_ties)) := by
  refine okD T.F_check_ties sc24 (fun ds μ R h => ?_) ⟨_, fun cdv A0 outer s H E hr =>
    (dss_cons (ds_if (dt_not (dt_val (de_isi (T := "tuple") (by rfl) T.z_isinstance (by rfl) T.z_tuple (by decide +kernel) (dv 1)))) (dss_one ds_never) dss_nil)
      (dss_cons (ds_set sc24.nd (i := 2) rfl (by first | exact Or.inl rfl | exact Or.inr rfl) (de_call ((ok_first_wrong_tie T).mono (by decide)) hr (by rfl) T.g_first_wrong_tie T.F_first_wrong_tie.kp T.b_first_wrong_tie (da_cons (dv 0) (da_cons (dv 1) da_nil))))
      (dss_one (ds_if (dt_cmp op_notN sim_notN (dv 2) de_non (nomark _)) (dss_one ds_never) dss_nil)))), fun ds μ R h => ?_⟩
  · obtain ⟨p, ts, rfl, _⟩ := h
    rfl
  · obtain ⟨p, ts, rfl, ok, h⟩ := h
    refine ⟨_, true, rfl, by decide +kernel, ?_⟩
    refine ⟨p, ts, rfl, ok, ?_⟩
    exact h
structure OkPlaces (p : List Nat) : Prop where
  one : 1 ≤ p.length
  few : p.length ≤ 7
  asc : p.Pairwise (· < ·)
  sign : ∀ c ∈ p, 97 ≤ c ∧ c ≤ 104
theorem count_none {c : Nat} : ∀ {l : List Nat}, c ∉ l → PyProof.Rows.cnt c l = 0
  | [], _ => rfl
  | n :: l, h => by
    rw [PyProof.Rows.cnt_cons, if_neg (fun e => h (by rw [e]; exact List.mem_cons_self)), count_none fun q => h (List.mem_cons_of_mem _ q)]
    rfl
theorem cnt_once {c : Nat} : ∀ {l : List Nat}, c ∈ l → l.Pairwise (· ≠ ·) → PyProof.Rows.cnt c l = 1
  | n :: l, h, p => by
    rw [List.pairwise_cons] at p
    rw [PyProof.Rows.cnt_cons]
    by_cases e : n = c
    · subst e
      rw [if_pos rfl, count_none fun q => p.1 n q rfl]
      rfl
    · rw [if_neg e, cnt_once ((List.mem_cons.mp h).resolve_left fun q => e q.symm) p.2]
      rfl
theorem count_once {p : List Nat} {c : Nat} (h : c ∈ p) (u : p.Pairwise (· ≠ ·)) : decide (Txt.count (toS p) ⟨#[c]⟩ = 1) = true := by
  rw [decide_eq_true_eq, count_cnt, toS_list]
  exact cnt_once h u
def g_are_letters : GC := fun ds μ R => ∃ p : List Nat, ds = [.str (toS p)] ∧ OkPlaces p ∧ R (.bl true) μ
def N17 : List Str := ["value", "letter"]
theorem sc17 : FnScope N17 ["value"] (defScope (top 17)) := ⟨rfl, rfl, rfl, by decide +kernel, rfl, by decide +kernel, by decide +kernel⟩
theorem ok_are_letters (T : Tx K mg A) : FnOk P A.w K mg base CX0 1 A.are_letters A.fd_are_letters ["value"] (toSp K (g_are_letters)) := by
  refine okD T.F_are_letters sc17 (fun ds μ R h => ?_) ⟨_, fun cdv A0 outer s H E hr =>
    (dss_cons (ds_if (dw_or (dt_not (dt_val (de_isi (T := "str") (by rfl) T.z_isinstance (by rfl) T.z_str (by decide +kernel) (dv 0)))) (dw_or1 (dt_cmp op_gtA sim_ord (de_callB cr_len sim_len (by rfl) T.z_len boot_len (da_cons (dv 0) da_nil)) (de_callB cr_len sim_len (by rfl) T.z_len boot_len (da_cons (de_globS (by rfl) T.c_LETTERS.choose_spec) da_nil)) (nomark _)))).dt (dss_one (ds_ret de_bl)) dss_nil)
      (dss_one (ds_ret (de_callB (cr_all (by rfl)) sim_all (by rfl) T.z_all boot_all (da_cons (de_lc (own := [("letter", 1)]) (by rfl) sc17.nd (di_str (dv 0)) (blkOk_by (N := N17) (own := [("letter", 1)]) (sc := defScope (top 17)) (by decide +kernel)) (fun _ _ _ _ _ => (pg_name (i := 1) sc17.nd rfl (by first | exact Or.inl rfl | exact Or.inr rfl))) (sim_nm (i := 1)) (fun _ _ _ _ _ => dts_nil) (fun _ _ _ _ _ => (de_and (de_cmp op_inA sim_in (dv 1) (de_globS (by rfl) T.c_LETTERS.choose_spec) rfl) (de_one (de_cmp (op_eqA hr.units) sim_eq (de_bm PySem.F.plainAttrs_str PySem.F.slot_str_count PySem.F.type_str_count mt_count sim_count ok_str (dv 0) (da_cons (dv 1) da_nil)) de_int (nomark _)))))) da_nil))))), fun ds μ R h => ?_⟩
  · obtain ⟨p, rfl, _⟩ := h
    rfl
  · obtain ⟨p, rfl, ok, h⟩ := h
    have few := ok.few
    refine ⟨_, true, rfl, by decide +kernel, ?_⟩
    have hz : (toS p).length = p.length := by
      show p.toArray.size = p.length
      rw [List.size_toArray]
    have hn : ¬ decide ((("abcdefgh" : Str).length : Int) < ((toS p).length : Int)) = true := by
      rw [decide_eq_true_eq, hz]
      have : ("abcdefgh" : Str).length = 8 := by decide +kernel
      rw [this]
      omega
    refine ⟨by rw [hz, sizeLine_eq]; omega, by decide +kernel, ?_⟩
    show (if decide ((("abcdefgh" : Str).length : Int) < ((toS p).length : Int)) = true then _ else _)
    rw [if_neg hn]
    show LcB _ _ _ _ _ _ _ _
    refine lcb_map (fun _ => .bl true) ?_ ?_ ?_
    · unfold DL.signs
      rw [List.length_map, toS_list, sizeLine_eq]
      omega
    · intro x hx μ2 Y _ hy
      unfold DL.signs at hx
      obtain ⟨c, hc, rfl⟩ := List.mem_map.mp hx
      rw [toS_list] at hc
      have hs := ok.sign c hc
      refine ⟨c, rfl, ?_⟩
      have e1 : decide (c ∈ ("abcdefgh" : Str).cps.toList) = true := by
        have e : ("abcdefgh" : Str).cps.toList = [97, 98, 99, 100, 101, 102, 103, 104] := by decide +kernel
        rw [e, decide_eq_true_eq]
        simp
        omega
      show (if id (decide (c ∈ ("abcdefgh" : Str).cps.toList)) = true then _ else _)
      rw [if_pos (show id (decide (c ∈ ("abcdefgh" : Str).cps.toList)) = true from e1)]
      refine ⟨True.intro, ?_⟩
      show Y (.bl (id (decide (Txt.count (toS p) ⟨#[c]⟩ = 1)))) μ2
      rw [count_once hc (ok.asc.imp fun h => Nat.ne_of_lt h)]
      exact hy
    · unfold DL.signs
      rw [List.map_map]
      refine ⟨List.replicate p.length true, ?_, ?_⟩
      · rw [toS_list, List.map_replicate]
        exact List.map_const'
      · show R (.bl ((List.replicate p.length true).all id)) μ
        have : (List.replicate p.length true).all id = true := by
          rw [List.all_eq_true]
          intro b hb
          rw [List.eq_of_mem_replicate hb]
          rfl
        rw [this]
        exact h
end
end K10
set_option Elab.async false
set_option linter.all false
set_option maxRecDepth 100000
namespace K10
open DL
/-! ### the ranks of both sides -/
/-- how many places have a mark that is not their own -/
def nonFix (r p : List Nat) : Nat := ((List.zip r p).filter fun q => decide (q.1 ≠ q.2)).length
theorem nonFix_nil (r : List Nat) : nonFix r [] = 0 := by cases r <;> rfl
theorem nonFix_cons (a b : Nat) (r p : List Nat) : nonFix (a :: r) (b :: p) = (if a ≠ b then 1 else 0) + nonFix r p := by
  unfold nonFix
  rw [List.zip_cons_cons]
  by_cases e : a = b
  · rw [List.filter_cons_of_neg (by simp [e]), if_neg (by simp [e])]
    omega
  · rw [List.filter_cons_of_pos (by simp [e]), if_pos e, List.length_cons]
    omega
theorem nonFix_self : ∀ p : List Nat, nonFix p p = 0
  | [] => rfl
  | a :: p => by rw [nonFix_cons, nonFix_self p]; simp
/-- one mark put in the place of another one -/
theorem nonFix_map (m n : Nat) : ∀ (r p : List Nat), p.Pairwise (· ≠ ·) → nonFix (r.map fun x => if x = m then n else x) p ≤ nonFix r p + (if m ∈ p then 1 else 0)
  | [], p, _ => by
    show nonFix [] p ≤ _
    unfold nonFix
    simp
  | a :: r, [], _ => by rw [nonFix_nil]; omega
  | a :: r, b :: p, u => by
    rw [List.pairwise_cons] at u
    have ih := nonFix_map m n r p u.2
    rw [List.map_cons, nonFix_cons, nonFix_cons]
    by_cases e : a = m
    · subst e
      rw [if_pos rfl]
      by_cases eb : a = b
      · subst eb
        have : ¬ a ∈ p := fun h => u.1 a h rfl
        rw [if_neg this] at ih
        rw [if_pos List.mem_cons_self]
        split <;> split <;> omega
      · rw [if_pos eb]
        have : (if a ∈ p then 1 else 0) ≤ (if a ∈ b :: p then 1 else 0) := by
          by_cases h : a ∈ p
          · rw [if_pos h, if_pos (List.mem_cons_of_mem _ h)]; omega
          · rw [if_neg h]; omega
        split <;> omega
    · rw [if_neg e]
      have : (if m ∈ p then 1 else 0) ≤ (if m ∈ b :: p then 1 else 0) := by
        by_cases h : m ∈ p
        · rw [if_pos h, if_pos (List.mem_cons_of_mem _ h)]; omega
        · rw [if_neg h]; omega
      omega
theorem nonFix_step {p : List Nat} (u : p.Pairwise (· ≠ ·)) (r : List Nat) (y : Nat × Nat) : nonFix (stepM p r y) p ≤ nonFix r p + 1 := by
  have := nonFix_map (max (r.getD (p.idxOf y.1) 0) (r.getD (p.idxOf y.2) 0)) (min (r.getD (p.idxOf y.1) 0) (r.getD (p.idxOf y.2) 0)) r p u
  unfold stepM
  have h : (if max (r.getD (p.idxOf y.1) 0) (r.getD (p.idxOf y.2) 0) ∈ p then 1 else 0) ≤ 1 := by split <;> omega
  exact Nat.le_trans this (by omega)
theorem marksL_snoc (p : List Nat) (ys : List (Nat × Nat)) (y : Nat × Nat) : marksL p (ys ++ [y]) = stepM p (marksL p ys) y := by
  unfold marksL
  rw [List.foldl_append]
  rfl
theorem nonFix_foldl {p : List Nat} (u : p.Pairwise (· ≠ ·)) : ∀ (ys : List (Nat × Nat)) (r : List Nat), nonFix (ys.foldl (stepM p) r) p ≤ nonFix r p + ys.length
  | [], r => by simp
  | y :: ys, r => by
    have := nonFix_foldl u ys (stepM p r y)
    have h := nonFix_step u r y
    rw [List.foldl_cons, List.length_cons]
    omega
theorem nonFix_le {p : List Nat} (u : p.Pairwise (· ≠ ·)) (ys : List (Nat × Nat)) : nonFix (marksL p ys) p ≤ ys.length := by
  have := nonFix_foldl u ys p
  rw [nonFix_self] at this
  unfold marksL
  omega
/-! each mark is the mark of its own place -/
structure Roots (p r : List Nat) : Prop where
  len : r.length = p.length
  own : ∀ v ∈ r, v ∈ p ∧ r.getD (p.idxOf v) 0 = v
theorem getD_map_ne {l : List Nat} {f : Nat → Nat} {i : Nat} (h : i < l.length) : (l.map f).getD i 0 = f (l.getD i 0) := by
  rw [List.getD_eq_getElem?_getD, List.getD_eq_getElem?_getD, List.getElem?_map, List.getElem?_eq_getElem h]
  rfl
theorem getD_in {l : List Nat} {i : Nat} (h : i < l.length) : l.getD i 0 ∈ l := by
  rw [List.getD_eq_getElem?_getD, List.getElem?_eq_getElem h]
  exact List.getElem_mem h
theorem Roots.step {p r : List Nat} (h : Roots p r) {y : Nat × Nat} (h1 : y.1 ∈ p) (h2 : y.2 ∈ p) : Roots p (stepM p r y) := by
  refine ⟨by rw [stepM_len]; exact h.len, ?_⟩
  have l1 : p.idxOf y.1 < r.length := by rw [h.len]; exact List.idxOf_lt_length_of_mem h1
  have l2 : p.idxOf y.2 < r.length := by rw [h.len]; exact List.idxOf_lt_length_of_mem h2
  have m1 := getD_in l1
  have m2 := getD_in l2
  unfold stepM
  generalize r.getD (p.idxOf y.1) 0 = a at *
  generalize r.getD (p.idxOf y.2) 0 = b at *
  show ∀ v ∈ r.map (fun x => if x = max a b then min a b else x), v ∈ p ∧ (r.map (fun x => if x = max a b then min a b else x)).getD (p.idxOf v) 0 = v
  have mm : min a b ∈ r := by
    by_cases e : a ≤ b
    · rw [Nat.min_eq_left e]; exact m1
    · rw [Nat.min_eq_right (by omega)]; exact m2
  have key : ∀ v ∈ r, (v ≠ max a b ∨ a = b) → v ∈ p ∧ (r.map (fun x => if x = max a b then min a b else x)).getD (p.idxOf v) 0 = v := by
    intro v hv hne
    obtain ⟨k1, k2⟩ := h.own v hv
    refine ⟨k1, ?_⟩
    rw [getD_map_ne (by rw [h.len]; exact List.idxOf_lt_length_of_mem k1), k2]
    by_cases e : v = max a b
    · rw [if_pos e]
      have : a = b := hne.resolve_left fun z => z e
      omega
    · rw [if_neg e]
  intro v hv
  obtain ⟨x, hx, e⟩ := List.mem_map.mp hv
  by_cases ex : x = max a b
  · have e : (if x = max a b then min a b else x) = v := e
    rw [if_pos ex] at e
    subst e
    refine key _ mm ?_
    by_cases z : a = b
    · exact .inr z
    · exact .inl (by omega)
  · have e : (if x = max a b then min a b else x) = v := e
    rw [if_neg ex] at e
    subst e
    exact key _ hx (.inl ex)
theorem idx_get {p : List Nat} (u : p.Pairwise (· ≠ ·)) {i : Nat} (h : i < p.length) : p.idxOf p[i] = i := by
  have hm : p[i] ∈ p := List.getElem_mem h
  have hl := List.idxOf_lt_length_of_mem hm
  have e : p[p.idxOf p[i]] = p[i] := List.getElem_idxOf hl
  rcases Nat.lt_trichotomy (p.idxOf p[i]) i with z | z | z
  · exact absurd e (List.pairwise_iff_getElem.mp u _ _ hl h z)
  · exact z
  · exact absurd e.symm (List.pairwise_iff_getElem.mp u _ _ h hl z)
theorem Roots.start {p : List Nat} (u : p.Pairwise (· ≠ ·)) : Roots p p := by
  refine ⟨rfl, fun v hv => ⟨hv, ?_⟩⟩
  have hl := List.idxOf_lt_length_of_mem hv
  rw [List.getD_eq_getElem?_getD, List.getElem?_eq_getElem hl]
  exact List.getElem_idxOf hl
theorem Roots.foldl {p : List Nat} : ∀ (ys : List (Nat × Nat)) (r : List Nat), (∀ y ∈ ys, y.1 ∈ p ∧ y.2 ∈ p) → Roots p r → Roots p (ys.foldl (stepM p) r)
  | [], r, _, h => h
  | y :: ys, r, hy, h => by
    rw [List.foldl_cons]
    exact Roots.foldl ys _ (fun z hz => hy z (List.mem_cons_of_mem _ hz)) (h.step (hy y List.mem_cons_self).1 (hy y List.mem_cons_self).2)
theorem roots_marks {p : List Nat} (u : p.Pairwise (· ≠ ·)) {ys : List (Nat × Nat)} (hy : ∀ y ∈ ys, y.1 ∈ p ∧ y.2 ∈ p) : Roots p (marksL p ys) := Roots.foldl ys p hy (.start u)
/-! how many unlike marks -/
section
variable {κ : Type} [DecidableEq κ]
theorem nodup_le {α : Type} [DecidableEq α] : ∀ {l m : List α}, l.Nodup → (∀ x ∈ l, x ∈ m) → l.length ≤ m.length
  | [], m, _, _ => Nat.zero_le _
  | a :: l, m, u, h => by
    rw [List.nodup_cons] at u
    have ha : a ∈ m := h a List.mem_cons_self
    have := nodup_le (l := l) (m := m.erase a) u.2 fun x hx => by
      rw [List.mem_erase_of_ne (by rintro rfl; exact u.1 hx)]
      exact h x (List.mem_cons_of_mem _ hx)
    rw [List.length_erase_of_mem ha] at this
    have : 0 < m.length := List.length_pos_of_mem ha
    rw [List.length_cons]
    omega
theorem nodup_same {α : Type} [DecidableEq α] {l m : List α} (u : l.Nodup) (v : m.Nodup) (h : ∀ x, x ∈ l ↔ x ∈ m) : l.length = m.length :=
  Nat.le_antisymm (nodup_le u fun x => (h x).mp) (nodup_le v fun x => (h x).mpr)
end
/-- the places that have their own mark -/
def fixes (r p : List Nat) : List Nat := p.filter fun c => decide (r.getD (p.idxOf c) 0 = c)
theorem fix_count : ∀ (r p : List Nat), r.length = p.length → ((List.zip r p).filter fun q => decide (q.1 = q.2)).length + nonFix r p = p.length
  | [], [], _ => rfl
  | a :: r, b :: p, h => by
    have ih := fix_count r p (by simpa using h)
    rw [nonFix_cons, List.zip_cons_cons, List.length_cons]
    by_cases e : a = b
    · rw [List.filter_cons_of_pos (by simp [e]), List.length_cons, if_neg (by simp [e])]
      omega
    · rw [List.filter_cons_of_neg (by simp [e]), if_pos e]
      omega
theorem fixes_len {r p : List Nat} (u : p.Pairwise (· ≠ ·)) (h : r.length = p.length) : (fixes r p).length = ((List.zip r p).filter fun q => decide (q.1 = q.2)).length := by
  have e : ((List.zip r p).filter fun q => decide (q.1 = q.2)).map (·.2) = fixes r p := by
    have e2 : p = (List.zip r p).map (·.2) := by
      rw [List.map_snd_zip (by omega)]
    unfold fixes
    conv => rhs; rw [show List.filter (fun c => decide (r.getD (p.idxOf c) 0 = c)) p = List.filter (fun c => decide (r.getD (p.idxOf c) 0 = c)) ((List.zip r p).map (·.2)) from by rw [← e2]]
    rw [List.filter_map]
    congr 1
    refine List.filter_congr fun q hq => ?_
    obtain ⟨i, hi, e⟩ := List.getElem_of_mem hq
    rw [List.getElem_zip] at e
    subst e
    rw [List.length_zip] at hi
    show decide (r[i] = p[i]) = decide (r.getD (p.idxOf p[i]) 0 = p[i])
    rw [idx_get u (by omega), List.getD_eq_getElem?_getD, List.getElem?_eq_getElem (by omega)]
    rfl
  rw [← e, List.length_map]
/-! ### all lots, and the woods among them -/
end K10
set_option Elab.async false
set_option linter.all false
set_option maxRecDepth 100000
namespace K10
open PySem PySem.Spec PyProof.Rows L2 DL
def sg (c : Nat) : Str := ⟨#[c]⟩
theorem sg_inj {a b : Nat} (h : sg a = sg b) : a = b := by
  have e : (sg a).cps.toList = (sg b).cps.toList := by rw [h]
  simpa [sg] using e
theorem lt_sg {a b : Nat} : ltCps (sg a).cps.toList (sg b).cps.toList = decide (a < b) := by
  rw [ltCps_eq]
  exact decide_eq_decide.mpr lt_one
theorem rising_sg : ∀ (ms : List Nat) (a : Nat), risingS (sg a) (ms.map sg) = true → (a :: ms).Pairwise (· ≤ ·)
  | [], a, _ => by simp
  | x :: ms, a, h => by
    have h : (!ltCps (sg x).cps.toList (sg a).cps.toList && risingS (sg x) (ms.map sg)) = true := h
    rw [Bool.and_eq_true, lt_sg] at h
    have ih := rising_sg ms x h.2
    have h1 : a ≤ x := by
      have := h.1
      simp at this
      exact this
    refine List.pairwise_cons.mpr ⟨fun y hy => ?_, ih⟩
    rcases List.mem_cons.mp hy with e | hy
    · rw [e]; exact h1
    · exact Nat.le_trans h1 ((List.pairwise_cons.mp ih).1 y hy)
theorem sorted_sg {ms : List Nat} (h : sortedS (ms.map sg) = true) : ms.Pairwise (· ≤ ·) := by
  cases ms with
  | nil => exact .nil
  | cons a ms => exact rising_sg ms a h
/-- what sorted leaves of signs -/
theorem sorted_signs {ys : List Str} {f : List Nat} (hp : ys.Perm (f.map sg)) (hs : sortedS ys = true) : ∃ ms : List Nat, ms.Perm f ∧ ms.Pairwise (· ≤ ·) ∧ ys = ms.map sg := by
  obtain ⟨ms, h1, rfl⟩ := perm_map hp
  exact ⟨ms, h1, sorted_sg hs, rfl⟩
theorem sorted_same {ms p : List Nat} (h : ms.Perm p) (hs : ms.Pairwise (· ≤ ·)) (hp : p.Pairwise (· < ·)) : ms = p :=
  h.eq_of_pairwise (fun _ _ _ _ a b => Nat.le_antisymm a b) hs (hp.imp fun h => Nat.le_of_lt h)
theorem join_sg (ms : List Nat) : Txt.join ("" : Str) (ms.map sg) = toS ms := by
  have e0 : ("" : Str) = ⟨#[]⟩ := by decide +kernel
  rw [e0]
  unfold Txt.join
  rw [StrLaws.glued_eq_join]
  have := join_nil_signs (toS ms)
  unfold PyProof.Rows.signs at this
  rw [toS_list] at this
  exact this
theorem sum_sg (ms : List Nat) (k : Nat) : ((ms.map sg).map (·.length)).sum + (ms.map sg).length * k = ms.length + ms.length * k := by
  have : (ms.map sg).map (·.length) = List.replicate ms.length 1 := by
    rw [List.map_map]
    exact List.map_const'
  rw [this, List.length_map]
  simp
section
variable {P : Program} {w : World} {K : PySem.W.Frag} {mg : Str → Option Value} {base : Heap} {A : Ad}
theorem ord_case {h : Int → Int → Bool} {k : List Nat → List Nat → Bool} {i j : Int} {F : Bool → Mu → Prop} {μ : Mu} (h1 : h i j = true → F true μ) (h2 : h i j = false → F false μ) : gOrd h k (.int i) (.int j) μ (bK F) := by
  show bK F (.bl (h i j)) μ
  exact bK_case h1 h2
def g_are_places : GC := g_are_letters
def N18 : List Str := ["value"]
theorem sc18 : FnScope N18 ["value"] (defScope (top 18)) := ⟨rfl, rfl, rfl, by decide +kernel, rfl, by decide +kernel, by decide +kernel⟩
theorem ok_are_places (T : Tx K mg A) : FnOk P A.w K mg base CX0 2 A.are_places A.fd_are_places ["value"] (toSp K (g_are_places)) := by
  refine okD T.F_are_places sc18 (fun ds μ R h => ?_) ⟨_, fun cdv A0 outer s H E hr =>
    (dss_cons (ds_if (dw_or (dt_not (dt_val (de_call ((ok_are_letters T).mono (by decide)) hr (by rfl) T.g_are_letters T.F_are_letters.kp T.b_are_letters (da_cons (dv 0) da_nil)))) (dw_or1 (dt_not (dt_chain op_leA sim_ord op_leA sim_ord de_int (de_callB cr_len sim_len (by rfl) T.z_len boot_len (da_cons (dv 0) da_nil)) (de_globI (by rfl) T.c_MOST_PLACES.choose_spec))))).dt (dss_one (ds_ret de_bl)) dss_nil)
      (dss_one (ds_ret (de_cmp (op_eqA hr.units) sim_eq (dv 0) (de_bm PySem.F.plainAttrs_str PySem.F.slot_str_join PySem.F.type_str_join mt_join sim_join ok_str de_str (da_cons (de_callB (DL.cr_sortedT (by rfl)) sim_sortedT (by rfl) T.z_sorted boot_sorted (da_cons (dv 0) da_nil)) da_nil)) (nomark _))))), fun ds μ R h => ?_⟩
  · obtain ⟨p, rfl, _⟩ := h
    rfl
  · obtain ⟨p, rfl, ok, h⟩ := h
    have hz : (toS p).length = p.length := by
      show p.toArray.size = p.length
      rw [List.size_toArray]
    have few := ok.few
    refine ⟨p, rfl, ok, ?_⟩
    have e1 : decide ((1 : Int) ≤ ((toS p).length : Int)) = true := by
      rw [decide_eq_true_eq, hz]
      have := ok.one
      omega
    have e2 : decide (((toS p).length : Int) ≤ 7) = true := by
      rw [decide_eq_true_eq, hz]
      omega
    refine ⟨by rw [hz, sizeLine_eq]; omega, ?_⟩
    refine ord_case (fun e => ?_) (fun e => ?_)
    rotate_left
    · exact absurd (e1.symm.trans e) (by decide)
    rw [if_pos rfl]
    unfold gC
    refine ord_case (fun e => ?_) (fun e => ?_)
    rotate_left
    · exact absurd (e2.symm.trans e) (by decide)
    refine ⟨True.intro, ?_⟩
    refine ⟨by show p.toArray.size ≤ sizeLine; rw [List.size_toArray, sizeLine_eq]; omega, fun ys hp hs => ?_⟩
    rw [toS_list] at hp
    obtain ⟨ms, h1, h2, rfl⟩ := sorted_signs (f := p) hp hs
    have := sorted_same h1 h2 ok.asc
    subst this
    refine ⟨_, rfl, by rw [sum_sg]; have : ("" : Str).length = 0 := (by decide +kernel); rw [this]; omega, ?_⟩
    show R (.bl (id (decide (toS ms = Txt.join ("" : Str) (ms.map sg))))) μ
    rw [join_sg, decide_eq_true rfl]
    exact h
def g_check_places : GC := fun ds μ R => ∃ p : List Nat, ds = [.str (toS p)] ∧ OkPlaces p ∧ R .non μ
def N23 : List Str := ["places"]
theorem sc23 : FnScope N23 ["places"] (defScope (top 23)) := ⟨rfl, rfl, rfl, by decide +kernel, rfl, by decide +kernel, by decide +kernel⟩
theorem ok_check_places (T : Tx K mg A) : FnOk P A.w K mg base CX0 3 A.check_places A.fd_check_places ["places"] (toSp K (g_check_places)) := by
  refine okD T.F_check_places sc23 (fun ds μ R h => ?_) ⟨_, fun cdv A0 outer s H E hr =>
    (dss_one (ds_if (dt_not (dt_val (de_call ((ok_are_places T).mono (by decide)) hr (by rfl) T.g_are_places T.F_are_places.kp T.b_are_places (da_cons (dv 0) da_nil)))) (dss_one ds_never) dss_nil)), fun ds μ R h => ?_⟩
  · obtain ⟨p, rfl, _⟩ := h
    rfl
  · obtain ⟨p, rfl, ok, h⟩ := h
    refine ⟨p, rfl, ok, ?_⟩
    exact h
end
end K10
set_option Elab.async false
set_option linter.all false
set_option maxRecDepth 100000
namespace K10
open PySem PySem.Spec PyProof.Rows L2 DL
section
variable {P : Program} {w : World} {K : PySem.W.Frag} {mg : Str → Option Value} {base : Heap} {A : Ad}
def N29 : List Str := ["self", "places", "ties"]
theorem sc29 : FnScope N29 ["self", "places", "ties"] (defScope (inClass (top 29) 0)) := ⟨rfl, rfl, rfl, by decide +kernel, rfl, by decide +kernel, by decide +kernel⟩
theorem put_ties {x y : D} : dPut "ties" y [(("places" : Str), x)] = [(("places" : Str), x), (("ties" : Str), y)] := by
  have h : ¬ (("places" : Str) = "ties") := by decide +kernel
  show (if ("places" : Str) = "ties" then [(("places" : Str), y)] else (("places" : Str), x) :: dPut "ties" y []) = _
  rw [if_neg h]
  rfl
def g_init (C : Addr) : GC := fun ds μ R => ∃ (a : Addr) (p : List Nat) (ts : List Str), ds = [.adr a, .str (toS p), .tup (ts.map D.str)] ∧ OkPlaces p ∧ OkTies p ts ∧ μ a = some (.ins C []) ∧ R .non (put μ a (.ins C [("places", .str (toS p)), ("ties", .tup (ts.map D.str))]))
theorem ok_Web_init (T : Tx K mg A) : FnOk P A.w K mg base CX0 4 A.Web_init A.fd_Web_init ["self", "places", "ties"] (toSp K (g_init A.Web)) := by
  refine okD T.F_Web_init sc29 (fun ds μ R h => ?_) ⟨_, fun cdv A0 outer s H E hr =>
    (dss_cons (ds_expr (de_call ((ok_check_places T).mono (by decide)) hr (by rfl) T.g_check_places T.F_check_places.kp T.b_check_places (da_cons (dv 1) da_nil)))
      (dss_cons (ds_expr (de_call ((ok_check_ties T).mono (by decide)) hr (by rfl) T.g_check_ties T.F_check_ties.kp T.b_check_ties (da_cons (dv 1) (da_cons (dv 2) da_nil))))
      (dss_cons (ds_fld T.k_Web T.n_places (dv 0) (dv 1))
      (dss_one (ds_fld T.k_Web T.n_ties (dv 0) (dv 2)))))), fun ds μ R h => ?_⟩
  · obtain ⟨a, p, ts, rfl, _⟩ := h
    rfl
  · obtain ⟨a, p, ts, rfl, op, ot, ha, h⟩ := h
    refine ⟨p, rfl, op, ?_⟩
    refine ⟨p, ts, rfl, ot, ?_⟩
    refine ⟨_, ha, by show 0 < 1000; decide, ?_⟩
    refine ⟨_, put_same, by show 1 < 1000; decide, ?_⟩
    show R .non (put (put μ a _) a (.ins A.Web (dPut "ties" (.tup (ts.map D.str)) [(("places" : Str), .str (toS p))])))
    rw [put_put, put_ties]
    exact h
theorem set_cell {μ : Mu} {a : Addr} {ds ds' : List D} {d : D} {R : Mu → Prop} (k : Nat) (ha : μ a = some (.lst ds)) (hk : k < ds.length) (e : ds.set k d = ds') (r : R (put μ a (.lst ds'))) : setK (.adr a) (.int (k : Nat)) d μ R := by
  subst e
  refine ⟨ds, k, ha, ?_, r⟩
  unfold ixN
  rw [if_pos (by omega), if_pos (by omega)]
  simp
theorem if_case {c : Bool} {X Y : Prop} (h1 : c = true → X) (h2 : c = false → Y) : if c = true then X else Y := by
  cases c with
  | true => exact h1 rfl
  | false => exact h2 rfl
def pot (x y z : Int) : MO := .lst [.int x, .int y, .int z]
theorem ints_at {ns : List Int} {k : Nat} (h : k < ns.length) : ∃ n, (ns.map D.int)[k]? = some (.int n) := ⟨ns[k], by rw [List.getElem?_map, List.getElem?_eq_getElem h]; rfl⟩
theorem cut_ints {ns : List Int} {lo hi : Option Int} {i : Nat} {x : D} (h : (DL.cutD (ns.map D.int) lo hi)[i]? = some x) : ∃ n, x = .int n := by
  have hm := List.mem_of_getElem? h
  unfold DL.cutD at hm
  have hm := List.mem_of_mem_drop (List.mem_of_mem_take hm)
  obtain ⟨n, _, e⟩ := List.mem_map.mp hm
  exact ⟨n, e.symm⟩
theorem ix_cell {μ : Mu} {a : Addr} {ds : List D} {d : D} {R : KD} (j : Nat) (ha : μ a = some (.lst ds)) (h : ds[j]? = some d) (r : R d μ) : gIx (.adr a) (.int (j : Nat)) μ R := by
  unfold gIx
  simp only [ha]
  exact atK_nat h r
end
end K10
set_option Elab.async false
set_option linter.all false
set_option maxRecDepth 100000
set_option Elab.async false
set_option linter.all false
set_option maxRecDepth 100000
namespace K10
open PySem PySem.Spec PyProof.Rows L2 DL
section
variable {P : Program} {w : World} {K : PySem.W.Frag} {mg : Str → Option Value} {base : Heap} {A : Ad}
/-! the heads of places as a dict -/
theorem min_sg (a b : Nat) : (if (sg b).cps.toList < (sg a).cps.toList then sg b else sg a) = sg (min a b) := by
  have c : (sg b).cps.toList < (sg a).cps.toList ↔ b < a := lt_one
  by_cases h : b < a
  · rw [if_pos (c.mpr h), Nat.min_eq_right (by omega)]
  · rw [if_neg (fun z => h (c.mp z)), Nat.min_eq_left (by omega)]
theorem max_sg (a b : Nat) : (if (sg a).cps.toList < (sg b).cps.toList then sg b else sg a) = sg (max a b) := by
  have c : (sg a).cps.toList < (sg b).cps.toList ↔ a < b := lt_one
  by_cases h : a < b
  · rw [if_pos (c.mpr h), Nat.max_eq_right (by omega)]
  · rw [if_neg (fun z => h (c.mp z)), Nat.max_eq_left (by omega)]
def hF (g : Nat → Nat) : D → D
  | .str x => .str (sg (g (x.cps.toList.getD 0 0)))
  | d => d
structure OkEnds (p : List Nat) (ts : List Str) : Prop where
  ties : ∀ y ∈ ts, y.cps.size = 2 ∧ (ends y).1 ∈ p ∧ (ends y).2 ∈ p
end
end K10
set_option Elab.async false
set_option linter.all false
set_option maxRecDepth 100000
namespace K10
open PySem PySem.Spec PyProof.Rows L2 DL
/-! ### both sides' trees are the same -/
theorem rank_le {p : List Nat} (u : p.Pairwise (· ≠ ·)) (ts : List Str) (lot : List Nat) : rankOf p ts lot ≤ lot.length := by
  have := nonFix_le u (tiesOf ts lot)
  have e : (tiesOf ts lot).length = lot.length := List.length_map _
  rw [e] at this
  exact this
/-! counts of trees with a tie -/
end K10
namespace K10
open PySem PySem.Spec PyProof.Rows L2 DL
section
variable {P : Program} {w : World} {K : PySem.W.Frag} {mg : Str → Option Value} {base : Heap} {A : Ad}
theorem cell_ok {μ : Mu} {a : Addr} {ds : List D} (h : μ a = some (.lst ds)) : okCell (.adr a) μ := by
  unfold okCell
  simp only [h]
end
end K10
set_option Elab.async false
set_option linter.all false
set_option maxRecDepth 100000
namespace K10
open PySem PySem.Spec PyProof.Rows L2 DL
section
variable {P : Program} {w : World} {K : PySem.W.Frag} {mg : Str → Option Value} {base : Heap} {A : Ad}
/-- the pot at a, all else that was there as it was -/
structure Sa (μ μ1 : Mu) (a : Addr) : Prop where
  keep : ∀ c o, c ≠ a → μ c = some o → μ1 c = some o
  has : ∃ x y z, μ1 a = some (pot x y z)
/-- a new cell at b -/
structure Sc (μ μ1 : Mu) (a b : Addr) (l : List D) : Prop where
  at_ : μ1 b = some (.lst l)
  new : μ b = none
  ne : b ≠ a
section
variable {μ μ1 : Mu} {a b c : Addr} {l m : List D}
theorem Sa.draw (s : Sa μ μ1 a) (x y z : Int) : Sa μ (put μ1 a (pot x y z)) a :=
  ⟨fun c o hc e => by rw [put_ne hc]; exact s.keep c o hc e, ⟨x, y, z, put_same⟩⟩
theorem Sc.draw (s : Sc μ μ1 a b l) (x y z : Int) : Sc μ (put μ1 a (pot x y z)) a b l :=
  ⟨by rw [put_ne s.ne]; exact s.at_, s.new, s.ne⟩
theorem Sa.cell (s : Sa μ μ1 a) (n : μ b = none) (ne : b ≠ a) (o : MO) : Sa μ (put μ1 b o) a := by
  obtain ⟨x, y, z, e⟩ := s.has
  refine ⟨fun c o' hc e' => ?_, ⟨x, y, z, by rw [put_ne ne.symm]; exact e⟩⟩
  rw [put_ne (fun q => by rw [q, n] at e'; cases e')]
  exact s.keep c o' hc e'
theorem Sa.new (s : Sa μ μ1 a) (n : μ1 b = none) : μ b = none ∧ b ≠ a := by
  obtain ⟨x, y, z, e⟩ := s.has
  have ne : b ≠ a := fun q => by rw [q, e] at n; cases n
  refine ⟨?_, ne⟩
  cases h : μ b with
  | none => rfl
  | some o =>
    rw [s.keep b o ne h] at n
    cases n
theorem Sc.same (s : Sc μ μ1 a b l) : Sc μ (put μ1 b (.lst m)) a b m := ⟨put_same, s.new, s.ne⟩
theorem Sc.other (s : Sc μ μ1 a b l) {o : MO} (h : b ≠ c) : Sc μ (put μ1 c o) a b l := ⟨by rw [put_ne h]; exact s.at_, s.new, s.ne⟩
theorem Sc.apart {l' : List D} (s : Sc μ μ1 a b l) (n : μ1 c = none) : b ≠ c := fun q => by
  have := s.at_
  rw [q, n] at this
  cases this
theorem Sa.back (s : Sa μ μ1 a) {d : D} {R : KD} (h : ∀ x y z : Int, R d (put μ a (pot x y z))) : freed R d μ1 := by
  obtain ⟨x, y, z, e⟩ := s.has
  refine ⟨d, _, .less fun c o hc => ?_, h x y z⟩
  by_cases q : c = a
  · rw [q, put_same] at hc
    rw [q, e]
    exact hc
  · rw [put_ne q] at hc
    exact s.keep c o q hc
end
def gLenC : G1 := fun x μ R => ∃ a ds, x = .adr a ∧ μ a = some (.lst ds) ∧ R (.int (ds.length : Nat)) μ
theorem sim_lenC {K : PySem.W.Frag} : SimC K (rLenA K) (g1 gLenC) := fun vs ds H μ Q R rm rl q f => by
  match ds, q with
  | [d], q =>
    obtain ⟨a, ds, rfl, e, q⟩ := q
    refine sim_len vs _ H μ Q R rm rl ?_ f
    show gLen1 (.adr a) μ R
    unfold gLen1
    simp only [e]
    exact q
def gTupC : G1 := fun x μ R => ∃ a ds, x = .adr a ∧ μ a = some (.lst ds) ∧ R (.tup ds) μ
theorem sim_tupC {K : PySem.W.Frag} : SimC K (fun xs H Q => ∃ p ys, xs = [.ref p] ∧ ((SqL K H p ys ∧ ∀ l, H l = none → Q (.ref l) (upd H l (.tup ys))) ∨ (SqT K H p ys ∧ Q (.ref p) H))) (g1 gTupC) := fun vs ds H μ Q R rm rl q f => by
  match ds, q with
  | [d], q =>
    obtain ⟨a, ds, rfl, e, q⟩ := q
    refine sim_tuple vs _ H μ Q R rm rl ?_ f
    show gTuple1 (.adr a) μ R
    unfold gTuple1
    simp only [e]
    exact q
def gSrtC : G1 := fun x μ R => ∃ a ss, x = .adr a ∧ μ a = some (.lst (List.map D.str ss)) ∧ ss.length < 64 ∧ ∀ ys : List Str, ys.Perm ss → sortedS ys = true → R (.lst (List.map D.str ys)) μ
theorem sim_srtC {K : PySem.W.Frag} : SimC K (rSortedS K) (g1 gSrtC) := fun vs ds H μ Q R rm rl q f => by
  match ds, q with
  | [d], q =>
    obtain ⟨a, ss, rfl, e, q⟩ := q
    refine sim_sortedS vs _ H μ Q R rm rl ?_ f
    show gSortedS1 (.adr a) μ R
    unfold gSortedS1
    simp only [e]
    exact ⟨ss, rfl, q⟩
theorem erase_map {α β : Type} (f : α → β) : ∀ (l : List α) (i : Nat), (l.map f).eraseIdx i = (l.eraseIdx i).map f
  | [], _ => rfl
  | _ :: _, 0 => rfl
  | a :: l, i + 1 => by
    show f a :: (l.map f).eraseIdx i = f a :: (l.eraseIdx i).map f
    rw [erase_map f l i]
theorem erase_perm {α : Type} : ∀ (l : List α) (i : Nat) (h : i < l.length), (l[i] :: l.eraseIdx i).Perm l
  | a :: l, 0, _ => .refl _
  | a :: l, i + 1, h => by
    have := erase_perm l i (by simpa using h)
    exact (List.Perm.swap _ _ _).trans (this.cons a)
def chs (l : List Nat) : List D := l.map fun c => .str (sg c)
def eight : List Nat := [97, 98, 99, 100, 101, 102, 103, 104]
theorem eight_signs : DL.signs ("abcdefgh" : Str) = chs eight := by
  unfold DL.signs
  have e : ("abcdefgh" : Str).cps.toList = eight := by decide +kernel
  rw [e]
  rfl
def yTie (a b : Nat) : Str := ⟨#[a, b]⟩
theorem sg_add (a b : Nat) : sg a ++ sg b = yTie a b := rfl
structure OkT (p : List Nat) (ts : List Str) : Prop where
  ties : ∀ y ∈ ts, ∃ a b, y = yTie a b ∧ a ∈ p ∧ b ∈ p ∧ a ≤ b
theorem OkT.ok {p : List Nat} {ts : List Str} (h : OkT p ts) (l : ts.length ≤ 11) : OkTies p ts := ⟨l, h.ties⟩
theorem OkT.ends {p : List Nat} {ts : List Str} (h : OkT p ts) : OkEnds p ts := ⟨fun y hy => by
  obtain ⟨a, b, rfl, ha, hb, _⟩ := h.ties y hy
  exact ⟨rfl, ha, hb⟩⟩
theorem OkT.put {p : List Nat} {ts : List Str} (h : OkT p ts) {a b : Nat} (ha : a ∈ p) (hb : b ∈ p) (k : Nat) : OkT p (ts.take k ++ [yTie (min a b) (max a b)] ++ ts.drop k) := ⟨fun y hy => by
  rcases List.mem_append.mp hy with q | q
  · rcases List.mem_append.mp q with q | q
    · exact h.ties y (List.mem_of_mem_take q)
    · rw [List.mem_singleton.mp q]
      have h1 : min a b ∈ p := by
        by_cases e : a ≤ b
        · rw [Nat.min_eq_left e]; exact ha
        · rw [Nat.min_eq_right (by omega)]; exact hb
      have h2 : max a b ∈ p := by
        by_cases e : a ≤ b
        · rw [Nat.max_eq_right e]; exact hb
        · rw [Nat.max_eq_left (by omega)]; exact ha
      exact ⟨_, _, rfl, h1, h2, by omega⟩
  · exact h.ties y (List.mem_of_mem_drop q)⟩
def lowS (a b : Nat) : Str := if (sg b).cps.toList < (sg a).cps.toList then sg b else sg a
def highS (a b : Nat) : Str := if (sg a).cps.toList < (sg b).cps.toList then sg b else sg a
end
end K10
set_option Elab.async false
set_option linter.all false
set_option maxRecDepth 100000
namespace K10
open PySem PySem.Spec PyProof.Rows L2 DL
section
variable {P : Program} {w : World} {K : PySem.W.Frag} {mg : Str → Option Value} {base : Heap} {A : Ad}
/-! what repr is asked to show -/
structure Sh (d : PyData) (k w : Nat) : Prop where
  lay : PyData.canLay0 d = true
  shrt : PyData.intsShort 13 d = true
  show_ : PyData.showable d = true
  dp : PyData.depth d ≤ k
  wt : PyData.weight d ≤ w
theorem Sh.ok {d : PyData} {k w : Nat} (h : Sh d k w) (hk : k ≤ 20) (hw : w ≤ 2 ^ 20) : ShowOk d := by
  refine ⟨?_, h.shrt, h.show_, PyData.hasDict_of_canLay d h.lay, Nat.le_trans h.dp hk⟩
  unfold PyData.layable0
  rw [h.lay, decide_eq_true (show d.depth ≤ 64 by have := h.dp; omega), decide_eq_true (show d.weight ≤ 2 ^ 20 by have := h.wt; omega)]
  rfl
theorem Sh.many {k w : Nat} : ∀ {xs : List PyData}, (∀ x ∈ xs, Sh x k w) → PyData.canLayAll0 xs = true ∧ PyData.intsShortAll 13 xs = true ∧ PyData.showableAll xs = true ∧ PyData.depthAll xs ≤ k ∧ PyData.weightAll xs ≤ xs.length * (w + 1)
  | [], _ => by
    refine ⟨by unfold PyData.canLayAll0; rfl, by unfold PyData.intsShortAll; rfl, by unfold PyData.showableAll; rfl, by unfold PyData.depthAll; omega, by unfold PyData.weightAll; omega⟩
  | x :: xs, h => by
    have hx := h x List.mem_cons_self
    obtain ⟨h1, h2, h3, h4, h5⟩ := Sh.many (xs := xs) fun y hy => h y (List.mem_cons_of_mem _ hy)
    refine ⟨?_, ?_, ?_, ?_, ?_⟩
    · unfold PyData.canLayAll0
      rw [hx.lay, h1]
      rfl
    · unfold PyData.intsShortAll
      rw [hx.shrt, h2]
      rfl
    · unfold PyData.showableAll
      rw [hx.show_, h3]
      rfl
    · unfold PyData.depthAll
      have := hx.dp
      omega
    · unfold PyData.weightAll
      have := hx.wt
      rw [List.length_cons, Nat.succ_mul]
      omega
theorem Sh.tup {k w n : Nat} {xs : List PyData} (h : ∀ x ∈ xs, Sh x k w) (l : xs.length ≤ n) : Sh (.tuple xs) (k + 1) (n * (w + 1)) := by
  obtain ⟨h1, h2, h3, h4, h5⟩ := Sh.many h
  have := Nat.mul_le_mul_right (w + 1) l
  refine ⟨by unfold PyData.canLay0; exact h1, by unfold PyData.intsShort; exact h2, by unfold PyData.showable; exact h3, by unfold PyData.depth; omega, by unfold PyData.weight; omega⟩
theorem Sh.lst {k w n : Nat} {xs : List PyData} (h : ∀ x ∈ xs, Sh x k w) (l : xs.length ≤ n) : Sh (.list xs) (k + 1) (n * (w + 1)) := by
  obtain ⟨h1, h2, h3, h4, h5⟩ := Sh.many h
  have := Nat.mul_le_mul_right (w + 1) l
  refine ⟨by unfold PyData.canLay0; exact h1, by unfold PyData.intsShort; exact h2, by unfold PyData.showable; exact h3, by unfold PyData.depth; omega, by unfold PyData.weight; omega⟩
theorem Sh.mono {d : PyData} {k w k' w' : Nat} (h : Sh d k w) (hk : k ≤ k') (hw : w ≤ w') : Sh d k' w' := ⟨h.lay, h.shrt, h.show_, Nat.le_trans h.dp hk, Nat.le_trans h.wt hw⟩
theorem log_small {n : Nat} (h : n < 8192) : n.log2 < 13 := by
  by_cases e : n = 0
  · subst e
    decide
  · exact (Nat.log2_lt e).mpr h
theorem Sh.int {n : Nat} (h : n < 8192) : Sh (.int (n : Nat)) 0 13 := by
  have l := log_small h
  refine ⟨by unfold PyData.canLay0; rfl, ?_, ?_, by unfold PyData.depth; omega, ?_⟩
  · unfold PyData.intsShort
    rw [decide_eq_true_eq]
    exact PyData.shown_int_le (by show n < 10 ^ 12; omega)
  · unfold PyData.showable
    rw [decide_eq_true_eq]
    show n.log2 < 1920
    omega
  · unfold PyData.weight
    split
    · omega
    · show n.log2 + 1 ≤ 13
      omega
theorem Sh.str {x : Str} (h : ∀ c ∈ x.cps.toList, c < 0x110000) (l : x.cps.size ≤ 13) : Sh (.str x) 0 13 := by
  refine ⟨?_, by unfold PyData.intsShort; rfl, by unfold PyData.showable; rfl, by unfold PyData.depth; omega, by unfold PyData.weight; exact l⟩
  unfold PyData.canLay0 PyData.strOk
  rw [Array.all_eq_true]
  intro i hi
  have := h _ (Array.getElem_mem_toList hi)
  simpa using this
/-! the counts that the law compares -/
theorem OkT.web {p : List Nat} {ts : List Str} (h : OkT p ts) (hp : OkPlaces p) (l : ts.length ≤ 11) : OkWeb p ts := ⟨by have := hp.few; omega, l, h.ends.ties⟩
theorem Sh.shaped {d : PyData} {k w : Nat} (h : Sh d k w) (hk : k ≤ 64) : SeqAt.shaped d = true := by
  unfold SeqAt.shaped
  rw [h.lay, decide_eq_true (Nat.le_trans h.dp hk)]
  rfl
theorem Sh.eqv {d : PyData} {k w : Nat} (h : Sh d k w) : (!PyData.eqv d d) = false := by
  rw [SeqAt.eqv_refl d h.lay]
  rfl
def g_L_right : GC := fun ds μ R => ∃ (a : Addr) (x y z : Int), ds = [.adr a] ∧ μ a = some (pot x y z) ∧ ∀ x y z : Int, R (.bl true) (put μ a (pot x y z))
end
end K10
set_option Elab.async false
set_option linter.all false
set_option maxRecDepth 100000
namespace K10
open PySem PySem.Spec PyProof.Rows L2 DL
/-! ### a tree there is -/
theorem step_same {p r : List Nat} {y : Nat × Nat} (e : r.getD (p.idxOf y.1) 0 = r.getD (p.idxOf y.2) 0) : stepM p r y = r := by
  unfold stepM
  rw [e]
  have : (fun x : Nat => if x = max (r.getD (p.idxOf y.2) 0) (r.getD (p.idxOf y.2) 0) then min (r.getD (p.idxOf y.2) 0) (r.getD (p.idxOf y.2) 0) else x) = fun x => x := by
    funext x
    split
    · rename_i h
      rw [h]
      omega
    · rfl
  show r.map (fun x : Nat => if x = max (r.getD (p.idxOf y.2) 0) (r.getD (p.idxOf y.2) 0) then min (r.getD (p.idxOf y.2) 0) (r.getD (p.idxOf y.2) 0) else x) = r
  rw [this, List.map_id']
theorem step_up {p r : List Nat} (u : p.Pairwise (· ≠ ·)) (h : Roots p r) {y : Nat × Nat} (h1 : y.1 ∈ p) (h2 : y.2 ∈ p) (ne : r.getD (p.idxOf y.1) 0 ≠ r.getD (p.idxOf y.2) 0) : nonFix r p + 1 ≤ nonFix (stepM p r y) p := by
  have e1 := fix_count r p h.len
  have hs := h.step h1 h2
  have e2 := fix_count (stepM p r y) p hs.len
  rw [← fixes_len u h.len] at e1
  rw [← fixes_len u hs.len] at e2
  have l1 : p.idxOf y.1 < r.length := by rw [h.len]; exact List.idxOf_lt_length_of_mem h1
  have l2 : p.idxOf y.2 < r.length := by rw [h.len]; exact List.idxOf_lt_length_of_mem h2
  obtain ⟨a1, a2⟩ := h.own _ (getD_in l1)
  obtain ⟨b1, b2⟩ := h.own _ (getD_in l2)
  have key : ∀ c, c ∈ p → (stepM p r y).getD (p.idxOf c) 0 = (fun x => if x = max (r.getD (p.idxOf y.1) 0) (r.getD (p.idxOf y.2) 0) then min (r.getD (p.idxOf y.1) 0) (r.getD (p.idxOf y.2) 0) else x) (r.getD (p.idxOf c) 0) := fun c hc => by
    unfold stepM
    exact getD_map_ne (by rw [h.len]; exact List.idxOf_lt_length_of_mem hc)
  generalize r.getD (p.idxOf y.1) 0 = a at *
  generalize r.getD (p.idxOf y.2) 0 = b at *
  have mx : max a b ∈ p ∧ r.getD (p.idxOf (max a b)) 0 = max a b := by
    rcases Nat.le_total a b with q | q
    · rw [Nat.max_eq_right q]
      exact ⟨b1, b2⟩
    · rw [Nat.max_eq_left q]
      exact ⟨a1, a2⟩
  have mn : r.getD (p.idxOf (min a b)) 0 = min a b := by
    rcases Nat.le_total a b with q | q
    · rw [Nat.min_eq_left q]
      exact a2
    · rw [Nat.min_eq_right q]
      exact b2
  have lt : min a b < max a b := by omega
  have un : p.Nodup := u
  have := nodup_le (l := max a b :: fixes (stepM p r y) p) (m := fixes r p) (by
    refine List.nodup_cons.mpr ⟨fun hm => ?_, un.filter _⟩
    obtain ⟨k1, k2⟩ := List.mem_filter.mp hm
    have k2 := of_decide_eq_true k2
    rw [key _ k1, mx.2] at k2
    have k2 : (if max a b = max a b then min a b else max a b) = max a b := k2
    rw [if_pos rfl] at k2
    omega) (fun c hc => by
    rcases List.mem_cons.mp hc with e | hc
    · rw [e]
      exact List.mem_filter.mpr ⟨mx.1, decide_eq_true mx.2⟩
    · obtain ⟨k1, k2⟩ := List.mem_filter.mp hc
      have k2 := of_decide_eq_true k2
      rw [key _ k1] at k2
      have k2 : (if r.getD (p.idxOf c) 0 = max a b then min a b else r.getD (p.idxOf c) 0) = c := k2
      refine List.mem_filter.mpr ⟨k1, decide_eq_true ?_⟩
      by_cases e : r.getD (p.idxOf c) 0 = max a b
      · rw [if_pos e] at k2
        rw [← k2, mn] at e
        omega
      · rwa [if_neg e] at k2)
  rw [List.length_cons] at this
  omega
theorem ties_snoc (ts : List Str) (lot : List Nat) (i : Nat) : tiesOf ts (lot ++ [i]) = tiesOf ts lot ++ [ends (ts.getD i Str.empty)] := by
  unfold tiesOf
  rw [List.map_append]
  rfl
end K10
set_option Elab.async false
set_option linter.all false
set_option maxRecDepth 100000
namespace K10
open PySem PySem.Spec PyProof.Rows L2 DL
/-! ### marks tell what is joined, whatever the order of the ties -/
def markOf (p r : List Nat) (a : Nat) : Nat := r.getD (p.idxOf a) 0
inductive Conn (ys : List (Nat × Nat)) : Nat → Nat → Prop
  | refl (a : Nat) : Conn ys a a
  | tie {y : Nat × Nat} (h : y ∈ ys) : Conn ys y.1 y.2
  | symm {a b : Nat} (h : Conn ys a b) : Conn ys b a
  | trans {a b c : Nat} (h : Conn ys a b) (k : Conn ys b c) : Conn ys a c
theorem Conn.mono {ys zs : List (Nat × Nat)} (s : ∀ y ∈ ys, y ∈ zs) {a b : Nat} (h : Conn ys a b) : Conn zs a b := by
  induction h with
  | refl a => exact .refl a
  | tie h => exact .tie (s _ h)
  | symm _ ih => exact ih.symm
  | trans _ _ i1 i2 => exact i1.trans i2
theorem mark_step {p r : List Nat} (hl : r.length = p.length) {y : Nat × Nat} {a : Nat} (ha : a ∈ p) :
    markOf p (stepM p r y) a = if markOf p r a = max (markOf p r y.1) (markOf p r y.2) then min (markOf p r y.1) (markOf p r y.2) else markOf p r a := by
  unfold markOf stepM
  rw [getD_map_ne (by rw [hl]; exact List.idxOf_lt_length_of_mem ha)]
theorem mark_self {p : List Nat} {a : Nat} (ha : a ∈ p) : markOf p p a = a := by
  unfold markOf
  rw [List.getD_eq_getElem?_getD, List.getElem?_eq_getElem (List.idxOf_lt_length_of_mem ha), List.getElem_idxOf]
  rfl
theorem marks_len (p : List Nat) (ys : List (Nat × Nat)) : (marksL p ys).length = p.length := foldl_len p ys p
theorem snoc_ind {α : Type} {P : List α → Prop} (h0 : P []) (h1 : ∀ l a, P l → P (l ++ [a])) : ∀ l, P l := fun l => by
  have : ∀ (n : Nat) (l : List α), l.length = n → P l := by
    intro n
    induction n with
    | zero => intro l hl; rw [List.eq_nil_of_length_eq_zero hl]; exact h0
    | succ n ih =>
      intro l hl
      have hn : l ≠ [] := fun e => by rw [e] at hl; cases hl
      rw [← List.dropLast_concat_getLast hn]
      exact h1 _ _ (ih _ (by rw [List.length_dropLast, hl]; rfl))
  exact this l.length l rfl
def InP (p : List Nat) (ys : List (Nat × Nat)) : Prop := ∀ y ∈ ys, y.1 ∈ p ∧ y.2 ∈ p
theorem InP.left {p : List Nat} {ys : List (Nat × Nat)} {y : Nat × Nat} (h : InP p (ys ++ [y])) : InP p ys := fun z hz => h z (List.mem_append.mpr (.inl hz))
theorem InP.last {p : List Nat} {ys : List (Nat × Nat)} {y : Nat × Nat} (h : InP p (ys ++ [y])) : y.1 ∈ p ∧ y.2 ∈ p := h y (List.mem_append.mpr (.inr (List.mem_singleton.mpr rfl)))
/-- ties join their ends -/
theorem tie_marks {p : List Nat} : ∀ ys, InP p ys → ∀ y ∈ ys, markOf p (marksL p ys) y.1 = markOf p (marksL p ys) y.2 := by
  refine snoc_ind (P := fun ys => InP p ys → ∀ y ∈ ys, markOf p (marksL p ys) y.1 = markOf p (marksL p ys) y.2) (fun _ y hy => by cases hy) ?_
  intro ys z ih hp y hy
  obtain ⟨m1, m2⟩ := hp y hy
  rw [marksL_snoc, mark_step (marks_len p ys) m1, mark_step (marks_len p ys) m2]
  rcases List.mem_append.mp hy with q | q
  · rw [ih hp.left y q]
  · rw [List.mem_singleton.mp q]
    generalize markOf p (marksL p ys) z.1 = a
    generalize markOf p (marksL p ys) z.2 = b
    split <;> split <;> omega
theorem conn_marks {p : List Nat} {ys : List (Nat × Nat)} (hp : InP p ys) {a b : Nat} (h : Conn ys a b) : markOf p (marksL p ys) a = markOf p (marksL p ys) b := by
  induction h with
  | refl a => rfl
  | tie h => exact tie_marks ys hp _ h
  | symm _ ih => exact ih.symm
  | trans _ _ i1 i2 => exact i1.trans i2
theorem marks_conn {p : List Nat} : ∀ ys, InP p ys → ∀ a b, a ∈ p → b ∈ p → markOf p (marksL p ys) a = markOf p (marksL p ys) b → Conn ys a b := by
  refine snoc_ind (P := fun ys => InP p ys → ∀ a b, a ∈ p → b ∈ p → markOf p (marksL p ys) a = markOf p (marksL p ys) b → Conn ys a b) ?_ ?_
  · intro _ a b ha hb e
    have e : markOf p p a = markOf p p b := e
    rw [mark_self ha, mark_self hb] at e
    rw [e]
    exact .refl b
  · intro ys z ih hp a b ha hb e
    have sub : ∀ y ∈ ys, y ∈ ys ++ [z] := fun y hy => List.mem_append.mpr (.inl hy)
    obtain ⟨z1, z2⟩ := hp.last
    have hz : Conn (ys ++ [z]) z.1 z.2 := .tie (List.mem_append.mpr (.inr (List.mem_singleton.mpr rfl)))
    rw [marksL_snoc, mark_step (marks_len p ys) ha, mark_step (marks_len p ys) hb] at e
    have key : ∀ c d, c ∈ p → d ∈ p → markOf p (marksL p ys) c = markOf p (marksL p ys) d → Conn (ys ++ [z]) c d := fun c d hc hd h => (ih hp.left c d hc hd h).mono sub
    have ka1 := key a z.1 ha z1
    have ka2 := key a z.2 ha z2
    have kb1 := key b z.1 hb z1
    have kb2 := key b z.2 hb z2
    have kab := key a b ha hb
    generalize markOf p (marksL p ys) a = x at e ka1 ka2 kab
    generalize markOf p (marksL p ys) b = y at e kb1 kb2 kab
    generalize markOf p (marksL p ys) z.1 = m at e ka1 ka2 kb1 kb2
    generalize markOf p (marksL p ys) z.2 = n at e ka1 ka2 kb1 kb2
    by_cases exy : x = y
    · exact kab exy
    · have h : (x = m ∧ y = n) ∨ (x = n ∧ y = m) := by
        split at e <;> split at e <;> omega
      rcases h with ⟨h1, h2⟩ | ⟨h1, h2⟩
      · exact ((ka1 h1).trans hz).trans (kb2 h2).symm
      · exact ((ka2 h1).trans hz.symm).trans (kb1 h2).symm
theorem mark_le {p : List Nat} : ∀ ys, InP p ys → ∀ a ∈ p, markOf p (marksL p ys) a ≤ a := by
  refine snoc_ind (P := fun ys => InP p ys → ∀ a ∈ p, markOf p (marksL p ys) a ≤ a) (fun _ a ha => by show markOf p p a ≤ a; rw [mark_self ha]; exact Nat.le_refl _) ?_
  intro ys z ih hp a ha
  rw [marksL_snoc, mark_step (marks_len p ys) ha]
  have := ih hp.left a ha
  split <;> omega
theorem mark_root {p : List Nat} (u : p.Pairwise (· ≠ ·)) {ys : List (Nat × Nat)} (hp : InP p ys) {a : Nat} (ha : a ∈ p) : markOf p (marksL p ys) a ∈ p ∧ markOf p (marksL p ys) (markOf p (marksL p ys) a) = markOf p (marksL p ys) a :=
  (roots_marks u hp).own _ (getD_in (by rw [marks_len]; exact List.idxOf_lt_length_of_mem ha))
/-- the marks hang on what is joined alone -/
theorem same_marks {p : List Nat} (u : p.Pairwise (· ≠ ·)) {ys zs : List (Nat × Nat)} (hy : InP p ys) (hz : InP p zs) (h1 : ∀ y ∈ ys, y ∈ zs) (h2 : ∀ y ∈ zs, y ∈ ys) : marksL p ys = marksL p zs := by
  have le : ∀ {ys zs : List (Nat × Nat)}, InP p ys → InP p zs → (∀ y ∈ ys, y ∈ zs) → ∀ a ∈ p, markOf p (marksL p zs) a ≤ markOf p (marksL p ys) a := fun {ys zs} hy hz s a ha => by
    obtain ⟨r1, r2⟩ := mark_root u hy ha
    have c := (marks_conn ys hy a _ ha r1 r2.symm).mono s
    rw [conn_marks hz c]
    exact mark_le zs hz _ r1
  apply List.ext_getElem (by rw [marks_len, marks_len])
  intro i h3 h4
  have hi : i < p.length := by rwa [marks_len] at h3
  have e := Nat.le_antisymm (le hz hy h2 p[i] (List.getElem_mem hi)) (le hy hz h1 p[i] (List.getElem_mem hi))
  unfold markOf at e
  rw [idx_get u hi, List.getD_eq_getElem?_getD, List.getD_eq_getElem?_getD, List.getElem?_eq_getElem h3, List.getElem?_eq_getElem h4] at e
  exact e
/-! ### ranks of lots in any order -/
def Ends (p : List Nat) (ts : List Str) : Prop := ∀ y ∈ ts, (ends y).1 ∈ p ∧ (ends y).2 ∈ p
theorem ties_in {p : List Nat} {ts : List Str} (he : Ends p ts) {v : List Nat} (hv : ∀ k ∈ v, k < ts.length) : InP p (tiesOf ts v) := fun y hy => by
  obtain ⟨i, hi, e⟩ := List.mem_map.mp hy
  have hi2 := hv i hi
  have : ts.getD i Str.empty = ts[i] := by rw [List.getD_eq_getElem?_getD, List.getElem?_eq_getElem hi2]; rfl
  rw [← e, this]
  exact he _ (List.getElem_mem _)
theorem lot_marks {p : List Nat} (u : p.Pairwise (· ≠ ·)) {ts : List Str} (he : Ends p ts) {v w : List Nat} (hv : ∀ k ∈ v, k < ts.length) (hw : ∀ k ∈ w, k < ts.length) (h1 : ∀ k ∈ v, k ∈ w) (h2 : ∀ k ∈ w, k ∈ v) : marksL p (tiesOf ts v) = marksL p (tiesOf ts w) := by
  refine same_marks u (ties_in he hv) (ties_in he hw) (fun y hy => ?_) (fun y hy => ?_)
  · obtain ⟨i, hi, e⟩ := List.mem_map.mp hy
    exact List.mem_map.mpr ⟨i, h1 i hi, e⟩
  · obtain ⟨i, hi, e⟩ := List.mem_map.mp hy
    exact List.mem_map.mpr ⟨i, h2 i hi, e⟩
theorem lot_rank {p : List Nat} (u : p.Pairwise (· ≠ ·)) {ts : List Str} (he : Ends p ts) {v w : List Nat} (hv : ∀ k ∈ v, k < ts.length) (hw : ∀ k ∈ w, k < ts.length) (h1 : ∀ k ∈ v, k ∈ w) (h2 : ∀ k ∈ w, k ∈ v) : rankOf p ts v = rankOf p ts w := by
  show nonFix (marksL p (tiesOf ts v)) p = nonFix (marksL p (tiesOf ts w)) p
  rw [lot_marks u he hv hw h1 h2]
/-- whether a tie's ends are not joined by a lot -/
def partsL (p : List Nat) (ts : List Str) (v : List Nat) (k : Nat) : Bool := decide (markOf p (marksL p (tiesOf ts v)) (ends (ts.getD k Str.empty)).1 ≠ markOf p (marksL p (tiesOf ts v)) (ends (ts.getD k Str.empty)).2)
theorem rank_more {p : List Nat} (u : p.Pairwise (· ≠ ·)) {ts : List Str} (he : Ends p ts) {v : List Nat} {k : Nat} (hv : ∀ j ∈ v, j < ts.length) (hk : k < ts.length) : rankOf p ts (v ++ [k]) = rankOf p ts v + if partsL p ts v k = true then 1 else 0 := by
  have et : ts.getD k Str.empty = ts[k] := by rw [List.getD_eq_getElem?_getD, List.getElem?_eq_getElem hk]; rfl
  obtain ⟨m1, m2⟩ := he _ (List.getElem_mem hk)
  show nonFix (marksL p (tiesOf ts (v ++ [k]))) p = nonFix (marksL p (tiesOf ts v)) p + _
  rw [ties_snoc, marksL_snoc]
  by_cases c : markOf p (marksL p (tiesOf ts v)) (ends (ts.getD k Str.empty)).1 = markOf p (marksL p (tiesOf ts v)) (ends (ts.getD k Str.empty)).2
  · have hf : partsL p ts v k = false := decide_eq_false (fun h => h c)
    rw [hf, step_same c]
    rfl
  · have hf : partsL p ts v k = true := decide_eq_true c
    rw [hf, if_pos rfl]
    refine Nat.le_antisymm ?_ ?_
    · have := nonFix_step u (marksL p (tiesOf ts v)) (ends (ts.getD k Str.empty))
      exact this
    · rw [et] at c ⊢
      exact step_up u (roots_marks u (ties_in he hv)) m1 m2 c
/-! ### trees, and exchanges -/
structure IsTree (p : List Nat) (ts : List Str) (r : Nat) (v : List Nat) : Prop where
  asc : v.Pairwise (· < ·)
  few : ∀ k ∈ v, k < ts.length
  len : v.length = r
  rank : rankOf p ts v = r
theorem IsTree.nodup {p : List Nat} {ts : List Str} {r : Nat} {v : List Nat} (h : IsTree p ts r v) : v.Nodup := h.asc.imp fun h => Nat.ne_of_lt h
def wout (v : List Nat) (o : Nat) : List Nat := v.filter fun k => decide (k ≠ o)
theorem wout_mem {v : List Nat} {o k : Nat} : k ∈ wout v o ↔ k ∈ v ∧ k ≠ o := by
  unfold wout
  rw [List.mem_filter, decide_eq_true_eq]
theorem wout_len {v : List Nat} (u : v.Nodup) {o : Nat} (ho : o ∈ v) : (wout v o).length + 1 = v.length := by
  have e : (wout v o).length + 1 = (o :: wout v o).length := rfl
  rw [e]
  refine nodup_same (List.nodup_cons.mpr ⟨fun h => (wout_mem.mp h).2 rfl, u.filter _⟩) u fun x => ?_
  rw [List.mem_cons, wout_mem]
  constructor
  · rintro (rfl | h)
    · exact ho
    · exact h.1
  · intro h
    by_cases e : x = o
    · exact .inl e
    · exact .inr ⟨h, e⟩
section
variable {p : List Nat} {ts : List Str} {r : Nat}
theorem IsTree.less (u : p.Pairwise (· ≠ ·)) (he : Ends p ts) {v : List Nat} (h : IsTree p ts r v) {o : Nat} (ho : o ∈ v) : rankOf p ts (wout v o) + 1 = r ∧ partsL p ts (wout v o) o = true := by
  have hf : ∀ k ∈ wout v o, k < ts.length := fun k hk => h.few k (wout_mem.mp hk).1
  have e : rankOf p ts (wout v o ++ [o]) = r := by
    rw [← h.rank]
    refine lot_rank u he (fun k hk => ?_) h.few (fun k hk => ?_) (fun k hk => ?_)
    · rcases List.mem_append.mp hk with q | q
      · exact hf k q
      · rw [List.mem_singleton.mp q]; exact h.few o ho
    · rcases List.mem_append.mp hk with q | q
      · exact (wout_mem.mp q).1
      · rw [List.mem_singleton.mp q]; exact ho
    · by_cases e : k = o
      · exact List.mem_append.mpr (.inr (List.mem_singleton.mpr e))
      · exact List.mem_append.mpr (.inl (wout_mem.mpr ⟨hk, e⟩))
  rw [rank_more u he hf (h.few o ho)] at e
  have h1 := rank_le u ts (wout v o)
  have h2 := wout_len h.nodup ho
  have h3 := h.len
  cases c : partsL p ts (wout v o) o with
  | true => rw [c, if_pos rfl] at e; exact ⟨e, rfl⟩
  | false => rw [c] at e; simp at e; omega
end
end K10
set_option Elab.async false
set_option linter.all false
set_option maxRecDepth 100000
namespace K10
open PySem PySem.Spec PyProof.Rows L2 DL
section
variable {P : Program} {w : World} {K : PySem.W.Frag} {mg : Str → Option Value} {base : Heap} {A : Ad}
/-! ### lots with a condition -/
theorem OkWeb.ends {p : List Nat} {ts : List Str} (ok : OkWeb p ts) : Ends p ts := fun y hy => (ok.ties y hy).2
def g_check_index (C : Addr) : GC := fun ds μ R => ∃ (p : List Nat) (ts : List Str) (k : Nat), ds = [dWeb C p ts, .int (k : Nat)] ∧ k < ts.length ∧ R .non μ
def N25 : List Str := ["web", "index"]
theorem sc25 : FnScope N25 ["web", "index"] (defScope (top 25)) := ⟨rfl, rfl, rfl, by decide +kernel, rfl, by decide +kernel, by decide +kernel⟩
theorem ok_check_index (T : Tx K mg A) : FnOk P A.w K mg base CX0 3 A.check_index A.fd_check_index ["web", "index"] (toSp K (g_check_index A.Web)) := by
  refine okD T.F_check_index sc25 (fun ds μ R h => ?_) ⟨_, fun cdv A0 outer s H E hr =>
    (dss_one (ds_if (dt_not (dt_val (de_call ((ok_is_integer_from T).mono (by decide)) hr (by rfl) T.g_is_integer_from T.F_is_integer_from.kp T.b_is_integer_from (da_cons (dv 1) (da_cons de_int (da_cons (de_op op_sub sim_minus (de_callB cr_len sim_len (by rfl) T.z_len boot_len (da_cons (de_fld T.k_Web T.n_ties (dv 0)) da_nil)) de_int) da_nil)))))) (dss_one ds_never) dss_nil)), fun ds μ R h => ?_⟩
  · obtain ⟨p, ts, k, rfl, _⟩ := h
    rfl
  · obtain ⟨p, ts, k, rfl, hk, h⟩ := h
    refine ⟨rfl, _, rfl, ?_⟩
    show if (!(decide ((0 : Int) ≤ (k : Int)) && decide ((k : Int) ≤ ((ts.map D.str).length : Int) - 1))) = true then False else _
    rw [decide_eq_true (show (0 : Int) ≤ (k : Int) by omega), decide_eq_true (show (k : Int) ≤ ((ts.map D.str).length : Int) - 1 by rw [List.length_map]; omega)]
    exact h
end
end K10
set_option Elab.async false
set_option linter.all false
set_option maxRecDepth 100000
namespace K10
open PySem PySem.Spec PyProof.Rows L2 DL PySem.W
/-! ### herds -/
def subsL (v : List Nat) : List (List Nat) := v.foldl (fun L i => L ++ L.map (· ++ [i])) [[]]
theorem subs_snoc (v : List Nat) (k : Nat) : subsL (v ++ [k]) = subsL v ++ (subsL v).map (· ++ [k]) := by
  unfold subsL
  rw [List.foldl_append]
  rfl
theorem subs_few : ∀ v : List Nat, (subsL v).length = 2 ^ v.length := by
  refine snoc_ind (P := fun v => (subsL v).length = 2 ^ v.length) rfl ?_
  intro w k ih
  rw [subs_snoc, List.length_append, List.length_map, ih, List.length_append, List.length_singleton, Nat.pow_succ]
  omega
theorem subs_mem : ∀ v : List Nat, ∀ h, h ∈ subsL v ↔ h.Sublist v := by
  refine snoc_ind (P := fun v => ∀ h, h ∈ subsL v ↔ h.Sublist v) (fun h => ?_) ?_
  · constructor
    · intro q
      rw [List.mem_singleton.mp q]
      exact List.Sublist.refl _
    · intro q
      rw [List.sublist_nil.mp q]
      exact List.mem_singleton.mpr rfl
  · intro w k ih h
    rw [subs_snoc, List.mem_append, List.mem_map, List.sublist_append_iff]
    constructor
    · rintro (q | ⟨g, q, rfl⟩)
      · exact ⟨h, [], (List.append_nil _).symm, (ih h).mp q, List.nil_sublist _⟩
      · exact ⟨g, [k], rfl, (ih g).mp q, List.Sublist.refl _⟩
    · rintro ⟨a, b, rfl, qa, qb⟩
      cases b with
      | nil =>
        rw [List.append_nil]
        exact .inl ((ih a).mpr qa)
      | cons x t =>
        have l := qb.length_le
        have e : t = [] := List.eq_nil_of_length_eq_zero (by rw [List.length_cons, List.length_singleton] at l; omega)
        subst e
        have m : x ∈ [k] := qb.subset List.mem_cons_self
        rw [List.mem_singleton.mp m]
        exact .inr ⟨a, (ih a).mpr qa, rfl⟩
theorem subs_len {v h : List Nat} (q : h ∈ subsL v) : h.length ≤ v.length := ((subs_mem v h).mp q).length_le
theorem subs_in {v h : List Nat} (q : h ∈ subsL v) : ∀ c ∈ h, c ∈ v := fun c hc => ((subs_mem v h).mp q).subset hc
/-- ties that cross a herd's border -/
def crB (h : List Nat) (y : Str) : Bool := decide ((ends y).1 ∈ h) != decide ((ends y).2 ∈ h)
def nx (ts : List Str) (h : List Nat) : Nat := (ts.filter (crB h)).length
def crossL (ts : List Str) (h : List Nat) : List Nat := (List.range ts.length).filter fun i => crB h (ts.getD i Str.empty)
theorem cross_len (ts : List Str) (h : List Nat) : (crossL ts h).length = nx ts h := by
  have e : (List.range ts.length).map (fun k => ts.getD k Str.empty) = ts := by
    apply List.ext_getElem?
    intro i
    rw [List.getElem?_map]
    by_cases hi : i < ts.length
    · rw [List.getElem?_range hi, List.getElem?_eq_getElem hi]
      show some (ts.getD i Str.empty) = _
      rw [List.getD_eq_getElem?_getD, List.getElem?_eq_getElem hi]
      rfl
    · rw [List.getElem?_eq_none (by simp; omega), List.getElem?_eq_none (by omega)]
      rfl
  unfold crossL nx
  conv => rhs; rw [← e]
  rw [List.filter_map, List.length_map]
  rfl
theorem nx_le (ts : List Str) (h : List Nat) : nx ts h ≤ ts.length := List.length_filter_le _ _
/-! ### marks as a function -/
/-! ### the least of some numbers -/
/-! ### the least of some data, the order of herds -/
end K10
set_option Elab.async false
set_option linter.all false
set_option maxRecDepth 100000
namespace DL
open PySem PySem.Spec PyProof.Rows L2
/-! ### a text times a number -/
end DL
set_option Elab.async false
set_option linter.all false
set_option maxRecDepth 100000
namespace K10
open PySem PySem.Spec PyProof.Rows L2 DL
section
variable {P : Program} {w : World} {K : PySem.W.Frag} {mg : Str → Option Value} {base : Heap} {A : Ad}
/-! ### herds, ties that cross -/
def dHerd (h : List Nat) : D := .str (toS h)
theorem toS_add (h : List Nat) (c : Nat) : toS h ++ (⟨#[c]⟩ : Str) = toS (h ++ [c]) := by
  show (⟨h.toArray ++ #[c]⟩ : Str) = ⟨(h ++ [c]).toArray⟩
  congr 1
  simp
def addC (c : Nat) : D → D
  | .str z => .str (z ++ ⟨#[c]⟩)
  | d => d
theorem signs_at {p : List Nat} {i : Nat} {x : D} (h : (DL.signs (toS p))[i]? = some x) : ∃ c, p[i]? = some c ∧ x = .str ⟨#[c]⟩ := by
  unfold DL.signs at h
  rw [List.getElem?_map, toS_list] at h
  cases e : p[i]? with
  | none => rw [e] at h; cases h
  | some c =>
    rw [e] at h
    exact ⟨c, rfl, (Option.some.inj h).symm⟩
theorem signs_len (p : List Nat) : (DL.signs (toS p)).length = p.length := by
  unfold DL.signs
  rw [List.length_map, toS_list]
theorem cross_more {ts : List Str} {hh : List Nat} {i : Nat} {y : Str} (h : ts[i]? = some y) : crossL (ts.take (i + 1)) hh = crossL (ts.take i) hh ++ if crB hh y = true then [i] else [] := by
  have hi : i < ts.length := (List.getElem?_eq_some_iff.mp h).1
  unfold crossL
  have l1 : (ts.take (i + 1)).length = i + 1 := by rw [List.length_take]; omega
  have l0 : (ts.take i).length = i := by rw [List.length_take]; omega
  rw [l1, l0, List.range_succ, List.filter_append]
  congr 1
  · refine List.filter_congr fun k hk => ?_
    have hk := List.mem_range.mp hk
    rw [List.getD_eq_getElem?_getD, List.getD_eq_getElem?_getD, List.getElem?_take, List.getElem?_take, if_pos (by omega), if_pos hk]
  · have e : (ts.take (i + 1)).getD i Str.empty = y := by
      rw [List.getD_eq_getElem?_getD, List.getElem?_take, if_pos (by omega), h]
      rfl
    rw [List.filter_cons, e, List.filter_nil]
def g_crossing (C : Addr) : GC := fun ds μ R => ∃ (p : List Nat) (ts : List Str) (h : List Nat), ds = [dWeb C p ts, dHerd h] ∧ OkWeb p ts ∧ R (dLot (crossL ts h)) μ
def N32 : List Str := ["web", "herd", "lot", "index", "tie"]
theorem sc32 : FnScope N32 ["web", "herd"] (defScope (top 32)) := ⟨rfl, rfl, rfl, by decide +kernel, rfl, by decide +kernel, by decide +kernel⟩
theorem ok_crossing (T : Tx K mg A) : FnOk P A.w K mg base CX0 1 A.crossing A.fd_crossing ["web", "herd"] (toSp K (g_crossing A.Web)) := by
  refine okDF T.F_crossing sc32 (fun ds μ R h => ?_) ⟨_, fun cdv A0 outer s H E hr =>
    (dss_cons (ds_set sc32.nd (i := 2) rfl (by first | exact Or.inl rfl | exact Or.inr rfl) (de_cell da_nil))
      (dss_cons (ds_for PassesOwn.never rfl (di_enumT (by rfl) T.z_enumerate (da_cons (de_fld T.k_Web T.n_ties (dv 0)) da_nil)) (pg_tup (n := 2) (by rfl) (pgs_cons (pg_name (i := 3) sc32.nd rfl (by first | exact Or.inl rfl | exact Or.inr rfl)) (pgs_cons (pg_name (i := 4) sc32.nd rfl (by first | exact Or.inl rfl | exact Or.inr rfl)) pgs_nil))) (sim_tupT (n := 2) (sim_consT (sim_nm (i := 3)) (sim_consT (sim_nm (i := 4)) sim_nilT)))
      (dss_one (ds_if (dt_cmp (op_neA hr.units) sim_ne (de_cmp op_inA sim_in (de_ix ix_any sim_ix (dv 4) de_int (fun _ _ => rfl)) (dv 1) rfl) (de_cmp op_inA sim_in (de_ix ix_any sim_ix (dv 4) de_int (fun _ _ => rfl)) (dv 1) rfl) (nomark _)) (dss_one (ds_expr (de_bm PySem.F.plainAttrs_list PySem.F.slot_list_append PySem.F.type_list_append mt_append sim_append ok_cell (dv 2) (da_cons (dv 3) da_nil)))) dss_nil)))
      (dss_one (ds_ret (de_callTy call_tuple_of sim_tupC (by rfl) T.z_tuple boot_tuple (da_cons (dv 2) da_nil)))))), fun ds μ R h => ?_⟩
  · obtain ⟨p, ts, hh, rfl, _⟩ := h
    rfl
  · obtain ⟨p, ts, hh, rfl, ok, h⟩ := h
    refine ⟨by show 0 ≤ sizeLine; decide, fun b nb => ?_⟩
    refine ⟨rfl, _, rfl, ?_⟩
    refine ⟨fun i δ' μ' => μ' = put μ b (.lst (((crossL (ts.take i) hh).map Int.ofNat).map D.int)) ∧ ∃ o3 o4, δ' = [some (dWeb A.Web p ts), some (dHerd hh), some (.adr b), o3, o4], ⟨rfl, none, none, rfl⟩, ?_, ?_⟩
    · rintro i x δ' μ' hx ⟨rfl, o3, o4, rfl⟩
      obtain ⟨d, hd, rfl⟩ := numbered_at hx
      rw [List.getElem?_map] at hd
      obtain ⟨y, hy, rfl⟩ : ∃ y, ts[i]? = some y ∧ D.str y = d := by
        cases e : ts[i]? with
        | none => rw [e] at hd; cases hd
        | some t => rw [e] at hd; exact ⟨t, rfl, Option.some.inj hd⟩
      have hi : i < ts.length := (List.getElem?_eq_some_iff.mp hy).1
      have many := ok.many
      obtain ⟨sy, m1, m2⟩ := ok.ties y (List.mem_of_getElem? hy)
      obtain ⟨c0, c1, e0, e1, ee⟩ := two_signs sy
      have a0 : L2.atI y.cps.toList (0 : Int) = some c0 := by rw [← Array.getElem?_toList] at e0; exact atI_nat e0
      have a1 : L2.atI y.cps.toList (1 : Int) = some c1 := by rw [← Array.getElem?_toList] at e1; exact atI_nat e1
      have cb : crB hh y = !decide (decide (c0 ∈ hh) = decide (c1 ∈ hh)) := by
        unfold crB
        rw [ee]
        cases decide (c0 ∈ hh) <;> cases decide (c1 ∈ hh) <;> rfl
      refine ⟨rfl, ?_⟩
      refine ⟨by show y.cps.size ≤ sizeLine; rw [sizeLine_eq]; omega, ?_⟩
      rw [a0]
      refine ⟨c0, rfl, ?_⟩
      refine ⟨by show y.cps.size ≤ sizeLine; rw [sizeLine_eq]; omega, ?_⟩
      rw [a1]
      refine ⟨c1, rfl, ?_⟩
      rw [toS_list]
      have lb : (((crossL (ts.take i) hh).map Int.ofNat).map D.int).length < sizeLine := by
        rw [List.length_map, List.length_map, cross_len, sizeLine_eq]
        have := nx_le (ts.take i) hh
        rw [List.length_take] at this
        omega
      refine if_case (c := !decide (decide (c0 ∈ hh) = decide (c1 ∈ hh))) (fun e => ?_) (fun e => ?_)
      · refine ⟨cell_ok put_same, ?_⟩
        refine ⟨_, put_same, lb, ?_⟩
        refine ⟨?_, some (.int (i : Nat)), some (.str y), rfl⟩
        rw [put_put, cross_more hy, if_pos (cb.trans e), List.map_append, List.map_append]
        rfl
      · refine ⟨?_, some (.int (i : Nat)), some (.str y), rfl⟩
        rw [cross_more hy, if_neg (by rw [cb, e]; exact Bool.false_ne_true), List.append_nil]
    · rintro δ' μ' ⟨rfl, o3, o4, rfl⟩
      have ln : (DL.numbered (ts.map D.str)).length = ts.length := by unfold DL.numbered; rw [List.length_mapIdx, List.length_map]
      rw [ln, List.take_length]
      refine ⟨b, _, rfl, put_same, ?_⟩
      refine ⟨_, μ, .less fun c o e => ?_, h⟩
      rw [put_ne (fun q => by rw [q, nb] at e; cases e)]
      exact e
end
end K10
set_option Elab.async false
set_option linter.all false
set_option maxRecDepth 100000
namespace DL
open PySem PySem.Spec PyProof.Rows L2
/-! ### a cell that nobody changes any more goes on as a plain list, before a statement -/
/-! ### range of two numbers -/
end DL
set_option Elab.async false
set_option linter.all false
set_option maxRecDepth 100000
namespace DL
open PySem PySem.Spec PyProof.Rows L2
/-! ### zip of a tuple and a list -/
end DL
set_option Elab.async false
set_option linter.all false
set_option maxRecDepth 100000
namespace DL
open PySem PySem.Spec PyProof.Rows L2
/-! ### a plain list, some times over -/
end DL
set_option Elab.async false
set_option linter.all false
set_option maxRecDepth 100000
namespace DL
open PySem PySem.Spec PyProof.Rows L2
/-! ### a list turned round; list(range(n)) that will change -/
end DL
set_option Elab.async false
set_option linter.all false
set_option maxRecDepth 100000
namespace DL
open PySem PySem.Spec PyProof.Rows L2
/-! ### a text of two signs unpacked: two new texts, their tokens told -/
section
variable {prog : Program} {w : World} {A : Around} {E : Value → Shared → Prop} {s : Shared}
theorem two_drawn {x : Str} {t : Tok} {c0 c1 : Nat} {Q : List Value → Shared → Prop} (hh : A.handled = none) (hx : x.cps = #[c0, c1]) (low : x.cps.all (· < 128) = true)
    (fin : ∀ h', (∀ b o, s.heap.get? b = some o → h'.get? b = some o) → Q [.str ⟨#[c0]⟩ s.toks, .str ⟨#[c1]⟩ (s.toks + 1)] { s with heap := h', toks := s.toks + 1 + 1 }) :
    wpAny (model prog w) A (unpackItems (.str x t) 2 none) Q E s := by
  unfold unpackItems
  refine wpAny_bind ?_
  unfold notIterableAtAll
  refine wpAny_bind (wpAny_specialOf (typeIs_str s x t) F.slot_str_iter.lookup ?_)
  refine wpAny_pure ?_
  simp only [Bool.false_eq_true, if_false]
  refine wpAny_bind (wpAny_holding (wpAny_pyIter_ascii low ?_))
  obtain ⟨I, eI⟩ : ∃ I, s.heap.objs.size = I := ⟨_, rfl⟩
  rw [eI]
  have st : (s.heap.push { cls := .type "str_ascii_iterator", data := .fields #[.str x t, .int 0 0] }).IsStrIter I "str_ascii_iterator" x t 0 := by
    rw [← eI]
    exact ⟨_, Heap.get?_push_size _ rfl, rfl, rfl⟩
  refine wpAny_bind (wpAny_holding ?_)
  show wpAny _ _ (pyNext (.ref I) >>= _) _ _ _
  refine wpAny_bind (wpAny_pyNext_ascii_item (i := 0) (c := c0) st (by rw [hx]; rfl) fun h1 st1 b1 => ?_)
  refine wpAny_bind (wpAny_holding ?_)
  show wpAny _ _ (pyNext (.ref I) >>= _) _ _ _
  refine wpAny_bind (wpAny_pyNext_ascii_item (i := 1) (c := c1) st1 (by rw [hx]; rfl) fun h2 st2 b2 => ?_)
  refine wpAny_bind (wpAny_holding (wpAny_pure (wpAny_pure (wpAny_pure ?_))))
  simp only [List.length_cons, List.length_nil, Nat.lt_irrefl, if_false]
  refine wpAny_bind (wpAny_holding (wpAny_pyNext_ascii_end hh st2 (by rw [hx]; rfl) fun h3 b3 => ?_))
  simp only [Option.isSome_none, Bool.false_eq_true, if_false]
  refine wpAny_pure (fin h3 fun b o e => ?_)
  have nb : b ≠ I := by
    rw [← eI]
    exact Nat.ne_of_lt (Heap.lt_size e)
  exact b3 b o nb ((b2.2 b nb).trans ((b1.2 b nb).trans (Heap.get?_push_of_some _ e)))
theorem two_unpacked {x : Str} {t : Tok} {c0 c1 : Nat} {Q : Unit → Shared → Prop} {env : Env} {e0 e1 : Expr} {k} {pos : Pos} (hh : A.handled = none) (hx : x.cps = #[c0, c1]) (low : x.cps.all (· < 128) = true)
    (two : assignEach [e0, e1] env = [(false, assign e0 env), (false, assign e1 env)])
    (fin : ∀ h', (∀ b o, s.heap.get? b = some o → h'.get? b = some o) → wpAny (model prog w) A (assign e0 env (.str ⟨#[c0]⟩ s.toks)) (fun _ s1 => wpAny (model prog w) A (assign e1 env (.str ⟨#[c1]⟩ (s.toks + 1))) Q E s1) E { s with heap := h', toks := s.toks + 1 + 1 }) :
    wpAny (model prog w) A (assign (.Tuple [e0, e1] k pos) env (.str x t)) Q E s := by
  rw [assign_Tuple]
  refine wpAny_bind (wpAny_standAt ?_)
  unfold unpack
  rw [two]
  refine wpAny_bind (wpAny_holding (two_drawn hh hx low fun h' kp => ?_))
  refine assignInOrder_cons (wpAny_mono (fin h' kp) (fun _ s1 z => assignInOrder_cons (wpAny_mono z (fun _ s2 z2 => assignInOrder_nil z2) fun _ _ y => y)) fun _ _ y => y)
end
end DL
set_option Elab.async false
set_option linter.all false
set_option maxRecDepth 100000
namespace DL
open PySem PySem.Spec PyProof.Rows L2
/-! ### t.index(d), t a tuple of data -/
/-! ### a, b = a text of two signs -/
section
variable {X : Cx}
def gUnp (i j : Nat) : TG := fun v σ H Q => ∃ (y : Str) (c0 c1 : Nat), v = .str y ∧ y.cps = #[c0, c1] ∧ y.cps.all (· < 128) = true ∧ Q ((σ.set i (some (.str ⟨#[c0]⟩))).set j (some (.str ⟨#[c1]⟩))) H
theorem pg_unp {i j k : Nat} {x z : Str} {p1 p2 pos : Pos} (calm : X.calm = true) (nd : X.N.Nodup) (hi : X.N[i]? = some x) (hj : X.N[j]? = some z) (lx : X.env.scope.names.lookup x = some .local) (lz : X.env.scope.names.lookup z = some .local)
    (two : assignEach [.Name x p1, .Name z p2] X.env = [(false, assign (.Name x p1) X.env), (false, assign (.Name z p2) X.env)] := by rfl) : PG X (.Tuple [.Name x p1, .Name z p2] k pos) (gUnp i j) := by
  refine ⟨fun pins s σ H v u Q I r ⟨y, c0, c1, ev, ey, low, q⟩ => ?_⟩
  subst ev
  obtain ⟨t, rfl⟩ := r
  refine two_unpacked (I.ok.hd calm) ey low two fun h1 kp => ?_
  have I1 : L2.Inv X pins σ H { s with heap := h1, toks := s.toks + 1 + 1 } := I.kept kp
  refine wpAny_assign_Name (store_ok (v := .str ⟨#[c0]⟩) I1 nd hi (.inl lx) ⟨_, rfl⟩ (fun s2 I2 => ?_) (.inr lx))
  exact wpAny_assign_Name (store_ok (v := .str ⟨#[c1]⟩) I2 nd hj (.inl lz) ⟨_, rfl⟩ (fun s3 I3 => ⟨_, H, I3, q⟩) (.inr lz))
end
def gUnpT (i j : Nat) : GG := fun d δ R => match d with
  | .str y => ∃ c0 c1 : Nat, y.cps = #[c0, c1] ∧ y.cps.all (· < 128) = true ∧ R ((δ.set i (some (.str ⟨#[c0]⟩))).set j (some (.str ⟨#[c1]⟩)))
  | _ => False
theorem sim_unp {K : PySem.W.Frag} {i j : Nat} : SimG K (gUnp i j) (gUnpT i j) [i, j] := by
  intro v d σ H δ μ Q R rm rs r q f
  cases d <;> try exact False.elim q
  rename_i y
  obtain ⟨c0, c1, ey, low, q⟩ := q
  unfold Rep at r
  refine ⟨y, c0, c1, r, ey, low, f _ _ ((rs.set i (d := .str ⟨#[c0]⟩) (v := .str ⟨#[c0]⟩) (by unfold Rep; rfl)).set j (d := .str ⟨#[c1]⟩) (v := .str ⟨#[c1]⟩) (by unfold Rep; rfl)) q fun vs h => ?_⟩
  rw [wipe_set (h j (List.mem_cons_of_mem _ (List.mem_singleton.mpr rfl))), wipe_set (h i List.mem_cons_self)]
end DL
set_option Elab.async false
set_option linter.all false
set_option maxRecDepth 100000
namespace DL
open PySem PySem.W PySem.Spec PyProof.Rows L2
/-! ### dict comprehensions over data; tuple(d.values()) -/
theorem dc_it {J : It} {n : Nat} {G : Hp → Prop} {Y : Nat → Hp → V → Hp → Prop} (w : Walk J n G Y) {g : TG} {tt : TT} {tk tv : TE} {vs : List Nat} {σ : L2.St} {H1 : Hp} {D : Addr} {Qd : Hp → Prop} (Pv : Nat → Hp → Prop) (h0 : Pv 0 (upd H1 D (.dK []))) (hG : ∀ i H, i ≤ n → Pv i H → G H)
    (hs : ∀ i x H H', i < n → Pv i H → Y i H x H' → g x (L2.wipe σ vs) H' fun σ2 H2 => L2.wipe σ2 vs = L2.wipe σ vs ∧ tt σ2 H2 fun b H3 =>
      if b = true then tk σ2 H3 fun y H4 => tv σ2 H4 fun z H5 => ∃ kvs k, y = kV k ∧ H5 D = some (.dK kvs) ∧ kvs.length < sizeLine ∧ Pv (i + 1) (upd H5 D (.dK (putK kvs k z))) else Pv (i + 1) H3) (hd : ∀ H, Pv n H → Qd H) :
    ∃ W : Nat → Nat → Hp → Prop, (∃ m, W 0 m (upd H1 D (.dK []))) ∧ ∀ i m H, W i m H →
      (J.stop i H ∧ Qd H) ∨ (J.go i H ∧ ∃ Nx : Hp → Prop, (∀ H', Nx H' → ∃ m', m' < m ∧ W (i + 1) m' H') ∧ ∀ x H', J.yld i H x H' → g x (L2.wipe σ vs) H' fun σ2 H2 => L2.wipe σ2 vs = L2.wipe σ vs ∧ tt σ2 H2 fun b H3 =>
        if b = true then tk σ2 H3 fun y H4 => tv σ2 H4 fun z H5 => ∃ kvs k, y = kV k ∧ H5 D = some (.dK kvs) ∧ kvs.length < sizeLine ∧ Nx (upd H5 D (.dK (putK kvs k z))) else Nx H3) := by
  refine ⟨fun i m H => m = n - i ∧ i ≤ n ∧ Pv i H, ⟨n, by simp, Nat.zero_le _, h0⟩, ?_⟩
  rintro i m H ⟨rfl, hi, p⟩
  have q := hG i H hi p
  by_cases hlt : i < n
  · refine .inr ⟨w.goes i H hlt q, Pv (i + 1), fun H' p' => ⟨n - (i + 1), by omega, rfl, hlt, p'⟩, fun x H' y => hs i x H H' hlt p (w.yields i H x H' hlt q y)⟩
  · have e : i = n := by omega
    subst e
    exact .inl ⟨w.stops H q, hd H p⟩
/-- what a dict comprehension asks over its items -/
structure DcB (gt : GG) (gc : GT) (gk ge : GE) (own : List Nat) (δ : DS) (R : KD) (items : List D) (μ1 : Mu) : Prop where
  ex : ∀ a, μ1 a = none → ∃ Iv : Nat → Mu → Prop, Iv 0 (put μ1 a (.dct [])) ∧
  (∀ i x μ', items[i]? = some x → Iv i μ' → gt x (wiped δ own) fun δ2 => gc δ2 μ' fun b μ2 => if b = true then gk δ2 μ2 fun y μ3 => ge δ2 μ3 fun z μ4 => ∃ kvs k, keyOf y = some k ∧ μ4 a = some (.dct kvs) ∧ kvs.length < sizeLine ∧ Iv (i + 1) (put μ4 a (.dct (putD kvs k z))) else Iv (i + 1) μ2) ∧
  ∀ μ', Iv items.length μ' → R (.adr a) μ'
def gDc (gi : GI) (gt : GG) (gc : GT) (gk ge : GE) (own : List Nat) : GE := fun δ μ R => gi δ μ (DcB gt gc gk ge own δ R)
theorem sim_dc {K : PySem.W.Frag} {ti : TI} {gi : GI} {g : TG} {gg : GG} {ow : List Nat} {tc : TT} {gc : GT} {tk te : TE} {gk ge : GE} {own : List Nat} (hi : SimI K ti gi) (sg : SimG K g gg ow) (ho : ∀ i ∈ ow, i ∈ own) (hc : SimT K tc gc) (hk : SimE K tk gk) (he : SimE K te ge) :
    SimE K (tDc ti g tc tk te own) (gDc gi gg gc gk ge own) := by
  intro σ H δ μ Q R rm rs q f
  refine hi σ H δ μ _ _ rm rs q fun J items H1 μ1 k1 rm1 wk q1 => ?_
  intro D nD
  obtain ⟨Iv, h0, hstep, hend⟩ := q1.ex D (rm1.free nD)
  have kc : Kp H1 μ1 (upd H1 D (.dK [])) (put μ1 D (.dct [])) := Kp.cell nD
  refine dc_it wk (fun i H => ∃ μ, Kp H1 μ1 H μ ∧ RM K H μ ∧ Iv i μ) ⟨_, kc, rm1.cellD nD (by unfold RepK; rfl), h0⟩ (fun i H _ ⟨μ, k, rm, _⟩ => ⟨μ, k, rm⟩) ?_ ?_
  · rintro i x H2 H3 hi2 ⟨μ2, k2, rm2, iv⟩ y
    obtain ⟨d, e1, r1, k3, rm3⟩ := y μ2 k2 rm2
    have rsw : RepS K H3 μ2 (wiped δ own) (L2.wipe σ own) := (rs.mono (k1.trans (k2.trans k3))).wipe own
    refine sg x d _ H3 _ μ2 _ _ rm3 rsw r1 (hstep i d μ2 e1 iv) fun σ4 δ4 rs4 q4 w4 => ⟨(w4 own ho).trans wipe_wipe, ?_⟩
    refine hc σ4 H3 δ4 μ2 _ _ rm3 rs4 q4 fun b H5 μ5 k5 rm5 q5 => ?_
    cases b with
    | false => exact ⟨μ5, k2.trans (k3.trans k5), rm5, q5⟩
    | true =>
      rw [if_pos rfl] at q5 ⊢
      refine hk σ4 H5 δ4 μ5 _ _ rm5 (rs4.mono k5) q5 fun vk dk H6 μ6 k6 rm6 r6 q6 => ?_
      refine he σ4 H6 δ4 μ6 _ _ rm6 (rs4.mono (k5.trans k6)) q6 fun v d7 H7 μ7 k7 rm7 r7 q7 => ?_
      obtain ⟨kvs, k, ek, ea, hl, iv7⟩ := q7
      obtain ⟨kv, h1, h2⟩ := rm7 D _ ea
      refine ⟨kv, k, key_rep ek r6, h1, by rw [h2.length]; exact hl, _, k2.trans (k3.trans (k5.trans (k6.trans (k7.trans (Kp.write ea))))), ?_, iv7⟩
      refine rm7.put (Kp.write ea) (fun a o n _ => upd_ne n) ⟨_, upd_same, ?_⟩
      exact (h2.put r7).mono (Kp.write ea) _ _
  · rintro H2 ⟨μ2, k2, rm2, iv⟩
    exact f (.ref D) (.adr D) H2 μ2 (k1.trans k2) rm2 (by unfold Rep; rfl) (hend μ2 iv)
theorem de_dc {X : Cx} {kx vx tg iter : Expr} {ifs : List Expr} {scope : Scope} {own : List (Str × Nat)} {pos : Pos} {gi : GI} {g : TG} {gg : GG} {ow : List Nat} {gc : GT} {gk ge : GE} (hc : X.calm = true) (hN : X.N.Nodup) (hi : DI X tg iter gi) (ok : BlkOk X.N X.env.scope scope own)
    (hg : ∀ (s : Shared) (H : Hp) (C : Addr) (cl : List (Str × Addr)) (fp : List Addr), PG (X.blk s H scope (compEnvC scope cl C X.env) fp) tg g) (sg : SimG X.K g gg ow) (ht : ∀ (s : Shared) (H : Hp) (C : Addr) (cl : List (Str × Addr)) (fp : List Addr), DTs (X.blk s H scope (compEnvC scope cl C X.env) fp) ifs gc)
    (hk : ∀ (s : Shared) (H : Hp) (C : Addr) (cl : List (Str × Addr)) (fp : List Addr), DE (X.blk s H scope (compEnvC scope cl C X.env) fp) kx gk)
    (he : ∀ (s : Shared) (H : Hp) (C : Addr) (cl : List (Str × Addr)) (fp : List Addr), DE (X.blk s H scope (compEnvC scope cl C X.env) fp) vx ge) (ho : ∀ i ∈ ow, i ∈ own.map (·.2) := by decide) (hs : ∀ x, foldedSetIterable iter X.env x = pure x := by intro _; rfl) :
    DE X (.DictComp kx vx [⟨tg, iter, ifs, 0⟩] scope pos) (gDc gi gg gc gk ge (own.map (·.2))) := by
  obtain ⟨ti, i1, i2⟩ := hi.ex
  exact ⟨_, pe_dc hc hN i1 ok hg (fun s H C cl fp => (ht s H C cl fp).pt) (fun s H C cl fp => (hk s H C cl fp).pe) (fun s H C cl fp => (he s H C cl fp).pe) hs, sim_dc i2 sg ho simT_of sim_of sim_of⟩
/-! ### tuple(d.values()) -/
end DL
set_option Elab.async false
set_option linter.all false
set_option maxRecDepth 100000
namespace DL
open PySem PySem.Spec PyProof.Rows L2
/-! ### sorted of a tuple of whole numbers -/
theorem sorted_intsT {prog : Program} {w : World} {A : Around} {E : Value → Shared → Prop} {s : Shared} {l : Addr} {items : Array Value} {ns : List Int} {Q : Value → Shared → Prop} (hl : IsTup s.heap l items) (hI : IntsAre items.toList ns) (h64 : items.size < 64)
    (h : ∀ (h1 h2 : Heap) (out : Array Value) (n : Nat) (ns' : List Int), (∀ b o, s.heap.get? b = some o → h1.get? b = some o) → (∀ b o, h1.get? b = some o → h2.get? b = some o) → h2.get? h1.objs.size = some (seqObj "list" out n) →
      IntsAre out.toList ns' → ns'.Perm ns → ns'.Pairwise (· ≤ ·) → Q (.ref h1.objs.size) { s with heap := h2 }) :
    wpAny (model prog w) A (call (.builtin "sorted") [.ref l]) Q E s := by
  refine Calls.call_function_entry kind_sorted plain_sorted entry_sorted (args_sorted1 _) ?_
  unfold Builtin.«sorted»
  refine wpAny_bind (m := checkCount "sorted" 1 1 _) (wpAny_pure ?_)
  obtain ⟨o, ho, hc, n, hd⟩ := hl
  refine wpAny_bind (wpAny_collect_seq l (.inr rfl) ho hc hd (fun h1 k1 => ?_) (by rw [sizeLine_eq]; omega))
  refine wpAny_bind (wpAny_newList ?_ (by rw [Array.length_toList, sizeLine_eq]; omega))
  have hoL : (h1.push (seqObj "list" items.toList.toArray 0)).get? h1.objs.size = some (seqObj "list" items.toList.toArray 0) := Heap.get?_push_size _ rfl
  refine wpAny_bind (wpAny_holding (wpAny_call_entry slot_list_sort ⟨_, hoL, rfl⟩ entry_list_sort (list_sort_tree hoL hI (by rw [Array.length_toList]; exact h64) fun out ns' a1 a2 a3 => ⟨_, rfl, ?_⟩) (args_list_sort _)))
  obtain ⟨n2, hn⟩ := sortedHeap_at (vs := items.toList) (out := out) hoL
  refine wpAny_pure ⟨_, rfl, h h1 _ out n2 ns' k1 (fun b ob e => ?_) hn a1 a2 a3⟩
  have hb := Heap.lt_size e
  rw [sortedHeap_old (Nat.ne_of_lt hb) (by rw [Heap.size_push]; exact Nat.lt_succ_of_lt hb)]
  exact Heap.get?_push_of_some _ e
def rSortedIT (K : PySem.W.Frag) : List V → Hp → VK → Prop := fun vs H Q => ∃ (a : Addr) (ns : List Int), vs = [V.ref a] ∧ SqT K H a (ns.map V.int) ∧ ns.length < 64 ∧
  ∀ (ns' : List Int) (p : Addr), ns'.Perm ns → ns'.Pairwise (· ≤ ·) → H p = none → Q (.ref p) (upd H p (.lst (ns'.map V.int)))
theorem cr_sortedIT {X : Cx} : CallR X (.builtin "sorted") (rSortedIT X.K) := by
  intro pins s σ H vs us Q I r h
  obtain ⟨a, ns, rfl, hs, h64, q⟩ := h
  obtain ⟨its, rv, hl, _⟩ := I.tuple hs
  rw [Vals.ref1 r]
  have hi := rv.ints
  refine sorted_intsT hl (show IntsAre its.toArray.toList ns from hi) (by rw [List.size_toArray, hi.length]; exact h64) fun h1 h2 out n ns' k1 k2 ho a1 a2 a3 => ?_
  have I1 : Inv X pins σ H { s with heap := h1 } := I.kept (t' := s.toks) k1
  have hlen : (ns'.map V.int).length ≤ sizeLine := by rw [List.length_map, a2.length_eq, sizeLine_eq]; omega
  exact ⟨.ref _, upd H h1.objs.size (.lst (ns'.map V.int)), I1.laid (t' := s.toks) k2 (Nat.le_refl _) ⟨hlen, out.toList, n, vals_of_ints a1, ho⟩, rfl, q ns' _ a2 a3 (I1.hok.fresh (Nat.le_refl _))⟩
def gSortedIT1 : G1 := fun x μ R => match x with
  | .tup ds => ∃ ns : List Int, ds = List.map D.int ns ∧ ns.length < 64 ∧ ∀ ns' : List Int, ns'.Perm ns → ns'.Pairwise (· ≤ ·) → R (.lst (List.map D.int ns')) μ
  | _ => False
theorem sim_sortedIT {K : PySem.W.Frag} : SimC K (rSortedIT K) (g1 gSortedIT1) := sim_g1 fun v d H μ Q R rm rv q f => by
  cases d <;> try exact False.elim q
  obtain ⟨ns, rfl, h64, q⟩ := q
  obtain ⟨p, vs, rfl, im, l⟩ := rep_tup rv
  have e := l.ints
  exact ⟨p, ns, rfl, by rw [← e]; exact im.sq, h64, fun ys t hp hs n => fw_lst rm n (RepL.of_ints ys) (q ys hp hs) f⟩
end DL
set_option Elab.async false
set_option linter.all false
set_option maxRecDepth 100000
namespace DL
open PySem PySem.Spec PyProof.Rows L2
/-! ### sorted of a tuple of tuples of ints -/
end DL
set_option Elab.async false
set_option linter.all false
set_option maxRecDepth 100000
namespace DL
open PySem PySem.Spec PyProof.Rows L2
/-! ### dicts whose keys are tuples of ints and texts -/
/-! ### d.setdefault(t, e) -/
/-! ### the keys of a dict that is let go: walked, listed, sorted -/
end DL
set_option Elab.async false
set_option linter.all false
set_option maxRecDepth 100000
namespace DL
open PySem PySem.Spec PyProof.Rows L2
/-! ### list(d), sorted(d), d a dict whose keys are tuples -/
end DL
set_option Elab.async false
set_option linter.all false
set_option maxRecDepth 100000
namespace DL
open PySem PySem.Spec PyProof.Rows L2
/-! ### a text turned round -/
def revS (z : Str) : Str := ⟨z.cps.toList.reverse.toArray⟩
theorem rev_slice (z : Str) : (Builtin.Str.strSliceIndices none none (-1) z.length).filterMap (z.cps[·]?) = z.cps.toList.reverse := by
  have e : Builtin.Str.strSliceIndices none none (-1) z.length = (List.range z.length).map fun k => z.length - 1 - k := by
    show sliceRange _ _ _ = _
    exact PySem.W.krv_sliceRange z.length
  rw [e, PySem.W.krv_range, List.filterMap_reverse]
  exact congrArg List.reverse (PySem.W.krv_all z.cps)
def tRevS (te : TE) : TE := fun σ H Q => te σ H fun x H1 => ∃ z : Str, x = .str z ∧ z.length ≤ sizeLine ∧ Q (.str (revS z)) H1
theorem pe_revS {X : Cx} {e : Expr} {te : TE} {k : Nat} {p1 p2 p3 pos : Pos} (he : PE X e te) : PE X (.Subscript e (.Slice none none (some (.UnaryOp .USub (.Constant (.int 1) k p1) p2)) p3) pos) (tRevS te) := by
  refine ⟨fun pins s σ H Q I h => ?_⟩
  refine Subscript_ (thn (he.run pins s σ H _ I h) fun v s1 ⟨x, H1, I1, r1, q1⟩ => ?_)
  obtain ⟨z, ex, hz, q⟩ := q1
  subst ex
  obtain ⟨t, rfl⟩ := r1
  have hst : PO X (some (.UnaryOp .USub (.Constant (.int 1) k p1) p2)) (tPart (tUn (rU fun i => .int (-i)) (tC (.int 1)))) := po_some (pe_un un_neg pe_int)
  refine wpAny_Slice (thn (po_none.run pins s1 σ H1 (fun o H2 => o = none ∧ H2 = H1) I1 ⟨rfl, rfl⟩) fun vl s2 ⟨l, H2, I2, pl, el, e2⟩ => ?_)
  subst el e2
  refine thn (po_none.run pins s2 σ H2 (fun o H3 => o = none ∧ H3 = H2) I2 ⟨rfl, rfl⟩) fun vu s3 ⟨u, H3, I3, pu, eu, e3⟩ => ?_
  subst eu e3
  refine thn (hst.run pins s3 σ H3 (fun o H4 => o = some (-1) ∧ H4 = H3) I3 ⟨1, rfl, -1, rfl, rfl, rfl⟩) fun vs s4 ⟨o, H4, I4, ps, eo, e4⟩ => ?_
  subst eo e4
  have I5 : Inv X pins σ H4 { s4 with heap := s4.heap.push { cls := .type "slice", data := .fields #[vl, vu, vs] } } := I4.kept (t' := s4.toks) fun b ob q => Heap.get?_push_of_some _ q
  obtain ⟨l, rfl, hl0⟩ := IsPart.raw pl
  obtain ⟨u, rfl, hu0⟩ := IsPart.raw pu
  obtain ⟨st, rfl, hs0⟩ := IsPart.raw ps
  show wpAny (model X.prog X.w) X.A (subscriptTail e (.Slice none none (some (.UnaryOp .USub (.Constant (.int 1) k p1) p2)) p3) (.str z t) (.ref s4.heap.objs.size)) (EP X pins σ Q) X.xe { s4 with heap := s4.heap.push { cls := .type "slice", data := .fields #[_, _, _] } }
  refine tail_any (ops := [.str z t, .ref s4.heap.objs.size]) (typeIs_str _ _ _) F.slot_str_getitem.lookup ?_ (by with_unfolding_all rfl)
  refine wpAny_getItem_str_slice (l := l) (u := u) (st := st) ⟨_, Heap.get?_push_size _ rfl, rfl, rfl⟩ (by rw [hs0]; rfl) ?_
  unfold sliceMade slicePicked
  rw [hs0, hl0, hu0]
  show Made.post (if ((-1 : Int) == 1 && (Builtin.Str.strSliceIndices none none (-1) z.length).length == z.length) = true then Made.val (.str z t)
    else Made.str ⟨((Builtin.Str.strSliceIndices none none (-1) z.length).filterMap (z.cps[·]?)).toArray⟩) (EP X pins σ Q) _
  rw [rev_slice, if_neg (by rw [show ((-1 : Int) == 1) = false from rfl, Bool.false_and]; exact Bool.false_ne_true)]
  have hl : (revS z).length ≤ sizeLine := by
    show z.cps.toList.reverse.toArray.size ≤ sizeLine
    rw [List.size_toArray, List.length_reverse, Array.length_toList]
    exact hz
  exact ⟨hl, .str _, H4, I5.tok _, ⟨_, rfl⟩, q⟩
def gRevS (ge : GE) : GE := fun δ μ R => ge δ μ fun x μ1 => ∃ z : Str, x = .str z ∧ z.length ≤ sizeLine ∧ R (.str (revS z)) μ1
theorem de_revS {X : Cx} {e : Expr} {ge : GE} {k : Nat} {p1 p2 p3 pos : Pos} (he : DE X e ge) : DE X (.Subscript e (.Slice none none (some (.UnaryOp .USub (.Constant (.int 1) k p1) p2)) p3) pos) (gRevS ge) := by
  obtain ⟨t, a1, a2⟩ := he.ex
  refine ⟨_, pe_revS a1, fun σ H δ μ Q R rm rs q f => ?_⟩
  refine a2 σ H δ μ _ _ rm rs q fun v d H1 μ1 k1 rm1 r1 q1 => ?_
  obtain ⟨z, rfl, hz, q1⟩ := q1
  exact ⟨z, rep_str r1, hz, fw_now rm1 to_str q1 (f.re k1)⟩
end DL
set_option Elab.async false
set_option linter.all false
set_option maxRecDepth 100000
namespace DL
open PySem PySem.Spec PyProof.Rows L2
/-! ### comprehensions with two sources -/
end DL
set_option Elab.async false
set_option linter.all false
set_option maxRecDepth 100000
namespace DL
open PySem PySem.Spec PyProof.Rows L2
/-! ### zip of two of any kinds: lists, tuples, texts -/
inductive Zk where
  | L (a : Addr) | T (a : Addr) | S (x : Str) (t : Tok)
def Zk.iter : Zk → Addr → Nat → Heap → Prop
  | .L a, it, i, h => h.IsListIter it a i
  | .T a, it, i, h => h.IsTupleIter it a i
  | .S x t, it, i, h => h.IsStrIter it (strIterType x) x t i
def Zk.fp : Zk → Addr → List Addr
  | .L a, it => [it, a]
  | .T a, it => [it, a]
  | .S _ _, it => [it]
def Zk.far : Zk → Addr → Prop
  | .L a, it => a ≠ it
  | .T a, it => a ≠ it
  | .S _ _, _ => True
def Zk.val : Zk → Value
  | .L a => .ref a
  | .T a => .ref a
  | .S x t => .str x t
def Zk.src (K : PySem.W.Frag) (H : Hp) : Zk → List V → Prop
  | .L a, p => SqL K H a p
  | .T a, p => SqT K H a p
  | .S x _, p => p = x.cps.toList.map fun c => V.str ⟨#[c]⟩
theorem Zk.iter_obj {k : Zk} {it : Addr} {i : Nat} {h : Heap} (x : k.iter it i h) : ∃ o vs, h.get? it = some o ∧ o.data = .fields vs := by
  cases k with
  | L a => obtain ⟨o, e, _, d⟩ := x; exact ⟨o, _, e, d⟩
  | T a => obtain ⟨o, e, _, d⟩ := x; exact ⟨o, _, e, d⟩
  | S y t => obtain ⟨o, e, _, d⟩ := x; exact ⟨o, _, e, d⟩
theorem Zk.iter_keep {k : Zk} {it : Addr} {i : Nat} {h h' : Heap} (e : ∀ o, h.get? it = some o → h'.get? it = some o) (x : k.iter it i h) : k.iter it i h' := by
  cases k with
  | L a => obtain ⟨o, g, r⟩ := x; exact ⟨o, e o g, r⟩
  | T a => obtain ⟨o, g, r⟩ := x; exact ⟨o, e o g, r⟩
  | S y t => obtain ⟨o, g, r⟩ := x; exact ⟨o, e o g, r⟩
section
variable {X : Cx} {pn : List (Addr × Obj)} {σ : L2.St} {H : Hp} {s : Shared}
theorem Zk.src_one {k : Zk} {p q : List V} (I : Inv X pn σ H s) (a : k.src X.K H p) (b : k.src X.K H q) : p = q := by
  cases k with
  | L c => exact I.list_inj a b
  | T c => exact I.tuple_inj a b
  | S x t => exact Eq.trans a (Eq.symm b)
theorem Zk.draws {k : Zk} {p : List V} {it : Addr} (I : Inv X pn σ H s) (hh : X.A.in1.handled = none) (far : k.far it) (hp : k.src X.K H p) :
    ∃ (n : Nat) (P : Nat → Value → Prop) (St : Nat → Heap → Prop), Draws X.prog X.w X.A.in1 it (k.fp it) n P St ∧ n = p.length ∧ (∀ i, k.iter it i s.heap → St i s.heap) ∧ (∀ i u, P i u → ∃ x, p[i]? = some x ∧ RelV x u) ∧ ∀ i h, St i h → k.iter it i h := by
  have back : ∀ {its : List Value}, Vals p its → ∀ (i : Nat) (u : Value), its.toArray[i]? = some u → ∃ x, p[i]? = some x ∧ RelV x u := fun {its} r i u hu => by
    rw [List.getElem?_toArray] at hu
    have hi : i < its.length := (List.getElem?_eq_some_iff.mp hu).1
    have hi' : i < p.length := by rw [r.length]; exact hi
    have hx : p[i]? = some (p[i]'hi') := List.getElem?_eq_getElem hi'
    obtain ⟨w, hw, rw'⟩ := r.get hx
    rw [hu] at hw
    cases hw
    exact ⟨_, hx, rw'⟩
  cases k with
  | L a =>
    obtain ⟨its, r, hl, _⟩ := I.list hp
    exact ⟨_, _, _, Draws.list hh it a far its.toArray, by rw [List.size_toArray, r.length], fun i x => ⟨x, hl.isList⟩, fun i u hu => back r i u hu, fun i h x => x.1⟩
  | T a =>
    obtain ⟨its, r, hl, _⟩ := I.tuple hp
    exact ⟨_, _, _, Draws.tuple hh it a far its.toArray, by rw [List.size_toArray, r.length], fun i x => ⟨x, hl⟩, fun i u hu => back r i u hu, fun i h x => x.1⟩
  | S x t =>
    have hp : p = x.cps.toList.map fun c => V.str ⟨#[c]⟩ := hp
    refine ⟨_, _, _, Draws.text hh it x t, by rw [hp, List.length_map, Array.length_toList], fun i y => y, fun i u ⟨c, v, hc, e⟩ => ?_, fun i h y => y⟩
    refine ⟨.str ⟨#[c]⟩, ?_, by rw [e]; exact ⟨v, rfl⟩⟩
    rw [hp, List.getElem?_map, Array.getElem?_toList, hc]
    rfl
theorem Zk.begins {k : Zk} {p : List V} (I : Inv X pn σ H s) (hp : k.src X.K H p) : ∃ (o : Obj) (G : Heap → Prop), Begins k.val o G ∧ G s.heap ∧ (∀ (h : Heap) (it : Addr), h.get? it = some o → k.iter it 0 h) ∧ ∀ b ∈ (k.fp 0).drop 1, b < s.heap.objs.size := by
  cases k with
  | L a =>
    obtain ⟨its, r, hl, _⟩ := I.list hp
    exact ⟨_, _, begins_list a its.toArray, hl.isList, fun h it e => ⟨_, e, rfl, rfl⟩, fun b hb => by rw [List.mem_singleton.mp hb]; exact hl.lt⟩
  | T a =>
    obtain ⟨its, r, hl, _⟩ := I.tuple hp
    obtain ⟨ob, ho, _⟩ := id hl
    exact ⟨_, _, begins_tuple a its.toArray, hl, fun h it e => ⟨_, e, rfl, rfl⟩, fun b hb => by rw [List.mem_singleton.mp hb]; exact Heap.lt_size ho⟩
  | S x t => exact ⟨_, _, begins_text x t, trivial, fun h it e => ⟨_, e, rfl, rfl⟩, fun b hb => by cases hb⟩
end
theorem Zk.fp_drop (k : Zk) (it : Addr) : k.fp it = it :: (k.fp 0).drop 1 := by cases k <;> rfl
theorem Zk.far_of {k : Zk} {n it : Addr} (h : ∀ b ∈ (k.fp 0).drop 1, b < n) (l : n ≤ it) : k.far it := by
  cases k with
  | L a => exact Nat.ne_of_lt (Nat.lt_of_lt_of_le (h a List.mem_cons_self) l)
  | T a => exact Nat.ne_of_lt (Nat.lt_of_lt_of_le (h a List.mem_cons_self) l)
  | S x t => exact True.intro
def ItZG (K : PySem.W.Frag) (k1 k2 : Zk) : It :=
  ⟨fun i H => ∃ (p : List V) (q : List V) (x y : V), k1.src K H p ∧ k2.src K H q ∧ p[i]? = some x ∧ q[i]? = some y,
    fun i H v H' => ∃ T x y, v = .ref T ∧ H T = none ∧ H' = upd H T (.tup [x, y]) ∧ (∀ p, k1.src K H p → p[i]? = some x) ∧ ∀ q, k2.src K H q → q[i]? = some y,
    fun i H => ∃ p q : List V, k1.src K H p ∧ k2.src K H q ∧ i ≤ p.length ∧ i ≤ q.length ∧ (i = p.length ∨ i = q.length)⟩
theorem turn_zipG {P : Program} {w : World} {K : PySem.W.Frag} {elts : List Expr} {kk : Nat} {tpos : Pos} {k1 k2 : Zk} {z ti tu i1 i2 : Addr} (D : ZipSep2 z ti tu i1 i2 (k1.fp i1) (k2.fp i2)) (n1 : k1.far i1) (n2 : k2.far i2) :
    Turn P w K (.Tuple elts kk tpos) (ItZG K k1 k2) [z, ti, tu, i1, i2] z (fun i h => IsZip h z ti tu .none ∧ IsTupOf2 h ti (.ref i1) (.ref i2) ∧ (∃ u v, IsTupOf2 h tu u v) ∧ k1.iter i1 i h ∧ k2.iter i2 i h) where
  mem := by simp
  obj := fun i h st c hc => by
    obtain ⟨gz, gti, ⟨x, y, gtu⟩, a1, a2⟩ := st
    obtain ⟨o1, v1, e1, d1⟩ := Zk.iter_obj a1
    obtain ⟨o2, v2, e2, d2⟩ := Zk.iter_obj a2
    have ce : c = z ∨ c = ti ∨ c = tu ∨ c = i1 ∨ c = i2 := by simpa using hc
    rcases ce with q | q | q | q | q
    · rw [q]; exact ⟨_, gz, fun v q => nomatch q⟩
    · rw [q]; exact ⟨_, gti, fun v q => nomatch q⟩
    · rw [q]; exact ⟨_, gtu, fun v q => nomatch q⟩
    · rw [q]; exact ⟨o1, e1, fun v q => by rw [d1] at q; cases q⟩
    · rw [q]; exact ⟨o2, e2, fun v q => by rw [d2] at q; cases q⟩
  keep := fun i h h' st k => by
    obtain ⟨gz, gti, ⟨x, y, gtu⟩, a1, a2⟩ := st
    exact ⟨k z (by simp) _ gz, k ti (by simp) _ gti, ⟨x, y, k tu (by simp) _ gtu⟩, Zk.iter_keep (fun o e => k i1 (by simp) o e) a1, Zk.iter_keep (fun o e => k i2 (by simp) o e) a2⟩
  item := by
    intro X eP ew eK hc i pn s σ H E I fr st hg
    subst eP ew eK
    obtain ⟨gz, gti, ⟨x0, y0, gtu⟩, a1, a2⟩ := st
    have zl : z < s.heap.objs.size := Heap.lt_size gz
    have hh : X.A.in1.handled = none := I.ok.hd hc
    obtain ⟨p, q, x, y, hp, hq, hx, hy⟩ := hg
    obtain ⟨m1, P1, S1, D1, l1, t1, b1, c1⟩ := Zk.draws (it := i1) I hh n1 hp
    obtain ⟨m2, P2, S2, D2, l2, t2, b2, c2⟩ := Zk.draws (it := i2) I hh n2 hq
    have ip : i < m1 := by have := (List.getElem?_eq_some_iff.mp hx).1; omega
    have iq : i < m2 := by have := (List.getElem?_eq_some_iff.mp hy).1; omega
    refine wpAny_pyNext_zipD2_item D D1 D2 gz gti gtu (t1 i a1) (t2 i a2) ip iq fun u1 u2 h' tk p1 p2 z' tu' a1' a2' hT sz hk => ?_
    have a1' := c1 _ _ a1'
    have a2' := c2 _ _ a2'
    obtain ⟨g1, e1, r1⟩ := b1 i u1 p1
    obtain ⟨g2, e2, r2⟩ := b2 i u2 p2
    rw [hx] at e1
    rw [hy] at e2
    cases e1
    cases e2
    refine ⟨_, rfl, wpAny_letOwnedTupleGo_zip (s := { s with heap := h', toks := tk }) z' fun h'' z'' so => ?_⟩
    have hT2 : h''.get? s.heap.objs.size = some { cls := .type "tuple", data := .seq #[u1, u2] } := (so.2 _ (Nat.ne_of_gt zl)).trans hT
    have nw : ObjOk X.prog X.w (upd H s.heap.objs.size (.tup [x, y])) h'' s.heap.objs.size (.tup [x, y]) :=
      ⟨by show 2 ≤ sizeLine; decide, [u1, u2], .cons r1 (.cons r2 .nil), ⟨_, hT2, rfl, _, rfl⟩⟩
    have I1 : Inv X pn σ (upd H s.heap.objs.size (.tup [x, y])) { s with heap := h'', toks := tk } :=
      I.turnedNew (t' := tk) (ch := [z, ti, tu, i1, i2]) (fun c o hb q => (so.2 c (fun q' => hb (by simp [q']))).trans (hk c o (fun q' => hb (by simp [q'])) (fun q' => hb (by simp [q'])) (fun q' => hb (by simp [q'])) (fun q' => hb (by simp [q'])) q)) fr (Nat.le_refl _) nw
    refine ⟨.ref s.heap.objs.size, _, I1, rfl, ⟨_, x, y, rfl, I.hok.fresh (Nat.le_refl _), rfl, fun l hl => by rw [Zk.src_one I hl hp]; exact hx, fun l hl => by rw [Zk.src_one I hl hq]; exact hy⟩, ⟨z'', ?_, ⟨u1, u2, ?_⟩, ?_, ?_⟩, fun c mc => ?_⟩
    · exact (so.2 _ D.TIz).trans (hk _ _ D.TIz D.TITO D.TIi1 D.TIi2 gti)
    · exact (so.2 _ D.TOz).trans tu'
    · exact Zk.iter_keep (fun o e => (so.2 _ (Ne.symm D.zi1)).trans e) a1'
    · exact Zk.iter_keep (fun o e => (so.2 _ (Ne.symm D.zi2)).trans e) a2'
    · have lz : c < s.heap.objs.size := by
        obtain ⟨o1, v1, e1, d1⟩ := Zk.iter_obj a1
        obtain ⟨o2, v2, e2, d2⟩ := Zk.iter_obj a2
        have ce : c = z ∨ c = ti ∨ c = tu ∨ c = i1 ∨ c = i2 := by simpa using mc
        rcases ce with q | q | q | q | q
        · rw [q]; exact zl
        · rw [q]; exact Heap.lt_size gti
        · rw [q]; exact Heap.lt_size gtu
        · rw [q]; exact Heap.lt_size e1
        · rw [q]; exact Heap.lt_size e2
      rw [upd_ne (Nat.ne_of_lt lz)]
      exact (fr c mc).1
  done := by
    intro X eP ew eK hc i pn s σ H E I fr st hg
    subst eP ew eK
    obtain ⟨gz, gti, ⟨x0, y0, gtu⟩, a1, a2⟩ := st
    have hh : X.A.in1.handled = none := I.ok.hd hc
    obtain ⟨p, q, hp, hq, le1, le2, en⟩ := hg
    obtain ⟨m1, P1, S1, D1, l1, t1, b1, c1⟩ := Zk.draws (it := i1) I hh n1 hp
    obtain ⟨m2, P2, S2, D2, l2, t2, b2, c2⟩ := Zk.draws (it := i2) I hh n2 hq
    exact wpAny_pyNext_zipD2_end D D1 D2 gz gti gtu (t1 i a1) (t2 i a2) (by omega) (by omega) (by omega) fun h' tk hk => ⟨rfl, I.turnedL (t' := tk) (ch := [z, ti, tu, i1, i2]) (fun c o hb q =>
      hk c o (fun q' => hb (by simp [q'])) (fun q' => hb (by simp [q'])) (fun q' => hb (by simp [q'])) (fun q' => hb (by simp [q'])) q) fr⟩
  self := fun A i s Q E st h => wpAny_pyIter_zip st.1 h
/-- v is what k tells -/
def ZkV : Zk → V → Prop
  | .L a, v => v = .ref a
  | .T a, v => v = .ref a
  | .S x _, v => v = .str x
def iZipG (K : PySem.W.Frag) (ta : TA) : TI := fun σ H R => ta σ H fun vs H1 => ∃ v1 v2, vs = [v1, v2] ∧ ∀ t1 t2 : Tok, ∃ (k1 k2 : Zk) (p q : List V), ZkV k1 v1 ∧ ZkV k2 v2 ∧ (∀ x t, k1 = .S x t → t = t1) ∧ (∀ x t, k2 = .S x t → t = t2) ∧ k1.src K H1 p ∧ k2.src K H1 q ∧ R (ItZG K k1 k2) H1
theorem zk_val {v : V} {u : Value} (r : RelV v u) : ∃ t1 : Tok, ∀ k : Zk, ZkV k v → (∀ x t, k = .S x t → t = t1) → u = k.val := by
  cases v with
  | str x =>
    obtain ⟨t, rfl⟩ := r
    refine ⟨t, fun k h e => ?_⟩
    cases k with
    | L a => cases h
    | T a => cases h
    | S y t' =>
      cases h
      rw [e _ _ rfl]
      rfl
  | ref a =>
    refine ⟨0, fun k h e => ?_⟩
    cases k with
    | L b => cases h; exact r
    | T b => cases h; exact r
    | S y t' => cases h
  | _ =>
    refine ⟨0, fun k h e => ?_⟩
    cases k <;> cases h
theorem pi_zipG {X : Cx} {e e2 : Expr} {ta : TA} {p pos tpos : Pos} {elts : List Expr} {kk : Nat} (hg : Gl X "zip") (hm : X.mg "zip" = none) (ha : PA X [e, e2] ta)
    (st1 : starEach [e, e2] X.env = (false, eval e X.env) :: starEach [e2] X.env := by rfl) (st2 : (backTo pos (starEach [e2] X.env)).any (·.1) = false := by rfl) :
    PI X (.Tuple elts kk tpos) (.Call (.Name "zip" p) [e, e2] [] pos) (iZipG X.K ta) := by
  refine ⟨fun pn s σ H R I h => ?_⟩
  refine Call_ (ld_blt I hg hm PyProof.Rows.boot_zip (PyProof.Rows.callWith_type1 (thn (ha.run pos pn s σ H _ I h) fun us s1 ⟨vs, H1, I1, r1, q1⟩ => ?_) st1 st2))
  obtain ⟨v1, v2, ex, q1⟩ := q1
  subst ex
  cases r1 with
  | cons r rr =>
    cases rr with
    | cons r' rr =>
      cases rr
      obtain ⟨t1, f1⟩ := zk_val r
      obtain ⟨t2, f2⟩ := zk_val r'
      obtain ⟨k1, k2, l1, l2, z1, z2, y1, y2, hp, hq, q1⟩ := q1 t1 t2
      have g1 := f1 k1 z1 y1
      have g2 := f2 k2 z2 y2
      subst g1 g2
      obtain ⟨o1, G1, B1, w1, s1', m1⟩ := Zk.begins I1 hp
      obtain ⟨o2, G2, B2, w2, s2', m2⟩ := Zk.begins I1 hq
      have all5 : ∀ c, c ∈ [s1.heap.objs.size + 4, s1.heap.objs.size + 2, s1.heap.objs.size + 3, s1.heap.objs.size, s1.heap.objs.size + 1] → FpOk X pn H1 c := fun c mc => by
        have ce : c = s1.heap.objs.size + 4 ∨ c = s1.heap.objs.size + 2 ∨ c = s1.heap.objs.size + 3 ∨ c = s1.heap.objs.size ∨ c = s1.heap.objs.size + 1 := by simpa using mc
        have ge : s1.heap.objs.size ≤ c := by
          rcases ce with z | z | z | z | z
          · rw [z]; exact Nat.le_add_right _ _
          · rw [z]; exact Nat.le_add_right _ _
          · rw [z]; exact Nat.le_add_right _ _
          · rw [z]; exact Nat.le_refl _
          · rw [z]; exact Nat.le_add_right _ _
        exact I1.fpOk ge (I1.hok.fresh ge)
      refine zip_begins2 B1 B2 w1 w2 fun h' gz gti gtu e1 e2 sz hk => wpAny_pyIter_zip gz ?_
      have J2 : Inv X pn σ H1 { s1 with heap := h' } := I1.kept (t' := s1.toks) hk
      have sp := zip_sep2 m1 m2
      rw [← Zk.fp_drop, ← Zk.fp_drop] at sp
      exact ⟨s1.heap.objs.size + 4, [s1.heap.objs.size + 4, s1.heap.objs.size + 2, s1.heap.objs.size + 3, s1.heap.objs.size, s1.heap.objs.size + 1], _, _, H1, rfl, J2,
        turn_zipG sp (Zk.far_of m1 (Nat.le_refl _)) (Zk.far_of m2 (Nat.le_succ _)), ⟨gz, gti, ⟨_, _, gtu⟩, s1' _ _ e1, s2' _ _ e2⟩, all5, q1⟩
/-- what d gives, item by item -/
def feedD : D → List D → Prop
  | .lst xs, l => l = xs
  | .seq xs, l => l = xs
  | .tup xs, l => l = xs
  | .str x, l => l = signs x
  | _, _ => False
def gZipG (ga : GA) : GI := fun δ μ R => ga δ μ fun ds μ1 => ∃ x y xs ys, ds = [x, y] ∧ feedD x xs ∧ feedD y ys ∧ R (pairsL xs ys) μ1
theorem signs_repV {K : PySem.W.Frag} {H : Hp} {μ : Mu} (x : Str) : RepL K H μ (signs x) (x.cps.toList.map fun c => V.str ⟨#[c]⟩) := by
  unfold signs
  generalize x.cps.toList = l
  induction l with
  | nil => exact RepL.nil
  | cons c l ih => exact RepL.cons to_str ih
theorem feed_zk {K : PySem.W.Frag} {H : Hp} {μ : Mu} {d : D} {l : List D} {v : V} (f : feedD d l) (r : Rep K H μ d v) (t : Tok) :
    ∃ (k : Zk) (p : List V), ZkV k v ∧ (∀ x t', k = .S x t' → t' = t) ∧ RepL K H μ l p ∧ ∀ H' μ', Kp H μ H' μ' → k.src K H' p := by
  cases d <;> try exact False.elim f
  · rename_i x
    have f : l = signs x := f
    subst f
    exact ⟨.S x t, _, rep_str r, (fun y t' e => by cases e; rfl), signs_repV x, fun H' μ' k => rfl⟩
  · rename_i xs
    have f : l = xs := f
    subst f
    obtain ⟨a, vs, rfl, im, rl⟩ := rep_tup r
    exact ⟨.T a, vs, rfl, (fun y t' e => by cases e), rl, fun H' μ' k => (im.mono k).sq⟩
  · rename_i xs
    have f : l = xs := f
    subst f
    obtain ⟨a, vs, rfl, e1, e2, rl⟩ := rep_lst r
    exact ⟨.L a, vs, rfl, (fun y t' e => by cases e), rl, fun H' μ' k => SqL.of (k.k1 _ _ e1 e2)⟩
  · rename_i xs
    have f : l = xs := f
    subst f
    unfold Rep at r
    obtain ⟨a, vs, rfl, im, rl⟩ := r
    exact ⟨.L a, vs, rfl, (fun y t' e => by cases e), rl, fun H' μ' k => (im.mono k).sq⟩
theorem di_zipG {X : Cx} {e e2 : Expr} {ga : GA} {p pos tpos : Pos} {elts : List Expr} {kk : Nat} (hg : Gl X "zip") (hm : X.mg "zip" = none) (h : DA X [e, e2] ga)
    (hs : starEach [e, e2] X.env = (false, eval e X.env) :: starEach [e2] X.env := by rfl) (hpl : (backTo pos (starEach [e2] X.env)).any (·.1) = false := by rfl) :
    DI X (.Tuple elts kk tpos) (.Call (.Name "zip" p) [e, e2] [] pos) (gZipG ga) := by
  obtain ⟨t, a1, a2⟩ := h.ex
  refine ⟨_, pi_zipG hg hm a1 hs hpl, fun σ H δ μ Q R rm rs q f => ?_⟩
  refine a2 σ H δ μ _ _ rm rs q fun vs ds H1 μ1 k1 rm1 r1 ⟨x, y, xs, ys, ed, fx, fy, q1⟩ => ?_
  subst ed
  obtain ⟨vx, vy, rfl, rx, ry⟩ := repL2 r1
  refine ⟨vx, vy, rfl, fun t1 t2 => ?_⟩
  obtain ⟨ka, pa, z1, y1, l1, s1⟩ := feed_zk fx rx t1
  obtain ⟨kb, pb, z2, y2, l2, s2⟩ := feed_zk fy ry t2
  refine ⟨ka, kb, pa, pb, z1, z2, y1, y2, s1 H1 μ1 (Kp.refl _ _), s2 H1 μ1 (Kp.refl _ _), f _ _ H1 μ1 k1 rm1 ?_ q1⟩
  have e1 := l1.length
  have e2 := l2.length
  have el : (pairsL xs ys).length = min xs.length ys.length := by unfold pairsL; rw [List.length_zipWith]
  refine ⟨fun i H' hi ⟨μ', k, rm'⟩ => ?_, fun H' ⟨μ', k, rm'⟩ => ?_, fun i H' v H2 hi _ yl μ' k rm' => ?_⟩
  · rw [el] at hi
    exact ⟨pa, pb, pa[i]'(by omega), pb[i]'(by omega), s1 H' μ' k, s2 H' μ' k, List.getElem?_eq_getElem _, List.getElem?_eq_getElem _⟩
  · exact ⟨pa, pb, s1 H' μ' k, s2 H' μ' k, by rw [el]; omega, by rw [el]; omega, by rw [el]; omega⟩
  · obtain ⟨T, u, w, ev, nT, eH, hu, hw⟩ := yl
    subst ev eH
    rw [el] at hi
    have g1 := hu pa (s1 H' μ' k)
    have g2 := hw pb (s2 H' μ' k)
    obtain ⟨dx, ex, rx'⟩ := (l1.mono k _ _).atV g1
    obtain ⟨dy, ey, ry'⟩ := (l2.mono k _ _).atV g2
    refine ⟨.tup [dx, dy], ?_, ?_, Kp.new nT, rm'.laid nT⟩
    · unfold pairsL
      rw [List.getElem?_zipWith, ex, ey]
    · unfold Rep
      exact ⟨T, _, rfl, .inl ⟨upd_same, rm'.free nT⟩, RepL.cons (rx'.mono (Kp.new nT)) (RepL.cons (ry'.mono (Kp.new nT)) RepL.nil)⟩
end DL
set_option Elab.async false
set_option linter.all false
set_option maxRecDepth 100000
namespace DL
open PySem PySem.Spec PyProof.Rows L2
/-! ### data that can be compared -/
structure Lay (d : D) (p : PyData) (n : Nat) : Prop where
  py : DL.py d = some p
  lay : p.canLay0 = true
  dep : p.depth ≤ n
structure LayL (ds : List D) (ps : List PyData) (n : Nat) : Prop where
  py : DL.pyL ds = some ps
  lay : PyData.canLayAll0 ps = true
  dep : PyData.depthAll ps ≤ n
theorem lay_int (i : Int) (n : Nat) : Lay (.int i) (.int i) n := ⟨by unfold DL.py; rfl, by unfold PyData.canLay0; rfl, by unfold PyData.depth; omega⟩
theorem lay_bl (b : Bool) (n : Nat) : Lay (.bl b) (.bool b) n := ⟨by unfold DL.py; rfl, by unfold PyData.canLay0; rfl, by unfold PyData.depth; omega⟩
theorem lay_str {x : Str} (h : x.cps.all (· < 0x110000) = true) (n : Nat) : Lay (.str x) (.str x) n := ⟨by unfold DL.py; rfl, by unfold PyData.canLay0; exact h, by unfold PyData.depth; omega⟩
theorem layL_nil (n : Nat) : LayL [] [] n := ⟨by unfold DL.pyL; rfl, by unfold PyData.canLayAll0; rfl, by unfold PyData.depthAll; omega⟩
theorem layL_cons {d : D} {p : PyData} {ds : List D} {ps : List PyData} {n : Nat} (h : Lay d p n) (k : LayL ds ps n) : LayL (d :: ds) (p :: ps) n := by
  refine ⟨?_, ?_, ?_⟩
  · unfold DL.pyL
    rw [h.py, k.py]
  · unfold PyData.canLayAll0
    rw [h.lay, k.lay]
    rfl
  · unfold PyData.depthAll
    have := h.dep
    have := k.dep
    omega
theorem lay_tup {ds : List D} {ps : List PyData} {n : Nat} (k : LayL ds ps n) : Lay (.tup ds) (.tuple ps) (n + 1) := by
  refine ⟨?_, ?_, ?_⟩
  · unfold DL.py
    rw [k.py]
    rfl
  · unfold PyData.canLay0
    exact k.lay
  · unfold PyData.depth
    have := k.dep
    omega
theorem lay_lst {ds : List D} {ps : List PyData} {n : Nat} (k : LayL ds ps n) : Lay (.lst ds) (.list ps) (n + 1) := by
  refine ⟨?_, ?_, ?_⟩
  · unfold DL.py
    rw [k.py]
    rfl
  · unfold PyData.canLay0
    exact k.lay
  · unfold PyData.depth
    have := k.dep
    omega
theorem layL_map {α : Type} {f : α → D} {g : α → PyData} {n : Nat} : ∀ {l : List α}, (∀ x ∈ l, Lay (f x) (g x) n) → LayL (l.map f) (l.map g) n
  | [], _ => layL_nil n
  | a :: l, h => layL_cons (h a List.mem_cons_self) (layL_map fun x hx => h x (List.mem_cons_of_mem _ hx))
theorem Lay.shaped {d : D} {p : PyData} {n : Nat} (h : Lay d p n) (hn : n ≤ 64) : SeqAt.shaped p = true := by
  unfold SeqAt.shaped
  rw [h.lay, decide_eq_true (Nat.le_trans h.dep hn)]
  rfl
theorem Lay.cmp {d d' : D} {p p' : PyData} {n m : Nat} (h : Lay d p n) (h' : Lay d' p' m) (hn : n ≤ 64) (hm : m ≤ 64) {k : Bool → Bool} {μ : Mu} {R : KD} (q : R (.bl (k (PyData.eqv p p'))) μ) : gEqD k d d' μ R :=
  ⟨p, p', h.py, h'.py, h.shaped hn, h'.shaped hm, q⟩
/-- compared with itself -/
theorem Lay.same {d : D} {p : PyData} {n : Nat} (h : Lay d p n) (hn : n ≤ 64) {k : Bool → Bool} {μ : Mu} {R : KD} (q : R (.bl (k true)) μ) : gEqD k d d μ R :=
  h.cmp h hn hn (by rw [SeqAt.eqv_refl _ h.lay]; exact q)
theorem eqv_nil (ps : List PyData) : PyData.eqv (.list ps) (.list []) = decide (ps = []) := by
  cases ps with
  | nil => rw [decide_eq_true rfl]; unfold PyData.eqv PyData.eqvAll; rfl
  | cons p ps => rw [decide_eq_false (List.cons_ne_nil _ _)]; unfold PyData.eqv PyData.eqvAll; rfl
/-- a list compared with the empty one -/
theorem LayL.none {ds : List D} {ps : List PyData} {n : Nat} (h : LayL ds ps n) (hn : n + 1 ≤ 64) {k : Bool → Bool} {μ : Mu} {R : KD} (q : R (.bl (k (decide (ds = [])))) μ) : gEqD k (.lst ds) (.lst []) μ R := by
  refine (lay_lst h).cmp (lay_lst (layL_nil 0)) hn (by omega) ?_
  rw [eqv_nil]
  have e : (decide (ps = [])) = decide (ds = []) := by
    refine decide_eq_decide.mpr ?_
    have p := h.py
    cases ds with
    | nil =>
      unfold DL.pyL at p
      exact ⟨fun _ => rfl, fun _ => (Option.some.inj p).symm⟩
    | cons d ds =>
      constructor
      · intro e
        subst e
        unfold DL.pyL at p
        split at p <;> cases p
      · intro e
        cases e
  rw [e]
  exact q
/-- a lot -/
theorem layL_ints (l : List Int) (n : Nat) : LayL (l.map D.int) (l.map PyData.int) n := layL_map fun x _ => lay_int x n
end DL
set_option Elab.async false
set_option linter.all false
set_option maxRecDepth 100000
namespace DL
open PySem PySem.Spec PyProof.Rows L2
/-! ### a tuple, a list as a test -/
end DL
set_option Elab.async false
set_option linter.all false
set_option maxRecDepth 100000
namespace DL
open PySem PySem.Spec PyProof.Rows L2
/-! ### while -/
def gWhile (gc : GT) (gb : GS) : GS := fun F δ μ => ∃ Iv : Nat → DS → Mu → Prop, (∃ m, Iv m δ μ) ∧
  ∀ m δ' μ', Iv m δ' μ' → gc δ' μ' fun b μ2 => if b = true then gb { F with nx := fun δ2 μ3 => ∃ m', m' < m ∧ Iv m' δ2 μ3, ct := fun δ2 μ3 => ∃ m', m' < m ∧ Iv m' δ2 μ3, bk := F.nx } δ' μ2 else F.nx δ' μ2
theorem ds_while {X : Cx} {c : Expr} {body : List Stmt} {pos : Pos} {gc : GT} {gb : GS} (hp : PassesOwn (model X.prog X.w) X.A X.env X.xe) (hc : DT X c gc) (hb : DSs X body gb) : DSt X (.While c body [] pos) (gWhile gc gb) := by
  obtain ⟨tc, c1, c2⟩ := hc.ex
  obtain ⟨tb, b1, b2⟩ := hb.ex
  refine ⟨_, ps_while hp c1 b1, fun σ H δ μ E F rm rs e ⟨Iv, ⟨m0, h0⟩, turn⟩ => ?_⟩
  refine ⟨fun m σ2 H2 => ∃ δ2 μ2, Kp H μ H2 μ2 ∧ RM X.K H2 μ2 ∧ RepS X.K H2 μ2 δ2 σ2 ∧ Iv m δ2 μ2, ⟨m0, δ, μ, Kp.refl _ _, rm, rs, h0⟩, ?_⟩
  rintro m σ2 H2 ⟨δ2, μ2, k2, rm2, rs2, iv⟩
  refine c2 σ2 H2 δ2 μ2 _ _ rm2 rs2 (turn m δ2 μ2 iv) fun b H3 μ3 k3 rm3 q3 => ?_
  cases b with
  | false => exact e.nx σ2 H3 δ2 μ3 (k2.trans k3) rm3 (rs2.mono k3) q3
  | true =>
    rw [if_pos rfl] at q3 ⊢
    refine ⟨fun σ4 H4 => ∃ m', m' < m ∧ ∃ δ4 μ4, Kp H μ H4 μ4 ∧ RM X.K H4 μ4 ∧ RepS X.K H4 μ4 δ4 σ4 ∧ Iv m' δ4 μ4, fun σ' H' ⟨m', l, w⟩ => ⟨m', l, w⟩, ?_⟩
    refine b2 σ2 H3 δ2 μ3 _ _ rm3 (rs2.mono k3) ⟨?_, ?_, ?_, ?_⟩ q3
    · exact fun σ5 H5 δ5 μ5 k5 rm5 rs5 ⟨m', l, q5⟩ => ⟨m', l, δ5, μ5, k2.trans (k3.trans k5), rm5, rs5, q5⟩
    · exact e.rt.re (k2.trans k3)
    · exact fun σ5 H5 δ5 μ5 k5 rm5 rs5 q5 => e.nx σ5 H5 δ5 μ5 (k2.trans (k3.trans k5)) rm5 rs5 q5
    · exact fun σ5 H5 δ5 μ5 k5 rm5 rs5 ⟨m', l, q5⟩ => ⟨m', l, δ5, μ5, k2.trans (k3.trans k5), rm5, rs5, q5⟩
end DL
set_option Elab.async false
set_option linter.all false
set_option maxRecDepth 100000
namespace K10
open PySem PySem.Spec PyProof.Rows L2 DL
section
variable {P : Program} {w : World} {K : PySem.W.Frag} {mg : Str → Option Value} {base : Heap} {A : Ad}
/-! ### shared by the families of laws -/
theorem OkT.snoc {p : List Nat} {ts : List Str} (h : OkT p ts) {a b : Nat} (ha : a ∈ p) (hb : b ∈ p) (k : a ≤ b) : OkT p (ts ++ [yTie a b]) := ⟨fun y hy => by
  rcases List.mem_append.mp hy with q | q
  · exact h.ties y q
  · rw [List.mem_singleton.mp q]
    exact ⟨a, b, rfl, ha, hb, k⟩⟩
theorem mm_in {p : List Nat} {a b : Nat} (ha : a ∈ p) (hb : b ∈ p) : min a b ∈ p ∧ max a b ∈ p ∧ min a b ≤ max a b := by
  by_cases e : a ≤ b
  · rw [Nat.min_eq_left e, Nat.max_eq_right e]; exact ⟨ha, hb, e⟩
  · rw [Nat.min_eq_right (by omega), Nat.max_eq_left (by omega)]; exact ⟨hb, ha, by omega⟩
theorem toS_size (h : List Nat) : (toS h).length = h.length := by show h.toArray.size = _; rw [List.size_toArray]
/-- the store but for new cells and the bag at a, whose third number has grown to n at most -/
structure Sn (μ μ1 : Mu) (a : Addr) (n : Nat) : Prop where
  keep : ∀ c o, c ≠ a → μ c = some o → μ1 c = some o
  has : ∃ (x y : Int) (z : Nat), μ1 a = some (pot x y z) ∧ z ≤ n
theorem Sn.draw {μ μ1 : Mu} {a : Addr} {n m : Nat} (s : Sn μ μ1 a n) (x y : Int) {z : Nat} (h : z ≤ m) : Sn μ (put μ1 a (pot x y z)) a m :=
  ⟨fun c o hc e => by rw [put_ne hc]; exact s.keep c o hc e, ⟨x, y, z, put_same, h⟩⟩
theorem Sn.up {μ μ1 : Mu} {a : Addr} {n m : Nat} (s : Sn μ μ1 a n) (h : n ≤ m) : Sn μ μ1 a m := by
  obtain ⟨x, y, z, e, hz⟩ := s.has
  exact ⟨s.keep, ⟨x, y, z, e, by omega⟩⟩
theorem Sn.cell {μ μ1 : Mu} {a b : Addr} {n : Nat} (s : Sn μ μ1 a n) (nb : μ b = none) (ne : b ≠ a) (o : MO) : Sn μ (put μ1 b o) a n := by
  obtain ⟨x, y, z, e, hz⟩ := s.has
  refine ⟨fun c o' hc e' => ?_, ⟨x, y, z, by rw [put_ne ne.symm]; exact e, hz⟩⟩
  rw [put_ne (fun q => by rw [q, nb] at e'; cases e')]
  exact s.keep c o' hc e'
theorem Sn.new {μ μ1 : Mu} {a b : Addr} {n : Nat} (s : Sn μ μ1 a n) (nb : μ1 b = none) : μ b = none ∧ b ≠ a := by
  obtain ⟨x, y, z, e, hz⟩ := s.has
  have ne : b ≠ a := fun q => by rw [q, e] at nb; cases nb
  refine ⟨?_, ne⟩
  cases h : μ b with
  | none => rfl
  | some o =>
    have := s.keep b o ne h
    rw [nb] at this
    cases this
theorem Sn.into {μ μ1 : Mu} {a : Addr} {n : Nat} (s : Sn μ μ1 a n) : ∃ (x y : Int) (z : Nat), z ≤ n ∧ ∀ d, Into d μ1 d (put μ a (pot x y z)) := by
  obtain ⟨x, y, z, e, hz⟩ := s.has
  refine ⟨x, y, z, hz, fun d => .less fun c o hc => ?_⟩
  by_cases q : c = a
  · rw [q, put_same] at hc
    rw [q, e]
    exact hc
  · rw [put_ne q] at hc
    exact s.keep c o q hc
theorem Sn.back {μ μ1 : Mu} {a : Addr} {n : Nat} (s : Sn μ μ1 a n) {d : D} {R : KD} (h : ∀ (x y : Int) (z : Nat), z ≤ n → R d (put μ a (pot x y z))) : freed R d μ1 := by
  obtain ⟨x, y, z, hz, i⟩ := s.into
  exact ⟨d, _, i d, h x y z hz⟩
theorem chs_in {p : List Nat} {d : D} (h : d ∈ chs p) : ∃ c, c ∈ p ∧ d = .str (sg c) := by
  obtain ⟨c, hc, rfl⟩ := List.mem_map.mp h
  exact ⟨c, hc, rfl⟩
theorem chs_len (p : List Nat) : (chs p).length = p.length := List.length_map _
theorem signs_chs (p : List Nat) : DL.signs (toS p) = chs p := by
  unfold DL.signs chs
  rw [toS_list]
  rfl
theorem one_long (a b : Nat) : (lowS a b).length + (highS a b).length ≤ sizeLine := by
  have el : lowS a b = sg (min a b) := min_sg a b
  have eh : highS a b = sg (max a b) := max_sg a b
  rw [el, eh]
  show 1 + 1 ≤ sizeLine
  decide
theorem one_tie (a b : Nat) : lowS a b ++ highS a b = yTie (min a b) (max a b) := by
  have el : lowS a b = sg (min a b) := min_sg a b
  have eh : highS a b = sg (max a b) := max_sg a b
  rw [el, eh, sg_add]
theorem len_empty : ("" : Str).length = 0 := by decide +kernel
end
end K10
set_option Elab.async false
set_option linter.all false
set_option maxRecDepth 100000
namespace K10
open PySem PySem.Spec PyProof.Rows L2 DL
section
variable {P : Program} {w : World} {K : PySem.W.Frag} {mg : Str → Option Value} {base : Heap} {A : Ad}
/-! ### draws of the purses -/
theorem np1 : (2147483423 : Int) ≠ 0 := by decide
theorem np2 : (2147483399 : Int) ≠ 0 := by decide
theorem np3 : (39979 : Int) ≠ 0 := by decide
def g_L_purse : GC := fun ds μ R => ∃ (ns : List Int) (k : Nat), ds = [.seq (ns.map D.int), .int (k : Nat)] ∧ ns.length ≤ 1000 ∧ k ≤ 1000 ∧ ∀ (x y : Int) (a : Addr), μ a = none → R (.adr a) (put μ a (pot x y 0))
def N51 : List Str := ["_law_script", "_law_k", "_law_cell", "_law_more", "_law_figures"]
theorem sc51 : FnScope N51 ["_law_script", "_law_k"] (defScope (top 51)) := ⟨rfl, rfl, rfl, by decide +kernel, rfl, by decide +kernel, by decide +kernel⟩
theorem ok_L_purse (T : Tx K mg A) : FnOk P A.w K mg base CX0 1 A.L_purse A.fd_L_purse ["_law_script", "_law_k"] (toSp K (g_L_purse)) := by
  refine okD T.F_L_purse sc51 (fun ds μ R h => ?_) ⟨_, fun cdv A0 outer s H E hr =>
    (dss_cons (ds_set sc51.nd (i := 2) rfl (by first | exact Or.inl rfl | exact Or.inr rfl) (de_if (dt_cmp op_ltA sim_ord (dv 1) (de_callB cr_len sim_len (by rfl) T.z_len boot_len (da_cons (dv 0) da_nil)) (nomark _)) (de_ix ix_any sim_ix (dv 0) (dv 1) (fun _ _ => rfl)) (de_op op_plus sim_plus (de_op op_mul sim_mul de_int (dv 1)) de_int)))
      (dss_cons (ds_if (dt_cmp op_geA sim_ord (dv 1) (de_callB cr_len sim_len (by rfl) T.z_len boot_len (da_cons (dv 0) da_nil)) (nomark _)) (dss_one (ds_for PassesOwn.never rfl (di_both (de_slice (dv 0) dp_none (dp_some de_int))) (pg_name (i := 3) sc51.nd rfl (by first | exact Or.inl rfl | exact Or.inr rfl)) (sim_nm (i := 3))
      (dss_one (ds_set sc51.nd (i := 2) rfl (by first | exact Or.inl rfl | exact Or.inr rfl) (de_op op_modN sim_mod (de_callTy call_int1 sim_int (by rfl) T.z_int boot_int (da_cons (de_op op_plus sim_plus (de_op op_mul sim_mul (dv 2) de_int) (de_op op_mul sim_mul (dv 3) (de_op op_plus sim_plus (dv 1) de_int))) da_nil)) de_int))))) dss_nil)
      (dss_cons (ds_set sc51.nd (i := 4) rfl (by first | exact Or.inl rfl | exact Or.inr rfl) (de_if (dw_or (dt_cmp op_ltA sim_ord (dv 2) de_int (nomark _)) (dw_or1 (dt_cmp op_geA sim_ord (dv 2) (de_op op_pow sim_pow de_int de_int) (nomark _)))).dt (de_callB call_abs sim_abs (by rfl) T.z_abs boot_abs (da_cons (dv 2) da_nil)) de_int))
      (dss_one (ds_ret (de_cell (da_cons (de_op op_modN sim_mod (de_callTy call_int1 sim_int (by rfl) T.z_int boot_int (da_cons (dv 2) da_nil)) de_int) (da_cons (dv 4) (da_cons de_int da_nil))))))))), fun ds μ R h => ?_⟩
  · obtain ⟨ns, k, rfl, _⟩ := h
    rfl
  · obtain ⟨ns, k, rfl, ln, k3, h⟩ := h
    refine if_case (c := decide ((k : Int) < ((ns.map D.int).length : Int))) (fun e => ?_) (fun e => ?_)
    · have e := of_decide_eq_true e
      have hk : k < ns.length := by
        have : ((ns.map D.int).length : Int) = ns.length := by rw [List.length_map]
        omega
      obtain ⟨c, hn⟩ := ints_at hk
      apply atK_nat hn
      refine if_case (c := decide (((ns.map D.int).length : Int) ≤ (k : Int))) (fun e2 => ?_) (fun _ => ?_)
      · have := of_decide_eq_true e2
        omega
      refine if_case (c := decide (c < 0)) (fun e => ?_) (fun e => ?_)
      · refine ⟨np2, ?_⟩
        refine ⟨by show 3 ≤ sizeLine; decide, fun a na => ?_⟩
        exact h _ _ a na
      · refine ⟨⟨by decide, by decide, by decide⟩, ?_⟩
        refine if_case (c := decide ((10 : Int) ^ (18 : Int).toNat ≤ c)) (fun e => ?_) (fun e => ?_)
        · refine ⟨np2, ?_⟩
          refine ⟨by show 3 ≤ sizeLine; decide, fun a na => ?_⟩
          exact h _ _ a na
        · refine ⟨np2, ?_⟩
          refine ⟨by show 3 ≤ sizeLine; decide, fun a na => ?_⟩
          exact h _ _ a na
    · have e := of_decide_eq_false e
      refine ⟨Or.inl ⟨by decide, by decide⟩, ?_⟩
      refine if_case (c := decide (((ns.map D.int).length : Int) ≤ (k : Int))) (fun _ => ?_) (fun e2 => ?_)
      · refine ⟨fun i δ' μ' => μ' = μ ∧ ∃ (c : Int) (o3 : Option D), δ' = [some (.seq (ns.map D.int)), some (.int (k : Nat)), some (.int c), o3, none], ⟨rfl, _, none, rfl⟩, ?_, ?_⟩
        · rintro i x δ' μ' hx ⟨rfl, c, o3, rfl⟩
          obtain ⟨n, rfl⟩ := cut_ints hx
          refine ⟨Or.inr ⟨by decide, by decide⟩, ?_⟩
          refine ⟨Or.inr ⟨by omega, by omega⟩, ?_⟩
          refine ⟨np1, ?_⟩
          exact ⟨rfl, _, _, rfl⟩
        · rintro δ' μ' ⟨rfl, c, o3, rfl⟩
          refine if_case (c := decide (c < 0)) (fun e => ?_) (fun e => ?_)
          · refine ⟨np2, ?_⟩
            refine ⟨by show 3 ≤ sizeLine; decide, fun a na => ?_⟩
            exact h _ _ a na
          · refine ⟨⟨by decide, by decide, by decide⟩, ?_⟩
            refine if_case (c := decide ((10 : Int) ^ (18 : Int).toNat ≤ c)) (fun e => ?_) (fun e => ?_)
            · refine ⟨np2, ?_⟩
              refine ⟨by show 3 ≤ sizeLine; decide, fun a na => ?_⟩
              exact h _ _ a na
            · refine ⟨np2, ?_⟩
              refine ⟨by show 3 ≤ sizeLine; decide, fun a na => ?_⟩
              exact h _ _ a na
      · have := of_decide_eq_false e2
        omega
def g_L_take : GC := fun ds μ R => ∃ (a : Addr) (x y : Int) (z : Nat) (m : Int), ds = [.adr a, .int m] ∧ μ a = some (pot x y z) ∧ z ≤ 1000000 ∧ 0 < m ∧ m < 1073741824 ∧ ∀ (d : Nat) (x y : Int), (d : Int) < m → R (.int (d : Nat)) (put μ a (pot x y (z + 1 : Nat)))
def N52 : List Str := ["_law_purse_here", "_law_many", "_law_digit", "_law_seed", "_law_laps", "_law_factor"]
theorem sc52 : FnScope N52 ["_law_purse_here", "_law_many"] (defScope (top 52)) := ⟨rfl, rfl, rfl, by decide +kernel, rfl, by decide +kernel, by decide +kernel⟩
theorem ok_L_take (T : Tx K mg A) : FnOk P A.w K mg base CX0 1 A.L_take A.fd_L_take ["_law_purse_here", "_law_many"] (toSp K (g_L_take)) := by
  refine okD T.F_L_take sc52 (fun ds μ R h => ?_) ⟨_, fun cdv A0 outer s H E hr =>
    (dss_cons (ds_asgH (de_op op_plus sim_plus (de_ix ix_any sim_ix (dv 0) de_int (fun _ _ => rfl)) de_int) (pg_subD (dv 0) de_int) simH_subD)
      (dss_cons (ds_if (dt_cmp op_gtA sim_ord (de_ix ix_any sim_ix (dv 0) de_int (fun _ _ => rfl)) de_int (nomark _)) (dss_cons (ds_asgH (de_callB call_divmodW sim_divmodW2 (by rfl) T.z_divmod boot_divmod (da_cons (de_ix ix_any sim_ix (dv 0) de_int (fun _ _ => rfl)) (da_cons (dv 1) da_nil))) (pg_tup (n := 2) (by rfl) (pgs_cons (pg_subD (dv 0) de_int) (pgs_cons (pg_name (i := 2) sc52.nd rfl (by first | exact Or.inl rfl | exact Or.inr rfl)) pgs_nil))) (simH_tup (n := 2) (simH_cons simH_subD (simH_cons (simH_nm (i := 2)) simH_nil))))
      (dss_one (ds_ret (dv 2)))) dss_nil)
      (dss_cons (ds_par (i := 3) (j := 4) (by rfl) sc52.nd rfl rfl (by decide) rfl rfl (da_cons (de_callTy call_int1 sim_int (by rfl) T.z_int boot_int (da_cons (de_ix ix_any sim_ix (dv 0) de_int (fun _ _ => rfl)) da_nil)) (da_cons (de_ix ix_any sim_ix (dv 0) de_int (fun _ _ => rfl)) da_nil)) (by rfl))
      (dss_cons (ds_set sc52.nd (i := 5) rfl (by first | exact Or.inl rfl | exact Or.inr rfl) (de_op op_plus sim_plus (de_op op_modN sim_mod (de_callTy call_int1 sim_int (by rfl) T.z_int boot_int (da_cons (de_op op_fdivN sim_fdiv (dv 3) de_int) da_nil)) de_int) de_int))
      (dss_cons (ds_asgH (de_op op_modN sim_mod (de_callTy call_int1 sim_int (by rfl) T.z_int boot_int (da_cons (de_op op_plus sim_plus (de_op op_plus sim_plus (de_op op_mul sim_mul (dv 3) (dv 5)) (de_op op_mul sim_mul (de_op op_mul sim_mul de_int (dv 4)) (dv 4))) de_int) da_nil)) de_int) (pg_subD (dv 0) de_int) simH_subD)
      (dss_one (ds_ret (de_op op_modN sim_mod (de_callTy call_int1 sim_int (by rfl) T.z_int boot_int (da_cons (de_op op_fdivN sim_fdiv (de_ix ix_any sim_ix (dv 0) de_int (fun _ _ => rfl)) de_int) da_nil)) (dv 1))))))))), fun ds μ R h => ?_⟩
  · obtain ⟨a, x, y, z, m, rfl, _⟩ := h
    rfl
  · obtain ⟨a, x, y, z, m, rfl, ha, hz, m0, m1, h⟩ := h
    have mn : m ≠ 0 := by omega
    have ez : ((z : Int) + 1) = ((z + 1 : Nat) : Int) := by omega
    apply ix_cell 2 ha rfl
    apply set_cell (ds' := [.int x, .int y, .int ((z : Int) + 1)]) 2 ha (by show 2 < 3; omega) rfl
    rw [ez]
    have h1 : put μ a (.lst [.int x, .int y, .int ((z + 1 : Nat) : Int)]) a = some (.lst [.int x, .int y, .int ((z + 1 : Nat) : Int)]) := put_same
    generalize hμ : put μ a (.lst [.int x, .int y, .int ((z + 1 : Nat) : Int)]) = μ1 at h1 ⊢
    dsimp only
    apply ix_cell 1 h1 rfl
    refine if_case (c := decide (0 < y)) (fun e => ?_) (fun e => ?_)
    · apply ix_cell 1 h1 rfl
      refine ⟨⟨m0, by omega⟩, ?_⟩
      refine ⟨rfl, _, 1, h1, rfl, ?_⟩
      show R (.int (y % m)) (put μ1 a (pot x (y / m) (z + 1 : Nat)))
      have hn : 0 ≤ y % m := Int.emod_nonneg _ (by omega)
      have hl : y % m < m := Int.emod_lt_of_pos _ m0
      have := h (y % m).toNat x (y / m) (by omega)
      rw [Int.toNat_of_nonneg hn] at this
      rw [← hμ, put_put]
      exact this
    · apply ix_cell 0 h1 rfl
      apply ix_cell 2 h1 rfl
      refine ⟨⟨by decide, by decide⟩, ?_⟩
      refine ⟨np3, ?_⟩
      have f0 : 0 ≤ (x.fdiv 13).fmod 39979 := Int.fmod_nonneg_of_pos _ (by decide)
      have f1 : (x.fdiv 13).fmod 39979 < 39979 := Int.fmod_lt_of_pos _ (by decide)
      refine ⟨Or.inr ⟨by omega, by omega⟩, ?_⟩
      refine ⟨Or.inl ⟨by decide, by decide⟩, Or.inr ⟨by omega, by omega⟩, np2, ?_⟩
      obtain ⟨x1, hx⟩ : ∃ x1, (x * ((x.fdiv 13).fmod 39979 + 30071) + 50021 * ((z + 1 : Nat) : Int) * ((z + 1 : Nat) : Int) + 37).fmod 2147483399 = x1 := ⟨_, rfl⟩
      apply set_cell (ds' := [.int x1, .int y, .int ((z + 1 : Nat) : Int)]) 0 h1 (by show 0 < 3; omega) (by rw [← hx]; rfl)
      rw [← hμ, put_put]
      have h2 : put μ a (.lst [.int x1, .int y, .int ((z + 1 : Nat) : Int)]) a = some (.lst [.int x1, .int y, .int ((z + 1 : Nat) : Int)]) := put_same
      generalize hμ2 : put μ a (.lst [.int x1, .int y, .int ((z + 1 : Nat) : Int)]) = μ2 at h2 ⊢
      dsimp only
      apply ix_cell 0 h2 rfl
      refine ⟨⟨by decide, by decide⟩, ?_⟩
      refine ⟨mn, ?_⟩
      show R (.int ((x1.fdiv 128).fmod m)) μ2
      rw [← hμ2]
      have hn : 0 ≤ (x1.fdiv 128).fmod m := Int.fmod_nonneg_of_pos _ m0
      have hl : (x1.fdiv 128).fmod m < m := Int.fmod_lt_of_pos _ m0
      have := h ((x1.fdiv 128).fmod m).toNat x1 y (by omega)
      rw [Int.toNat_of_nonneg hn] at this
      exact this
def g_L_one : GC := fun ds μ R => ∃ (a : Addr) (x y : Int) (z : Nat) (p : List Nat), ds = [.adr a, .str (toS p)] ∧ μ a = some (pot x y z) ∧ z ≤ 1000000 ∧ 1 ≤ p.length ∧ p.length ≤ 5000 ∧ ∀ (c : Nat) (x y : Int), c ∈ p → R (.str (sg c)) (put μ a (pot x y (z + 1 : Nat)))
def N53 : List Str := ["_law_purse_here", "_law_things"]
theorem sc53 : FnScope N53 ["_law_purse_here", "_law_things"] (defScope (top 53)) := ⟨rfl, rfl, rfl, by decide +kernel, rfl, by decide +kernel, by decide +kernel⟩
theorem ok_L_one (T : Tx K mg A) : FnOk P A.w K mg base CX0 2 A.L_one A.fd_L_one ["_law_purse_here", "_law_things"] (toSp K (g_L_one)) := by
  refine okD T.F_L_one sc53 (fun ds μ R h => ?_) ⟨_, fun cdv A0 outer s H E hr =>
    (dss_one (ds_ret (de_ix ix_any sim_ix (dv 1) (de_call ((ok_L_take T).mono (by decide)) hr (by rfl) T.g_L_take T.F_L_take.kp T.b_L_take (da_cons (dv 0) (da_cons (de_callB cr_len sim_len (by rfl) T.z_len boot_len (da_cons (dv 1) da_nil)) da_nil))) (fun _ _ => rfl)))), fun ds μ R h => ?_⟩
  · obtain ⟨a, x, y, z, p, rfl, _⟩ := h
    rfl
  · obtain ⟨a, x, y, z, p, rfl, ha, hz, l1, l2, h⟩ := h
    have zp : (toS p).length ≤ sizeLine := by rw [toS_size, sizeLine_eq]; omega
    refine ⟨zp, ?_⟩
    rw [toS_size]
    refine ⟨a, x, y, z, _, rfl, ha, hz, by omega, by omega, fun v x y hv => ?_⟩
    have hv : v < p.length := by omega
    refine ⟨zp, ?_⟩
    rw [toS_list, atI_nat (List.getElem?_eq_getElem hv)]
    exact h _ _ _ (List.getElem_mem hv)
end
end K10
set_option Elab.async false
set_option linter.all false
set_option maxRecDepth 100000
namespace K10
open PySem PySem.Spec PyProof.Rows L2 DL
section
variable {P : Program} {w : World} {K : PySem.W.Frag} {mg : Str → Option Value} {base : Heap} {A : Ad}
/-! ### webs drawn; leanings -/
def dPair (p : List Nat) (ts : List Str) : D := .tup [.str (toS p), .tup (ts.map D.str)]
def g_L_web : GC := fun ds μ R => ∃ (a : Addr) (x y : Int) (z most many : Nat), ds = [.adr a, .int (most : Nat), .int (many : Nat)] ∧ μ a = some (pot x y z) ∧ z ≤ 10000 ∧ 1 ≤ most ∧ most ≤ 7 ∧ many ≤ 11 ∧
  ∀ (p : List Nat) (ts : List Str) (x y : Int) (z' : Nat), OkPlaces p → OkT p ts → p.length ≤ most → ts.length ≤ many → z' ≤ z + 100 → R (dPair p ts) (put μ a (pot x y z'))
def N54 : List Str := ["_law_purse_here", "_law_most_places", "_law_most_ties", "_law_left", "_law_found", "_law_k", "_law_places_here", "_law_ties_here", "_law_one_here", "_law_two"]
theorem sc54 : FnScope N54 ["_law_purse_here", "_law_most_places", "_law_most_ties"] (defScope (top 54)) := ⟨rfl, rfl, rfl, by decide +kernel, rfl, by decide +kernel, by decide +kernel⟩
theorem ok_L_web (T : Tx K mg A) : FnOk P A.w K mg base CX0 3 A.L_web A.fd_L_web ["_law_purse_here", "_law_most_places", "_law_most_ties"] (toSp K (g_L_web)) := by
  refine okDF T.F_L_web sc54 (fun ds μ R h => ?_) ⟨_, fun cdv A0 outer s H E hr =>
    (dss_cons (ds_par (i := 3) (j := 4) (by rfl) sc54.nd rfl rfl (by decide) rfl rfl (da_cons (de_callTy (call_listS (by rfl)) sim_listSC (by rfl) T.z_list boot_list (da_cons de_str da_nil)) (da_cons (de_cell da_nil) da_nil)) (by rfl))
      (dss_cons (ds_for PassesOwn.never rfl (di_range (by rfl) T.z_range (da_cons (de_op op_plus sim_plus de_int (de_call ((ok_L_take T).mono (by decide)) hr (by rfl) T.g_L_take T.F_L_take.kp T.b_L_take (da_cons (dv 0) (da_cons (dv 1) da_nil)))) da_nil)) (pg_name (i := 5) sc54.nd rfl (by first | exact Or.inl rfl | exact Or.inr rfl)) (sim_nm (i := 5))
      (dss_one (ds_expr (de_bm PySem.F.plainAttrs_list PySem.F.slot_list_append PySem.F.type_list_append mt_append sim_append ok_cell (dv 4) (da_cons (de_bm PySem.F.plainAttrs_list PySem.F.slot_list_pop PySem.F.type_list_pop mt_popAt sim_popAt ok_cell (dv 3) (da_cons (de_call ((ok_L_take T).mono (by decide)) hr (by rfl) T.g_L_take T.F_L_take.kp T.b_L_take (da_cons (dv 0) (da_cons (de_callB cr_len sim_lenC (by rfl) T.z_len boot_len (da_cons (dv 3) da_nil)) da_nil))) da_nil)) da_nil)))))
      (dss_cons (ds_par (i := 6) (j := 7) (by rfl) sc54.nd rfl rfl (by decide) rfl rfl (da_cons (de_bm PySem.F.plainAttrs_str PySem.F.slot_str_join PySem.F.type_str_join mt_join sim_join ok_str de_str (da_cons (de_callB cr_sortedS sim_srtC (by rfl) T.z_sorted boot_sorted (da_cons (dv 4) da_nil)) da_nil)) (da_cons (de_cell da_nil) da_nil)) (by rfl))
      (dss_cons (ds_for PassesOwn.never rfl (di_range (by rfl) T.z_range (da_cons (de_call ((ok_L_take T).mono (by decide)) hr (by rfl) T.g_L_take T.F_L_take.kp T.b_L_take (da_cons (dv 0) (da_cons (de_op op_plus sim_plus (dv 2) de_int) da_nil))) da_nil)) (pg_name (i := 5) sc54.nd rfl (by first | exact Or.inl rfl | exact Or.inr rfl)) (sim_nm (i := 5))
      (dss_cons (ds_par (i := 8) (j := 9) (by rfl) sc54.nd rfl rfl (by decide) rfl rfl (da_cons (de_call ((ok_L_one T).mono (by decide)) hr (by rfl) T.g_L_one T.F_L_one.kp T.b_L_one (da_cons (dv 0) (da_cons (dv 6) da_nil))) (da_cons (de_call ((ok_L_one T).mono (by decide)) hr (by rfl) T.g_L_one T.F_L_one.kp T.b_L_one (da_cons (dv 0) (da_cons (dv 6) da_nil))) da_nil)) (by rfl))
      (dss_cons (ds_set sc54.nd (i := 9) rfl (by first | exact Or.inl rfl | exact Or.inr rfl) (de_if (dw_and (dt_cmp (op_eqA hr.units) sim_eq (dv 8) (dv 9) (nomark _)) (dw_and1 (dt_cmp op_gtA sim_ord (de_call ((ok_L_take T).mono (by decide)) hr (by rfl) T.g_L_take T.F_L_take.kp T.b_L_take (da_cons (dv 0) (da_cons de_int da_nil))) de_int (nomark _)))).dt (de_call ((ok_L_one T).mono (by decide)) hr (by rfl) T.g_L_one T.F_L_one.kp T.b_L_one (da_cons (dv 0) (da_cons (dv 6) da_nil))) (dv 9)))
      (dss_one (ds_expr (de_bm PySem.F.plainAttrs_list PySem.F.slot_list_append PySem.F.type_list_append mt_append sim_append ok_cell (dv 7) (da_cons (de_op op_plus sim_plus (de_callB (cr_minS (by rfl)) sim_minS (by rfl) T.z_min boot_min (da_cons (dv 8) (da_cons (dv 9) da_nil))) (de_callB (cr_maxS (by rfl)) sim_maxS (by rfl) T.z_max boot_max (da_cons (dv 8) (da_cons (dv 9) da_nil)))) da_nil)))))))
      (dss_one (ds_ret (de_tup (da_cons (dv 6) (da_cons (de_callTy call_tuple_of sim_tupC (by rfl) T.z_tuple boot_tuple (da_cons (dv 7) da_nil)) da_nil))))))))), fun ds μ R h => ?_⟩
  · obtain ⟨a, x, y, z, most, many, rfl, _⟩ := h
    rfl
  · obtain ⟨a, x, y, z, most, many, rfl, ha, hz, o1, o7, o11, h⟩ := h
    have z0 : 0 ≤ sizeLine := by decide
    have z2 : 2 ≤ sizeLine := by decide
    have sl8 : ("abcdefgh" : Str).length ≤ sizeLine := by
      have e : ("abcdefgh" : Str).length = 8 := by decide +kernel
      rw [e, sizeLine_eq]
      omega
    have s0 : Sn μ μ a z := ⟨fun c o _ e => e, ⟨x, y, z, ha, Nat.le_refl _⟩⟩
    refine ⟨sl8, fun b1 m1' => ?_⟩
    obtain ⟨m1, e1⟩ := s0.new m1'
    have s1 := s0.cell m1 e1 (.lst (DL.signs ("abcdefgh" : Str)))
    have c1 : Sc μ (put μ b1 (.lst (DL.signs ("abcdefgh" : Str)))) a b1 (chs eight) := ⟨by rw [put_same, eight_signs], m1, e1⟩
    generalize put μ b1 (.lst (DL.signs ("abcdefgh" : Str))) = μ1 at s1 c1 ⊢
    refine ⟨z0, fun b2 n2 => ?_⟩
    obtain ⟨m2, e2⟩ := s1.new n2
    have d12 : b1 ≠ b2 := c1.apart (l' := []) n2
    have s2 := s1.cell m2 e2 (.lst [])
    have c1 := c1.other (o := .lst []) d12
    have c2 : Sc μ (put μ1 b2 (.lst [])) a b2 (chs []) := ⟨put_same, m2, e2⟩
    generalize put μ1 b2 (.lst []) = μ2 at s2 c1 c2 ⊢
    obtain ⟨px, py, pz, hpot, hpz⟩ := s2.has
    refine ⟨a, px, py, pz, _, rfl, hpot, by omega, by omega, by omega, fun n x y hn => ?_⟩
    have s2 := s2.draw (m := z + 1) x y (z := pz + 1) (by omega)
    have c1 := c1.draw x y ((pz + 1 : Nat) : Int)
    have c2 := c2.draw x y ((pz + 1 : Nat) : Int)
    generalize put μ2 a (pot x y (pz + 1 : Nat)) = μ3 at s2 c1 c2 ⊢
    refine ⟨⟨by omega, by omega⟩, ?_⟩
    have en : ((List.range ((1 : Int) + (n : Nat)).toNat).map fun i => D.int (i : Nat)).length = n + 1 := by
      rw [List.length_map, List.length_range]
      omega
    refine ⟨fun i δ' μ' => i ≤ n + 1 ∧ ∃ (pl fo : List Nat) (o5 : Option D), Sn μ μ' a (z + 1 + i) ∧ Sc μ μ' a b1 (chs pl) ∧ Sc μ μ' a b2 (chs fo) ∧ (pl ++ fo).Perm eight ∧ fo.length = i ∧
      δ' = [some (.adr a), some (.int (most : Nat)), some (.int (many : Nat)), some (.adr b1), some (.adr b2), o5, none, none, none, none], ⟨by omega, eight, [], none, s2, c1, c2, by rw [List.append_nil], rfl, rfl⟩, ?_, ?_⟩
    · rintro i it δ' μ' hi ⟨_, pl, fo, o5, s, k1, k2, hp, hl, rfl⟩
      obtain ⟨hi, rfl⟩ := range_at hi
      have hi : i < n + 1 := by omega
      have hpl : pl.length + fo.length = 8 := by
        have := hp.length_eq
        rw [List.length_append] at this
        exact this
      refine ⟨cell_ok k2.at_, ?_⟩
      refine ⟨cell_ok k1.at_, ?_⟩
      refine ⟨_, _, rfl, k1.at_, ?_⟩
      rw [chs_len]
      obtain ⟨px, py, pz, hpot, hpz⟩ := s.has
      refine ⟨a, px, py, pz, _, rfl, hpot, by omega, by omega, by omega, fun v x y hv => ?_⟩
      have hv : v < pl.length := by omega
      have s := s.draw (m := z + 1 + (i + 1)) x y (z := pz + 1) (by omega)
      have k1 := k1.draw x y ((pz + 1 : Nat) : Int)
      have k2 := k2.draw x y ((pz + 1 : Nat) : Int)
      generalize put μ' a (pot x y (pz + 1 : Nat)) = μ5 at s k1 k2 ⊢
      refine ⟨_, k1.at_, by omega, by omega, .str (sg pl[v]), ?_, ?_⟩
      · show (chs pl)[v]? = _
        unfold chs
        rw [List.getElem?_map, List.getElem?_eq_getElem hv]
        rfl
      · have ee : (chs pl).eraseIdx ((v : Int)).toNat = chs (pl.eraseIdx v) := by
          unfold chs
          rw [erase_map]
          rfl
        rw [ee]
        have s := s.cell k1.new k1.ne (.lst (chs (pl.eraseIdx v)))
        have k2 := k2.other (o := .lst (chs (pl.eraseIdx v))) d12.symm
        have k1 := k1.same (m := chs (pl.eraseIdx v))
        generalize put μ5 b1 (.lst (chs (pl.eraseIdx v))) = μ6 at s k1 k2 ⊢
        refine ⟨_, k2.at_, by rw [chs_len, sizeLine_eq]; omega, ?_⟩
        have ef : chs fo ++ [.str (sg pl[v])] = chs (fo ++ [pl[v]]) := by
          unfold chs
          rw [List.map_append]
          rfl
        rw [ef]
        refine ⟨by omega, pl.eraseIdx v, fo ++ [pl[v]], _, s.cell k2.new k2.ne _, k1.other d12, k2.same, ?_, by rw [List.length_append, hl]; rfl, rfl⟩
        refine .trans ?_ hp
        have p1 : (pl[v] :: pl.eraseIdx v).Perm pl := erase_perm pl v hv
        refine .trans ?_ (p1.append_right fo)
        rw [← List.append_assoc]
        exact List.perm_append_comm.trans (by simp)
    · rintro δ' μ' ⟨_, pl, fo, o5, s, k1, k2, hp, hl, rfl⟩
      rw [en] at hl s
      refine ⟨trivial, ?_⟩
      refine ⟨_, fo.map sg, rfl, by rw [k2.at_]; unfold chs; rw [List.map_map]; rfl, by rw [List.length_map]; omega, fun ys hy hs => ?_⟩
      obtain ⟨p, q1, q2, rfl⟩ := sorted_signs hy hs
      have hpl : p.length = n + 1 := by rw [q1.length_eq, hl]
      have nod : (pl ++ fo).Nodup := hp.nodup_iff.mpr (by decide)
      have nf : fo.Nodup := (List.nodup_append.mp nod).2.1
      have np : p.Nodup := q1.nodup_iff.mpr nf
      have asc : p.Pairwise (· < ·) := by
        have := List.Pairwise.and q2 np
        exact this.imp fun h => Nat.lt_of_le_of_ne h.1 h.2
      have op : OkPlaces p := by
        refine ⟨by omega, by omega, asc, fun c hc => ?_⟩
        have : c ∈ eight := hp.subset (List.mem_append_right _ (q1.subset hc))
        simp [eight] at this
        omega
      refine ⟨_, rfl, by rw [sum_sg, len_empty]; omega, ?_⟩
      rw [join_sg]
      refine ⟨z0, fun b3 n3 => ?_⟩
      obtain ⟨m3, e3⟩ := s.new n3
      have s3 := s.cell m3 e3 (.lst [])
      have c3 : Sc μ (put μ' b3 (.lst [])) a b3 (([] : List Str).map D.str) := ⟨put_same, m3, e3⟩
      generalize put μ' b3 (.lst []) = μ4 at s3 c3 ⊢
      obtain ⟨px, py, pz, hpot, hpz⟩ := s3.has
      refine ⟨a, px, py, pz, _, rfl, hpot, by omega, by omega, by omega, fun m x y hm => ?_⟩
      have s3 := s3.draw (m := z + 10) x y (z := pz + 1) (by omega)
      have c3 := c3.draw x y ((pz + 1 : Nat) : Int)
      generalize put μ4 a (pot x y (pz + 1 : Nat)) = μ5 at s3 c3 ⊢
      have hm : m ≤ many := by omega
      refine ⟨⟨by omega, by omega⟩, ?_⟩
      rw [Int.toNat_natCast]
      refine ⟨fun i δ' μ' => i ≤ m ∧ ∃ (ts : List Str) (o5 o8 o9 : Option D), Sn μ μ' a (z + 10 + 4 * i) ∧ Sc μ μ' a b3 (ts.map D.str) ∧ OkT p ts ∧ ts.length = i ∧
        δ' = [some (.adr a), some (.int (most : Nat)), some (.int (many : Nat)), some (.adr b1), some (.adr b2), o5, some (.str (toS p)), some (.adr b3), o8, o9], ⟨by omega, [], _, none, none, s3, c3, ⟨fun y hy => by cases hy⟩, rfl, rfl⟩, ?_, ?_⟩
      · rintro i it δ' μ' hi ⟨_, ts, o5, o8, o9, s, k3, ot, ht, rfl⟩
        obtain ⟨hi, rfl⟩ := range_at hi
        obtain ⟨px, py, pz, hpot, hpz⟩ := s.has
        refine ⟨a, px, py, pz, p, rfl, hpot, by omega, by omega, by omega, fun c1 x y hc1 => ?_⟩
        have s := s.draw (m := z + 10 + 4 * i + 1) x y (z := pz + 1) (by omega)
        have k3 := k3.draw x y ((pz + 1 : Nat) : Int)
        generalize put μ' a (pot x y (pz + 1 : Nat)) = μ7 at s k3 ⊢
        obtain ⟨px, py, pz, hpot, hpz⟩ := s.has
        refine ⟨a, px, py, pz, p, rfl, hpot, by omega, by omega, by omega, fun c2 x y hc2 => ?_⟩
        have s := s.draw (m := z + 10 + 4 * i + 2) x y (z := pz + 1) (by omega)
        have k3 := k3.draw x y ((pz + 1 : Nat) : Int)
        generalize put μ7 a (pot x y (pz + 1 : Nat)) = μ8 at s k3 ⊢
        have fin : ∀ (c3 : Nat) (μ9 : Mu), c3 ∈ p → Sn μ μ9 a (z + 10 + 4 * i + 4) → Sc μ μ9 a b3 (ts.map D.str) → ts.map D.str ++ [.str (yTie (min c1 c3) (max c1 c3))] = (ts ++ [yTie (min c1 c3) (max c1 c3)]).map D.str ∧ Sn μ (put μ9 b3 (.lst ((ts ++ [yTie (min c1 c3) (max c1 c3)]).map D.str))) a (z + 10 + 4 * (i + 1)) ∧ Sc μ (put μ9 b3 (.lst ((ts ++ [yTie (min c1 c3) (max c1 c3)]).map D.str))) a b3 ((ts ++ [yTie (min c1 c3) (max c1 c3)]).map D.str) ∧ OkT p (ts ++ [yTie (min c1 c3) (max c1 c3)]) ∧ (ts ++ [yTie (min c1 c3) (max c1 c3)]).length = i + 1 := fun c3 μ9 hc3 s9 k9 => by
          obtain ⟨q1, q2, q3⟩ := mm_in hc1 hc3
          exact ⟨by rw [List.map_append]; rfl, (s9.cell k9.new k9.ne _).up (by omega), k9.same, ot.snoc q1 q2 q3, by rw [List.length_append, ht]; rfl⟩
        have lts : (ts.map D.str).length < sizeLine := by rw [List.length_map, sizeLine_eq]; omega
        refine if_case (c := decide (sg c1 = sg c2)) (fun _ => ?_) (fun _ => ?_)
        · obtain ⟨px, py, pz, hpot, hpz⟩ := s.has
          refine ⟨a, px, py, pz, _, rfl, hpot, by omega, by omega, by omega, fun w x y hw => ?_⟩
          have s := s.draw (m := z + 10 + 4 * i + 3) x y (z := pz + 1) (by omega)
          have k3 := k3.draw x y ((pz + 1 : Nat) : Int)
          generalize put μ8 a (pot x y (pz + 1 : Nat)) = μ9 at s k3 ⊢
          refine if_case (c := decide ((0 : Int) < (w : Int))) (fun _ => ?_) (fun _ => ?_)
          · obtain ⟨px, py, pz, hpot, hpz⟩ := s.has
            refine ⟨a, px, py, pz, p, rfl, hpot, by omega, by omega, by omega, fun c3 x y hc3 => ?_⟩
            have s := s.draw (m := z + 10 + 4 * i + 4) x y (z := pz + 1) (by omega)
            have k3 := k3.draw x y ((pz + 1 : Nat) : Int)
            generalize put μ9 a (pot x y (pz + 1 : Nat)) = μ10 at s k3 ⊢
            obtain ⟨f0, f1, f2, f3, f4⟩ := fin c3 μ10 hc3 s k3
            refine ⟨cell_ok k3.at_, ?_⟩
            refine ⟨one_long c1 c3, ?_⟩
            refine ⟨_, k3.at_, lts, ?_⟩
            have eo : lowS c1 c3 ++ highS c1 c3 = yTie (min c1 c3) (max c1 c3) := one_tie c1 c3
            refine ⟨by omega, ts ++ [yTie (min c1 c3) (max c1 c3)], _, _, _, ?_, ?_, f3, f4, rfl⟩
            · rw [← f0, ← eo] at f1
              exact f1
            · rw [← f0, ← eo] at f2 ⊢
              exact f2
          · obtain ⟨f0, f1, f2, f3, f4⟩ := fin c2 μ9 hc2 (s.up (by omega)) k3
            refine ⟨cell_ok k3.at_, ?_⟩
            refine ⟨one_long c1 c2, ?_⟩
            refine ⟨_, k3.at_, lts, ?_⟩
            have eo : lowS c1 c2 ++ highS c1 c2 = yTie (min c1 c2) (max c1 c2) := one_tie c1 c2
            refine ⟨by omega, ts ++ [yTie (min c1 c2) (max c1 c2)], _, _, _, ?_, ?_, f3, f4, rfl⟩
            · rw [← f0, ← eo] at f1
              exact f1
            · rw [← f0, ← eo] at f2 ⊢
              exact f2
        · obtain ⟨f0, f1, f2, f3, f4⟩ := fin c2 μ8 hc2 (s.up (by omega)) k3
          refine ⟨cell_ok k3.at_, ?_⟩
          refine ⟨one_long c1 c2, ?_⟩
          refine ⟨_, k3.at_, lts, ?_⟩
          have eo : lowS c1 c2 ++ highS c1 c2 = yTie (min c1 c2) (max c1 c2) := one_tie c1 c2
          refine ⟨by omega, ts ++ [yTie (min c1 c2) (max c1 c2)], _, _, _, ?_, ?_, f3, f4, rfl⟩
          · rw [← f0, ← eo] at f1
            exact f1
          · rw [← f0, ← eo] at f2 ⊢
            exact f2
      · rintro δ' μ' ⟨_, ts, o5, o8, o9, s, k3, ot, ht, rfl⟩
        rw [List.length_map, List.length_range] at ht s
        refine ⟨_, _, rfl, k3.at_, ?_⟩
        refine ⟨z2, ?_⟩
        exact s.back fun x y z' hz' => h p ts x y z' op ot (by omega) (by omega) (by omega)
end
end K10
set_option Elab.async false
set_option linter.all false
set_option maxRecDepth 100000
namespace K10
open PySem PySem.Spec PyProof.Rows L2 DL
section
variable {P : Program} {w : World} {K : PySem.W.Frag} {mg : Str → Option Value} {base : Heap} {A : Ad}
/-! ### leanings: strings of signs, one for each tie -/
def sgn (b : Bool) : Nat := if b then 43 else 45
def lnC (l : List Bool) : List Nat := l.map sgn
def lnS (l : List Bool) : Str := toS (lnC l)
theorem lnC_len (l : List Bool) : (lnC l).length = l.length := List.length_map _
theorem plus_sg : ("+" : Str) = sg 43 := by decide +kernel
theorem two_signs_text : ("+-" : Str) = toS [43, 45] := by decide +kernel
theorem plus_is (b : Bool) : decide (sg (sgn b) = ("+" : Str)) = b := by
  rw [plus_sg]
  cases b with
  | true => exact decide_eq_true rfl
  | false => exact decide_eq_false (by decide +kernel)
theorem lnC_in {c : Nat} (h : c ∈ ([43, 45] : List Nat)) : ∃ b, c = sgn b := by
  rcases List.mem_cons.mp h with q | q
  · exact ⟨true, q⟩
  · exact ⟨false, List.mem_singleton.mp q⟩
/-- where the arrow starts -/
def tailC (y : Str) (b : Bool) : Nat := if b then (ends y).1 else (ends y).2
def wayS (y : Str) (b : Bool) : Str := if b then y else revS y
def waysL (ts : List Str) (l : List Bool) : List Str := List.zipWith wayS ts l
theorem way_tie (a b : Nat) (s : Bool) : ∃ c d, wayS (yTie a b) s = yTie c d ∧ c = tailC (yTie a b) s := by
  cases s with
  | true => exact ⟨a, b, rfl, rfl⟩
  | false => exact ⟨b, a, rfl, rfl⟩
/-- two letters -/
def IsWay (w : Str) : Prop := ∃ a b : Nat, w = yTie a b
theorem ways_are {p : List Nat} : ∀ {ts : List Str} {l : List Bool}, OkT p ts → ∀ w ∈ waysL ts l, IsWay w
  | [], _, _, _, h => by cases h
  | _ :: _, [], _, _, h => by cases h
  | y :: ts, b :: l, ot, w, h => by
    obtain ⟨c, d, rfl, _⟩ := ot.ties y List.mem_cons_self
    rcases List.mem_cons.mp h with q | q
    · obtain ⟨e, f, e1, _⟩ := way_tie c d b
      exact ⟨e, f, q.trans e1⟩
    · exact ways_are (ts := ts) (l := l) ⟨fun z hz => ot.ties z (List.mem_cons_of_mem _ hz)⟩ w q
theorem perm_back {α β : Type} {f : α → β} : ∀ {l : List α} {zs : List β}, zs.Perm (l.map f) → ∃ ms : List α, ms.Perm l ∧ zs = ms.map f := fun {l zs} h => by
  obtain ⟨m, h1, h2⟩ : ∃ m : List α, m.Perm l ∧ zs = m.map f := by
    generalize e : l.map f = ws at h
    induction h generalizing l with
    | nil => exact ⟨[], by rw [List.map_eq_nil_iff.mp e], rfl⟩
    | cons x p ih =>
      obtain ⟨a, r, rfl, rfl, rfl⟩ : ∃ a r, l = a :: r ∧ f a = x ∧ r.map f = _ := by
        cases l with
        | nil => cases e
        | cons a r =>
          rw [List.map_cons] at e
          injection e with e1 e2
          exact ⟨a, r, rfl, e1, e2⟩
      obtain ⟨m, m1, rfl⟩ := ih rfl
      exact ⟨a :: m, m1.cons a, rfl⟩
    | swap x y p =>
      match l, e with
      | a :: b :: r, e =>
        rw [List.map_cons, List.map_cons] at e
        injection e with e1 e2
        injection e2 with e2 e3
        exact ⟨b :: a :: r, List.Perm.swap _ _ _, by rw [List.map_cons, List.map_cons, e1, e2, e3]⟩
    | trans p1 p2 ih1 ih2 =>
      obtain ⟨m2, q2, r2⟩ := ih2 e
      obtain ⟨m1, q1, r1⟩ := ih1 r2.symm
      exact ⟨m1, q1.trans q2, r1⟩
  exact ⟨m, h1, h2⟩
/-! ### the law's own leanings -/
def g_L_lean : GC := fun ds μ R => ∃ (a : Addr) (x y : Int) (z : Nat) (ts : List Str), ds = [.adr a, .tup (ts.map D.str)] ∧ μ a = some (pot x y z) ∧ z ≤ 100000 ∧ ts.length ≤ 11 ∧
  ∀ (l : List Bool) (x y : Int) (z' : Nat), l.length = ts.length → z' ≤ z + ts.length → R (.str (lnS l)) (put μ a (pot x y z'))
def g_L_ways : GC := fun ds μ R => ∃ (p : List Nat) (ts : List Str) (l : List Bool), ds = [.tup (ts.map D.str), .str (lnS l)] ∧ OkT p ts ∧ l.length = ts.length ∧ ts.length ≤ 11 ∧ R (.lst ((waysL ts l).map D.str)) μ
def N55 : List Str := ["_law_purse_here", "_law_ties_here", "_law_tie"]
theorem sc55 : FnScope N55 ["_law_purse_here", "_law_ties_here"] (defScope (top 55)) := ⟨rfl, rfl, rfl, by decide +kernel, rfl, by decide +kernel, by decide +kernel⟩
theorem ok_L_lean (T : Tx K mg A) : FnOk P A.w K mg base CX0 3 A.L_lean A.fd_L_lean ["_law_purse_here", "_law_ties_here"] (toSp K (g_L_lean)) := by
  refine okDF T.F_L_lean sc55 (fun ds μ R h => ?_) ⟨_, fun cdv A0 outer s H E hr =>
    (dss_one (ds_ret (de_bm PySem.F.plainAttrs_str PySem.F.slot_str_join PySem.F.type_str_join mt_join sim_join ok_str de_str (da_cons (de_lc (own := [("_law_tie", 2)]) (by rfl) sc55.nd (di_both (dv 1)) (blkOk_by (N := N55) (own := [("_law_tie", 2)]) (sc := defScope (top 55)) (by decide +kernel)) (fun _ _ _ _ _ => (pg_name (i := 2) sc55.nd rfl (by first | exact Or.inl rfl | exact Or.inr rfl))) (sim_nm (i := 2)) (fun _ _ _ _ _ => dts_nil) (fun _ _ _ _ _ => (de_call ((ok_L_one T).mono (by decide)) hr (by rfl) T.g_L_one T.F_L_one.kp T.b_L_one (da_cons (dv 0) (da_cons de_str da_nil))))) da_nil)))), fun ds μ R h => ?_⟩
  · obtain ⟨a, x, y, z, ts, rfl, _⟩ := h
    rfl
  · obtain ⟨a, x, y, z, ts, rfl, ha, hz, few, h⟩ := h
    refine ⟨True.intro, ?_⟩
    show LcB _ _ _ _ _ _ _ _
    refine lcb_eff (fun i ys ν => i ≤ ts.length ∧ ∃ l : List Bool, l.length = i ∧ ys = chs (lnC l) ∧ Sn μ ν a (z + i)) ?_ ⟨Nat.zero_le _, [], rfl, rfl, ⟨fun c o _ e => e, ⟨x, y, z, ha, Nat.le_refl _⟩⟩⟩ ?_ ?_ ?_
    · rw [List.length_map, sizeLine_eq]
      omega
    · rintro i ys ν ⟨_, l, hl, rfl, _⟩
      rw [chs_len, lnC_len, hl]
      exact Nat.le_refl _
    · rintro i it hi b ys ν N Y nb ⟨_, l, hl, rfl, s⟩ hN hY
      have hi : i < ts.length := by
        have := (List.getElem?_eq_some_iff.mp hi).1
        rwa [List.length_map] at this
      obtain ⟨px, py, pz, hpot, hpz⟩ := s.has
      have ne : b ≠ a := fun e => by rw [e, hpot] at nb; cases nb
      refine ⟨a, px, py, pz, [43, 45], congrArg (fun q => [D.adr a, D.str q]) two_signs_text, by rw [put_ne ne.symm]; exact hpot, by omega, by decide, by decide, fun c x y hc => ?_⟩
      obtain ⟨w, rfl⟩ := lnC_in hc
      rw [put_comm ne]
      refine hY (.str (sg (sgn w))) _ (by rw [put_ne ne]; exact nb) ⟨hi, l ++ [w], by rw [List.length_append, hl]; rfl, ?_, s.draw x y (by omega)⟩
      unfold chs lnC
      rw [List.map_append, List.map_append]
      rfl
    · rintro ys ν ⟨_, l, hl, rfl, s⟩
      rw [List.length_map] at hl s
      refine ⟨(lnC l).map sg, by unfold chs; rw [List.map_map]; rfl, by rw [sum_sg, len_empty, lnC_len]; omega, ?_⟩
      rw [join_sg]
      exact s.back fun x y z' hz' => h l x y z' hl hz'
def N56 : List Str := ["_law_ties_here", "_law_leaning_here", "_law_k"]
theorem sc56 : FnScope N56 ["_law_ties_here", "_law_leaning_here"] (defScope (top 56)) := ⟨rfl, rfl, rfl, by decide +kernel, rfl, by decide +kernel, by decide +kernel⟩
theorem ok_L_ways (T : Tx K mg A) : FnOk P A.w K mg base CX0 1 A.L_ways A.fd_L_ways ["_law_ties_here", "_law_leaning_here"] (toSp K (g_L_ways)) := by
  refine okD T.F_L_ways sc56 (fun ds μ R h => ?_) ⟨_, fun cdv A0 outer s H E hr =>
    (dss_one (ds_ret (de_lc (own := [("_law_k", 2)]) (by rfl) sc56.nd (di_range (by rfl) T.z_range (da_cons (de_callB cr_len sim_len (by rfl) T.z_len boot_len (da_cons (dv 0) da_nil)) da_nil)) (blkOk_by (N := N56) (own := [("_law_k", 2)]) (sc := defScope (top 56)) (by decide +kernel)) (fun _ _ _ _ _ => (pg_name (i := 2) sc56.nd rfl (by first | exact Or.inl rfl | exact Or.inr rfl))) (sim_nm (i := 2)) (fun _ _ _ _ _ => dts_nil) (fun _ _ _ _ _ => (de_if (dt_cmp (op_eqA hr.units) sim_eq (de_ix ix_any sim_ix (dv 1) (dv 2) (fun _ _ => rfl)) de_str (nomark _)) (de_ix ix_any sim_ix (dv 0) (dv 2) (fun _ _ => rfl)) (de_revS (de_ix ix_any sim_ix (dv 0) (dv 2) (fun _ _ => rfl)))))))), fun ds μ R h => ?_⟩
  · obtain ⟨p, ts, l, rfl, _⟩ := h
    rfl
  · obtain ⟨p, ts, l, rfl, ot, hl, few, h⟩ := h
    have lt : (ts.map D.str).length = ts.length := List.length_map _
    refine ⟨⟨by omega, by omega⟩, ?_⟩
    show LcB _ _ _ _ _ _ _ _
    refine lcb_map (fun d => match d with | .int k => .str (wayS (ts.getD k.toNat Str.empty) (l.getD k.toNat true)) | d => d) ?_ ?_ ?_
    · rw [List.length_map, List.length_range, sizeLine_eq]
      omega
    · intro d hd ν Y _ hY
      obtain ⟨k, hk, rfl⟩ := List.mem_map.mp hd
      have hk : k < ts.length := by
        have := List.mem_range.mp hk
        omega
      have hk2 : k < l.length := by omega
      have at_ : (ts.map D.str)[k]? = some (.str (ts.getD k Str.empty)) := by
        rw [List.getElem?_map, List.getD_eq_getElem?_getD, List.getElem?_eq_getElem hk]
        rfl
      have as : L2.atI (lnC l) (k : Int) = some (sgn (l.getD k true)) := atI_nat (by
        unfold lnC
        rw [List.getElem?_map, List.getD_eq_getElem?_getD, List.getElem?_eq_getElem hk2]
        rfl)
      have hY : Y (.str (wayS (ts.getD k Str.empty) (l.getD k true))) ν := hY
      have zl : (lnS l).length ≤ sizeLine := by show (toS (lnC l)).length ≤ _; rw [toS_size, lnC_len, sizeLine_eq]; omega
      refine ⟨zl, ?_⟩
      unfold lnS
      rw [toS_list, as]
      refine if_case (c := decide (sg (sgn (l.getD k true)) = ("+" : Str))) (fun e => ?_) (fun e => ?_)
      · rw [plus_is] at e
        rw [e] at hY
        exact atK_nat at_ hY
      · rw [plus_is] at e
        rw [e] at hY
        refine atK_nat at_ ⟨_, rfl, ?_, hY⟩
        obtain ⟨c, d, e2, _⟩ := ot.ties _ (by rw [List.getD_eq_getElem?_getD, List.getElem?_eq_getElem hk]; exact List.getElem_mem _ : ts.getD k Str.empty ∈ ts)
        rw [e2]
        show 2 ≤ sizeLine
        decide
    have e : (((List.range ((ts.map D.str).length : Int).toNat).map fun i => D.int (i : Nat)).map fun d => match d with | .int k => .str (wayS (ts.getD k.toNat Str.empty) (l.getD k.toNat true)) | d => d) = (waysL ts l).map D.str := by
      rw [List.map_map, Int.toNat_natCast, lt]
      apply List.ext_getElem?
      intro k
      rw [List.getElem?_map, List.getElem?_map]
      unfold waysL
      rw [List.getElem?_zipWith]
      by_cases hk : k < ts.length
      · have hk2 : k < l.length := by omega
        rw [List.getElem?_range hk, List.getElem?_eq_getElem hk, List.getElem?_eq_getElem hk2]
        show some (D.str (wayS (ts.getD k Str.empty) (l.getD k true))) = some (D.str (wayS ts[k] l[k]))
        rw [List.getD_eq_getElem?_getD, List.getD_eq_getElem?_getD, List.getElem?_eq_getElem hk, List.getElem?_eq_getElem hk2]
        rfl
      · rw [List.getElem?_eq_none (by rw [List.length_range]; omega), List.getElem?_eq_none (by omega)]
        rfl
    rw [e]
    exact h
end
end K10
set_option Elab.async false
set_option linter.all false
set_option maxRecDepth 100000
namespace K10
open PySem PySem.W PySem.Spec PyProof.Rows L2 DL
/-! mathematics of rows compared -/
theorem eqvAll_ints : ∀ r s : List Int, PyData.eqvAll (r.map .int) (s.map .int) = decide (r = s)
  | [], [] => by unfold PyData.eqvAll; rfl
  | [], _ :: _ => by unfold PyData.eqvAll; rfl
  | _ :: _, [] => by unfold PyData.eqvAll; rfl
  | x :: r, y :: s => by
    rw [List.map_cons, List.map_cons]
    unfold PyData.eqvAll
    rw [eqvAll_ints r s]
    unfold PyData.eqv
    by_cases h1 : x = y
    · by_cases h2 : r = s
      · simp [h1, h2]
      · simp [h1, h2]
    · simp [h1]
theorem eqv_ints (r s : List Int) : PyData.eqv (.tuple (r.map .int)) (.tuple (s.map .int)) = decide (r = s) := by
  unfold PyData.eqv
  exact eqvAll_ints r s
end K10
set_option Elab.async false
set_option linter.all false
set_option maxRecDepth 100000
namespace K10
open PySem PySem.Spec PyProof.Rows L2 DL
section
variable {P : Program} {w : World} {K : PySem.W.Frag} {mg : Str → Option Value} {base : Heap} {A : Ad}
/-! ### the program's score rows -/
def g_arrow_of : GC := fun ds μ R => ∃ (a b : Nat) (s : Bool), ds = [.str (yTie a b), .str (sg (sgn s))] ∧ R (.str (wayS (yTie a b) s)) μ
def g_arrows_of (C : Addr) : GC := fun ds μ R => ∃ (p : List Nat) (ts : List Str) (l : List Bool), ds = [dWeb C p ts, .str (lnS l)] ∧ OkT p ts ∧ l.length = ts.length ∧ ts.length ≤ 11 ∧ R (.tup ((waysL ts l).map D.str)) μ
def N36 : List Str := ["tie", "sign"]
theorem sc36 : FnScope N36 ["tie", "sign"] (defScope (top 36)) := ⟨rfl, rfl, rfl, by decide +kernel, rfl, by decide +kernel, by decide +kernel⟩
theorem ok_arrow_of (T : Tx K mg A) : FnOk P A.w K mg base CX0 1 A.arrow_of A.fd_arrow_of ["tie", "sign"] (toSp K (g_arrow_of)) := by
  refine okD T.F_arrow_of sc36 (fun ds μ R h => ?_) ⟨_, fun cdv A0 outer s H E hr =>
    (dss_one (ds_ret (de_if (dt_cmp (op_eqA hr.units) sim_eq (dv 1) de_str (nomark _)) (dv 0) (de_op op_plus sim_plus (de_ix ix_any sim_ix (dv 0) de_int (fun _ _ => rfl)) (de_ix ix_any sim_ix (dv 0) de_int (fun _ _ => rfl)))))), fun ds μ R h => ?_⟩
  · obtain ⟨a, b, s, rfl, _⟩ := h
    rfl
  · obtain ⟨a, b, s, rfl, h⟩ := h
    refine if_case (c := decide (sg (sgn s) = ("+" : Str))) (fun e => ?_) (fun e => ?_)
    · rw [plus_is] at e
      rw [e] at h
      exact h
    · rw [plus_is] at e
      rw [e] at h
      have z2 : (yTie a b).length ≤ sizeLine := by show 2 ≤ sizeLine; decide
      refine ⟨z2, ?_⟩
      refine ⟨z2, ?_⟩
      exact ⟨by show 1 + 1 ≤ sizeLine; decide, h⟩
theorem pairs_signs (ts : List Str) (l : List Bool) : DL.pairsL (ts.map D.str) (DL.signs (lnS l)) = List.zipWith (fun y b => D.tup [.str y, .str (sg (sgn b))]) ts l := by
  unfold lnS
  rw [signs_chs]
  unfold DL.pairsL chs lnC
  rw [List.map_map, List.zipWith_map]
  rfl
theorem zip_mem {α β γ : Type} {f : α → β → γ} : ∀ {xs : List α} {ys : List β} {z : γ}, z ∈ List.zipWith f xs ys → ∃ x ∈ xs, ∃ y ∈ ys, z = f x y
  | [], _, _, h => by simp at h
  | _ :: _, [], _, h => by simp at h
  | x :: xs, y :: ys, z, h => by
    rw [List.zipWith_cons_cons] at h
    rcases List.mem_cons.mp h with q | q
    · exact ⟨x, List.mem_cons_self, y, List.mem_cons_self, q⟩
    · obtain ⟨x', hx, y', hy, e⟩ := zip_mem q
      exact ⟨x', List.mem_cons_of_mem _ hx, y', List.mem_cons_of_mem _ hy, e⟩
def wayD : D → D
  | .tup [.str y, .str s] => .str (wayS y (decide (s = ("+" : Str))))
  | d => d
theorem way_pairs (ts : List Str) (l : List Bool) : (List.zipWith (fun y b => D.tup [.str y, .str (sg (sgn b))]) ts l).map wayD = (waysL ts l).map D.str := by
  unfold waysL
  rw [List.map_zipWith, List.map_zipWith]
  congr 1
  funext y b
  show D.str (wayS y (decide (sg (sgn b) = ("+" : Str)))) = _
  rw [plus_is]
def N37 : List Str := ["web", "leaning", "tie", "sign"]
theorem sc37 : FnScope N37 ["web", "leaning"] (defScope (top 37)) := ⟨rfl, rfl, rfl, by decide +kernel, rfl, by decide +kernel, by decide +kernel⟩
theorem ok_arrows_of (T : Tx K mg A) : FnOk P A.w K mg base CX0 2 A.arrows_of A.fd_arrows_of ["web", "leaning"] (toSp K (g_arrows_of A.Web)) := by
  refine okD T.F_arrows_of sc37 (fun ds μ R h => ?_) ⟨_, fun cdv A0 outer s H E hr =>
    (dss_one (ds_ret (de_callTy call_tuple_of sim_tuple (by rfl) T.z_tuple boot_tuple (da_cons (de_lc (own := [("tie", 2), ("sign", 3)]) (by rfl) sc37.nd (di_zipG (by rfl) T.z_zip (da_cons (de_fld T.k_Web T.n_ties (dv 0)) (da_cons (dv 1) da_nil))) (blkOk_by (N := N37) (own := [("tie", 2), ("sign", 3)]) (sc := defScope (top 37)) (by decide +kernel)) (fun _ _ _ _ _ => (pg_tup (n := 2) (by rfl) (pgs_cons (pg_name (i := 2) sc37.nd rfl (by first | exact Or.inl rfl | exact Or.inr rfl)) (pgs_cons (pg_name (i := 3) sc37.nd rfl (by first | exact Or.inl rfl | exact Or.inr rfl)) pgs_nil)))) (sim_tupT (n := 2) (sim_consT (sim_nm (i := 2)) (sim_consT (sim_nm (i := 3)) sim_nilT))) (fun _ _ _ _ _ => dts_nil) (fun _ _ _ _ _ => (de_call ((ok_arrow_of T).mono (by decide)) hr (by rfl) T.g_arrow_of T.F_arrow_of.kp T.b_arrow_of (da_cons (dv 2) (da_cons (dv 3) da_nil))))) da_nil)))), fun ds μ R h => ?_⟩
  · obtain ⟨p, ts, l, rfl, _⟩ := h
    rfl
  · obtain ⟨p, ts, l, rfl, ot, hl, few, h⟩ := h
    refine ⟨rfl, _, rfl, ?_⟩
    refine ⟨_, _, ts.map D.str, DL.signs (lnS l), rfl, rfl, rfl, ?_⟩
    rw [pairs_signs]
    show LcB _ _ _ _ _ _ _ _
    refine lcb_map wayD ?_ ?_ ?_
    · rw [List.length_zipWith, sizeLine_eq]
      omega
    · intro d hd ν Y _ hY
      obtain ⟨y, hy, b, _, rfl⟩ := zip_mem hd
      obtain ⟨c, e, rfl, _⟩ := ot.ties y hy
      have hY : Y (.str (wayS (yTie c e) (decide (sg (sgn b) = ("+" : Str))))) ν := hY
      rw [plus_is] at hY
      exact ⟨rfl, c, e, b, rfl, hY⟩
    rw [way_pairs]
    exact h
end
end K10
set_option Elab.async false
set_option linter.all false
set_option maxRecDepth 100000
namespace K10
/-! mathematics of arrows that turn: E i is the tail and the head of the i-th arrow -/
section
variable {E : Nat → Nat × Nat}
/-- the arrows c lead from a to b, one after another -/
def Run (E : Nat → Nat × Nat) (a : Nat) : List Nat → Nat → Prop
  | [], b => a = b
  | i :: c, b => (E i).1 = a ∧ Run E (E i).2 c b
theorem Run.append : ∀ {x y : List Nat} {a b : Nat}, Run E a (x ++ y) b ↔ ∃ m, Run E a x m ∧ Run E m y b
  | [], y, a, b => ⟨fun h => ⟨a, rfl, h⟩, fun ⟨m, h1, h2⟩ => by
    have h1 : a = m := h1
    subst h1
    exact h2⟩
  | i :: x, y, a, b => by
    show (E i).1 = a ∧ Run E (E i).2 (x ++ y) b ↔ _
    rw [Run.append]
    exact ⟨fun ⟨h1, m, h2, h3⟩ => ⟨m, ⟨h1, h2⟩, h3⟩, fun ⟨m, ⟨h1, h2⟩, h3⟩ => ⟨h1, m, h2, h3⟩⟩
theorem Run.one : ∀ {c : List Nat} {a b d : Nat}, Run E a c b → Run E a c d → b = d
  | [], _, _, _, h, k => Eq.trans (Eq.symm h) k
  | _ :: _, _, _, _, h, k => Run.one h.2 k.2
theorem Run.tails : ∀ {c : List Nat} {a b : Nat}, Run E a c b → c.map (fun i => (E i).1) ++ [b] = a :: c.map fun i => (E i).2
  | [], a, b, h => by
    have h : a = b := h
    subst h
    rfl
  | i :: c, a, b, h => by
    rw [List.map_cons, List.map_cons, List.cons_append, Run.tails h.2, h.1]
theorem Run.perm {c : List Nat} {a : Nat} (h : Run E a c a) : (c.map fun i => (E i).1).Perm (c.map fun i => (E i).2) := by
  have e := h.tails
  have p : (a :: c.map fun i => (E i).1).Perm (a :: c.map fun i => (E i).2) := by
    rw [← e]
    exact (List.perm_append_singleton a _).symm
  exact p.cons_inv
/-- a round of arrows -/
structure Cyc (E : Nat → Nat × Nat) (c : List Nat) : Prop where
  ne : c ≠ []
  nod : (c.map fun i => (E i).1).Nodup
  run : ∃ a, Run E a c a
theorem Cyc.from_ {c : List Nat} (h : Cyc E c) {i : Nat} (m : i ∈ c) : ∃ r, (i :: r).Perm c ∧ Run E (E i).1 (i :: r) (E i).1 := by
  obtain ⟨x, y, rfl⟩ := List.append_of_mem m
  obtain ⟨a, ha⟩ := h.run
  obtain ⟨u, h1, h2⟩ := Run.append.mp ha
  have hu : (E i).1 = u := h2.1
  subst hu
  refine ⟨y ++ x, ?_, ?_⟩
  · show ((i :: y) ++ x).Perm _
    exact List.perm_append_comm
  · show Run E (E i).1 ((i :: y) ++ x) (E i).1
    exact Run.append.mpr ⟨a, h2, h1⟩
theorem nodup_of_tails {c : List Nat} (h : (c.map fun i => (E i).1).Nodup) : c.Nodup := List.Pairwise.of_map (fun i => (E i).1) (fun {a b} ne e => ne (by rw [e])) h
theorem filter_just {l : List Nat} {p : Nat → Bool} {x : Nat} (nod : l.Nodup) (hx : x ∈ l) (h : ∀ y ∈ l, p y = true ↔ y = x) : l.filter p = [x] := by
  induction l with
  | nil => cases hx
  | cons a l ih =>
    have nd := List.nodup_cons.mp nod
    rw [List.filter_cons]
    by_cases e : a = x
    · subst e
      rw [if_pos ((h a List.mem_cons_self).mpr rfl)]
      have : l.filter p = [] := List.filter_eq_nil_iff.mpr fun y hy z => nd.1 (by rw [← (h y (List.mem_cons_of_mem _ hy)).mp z]; exact hy)
      rw [this]
    · rw [if_neg (fun z => e ((h a List.mem_cons_self).mp z))]
      refine ih nd.2 ((List.mem_cons.mp hx).resolve_left fun z => e z.symm) fun y hy => h y (List.mem_cons_of_mem _ hy)
/-- going round from the first of the lot -/
theorem Cyc.walk {c : List Nat} (h : Cyc E c) {o : Nat} {rest : List Nat} (hp : (o :: rest).Perm c) : ∃ d : List Nat, d.Perm (o :: rest) ∧
    (∀ j here, j < d.length → Run E (E o).1 (d.take j) here → ∃ k, d[j]? = some k ∧ k ∈ o :: rest ∧ ((o :: rest).filter fun x => decide ((E x).1 = here) && !decide (x ∈ d.take j)) = [k] ∧ here ∉ (d.take j).map (fun i => (E i).1) ∧ Run E (E o).1 (d.take (j + 1)) (E k).2) ∧
    ∀ here, Run E (E o).1 d here → here = (E o).1 := by
  obtain ⟨r, p1, r1⟩ := h.from_ (hp.subset List.mem_cons_self)
  have pd : (o :: r).Perm (o :: rest) := p1.trans hp.symm
  have nt : ((o :: r).map fun i => (E i).1).Nodup := (p1.map _).nodup_iff.mpr h.nod
  have nd := nodup_of_tails nt
  have nrest : (o :: rest).Nodup := pd.nodup_iff.mp nd
  refine ⟨o :: r, pd, fun j here hj hr => ?_, fun here hr => Run.one hr r1⟩
  have hd : (o :: r)[j]? = some ((o :: r)[j]) := List.getElem?_eq_getElem hj
  have split : (o :: r) = (o :: r).take j ++ (o :: r)[j] :: (o :: r).drop (j + 1) := by
    rw [← List.drop_eq_getElem_cons hj, List.take_append_drop]
  have r2 := r1
  rw [split] at r2
  obtain ⟨m, q1, q2⟩ := Run.append.mp r2
  have em := Run.one q1 hr
  subst em
  have tk : (E (o :: r)[j]).1 = m := q2.1
  have tak : (o :: r).take (j + 1) = (o :: r).take j ++ [(o :: r)[j]] := by
    rw [List.take_succ, hd]
    rfl
  have nt2 := nt
  rw [split, List.map_append, List.map_cons] at nt2
  obtain ⟨_, _, apart⟩ := List.nodup_append.mp nt2
  have notin : m ∉ ((o :: r).take j).map fun i => (E i).1 := fun z => apart m z (E (o :: r)[j]).1 List.mem_cons_self tk.symm
  have kin : (o :: r)[j] ∈ o :: rest := pd.subset (List.getElem_mem hj)
  refine ⟨(o :: r)[j], hd, kin, ?_, notin, ?_⟩
  · refine filter_just nrest kin fun y hy => ?_
    rw [Bool.and_eq_true, decide_eq_true_iff, Bool.not_eq_true', decide_eq_false_iff_not]
    constructor
    · rintro ⟨e1, e2⟩
      have hy2 := pd.symm.subset hy
      obtain ⟨i, hi, ei⟩ := List.getElem_of_mem hy2
      have t1 : ((o :: r).map fun i => (E i).1)[i]'(by rw [List.length_map]; exact hi) = ((o :: r).map fun i => (E i).1)[j]'(by rw [List.length_map]; exact hj) := by
        rw [List.getElem_map, List.getElem_map, ei, e1, tk]
      have ij := (List.getElem_inj nt).mp t1
      subst ij
      exact ei.symm
    · rintro rfl
      refine ⟨tk, fun z => notin ?_⟩
      rw [← tk]
      exact List.mem_map.mpr ⟨_, z, rfl⟩
  · rw [tak]
    exact Run.append.mpr ⟨m, hr, tk, rfl⟩
/-- as many arrows start at each place as end there -/
def Bal (E : Nat → Nat × Nat) (l : List Nat) : Prop := (l.map fun i => (E i).1).Perm (l.map fun i => (E i).2)
theorem filter_back {α : Type} {p q : α → Bool} : ∀ {l : List α}, (∀ x ∈ l, p x = true → q x = true) → (l.filter p).length = (l.filter q).length → ∀ x ∈ l, q x = true → p x = true
  | [], _, _, x, h, _ => by cases h
  | a :: l, hi, hl, x, hx, hq => by
    have le : (l.filter p).length ≤ (l.filter q).length := by
      have : ∀ l : List α, (∀ x ∈ l, p x = true → q x = true) → (l.filter p).length ≤ (l.filter q).length := fun l => by
        induction l with
        | nil => intro _; exact Nat.le_refl _
        | cons b l ih =>
          intro h
          have ih := ih fun x hx => h x (List.mem_cons_of_mem _ hx)
          rw [List.filter_cons, List.filter_cons]
          by_cases e : p b = true
          · rw [if_pos e, if_pos (h b List.mem_cons_self e), List.length_cons, List.length_cons]
            omega
          · rw [if_neg e]
            split
            · rw [List.length_cons]
              omega
            · exact ih
      exact this l fun x hx => hi x (List.mem_cons_of_mem _ hx)
    rw [List.filter_cons, List.filter_cons] at hl
    by_cases ep : p a = true
    · rw [if_pos ep, if_pos (hi a List.mem_cons_self ep), List.length_cons, List.length_cons] at hl
      rcases List.mem_cons.mp hx with e | e
      · rw [e]; exact ep
      · exact filter_back (fun x hx => hi x (List.mem_cons_of_mem _ hx)) (by omega) x e hq
    · rw [if_neg ep] at hl
      by_cases eq : q a = true
      · rw [if_pos eq, List.length_cons] at hl
        omega
      · rw [if_neg eq] at hl
        rcases List.mem_cons.mp hx with e | e
        · rw [e] at hq
          exact absurd hq eq
        · exact filter_back (fun x hx => hi x (List.mem_cons_of_mem _ hx)) hl x e hq
theorem Bal.back {l K : List Nat} (h : Bal E l) (cl : ∀ i ∈ l, (E i).1 ∈ K → (E i).2 ∈ K) : ∀ i ∈ l, (E i).2 ∈ K → (E i).1 ∈ K := by
  have p := (h.filter fun c => decide (c ∈ K)).length_eq
  rw [List.filter_map, List.filter_map, List.length_map, List.length_map] at p
  have := filter_back (p := (fun c => decide (c ∈ K)) ∘ fun i => (E i).1) (q := (fun c => decide (c ∈ K)) ∘ fun i => (E i).2) (l := l) (fun x hx e => decide_eq_true (cl x hx (of_decide_eq_true e))) p
  exact fun i hi e => of_decide_eq_true (this i hi (decide_eq_true e))
theorem perm_split {l r : List Nat} (nl : l.Nodup) (nr : r.Nodup) (sub : ∀ x ∈ r, x ∈ l) : l.Perm (r ++ l.filter fun x => !decide (x ∈ r)) := by
  refine (List.perm_ext_iff_of_nodup nl (List.nodup_append.mpr ⟨nr, List.Pairwise.filter _ nl, fun a ha b hb e => ?_⟩)).mpr fun x => ?_
  · have := (List.mem_filter.mp hb).2
    rw [Bool.not_eq_true', decide_eq_false_iff_not] at this
    exact this (by rw [← e]; exact ha)
  · rw [List.mem_append, List.mem_filter, Bool.not_eq_true', decide_eq_false_iff_not]
    constructor
    · intro h
      by_cases e : x ∈ r
      · exact .inl e
      · exact .inr ⟨h, e⟩
    · rintro (h | h)
      · exact sub x h
      · exact h.1
theorem Bal.drop {l r c : List Nat} (h : Bal E l) (nl : l.Nodup) (hc : Cyc E c) (hp : r.Perm c) (sub : ∀ x ∈ r, x ∈ l) : Bal E (l.filter fun x => !decide (x ∈ r)) := by
  have nr : r.Nodup := hp.nodup_iff.mpr (nodup_of_tails hc.nod)
  have sp := perm_split nl nr sub
  obtain ⟨a, ha⟩ := hc.run
  have br : (r.map fun i => (E i).1).Perm (r.map fun i => (E i).2) := ((hp.map _).trans ha.perm).trans (hp.map _).symm
  have q : ((r ++ l.filter fun x => !decide (x ∈ r)).map fun i => (E i).1).Perm ((r ++ l.filter fun x => !decide (x ∈ r)).map fun i => (E i).2) := ((sp.map _).symm.trans h).trans (sp.map _)
  rw [List.map_append, List.map_append] at q
  exact (List.perm_append_left_iff _).mp (q.trans (br.symm.append_right _))
/-- ways found so far: from h, to the places that stand first -/
structure Found (F : Nat → Nat × Nat) (n h : Nat) (kvs : List (Nat × List Nat)) : Prop where
  nod : (kvs.map (·.1)).Nodup
  has : h ∈ kvs.map (·.1)
  way : ∀ v w, (v, w) ∈ kvs → Run F h w v ∧ (∀ i ∈ w, i < n) ∧ (h :: w.map fun i => (F i).2).Nodup ∧ ∀ u ∈ h :: w.map (fun i => (F i).2), u ∈ kvs.map (·.1)
theorem Found.start {F : Nat → Nat × Nat} {n h : Nat} : Found F n h [(h, [])] := by
  refine ⟨by simp, by simp, fun v w m => ?_⟩
  obtain ⟨rfl, rfl⟩ : v = h ∧ w = [] := by simpa using m
  exact ⟨rfl, (fun i hi => by cases hi), (by simp), fun u hu => by simpa using hu⟩
theorem Found.add {F : Nat → Nat × Nat} {n h : Nat} {kvs : List (Nat × List Nat)} (f : Found F n h kvs) {w : List Nat} {i : Nat} (hi : i < n) (hw : ((F i).1, w) ∈ kvs) (new : (F i).2 ∉ kvs.map (·.1)) : Found F n h (kvs ++ [((F i).2, w ++ [i])]) := by
  obtain ⟨r1, r2, r3, r4⟩ := f.way _ _ hw
  have keys : (kvs ++ [((F i).2, w ++ [i])]).map (·.1) = kvs.map (·.1) ++ [(F i).2] := by rw [List.map_append]; rfl
  refine ⟨?_, ?_, fun v x m => ?_⟩
  · rw [keys]
    exact List.nodup_append.mpr ⟨f.nod, by simp, fun a ha b hb e => new (by rw [← List.mem_singleton.mp hb, ← e]; exact ha)⟩
  · rw [keys]
    exact List.mem_append_left _ f.has
  · rw [keys]
    rcases List.mem_append.mp m with q | q
    · obtain ⟨s1, s2, s3, s4⟩ := f.way v x q
      exact ⟨s1, s2, s3, fun u hu => List.mem_append_left _ (s4 u hu)⟩
    · obtain ⟨rfl, rfl⟩ : v = (F i).2 ∧ x = w ++ [i] := by simpa using q
      have em : (h :: (w ++ [i]).map fun i => (F i).2) = (h :: w.map fun i => (F i).2) ++ [(F i).2] := by rw [List.map_append]; rfl
      refine ⟨Run.append.mpr ⟨_, r1, rfl, rfl⟩, fun j hj => ?_, ?_, fun u hu => ?_⟩
      · rcases List.mem_append.mp hj with z | z
        · exact r2 j z
        · rw [List.mem_singleton.mp z]; exact hi
      · rw [em]
        exact List.nodup_append.mpr ⟨r3, by simp, fun a ha b hb e => new (by rw [← List.mem_singleton.mp hb, ← e]; exact r4 a ha)⟩
      · rw [em] at hu
        rcases List.mem_append.mp hu with z | z
        · exact List.mem_append_left _ (r4 u z)
        · exact List.mem_append_right _ z
theorem run_map {F : Nat → Nat × Nat} {g : Nat → Nat} {n : Nat} (hF : ∀ i, i < n → F i = E (g i)) : ∀ {w : List Nat} {a b : Nat}, (∀ i ∈ w, i < n) → Run F a w b → Run E a (w.map g) b
  | [], _, _, _, h => h
  | i :: w, a, b, hn, h => by
    have e := hF i (hn i List.mem_cons_self)
    refine ⟨by rw [← e]; exact h.1, ?_⟩
    rw [← e]
    exact run_map hF (fun j hj => hn j (List.mem_cons_of_mem _ hj)) h.2
/-- the way back makes a round -/
theorem Found.cyc {F : Nat → Nat × Nat} {left : List Nat} {g : Nat → Nat} {kvs : List (Nat × List Nat)} {i0 : Nat} {w : List Nat} (f : Found F left.length (E i0).2 kvs) (hg : ∀ i, i < left.length → left[i]? = some (g i)) (hF : ∀ i, i < left.length → F i = E (g i))
    (hw : ((E i0).1, w) ∈ kvs) : Cyc E (i0 :: w.map g) ∧ ∀ x ∈ w.map g, x ∈ left := by
  obtain ⟨r1, r2, r3, _⟩ := f.way _ _ hw
  have rE := run_map hF r2 r1
  have et := r1.tails
  refine ⟨⟨List.cons_ne_nil _ _, ?_, (E i0).1, rfl, rE⟩, fun x hx => ?_⟩
  · have e1 : (w.map g).map (fun i => (E i).1) = w.map fun i => (F i).1 := by
      rw [List.map_map]
      refine List.map_congr_left fun i hi => ?_
      show (E (g i)).1 = (F i).1
      rw [hF i (r2 i hi)]
    rw [List.map_cons, e1]
    rw [← et] at r3
    have := (List.perm_append_singleton (E i0).1 (w.map fun i => (F i).1)).nodup_iff.mp r3
    exact this
  · obtain ⟨i, hi, rfl⟩ := List.mem_map.mp hx
    exact List.mem_of_getElem? (hg i (r2 i hi))
end
end K10
set_option Elab.async false
set_option linter.all false
set_option maxRecDepth 100000
namespace DL
open PySem PySem.Spec PyProof.Rows L2
/-! ### sorted(set(tuple of ints)) -/
def tSortSetI (K : PySem.W.Frag) (ta : TE) : TE := fun σ H Q => ta σ H fun x H1 => ∃ (l : Addr) (ns : List Int), x = .ref l ∧ SqT K H1 l (ns.map V.int) ∧ ns.length < 64 ∧
  ∀ (out : List Int) (p : Addr), out.Pairwise (· < ·) → (∀ k, k ∈ out ↔ k ∈ ns) → H1 p = none → Q (.ref p) (upd H1 p (.lst (out.map V.int)))
theorem pe_sortSetI {X : Cx} {a : Expr} {ta : TE} {p p2 q pos : Pos} (hc : X.calm = true) (hg : Gl X "sorted") (hm : X.mg "sorted" = none) (hg2 : Gl X "set") (hm2 : X.mg "set" = none) (ha : PE X a ta)
    (na : starEach [a] X.env = (false, eval a X.env) :: starEach [] X.env := by rfl) : PE X (.Call (.Name "sorted" p) [.Call (.Name "set" p2) [a] [] q] [] pos) (tSortSetI X.K ta) := by
  refine ⟨fun pins s σ H Q I h => ?_⟩
  refine Call_ (ld_blt I hg hm boot_sorted ?_)
  refine PyProof.Rows.callWith_builtin1 (PyProof.Rows.args_cons ?_ rfl) rfl rfl
  refine Call_ (ld_blt I hg2 hm2 boot_set ?_)
  refine PyProof.Rows.callWith_type1 (PyProof.Rows.args_cons (thn (ha.run pins s σ H _ I h) fun v s1 ⟨x, H1, I1, r1, q1⟩ => PyProof.Rows.args_nil ?_) na) na rfl
  obtain ⟨l, ns, rfl, hq, hl, q1⟩ := q1
  cases r1
  obtain ⟨its, rv, pt, hz⟩ := I1.tuple hq
  have hi : IntsAre its.toArray.toList ns := ints_of_vals rv
  refine call_set_tupI ns (I1.ok.hd hc) (show s1.heap.IsTuple l its.toArray from pt) hi (by unfold scanBound; omega) fun h' tk c R1 hcn k => ?_
  refine PyProof.Rows.args_nil ?_
  have I2 : Inv X pins σ H1 { s1 with heap := h', toks := tk } := I1.kept fun b o e => k b o e
  have key : ∀ (s2 : Shared) (a : Addr), Inv X pins σ H1 s2 → SetR X.w s2.heap a (fun j => decide (j ∈ ns)) c → wpAny (model X.prog X.w) X.A (call (.builtin "sorted") [.ref a]) (EP X pins σ Q) X.xe s2 := fun s2 a I2 R1 => by
    refine sorted_set R1 (I2.ok.hd hc) (by omega) fun s' p out c ns' k g o hp hg hi hs hm hl => ?_
    have hlen : (ns'.map V.int).length ≤ sizeLine := by rw [List.length_map, hl, sizeLine_eq]; omega
    have hn : H1 p = none := I2.hok.fresh hp
    have J : Inv X pins σ (upd H1 p (.lst (ns'.map V.int))) { s2 with heap := s'.heap, gens := s'.gens, drawn := s'.drawn, toks := s'.toks } :=
      I2.call (ch := []) (Un.laid k hp hn) (I2.hok.laid k hp ⟨hlen, out.toList, c, vals_of_ints hi, hg⟩) (by rw [g]; exact I2.bare) (fun _ z => nomatch z)
    have e : s' = { s2 with heap := s'.heap, gens := s'.gens, drawn := s'.drawn, toks := s'.toks } := by
      cases s'
      cases s2
      cases o
      rfl
    rw [e]
    exact ⟨.ref p, _, J, rfl, q1 ns' p hs (fun j => by rw [hm j, decide_eq_true_eq]) hn⟩
  exact key _ _ I2 R1
def gSortSetI (g : GE) : GE := fun δ μ R => g δ μ fun d μ1 => match d with
  | .tup ds => ∃ ns : List Int, ds = ns.map D.int ∧ ns.length < 64 ∧ ∀ out : List Int, out.Pairwise (· < ·) → (∀ k, k ∈ out ↔ k ∈ ns) → R (.lst (out.map D.int)) μ1
  | _ => False
theorem de_sortSetI {X : Cx} {a : Expr} {ga : GE} {p p2 q pos : Pos} (hc : X.calm = true) (hg : Gl X "sorted") (hm : X.mg "sorted" = none) (hg2 : Gl X "set") (hm2 : X.mg "set" = none) (ha : DE X a ga)
    (na : starEach [a] X.env = (false, eval a X.env) :: starEach [] X.env := by rfl) : DE X (.Call (.Name "sorted" p) [.Call (.Name "set" p2) [a] [] q] [] pos) (gSortSetI ga) := by
  obtain ⟨t, a1, a2⟩ := ha.ex
  refine ⟨_, pe_sortSetI hc hg hm hg2 hm2 a1 na, fun σ H δ μ Q R rm rs q f => ?_⟩
  refine a2 σ H δ μ _ _ rm rs q fun v d H1 μ1 k1 rm1 r1 q1 => ?_
  cases d <;> try exact False.elim q1
  obtain ⟨ns, rfl, hl, q1⟩ := q1
  obtain ⟨l, vs, rfl, i, rl⟩ := rep_tup r1
  refine ⟨l, ns, rfl, by rw [← rl.ints]; exact i.sq, hl, fun out p h1 h2 n => ?_⟩
  have ro : RepL X.K H1 μ1 (out.map D.int) (out.map V.int) := repL_ints out
  exact fw_lst rm1 n ro (q1 out h1 h2) (f.re k1)
end DL
set_option Elab.async false
set_option linter.all false
set_option maxRecDepth 100000
namespace DL
open PySem PySem.Spec PyProof.Rows L2
/-! ### enumerate of a text -/
def IteS (x : Str) : It :=
  ⟨fun i _ => i < x.cps.size, fun i H v H' => ∃ T c, v = .ref T ∧ H T = none ∧ H' = upd H T (.tup [.int (i : Nat), .str ⟨#[c]⟩]) ∧ x.cps[i]? = some c, fun i _ => i = x.cps.size⟩
theorem turn_enumS {P : Program} {w : World} {K : PySem.W.Frag} {elts : List Expr} {kk : Nat} {tpos : Pos} (x : Str) (t : Tok) (e it : Addr) :
    Turn P w K (.Tuple elts kk tpos) (IteS x) [e, it] e (fun i h => (∃ old, IsEnum h e it ((i : Nat) : Int) old) ∧ h.IsStrIter it (strIterType x) x t i ∧ e ≠ it) where
  mem := by simp
  obj := fun i h st b hb => by
    obtain ⟨⟨old, he⟩, ⟨o, ho, hc, hd⟩, _⟩ := st
    have e' : b = e ∨ b = it := by simpa using hb
    rcases e' with z | z
    · rw [z]; exact ⟨_, he, fun v q => nomatch q⟩
    · rw [z]; exact ⟨o, ho, fun v q => by rw [hd] at q; cases q⟩
  keep := fun i h h' st k => let ⟨⟨old, he⟩, ⟨o, g, r⟩, hne⟩ := st; ⟨⟨old, k e (by simp) _ he⟩, ⟨o, k it (by simp) _ g, r⟩, hne⟩
  item := by
    intro X hP hw hK hc i pins s σ H E I hf st hl
    subst hP hw hK
    obtain ⟨⟨old, he⟩, hit, hne⟩ := st
    have hel : e < s.heap.objs.size := Heap.lt_size he
    have hil : it < s.heap.objs.size := by obtain ⟨_, q, _⟩ := hit; exact Heap.lt_size q
    have hh : X.A.in1.handled = none := I.ok.hd hc
    refine wpAny_pyNext_enum_itemD (Draws.text hh it x t) he hit hl hne (by simp [hne]) fun u2 h' tk pu ho hit' hT hsz hk => ?_
    obtain ⟨c, tc, hcx, eu⟩ := pu
    refine ⟨_, rfl, wpAny_letOwnedTupleGo_enum (s := { s with heap := h', toks := tk + 1 }) ho fun h'' he' sb => ?_⟩
    have hT2 : h''.get? s.heap.objs.size = some { cls := .type "tuple", data := .seq #[.int i tk, u2] } := (sb.2 _ (Nat.ne_of_gt hel)).trans hT
    have ru : RelV (.str ⟨#[c]⟩) u2 := ⟨tc, eu⟩
    have new : ObjOk X.prog X.w (upd H s.heap.objs.size (.tup [.int (i : Nat), .str ⟨#[c]⟩])) h'' s.heap.objs.size (.tup [.int (i : Nat), .str ⟨#[c]⟩]) :=
      ⟨by show 2 ≤ sizeLine; decide, [.int i tk, u2], .cons ⟨_, rfl⟩ (.cons ru .nil), ⟨_, hT2, rfl, _, rfl⟩⟩
    have I1 : Inv X pins σ (upd H s.heap.objs.size (.tup [.int (i : Nat), .str ⟨#[c]⟩])) { s with heap := h'', toks := tk + 1 } :=
      I.turnedNew (ch := [e, it]) (fun b ob hb q => (sb.2 b (fun z => hb (by simp [z]))).trans (hk b ob (fun z => hb (by simp [z])) (fun z => hb (by simp [z])) q)) hf (Nat.le_refl _) new
    refine ⟨.ref s.heap.objs.size, _, I1, rfl, ⟨_, c, rfl, I.hok.fresh (Nat.le_refl _), rfl, hcx⟩, ⟨⟨u2, ?_⟩, ?_, hne⟩, fun b hb => ?_⟩
    · have e1 : ((i + 1 : Nat) : Int) = (i : Int) + 1 := by omega
      rw [e1]; exact he'
    · obtain ⟨o, g, r⟩ := hit'
      exact ⟨o, (sb.2 it (Ne.symm hne)).trans g, r⟩
    · have hb' : b < s.heap.objs.size := by
        have e' : b = e ∨ b = it := by simpa using hb
        rcases e' with z | z
        · rw [z]; exact hel
        · rw [z]; exact hil
      rw [upd_ne (Nat.ne_of_lt hb')]
      exact (hf b hb).1
  done := by
    intro X hP hw hK hc i pins s σ H E I hf st hl
    subst hP hw hK
    obtain ⟨⟨old, he⟩, hit, hne⟩ := st
    obtain ⟨f0, f1, f2, f3, f4, f5⟩ := hf it (by simp)
    have hl : i = x.cps.size := hl
    subst hl
    have hh : X.A.in1.handled = none := I.ok.hd hc
    exact wpAny_pyNext_enum_endD (Draws.text hh it x t) he hit fun h' eb => ⟨rfl, I.turned (t' := s.toks) (fun b o hb q => eb b o hb q) f0 f1 f3 f4 f5⟩
  self := fun A i s Q E st h => let ⟨⟨_, he⟩, _⟩ := st; wpAny_pyIter_enum he h
def iEnumS (ta : TA) : TI := fun σ H R => ta σ H fun vs H1 => ∃ x, vs = [.str x] ∧ R (IteS x) H1
theorem pi_enumS {X : Cx} {e : Expr} {ta : TA} {p pos tpos : Pos} {elts : List Expr} {kk : Nat} (hg : Gl X "enumerate") (hm : X.mg "enumerate" = none) (ha : PA X [e] ta) (hs : starEach [e] X.env = [(false, eval e X.env)] := by rfl) :
    PI X (.Tuple elts kk tpos) (.Call (.Name "enumerate" p) [e] [] pos) (iEnumS ta) := by
  refine ⟨fun pins s σ H R I h => ?_⟩
  refine Call_ (ld_blt I hg hm boot_enumerate (PyProof.Rows.callWith_type1 (thn (ha.run pos pins s σ H _ I h) fun us s1 ⟨vs, H1, I1, r1, q1⟩ => ?_) hs rfl))
  obtain ⟨x, ex, q⟩ := q1
  subst ex
  cases r1 with
  | cons r rr =>
    cases rr
    obtain ⟨t, rfl⟩ := r
    refine enum_begins1 (begins_text x t) trivial fun h' he hit hsz hk => wpAny_pyIter_enum he ?_
    have I2 : Inv X pins σ H1 { s1 with heap := h' } := I1.kept (t' := s1.toks) hk
    refine ⟨s1.heap.objs.size + 1, [s1.heap.objs.size + 1, s1.heap.objs.size], _, _, H1, rfl, I2, turn_enumS x t (s1.heap.objs.size + 1) s1.heap.objs.size, ⟨⟨.none, he⟩, ⟨_, hit, rfl, rfl⟩, Nat.succ_ne_self _⟩, fun b hb => ?_, q⟩
    have e' : b = s1.heap.objs.size + 1 ∨ b = s1.heap.objs.size := by simpa using hb
    have hle : s1.heap.objs.size ≤ b := by
      rcases e' with z | z
      · rw [z]; exact Nat.le_add_right _ _
      · rw [z]; exact Nat.le_refl _
    exact I1.fpOk hle (I1.hok.fresh hle)
def gEnumS (ga : GA) : GI := fun δ μ R => ga δ μ fun ds μ1 => match ds with
  | [.str x] => R (numbered (signs x)) μ1
  | _ => False
theorem di_enumS {X : Cx} {p pos tpos : Pos} {elts : List Expr} {kk : Nat} {ga : GA} {e : Expr} (hg : Gl X "enumerate") (hm : X.mg "enumerate" = none) (h : DA X [e] ga) (hs : starEach [e] X.env = [(false, eval e X.env)] := by rfl) :
    DI X (.Tuple elts kk tpos) (.Call (.Name "enumerate" p) [e] [] pos) (gEnumS ga) := by
  obtain ⟨t, a1, a2⟩ := h.ex
  refine ⟨_, pi_enumS hg hm a1 hs, fun σ H δ μ Q R rm rs q f => ?_⟩
  refine a2 σ H δ μ _ _ rm rs q fun vs ds H1 μ1 k1 rm1 r1 q1 => ?_
  match ds, q1, r1 with
  | [.str x], q1, r1 =>
    obtain ⟨v, rfl, r2⟩ := repL1 r1
    unfold Rep at r2
    subst r2
    have hl : (numbered (signs x)).length = x.cps.size := by simp [numbered, signs]
    refine ⟨x, rfl, f _ (numbered (signs x)) H1 μ1 k1 rm1 ?_ q1⟩
    refine ⟨fun i H' hi _ => by rw [hl] at hi; exact hi, fun H' _ => hl, fun i H' v H2 hi _ y => ?_⟩
    intro μ' k rm
    obtain ⟨T, c, rfl, nT, rfl, e4⟩ := y
    refine ⟨.tup [.int (i : Nat), .str ⟨#[c]⟩], ?_, ?_, Kp.new nT, rm.laid nT⟩
    · unfold numbered signs
      rw [List.getElem?_mapIdx, List.getElem?_map, Array.getElem?_toList, e4]
      rfl
    · unfold Rep
      exact ⟨T, _, rfl, .inl ⟨upd_same, rm.free nT⟩, RepL.cons to_int (RepL.cons to_str RepL.nil)⟩
/-! ### in a cell; in a dict of texts and numbers -/
def gInC (k : Bool → Bool) : G2 := fun x y μ R => match y with
  | .adr a => ∃ ds, μ a = some (.lst ds) ∧ inDs x ds fun b => R (.bl (k b)) μ
  | _ => False
theorem sim_inC {K : PySem.W.Frag} : SimO K (rInA K) (gInC id) := by
  intro x y dx dy H μ Q R rm rx ry q f
  cases dy <;> try exact False.elim q
  obtain ⟨ds, ea, q⟩ := q
  obtain ⟨vs, h1, l1⟩ := rm _ _ ea
  obtain ⟨a, b, q⟩ := inDs_seq (R := fun b => R (.bl b) μ) rx l1 q
  exact .inr ⟨_, vs, rep_adr ry, .inl (SqL.of h1), a, b, fw_now rm to_bl q f⟩
theorem sim_notInC {K : PySem.W.Frag} : SimO K (rNotInA K) (gInC not) := by
  intro x y dx dy H μ Q R rm rx ry q f
  cases dy <;> try exact False.elim q
  obtain ⟨ds, ea, q⟩ := q
  obtain ⟨vs, h1, l1⟩ := rm _ _ ea
  obtain ⟨a, b, q⟩ := inDs_seq (R := fun b => R (.bl (!b)) μ) rx l1 q
  exact .inr ⟨_, vs, rep_adr ry, .inl (SqL.of h1), a, b, fw_now rm to_bl q f⟩
def gDIn (k : Bool → Bool) (gi go : GE) : GE := fun δ μ R => gi δ μ fun y μ1 => go δ μ1 fun x μ2 => match x with
  | .adr a => ∃ kvs kk, μ2 a = some (.dct kvs) ∧ keyOf y = some kk ∧ R (.bl (k (valD kvs kk).isSome)) μ2
  | _ => False
theorem look_some {κ : Type} [DecidableEq κ] {K : PySem.W.Frag} {H : Hp} {μ : Mu} {kvs : List (κ × D)} {kv : List (κ × V)} {k : κ} (l : RepK K H μ kvs kv) : (valV kv k).isSome = (valD kvs k).isSome := by
  cases e : valD kvs k with
  | none =>
    rw [l.lookN e]
    rfl
  | some d =>
    obtain ⟨w, g1, _⟩ := l.look e
    rw [g1]
    rfl
section
variable {X : Cx} {o i : Expr} {pos : Pos} {go gi : GE}
theorem sim_din {K : PySem.W.Frag} {ti to : TE} (hi : SimE K ti gi) (ho : SimE K to go) : SimE K (tDIn ti to) (gDIn id gi go) := by
  intro σ H δ μ Q R rm rs q f
  refine hi σ H δ μ _ _ rm rs q fun y dy H1 μ1 k1 rm1 r1 q1 => ?_
  refine ho σ H1 δ μ1 _ _ rm1 (rs.mono k1) q1 fun v d H2 μ2 k2 rm2 r2 q2 => ?_
  cases d <;> try exact False.elim q2
  rename_i a
  obtain ⟨kvs, kk, e0, ek, q2⟩ := q2
  obtain ⟨kv, h1, l⟩ := rm2 a _ e0
  have ey := key_rep ek (r1.mono k2)
  refine ⟨a, valV kv kk, rep_adr r2, by rw [ey]; exact DGet.k h1, ?_⟩
  rw [look_some l]
  exact f _ _ H2 μ2 (k1.trans k2) rm2 to_bl q2
theorem sim_dnotin {K : PySem.W.Frag} {ti to : TE} (hi : SimE K ti gi) (ho : SimE K to go) : SimE K (tDNotIn ti to) (gDIn not gi go) := by
  intro σ H δ μ Q R rm rs q f
  refine hi σ H δ μ _ _ rm rs q fun y dy H1 μ1 k1 rm1 r1 q1 => ?_
  refine ho σ H1 δ μ1 _ _ rm1 (rs.mono k1) q1 fun v d H2 μ2 k2 rm2 r2 q2 => ?_
  cases d <;> try exact False.elim q2
  rename_i a
  obtain ⟨kvs, kk, e0, ek, q2⟩ := q2
  obtain ⟨kv, h1, l⟩ := rm2 a _ e0
  have ey := key_rep ek (r1.mono k2)
  refine ⟨a, valV kv kk, rep_adr r2, by rw [ey]; exact DGet.k h1, ?_⟩
  rw [look_some l]
  exact f _ _ H2 μ2 (k1.trans k2) rm2 to_bl q2
theorem dt_din (hu : X.A.units + 1 < cLine) (hi : DE X i gi) (ho : DE X o go) (hm : behindInMarks .In o = false := by rfl) : DT X (.Compare i [.In] [o] pos) (gB (gDIn id gi go)) :=
  let ⟨_, a1, a2⟩ := hi.ex; let ⟨_, b1, b2⟩ := ho.ex; ⟨_, pt_cmp (pc_din hu a1 b1) hm, sim_b (sim_din a2 b2)⟩
theorem dt_dnotin (hu : X.A.units + 1 < cLine) (hi : DE X i gi) (ho : DE X o go) (hm : behindInMarks .NotIn o = false := by rfl) : DT X (.Compare i [.NotIn] [o] pos) (gB (gDIn not gi go)) :=
  let ⟨_, a1, a2⟩ := hi.ex; let ⟨_, b1, b2⟩ := ho.ex; ⟨_, pt_cmp (pc_dnotin hu a1 b1) hm, sim_b (sim_dnotin a2 b2)⟩
theorem de_din (hu : X.A.units + 1 < cLine) (hi : DE X i gi) (ho : DE X o go) (hm : behindInMarks .In o = false := by rfl) : DE X (.Compare i [.In] [o] pos) (gDIn id gi go) :=
  let ⟨_, a1, a2⟩ := hi.ex; let ⟨_, b1, b2⟩ := ho.ex; ⟨_, pe_cmp (pc_din hu a1 b1) hm, sim_din a2 b2⟩
/-- {k: v}, the key a value without effect -/
def gDOne (gk gv : GE) : GE := fun δ μ R => ∀ a, μ a = none → gk δ (put μ a (.dct [])) fun y μ1 => gv δ μ1 fun d μ2 => ∃ kk, keyOf y = some kk ∧ μ2 a = some (.dct []) ∧ R (.adr a) (put μ2 a (.dct [(kk, d)]))
theorem de_done {k v : Expr} {gk gv : GE} (hk : DE X k gk) (hv : DE X v gv) : DE X (.Dict [some k] [v] pos) (gDOne gk gv) := by
  obtain ⟨tk, a1, a2⟩ := hk.ex
  obtain ⟨tv, b1, b2⟩ := hv.ex
  refine ⟨_, pe_disp (pps_cons a1 b1 pps_nil) rfl rfl (List.cons_ne_nil _ _) (by show 1 ≤ 15; decide), fun σ H δ μ Q R rm rs q f => ?_⟩
  intro p n
  have kc : Kp H μ (upd H p (.dK [])) (put μ p (.dct [])) := Kp.cell n
  refine a2 σ _ δ _ _ _ (rm.cellD n (by unfold RepK; rfl)) (rs.mono kc) (q p (rm.free n)) fun y dy H1 μ1 k1 rm1 r1 q1 => ?_
  refine b2 σ H1 δ μ1 _ _ rm1 (rs.mono (kc.trans k1)) q1 fun v d H2 μ2 k2 rm2 r2 q2 => ?_
  obtain ⟨kk, ek, e0, q2⟩ := q2
  obtain ⟨kv, h1, l⟩ := rm2 p _ e0
  unfold RepK at l
  subst l
  have ey := key_rep ek (r1.mono k2)
  refine ⟨h1, [(kk, v)], by rw [ey]; rfl, by show 1 ≤ 15; decide, ?_⟩
  have kw : Kp H2 μ2 (upd H2 p (.dK (mergeK [] [(kk, v)]))) (put μ2 p (.dct [(kk, d)])) := Kp.write e0
  refine f (.ref p) (.adr p) _ _ (kc.trans (k1.trans (k2.trans kw))) ?_ to_adr q2
  exact rm2.put (m := .dct [(kk, d)]) kw (fun b o n _ => upd_ne n) ⟨_, upd_same, by
    show RepK _ _ _ [(kk, d)] [(kk, v)]
    unfold RepK
    exact ⟨v, [], rfl, r2.mono kw, by unfold RepK; rfl⟩⟩
end
/-! ### a comprehension over a cell that stays as it is -/
structure LcW (gt : GG) (gc : GT) (ge : GE) (own : List Nat) (δ : DS) (R : KD) (c : Addr) (items : List D) (μ1 : Mu) : Prop where
  ex : ∀ a, μ1 a = none → ∃ Iv : Nat → Mu → Prop, Iv 0 (put μ1 a (.lst [])) ∧ (∀ i μ', Iv i μ' → μ' c = some (.lst items)) ∧
  (∀ i x μ', items[i]? = some x → Iv i μ' → gt x (wiped δ own) fun δ2 => gc δ2 μ' fun b μ2 => if b = true then ge δ2 μ2 fun y μ3 => ∃ acc, μ3 a = some (.lst acc) ∧ acc.length < sizeLine ∧ Iv (i + 1) (put μ3 a (.lst (acc ++ [y]))) else Iv (i + 1) μ2) ∧
  ∀ μ', Iv items.length μ' → ∃ acc, μ' a = some (.lst acc) ∧ R (.lst acc) (del μ' a)
def gLcW (g : GE) (gt : GG) (gc : GT) (ge : GE) (own : List Nat) : GE := fun δ μ R => g δ μ fun d μ1 => match d with
  | .adr c => ∃ ds, μ1 c = some (.lst ds) ∧ LcW gt gc ge own δ R c ds μ1
  | _ => False
theorem sim_lcW {K : PySem.W.Frag} {tl : TE} {gl : GE} {g : TG} {gg : GG} {ow : List Nat} {tc : TT} {gc : GT} {te : TE} {ge : GE} {own : List Nat} (hi : SimE K tl gl) (sg : SimG K g gg ow) (ho : ∀ i ∈ ow, i ∈ own) (hc : SimT K tc gc) (he : SimE K te ge) :
    SimE K (tLc (iList K tl) g tc te own) (gLcW gl gg gc ge own) := by
  intro σ H δ μ Q R rm rs q f
  refine hi σ H δ μ _ _ rm rs q fun v d H1 μ1 k1 rm1 r1 q1 => ?_
  cases d <;> try exact False.elim q1
  rename_i c
  obtain ⟨items, ec, q1⟩ := q1
  obtain ⟨vs0, hc0, l0⟩ := rm1 c _ ec
  refine ⟨c, rep_adr r1, ⟨vs0, SqL.of hc0⟩, ?_⟩
  intro D nD
  obtain ⟨Iv, h0, hold, hstep, hend⟩ := q1.ex D (rm1.free nD)
  have kc : Kp H1 μ1 (upd H1 D (.lst [])) (put μ1 D (.lst [])) := Kp.cell nD
  have wk : Walk (Itl K c) items.length (fun H => ∃ μ, Kp H1 μ1 H μ ∧ RM K H μ ∧ μ c = some (.lst items)) (fun i H x H' => H' = H ∧ ∀ μ, RM K H μ → μ c = some (.lst items) → ∃ d, items[i]? = some d ∧ Rep K H μ d x) := by
    refine ⟨fun i H hi ⟨μ, _, rm, e⟩ => ?_, fun H ⟨μ, _, rm, e⟩ => ?_, fun i H x H' hi ⟨μ, _, rm, e⟩ ⟨y1, y2⟩ => ⟨y1, fun μ' rm' e' => ?_⟩⟩
    · obtain ⟨vs, h1, l⟩ := rm c _ e
      have hl := l.length
      exact ⟨vs, vs[i]'(by omega), SqL.of h1, List.getElem?_eq_getElem _⟩
    · obtain ⟨vs, h1, l⟩ := rm c _ e
      exact ⟨vs, SqL.of h1, by rw [l.length]; exact Nat.le_refl _⟩
    · obtain ⟨vs, h1, l⟩ := rm' c _ e'
      obtain ⟨d, e3, r3⟩ := l.atV (y2 vs (SqL.of h1))
      exact ⟨d, e3, r3⟩
  refine lc_it wk (fun i H => ∃ μ, Kp H1 μ1 H μ ∧ RM K H μ ∧ Iv i μ) ⟨_, kc, rm1.cell nD RepL.nil, h0⟩ (fun i H _ ⟨μ, k, rm, iv⟩ => ⟨μ, k, rm, hold i μ iv⟩) ?_ ?_
  · rintro i x H2 H3 hi2 ⟨μ2, k2, rm2, iv⟩ ⟨y1, y2⟩
    subst y1
    obtain ⟨d, e1, r1⟩ := y2 μ2 rm2 (hold i μ2 iv)
    have rsw : RepS K H3 μ2 (wiped δ own) (L2.wipe σ own) := (rs.mono (k1.trans k2)).wipe own
    refine sg x d _ H3 _ μ2 _ _ rm2 rsw r1 (hstep i d μ2 e1 iv) fun σ4 δ4 rs4 q4 w4 => ⟨(w4 own ho).trans wipe_wipe, ?_⟩
    refine hc σ4 H3 δ4 μ2 _ _ rm2 rs4 q4 fun b H5 μ5 k5 rm5 q5 => ?_
    cases b with
    | false => exact ⟨μ5, k2.trans k5, rm5, q5⟩
    | true =>
      rw [if_pos rfl] at q5 ⊢
      refine he σ4 H5 δ4 μ5 _ _ rm5 (rs4.mono k5) q5 fun v d6 H6 μ6 k6 rm6 r6 q6 => ?_
      obtain ⟨acc, ea, hl, iv6⟩ := q6
      obtain ⟨vs, h1, h2⟩ := rm6 D _ ea
      refine ⟨vs, h1, by rw [h2.length]; exact hl, _, k2.trans (k5.trans (k6.trans (Kp.write ea))), ?_, iv6⟩
      refine rm6.put (Kp.write ea) (fun a o n _ => upd_ne n) ⟨_, upd_same, ?_⟩
      exact (h2.append (RepL.cons r6 RepL.nil)).mono (Kp.write ea) _ _
  · rintro H2 ⟨μ2, k2, rm2, iv⟩
    obtain ⟨acc, ea, q3⟩ := hend μ2 iv
    obtain ⟨vs, h1, h2⟩ := rm2 D _ ea
    refine f (.ref D) (.lst acc) H2 (del μ2 D) (k1.trans (k2.trans Kp.drop)) rm2.drop ?_ q3
    unfold Rep
    exact ⟨D, vs, rfl, h1, del_same, h2.mono Kp.drop _ _⟩
theorem de_lcW {X : Cx} {elt tg iter : Expr} {ifs : List Expr} {scope : Scope} {own : List (Str × Nat)} {pos : Pos} {gl : GE} {g : TG} {gg : GG} {ow : List Nat} {gc : GT} {ge : GE} (hc : X.calm = true) (hN : X.N.Nodup) (hi : DE X iter gl) (ok : BlkOk X.N X.env.scope scope own)
    (hg : ∀ (s : Shared) (H : Hp) (C : Addr) (cl : List (Str × Addr)) (fp : List Addr), PG (X.blk s H scope (compEnvC scope cl C X.env) fp) tg g) (sg : SimG X.K g gg ow) (ht : ∀ (s : Shared) (H : Hp) (C : Addr) (cl : List (Str × Addr)) (fp : List Addr), DTs (X.blk s H scope (compEnvC scope cl C X.env) fp) ifs gc)
    (he : ∀ (s : Shared) (H : Hp) (C : Addr) (cl : List (Str × Addr)) (fp : List Addr), DE (X.blk s H scope (compEnvC scope cl C X.env) fp) elt ge) (ho : ∀ i ∈ ow, i ∈ own.map (·.2) := by decide) (hs : ∀ x, foldedSetIterable iter X.env x = pure x := by intro _; rfl) :
    DE X (.ListComp elt [⟨tg, iter, ifs, 0⟩] scope pos) (gLcW gl gg gc ge (own.map (·.2))) := by
  obtain ⟨ti, i1, i2⟩ := hi.ex
  exact ⟨_, pe_lc hc hN (pi_list i1) ok hg (fun s H C cl fp => (ht s H C cl fp).pt) (fun s H C cl fp => (he s H C cl fp).pe) hs, sim_lcW i2 sg ho simT_of sim_of⟩
theorem lcw_map {gt : GG} {ge : GE} {own : List Nat} {δ : DS} {R : KD} {c : Addr} {items : List D} {μ1 : Mu} (f : D → D) (ec : μ1 c = some (.lst items)) (hl : items.length < sizeLine)
    (hx : ∀ x ∈ items, ∀ (μ' : Mu) (Y : KD), (∀ b o, μ1 b = some o → μ' b = some o) → Y (f x) μ' → gt x (wiped δ own) fun δ2 => ge δ2 μ' Y) (hr : R (.lst (items.map f)) μ1) : LcW gt gYes ge own δ R c items μ1 := by
  refine ⟨fun a na => ?_⟩
  have ne : c ≠ a := fun z => by rw [z, na] at ec; cases ec
  refine ⟨fun i μ' => μ' = put μ1 a (.lst ((items.take i).map f)), rfl, fun i μ' e => by rw [e, put_ne ne]; exact ec, fun i x μ' hi e => ?_, fun μ' e => ?_⟩
  · subst e
    have ht := take_succ_get hi
    have hm : x ∈ items := List.mem_of_getElem? hi
    refine hx x hm _ _ (fun b o e => ?_) ?_
    · rw [put_ne (fun z => by rw [z, na] at e; cases e)]
      exact e
    · refine ⟨_, put_same, ?_, ?_⟩
      · have : ((items.take i).map f).length ≤ items.length := by
          rw [List.length_map, List.length_take]
          omega
        omega
      · show put (put μ1 a _) a _ = put μ1 a _
        rw [put_put, ht, List.map_append]
        rfl
  · subst e
    refine ⟨_, put_same, ?_⟩
    rw [del_put na, List.take_length]
    exact hr
end DL
set_option Elab.async false
set_option linter.all false
set_option maxRecDepth 100000
namespace K10
open PySem PySem.Spec PyProof.Rows L2 DL
section
variable {P : Program} {w : World} {K : PySem.W.Frag} {mg : Str → Option Value} {base : Heap} {A : Ad}
/-! ### rings between leanings -/
def g_check_leaning (C : Addr) : GC := fun ds μ R => ∃ (p : List Nat) (ts : List Str) (l : List Bool), ds = [dWeb C p ts, .str (lnS l)] ∧ l.length = ts.length ∧ ts.length ≤ 11 ∧ R .non μ
def kvW (kvs : List (Nat × List Nat)) : List (Key × D) := kvs.map fun p => (Sum.inr (sg p.1), .tup ((p.2.map Int.ofNat).map D.int))
def g_ways_along : GC := fun ds μ R => ∃ (ws : List Str) (h : Nat), ds = [.lst (ws.map D.str), .str (sg h)] ∧ (∀ w ∈ ws, IsWay w) ∧ ws.length ≤ 11 ∧
  ∀ (f : Addr) (kvs : List (Nat × List Nat)), μ f = none → Found (fun i => ends (ws.getD i Str.empty)) ws.length h kvs → (∀ w ∈ ws, (ends w).1 ∈ kvs.map (·.1) → (ends w).2 ∈ kvs.map (·.1)) → R (.adr f) (put μ f (.dct (kvW kvs)))
theorem kvW_val {v : Nat} : ∀ {kvs : List (Nat × List Nat)} {w : List Nat}, (kvs.map (·.1)).Nodup → (v, w) ∈ kvs → DL.valD (kvW kvs) (.inr (sg v)) = some (.tup ((w.map Int.ofNat).map D.int))
  | [], _, _, h => by cases h
  | (u, x) :: kvs, w, nd, h => by
    have nd := List.nodup_cons.mp nd
    unfold DL.valD
    show (List.find? _ ((Sum.inr (sg u), _) :: kvW kvs)).map _ = _
    rw [List.find?_cons]
    by_cases e : u = v
    · subst e
      rcases List.mem_cons.mp h with q | q
      · cases q
        simp
      · exact absurd (List.mem_map.mpr ⟨_, q, rfl⟩) nd.1
    · have ne : ¬ ((Sum.inr (sg u) : Key) = Sum.inr (sg v)) := fun z => e (sg_inj (Sum.inr.inj z))
      simp only [ne, decide_false]
      rcases List.mem_cons.mp h with q | q
      · cases q
        exact absurd rfl e
      · exact kvW_val nd.2 q
theorem kvW_none {v : Nat} : ∀ {kvs : List (Nat × List Nat)}, v ∉ kvs.map (·.1) → DL.valD (kvW kvs) (.inr (sg v)) = none
  | [], _ => rfl
  | (u, x) :: kvs, h => by
    rw [List.map_cons] at h
    have ne : ¬ ((Sum.inr (sg u) : Key) = Sum.inr (sg v)) := fun z => h (by rw [← sg_inj (Sum.inr.inj z)]; exact List.mem_cons_self)
    unfold DL.valD
    show (List.find? _ ((Sum.inr (sg u), _) :: kvW kvs)).map _ = _
    rw [List.find?_cons]
    simp only [ne, decide_false]
    exact kvW_none fun z => h (List.mem_cons_of_mem _ z)
theorem kvW_some {v : Nat} {kvs : List (Nat × List Nat)} (nd : (kvs.map (·.1)).Nodup) : (DL.valD (kvW kvs) (.inr (sg v))).isSome = decide (v ∈ kvs.map (·.1)) := by
  by_cases h : v ∈ kvs.map (·.1)
  · obtain ⟨⟨u, w⟩, hw, rfl⟩ := List.mem_map.mp h
    rw [kvW_val nd hw, decide_eq_true h]
    rfl
  · rw [kvW_none h, decide_eq_false h]
    rfl
theorem kvW_put {v : Nat} {w : List Nat} {kvs : List (Nat × List Nat)} (h : v ∉ kvs.map (·.1)) : DL.putD (kvW kvs) (.inr (sg v)) (.tup ((w.map Int.ofNat).map D.int)) = kvW (kvs ++ [(v, w)]) := by
  have e : ((kvW kvs).any fun kv => decide (kv.1 = Sum.inr (sg v))) = false := by
    rw [List.any_eq_false]
    intro x hx
    obtain ⟨y, hy, rfl⟩ := List.mem_map.mp hx
    rw [decide_eq_true_iff]
    exact fun z => h (by rw [← sg_inj (Sum.inr.inj z)]; exact List.mem_map.mpr ⟨y, hy, rfl⟩)
  unfold DL.putD
  rw [e, if_neg Bool.false_ne_true]
  unfold kvW
  rw [List.map_append]
  rfl
theorem Found.few {F : Nat → Nat × Nat} {n h : Nat} {kvs : List (Nat × List Nat)} (f : Found F n h kvs) : kvs.length ≤ n + 1 := by
  have l : (kvs.map (·.1)).length ≤ (h :: (List.range n).map fun i => (F i).2).length := f.nod.length_le_of_subset fun v hv => by
    obtain ⟨⟨u, w⟩, hw, rfl⟩ := List.mem_map.mp hv
    obtain ⟨r1, r2, _, _⟩ := f.way _ _ hw
    have : u ∈ h :: w.map fun i => (F i).2 := by
      rw [← r1.tails]
      exact List.mem_append_right _ (List.mem_singleton.mpr rfl)
    rcases List.mem_cons.mp this with e | e
    · rw [e]
      exact List.mem_cons_self
    · obtain ⟨i, hi, rfl⟩ := List.mem_map.mp e
      exact List.mem_cons_of_mem _ (List.mem_map.mpr ⟨i, List.mem_range.mpr (r2 i hi), rfl⟩)
  rw [List.length_map, List.length_cons, List.length_map, List.length_range] at l
  exact l
def N27 : List Str := ["web", "leaning", "sign"]
theorem sc27 : FnScope N27 ["web", "leaning"] (defScope (top 27)) := ⟨rfl, rfl, rfl, by decide +kernel, rfl, by decide +kernel, by decide +kernel⟩
theorem ok_check_leaning (T : Tx K mg A) : FnOk P A.w K mg base CX0 1 A.check_leaning A.fd_check_leaning ["web", "leaning"] (toSp K (g_check_leaning A.Web)) := by
  refine okD T.F_check_leaning sc27 (fun ds μ R h => ?_) ⟨_, fun cdv A0 outer s H E hr =>
    (dss_cons (ds_if (dw_or (dt_not (dt_val (de_isi (T := "str") (by rfl) T.z_isinstance (by rfl) T.z_str (by decide +kernel) (dv 1)))) (dw_or1 (dt_cmp (op_neA hr.units) sim_ne (de_callB cr_len sim_len (by rfl) T.z_len boot_len (da_cons (dv 1) da_nil)) (de_callB cr_len sim_len (by rfl) T.z_len boot_len (da_cons (de_fld T.k_Web T.n_ties (dv 0)) da_nil)) (nomark _)))).dt (dss_one ds_never) dss_nil)
      (dss_one (ds_if (dt_not (dt_val (de_callB (cr_all (by rfl)) sim_all (by rfl) T.z_all boot_all (da_cons (de_lc (own := [("sign", 2)]) (by rfl) sc27.nd (di_str (dv 1)) (blkOk_by (N := N27) (own := [("sign", 2)]) (sc := defScope (top 27)) (by decide +kernel)) (fun _ _ _ _ _ => (pg_name (i := 2) sc27.nd rfl (by first | exact Or.inl rfl | exact Or.inr rfl))) (sim_nm (i := 2)) (fun _ _ _ _ _ => dts_nil) (fun _ _ _ _ _ => (de_cmp op_inA sim_in (dv 2) (de_globS (by rfl) T.c_SIGNS.choose_spec) rfl))) da_nil)))) (dss_one ds_never) dss_nil))), fun ds μ R h => ?_⟩
  · obtain ⟨p, ts, l, rfl, _⟩ := h
    rfl
  · obtain ⟨p, ts, l, rfl, hl, few, h⟩ := h
    have zl : (lnS l).length = l.length := by show (toS (lnC l)).length = _; rw [toS_size, lnC_len]
    refine ⟨_, true, rfl, by decide +kernel, ?_⟩
    refine ⟨by rw [zl, sizeLine_eq]; omega, ?_⟩
    refine ⟨rfl, _, rfl, ?_⟩
    show if (!decide (((lnS l).length : Int) = ((ts.map D.str).length : Int))) = true then _ else _
    rw [decide_eq_true (show ((lnS l).length : Int) = ((ts.map D.str).length : Int) by rw [zl, List.length_map, hl])]
    show LcB _ _ _ _ _ _ (DL.signs (lnS l)) _
    unfold lnS
    rw [signs_chs]
    refine lcb_map (fun _ => .bl true) ?_ ?_ ?_
    · rw [chs_len, lnC_len, sizeLine_eq]
      omega
    · intro d hd ν Y _ hY
      obtain ⟨c, hc, rfl⟩ := chs_in hd
      obtain ⟨b, _, rfl⟩ := List.mem_map.mp hc
      refine ⟨_, rfl, ?_⟩
      have e : decide (sgn b ∈ ("+-" : Str).cps.toList) = true := by
        rw [two_signs_text, toS_list]
        cases b <;> decide
      show Y (.bl (decide (sgn b ∈ ("+-" : Str).cps.toList))) ν
      rw [e]
      exact hY
    · refine ⟨List.replicate (lnC l).length true, ?_, ?_⟩
      · rw [List.map_const', chs_len, List.map_replicate]
      · have e : (List.replicate (lnC l).length true).all id = true := by
          rw [List.all_eq_true]
          intro c hc
          rw [List.eq_of_mem_replicate hc]
          rfl
        show if (!(List.replicate (lnC l).length true).all id) = true then _ else _
        rw [e]
        exact h
end
end K10
set_option Elab.async false
set_option linter.all false
set_option maxRecDepth 100000
namespace K10
open PySem PySem.Spec PyProof.Rows L2 DL
section
variable {P : Program} {w : World} {K : PySem.W.Frag} {mg : Str → Option Value} {base : Heap} {A : Ad}
/-- the arrows of a leaning, by their ties -/
def arrE (ts : List Str) (l : List Bool) (i : Nat) : Nat × Nat := ends ((waysL ts l).getD i Str.empty)
def dIdx (r : List Nat) : List D := (r.map Int.ofNat).map D.int
theorem way_at {p : List Nat} {ts : List Str} {l : List Bool} (ot : OkT p ts) (hl : l.length = ts.length) {i : Nat} (hi : i < ts.length) : ∃ a b, (waysL ts l)[i]? = some (yTie a b) ∧ a ∈ p ∧ b ∈ p ∧ arrE ts l i = (a, b) ∧ ts[i]? = some (yTie (if l.getD i true then a else b) (if l.getD i true then b else a)) := by
  have h1 : ts[i]? = some ts[i] := List.getElem?_eq_getElem hi
  have h2 : l[i]? = some l[i] := List.getElem?_eq_getElem (by omega)
  obtain ⟨a, b, e, ha, hb, _⟩ := ot.ties ts[i] (List.getElem_mem hi)
  have hw : (waysL ts l)[i]? = some (wayS (yTie a b) l[i]) := by
    unfold waysL
    rw [List.getElem?_zipWith, h1, h2, e]
  have gl : l.getD i true = l[i] := by rw [List.getD_eq_getElem?_getD, h2]; rfl
  have eE : arrE ts l i = ends (wayS (yTie a b) l[i]) := by
    unfold arrE
    rw [List.getD_eq_getElem?_getD, hw]
    rfl
  rw [eE, hw, gl, h1, e]
  cases l[i] with
  | true => exact ⟨a, b, rfl, ha, hb, rfl, rfl⟩
  | false => exact ⟨b, a, rfl, hb, ha, rfl, rfl⟩
theorem low_tie {p : List Nat} (op : OkPlaces p) {a b : Nat} (ha : a ∈ p) (hb : b ∈ p) : (yTie a b).cps.all (· < 128) = true := by
  have h1 := (op.sign a ha).2
  have h2 := (op.sign b hb).2
  show (#[a, b] : Array Nat).all (fun x => decide (x < 128)) = true
  simp
  omega
theorem dIdx_len (r : List Nat) : (dIdx r).length = r.length := by unfold dIdx; rw [List.length_map, List.length_map]
theorem dIdx_at {r : List Nat} {i k : Nat} (h : r[i]? = some k) : (dIdx r)[i]? = some (.int (k : Nat)) := by
  unfold dIdx
  rw [List.getElem?_map, List.getElem?_map, h]
  rfl
theorem dIdx_mem {r : List Nat} {d : D} (h : d ∈ dIdx r) : ∃ k ∈ r, d = .int (k : Nat) := by
  obtain ⟨i, hi, rfl⟩ := List.mem_map.mp h
  obtain ⟨k, hk, rfl⟩ := List.mem_map.mp hi
  exact ⟨k, hk, rfl⟩
end
end K10
set_option Elab.async false
set_option linter.all false
set_option maxRecDepth 100000
namespace K10
open PySem PySem.Spec PyProof.Rows L2 DL
section
variable {P : Program} {w : World} {K : PySem.W.Frag} {mg : Str → Option Value} {base : Heap} {A : Ad}
/-! ### the law's own walks -/
theorem lst_sameN {ds : List D} {ps : List PyData} {n : Nat} {μ : Mu} {R : KD} (h : LayL ds ps n) (hn : n + 1 ≤ 64) (q : R (.bl false) μ) : gNe (.lst ds) (.lst ds) μ R := (lay_lst h).same (k := not) hn q
def g_L_round : GC := fun ds μ R => ∃ (p : List Nat) (ts : List Str) (l : List Bool) (lot : List Nat), ds = [.lst ((waysL ts l).map D.str), .tup (dIdx lot)] ∧ OkT p ts ∧ l.length = ts.length ∧ ts.length ≤ 11 ∧ lot.length ≤ 11 ∧ (∀ i ∈ lot, i < ts.length) ∧
  ∀ b : Bool, ((∃ c, Cyc (arrE ts l) c ∧ lot.Perm c) → b = true) → R (.bl b) μ
def flipL (l : List Bool) (lot : List Nat) : List Bool := l.mapIdx fun i b => if i ∈ lot then !b else b
def g_L_flip : GC := fun ds μ R => ∃ (l : List Bool) (lot : List Nat), (ds = [.str (lnS l), .tup (dIdx lot)] ∨ ds = [.str (lnS l), .lst (dIdx lot)]) ∧ l.length ≤ 11 ∧ R (.str (lnS (flipL l lot))) μ
def N59 : List Str := ["_law_ways_here", "_law_lot", "_law_first", "_law_seen", "_law_here", "_law_turn", "_law_some", "_law_k"]
theorem sc59 : FnScope N59 ["_law_ways_here", "_law_lot"] (defScope (top 59)) := ⟨rfl, rfl, rfl, by decide +kernel, rfl, by decide +kernel, by decide +kernel⟩
theorem ok_L_goes_round (T : Tx K mg A) : FnOk P A.w K mg base CX0 1 A.L_goes_round A.fd_L_goes_round ["_law_ways_here", "_law_lot"] (toSp K (g_L_round)) := by
  refine okDF T.F_L_goes_round sc59 (fun ds μ R h => ?_) ⟨_, fun cdv A0 outer s H E hr =>
    (dss_cons (ds_if (dt_cmp (op_eqA hr.units) sim_eq (dv 1) (de_tup da_nil) (nomark _)) (dss_one (ds_ret de_bl)) dss_nil)
      (dss_cons (ds_asg (de_tup (da_cons (de_ix ix_any sim_ix (de_ix ix_any sim_ix (dv 0) (de_ix ix_any sim_ix (dv 1) de_int (fun _ _ => rfl)) (fun _ _ => rfl)) de_int (fun _ _ => rfl)) (da_cons (de_cell da_nil) da_nil))) (pg_tup (n := 2) (by rfl) (pgs_cons (pg_name (i := 2) sc59.nd rfl (by first | exact Or.inl rfl | exact Or.inr rfl)) (pgs_cons (pg_name (i := 3) sc59.nd rfl (by first | exact Or.inl rfl | exact Or.inr rfl)) pgs_nil))) (sim_tupT (n := 2) (sim_consT (sim_nm (i := 2)) (sim_consT (sim_nm (i := 3)) sim_nilT))))
      (dss_cons (ds_set sc59.nd (i := 4) rfl (by first | exact Or.inl rfl | exact Or.inr rfl) (dv 2))
      (dss_cons (ds_for PassesOwn.never rfl (di_both (dv 1)) (pg_name (i := 5) sc59.nd rfl (by first | exact Or.inl rfl | exact Or.inr rfl)) (sim_nm (i := 5))
      (dss_cons (ds_setLc (i := 6) (own := [("_law_k", 7)]) (by rfl) sc59.nd rfl rfl (sw_true rfl rfl rfl (by decide +kernel)) (di_both (dv 1)) (blkOk_by (N := N59) (own := [("_law_k", 7)]) (sc := defScope (top 59)) (by decide +kernel)) (fun _ _ _ _ _ => (pg_name (i := 7) sc59.nd rfl (by first | exact Or.inl rfl | exact Or.inr rfl))) (sim_nm (i := 7)) (fun _ _ _ _ _ => (dts_one (dw_and (dt_cmp (op_eqA hr.units) sim_eq (de_ix ix_any sim_ix (de_ix ix_any sim_ix (dv 0) (dv 7) (fun _ _ => rfl)) de_int (fun _ _ => rfl)) (dv 4) (nomark _)) (dw_and1 (dt_cmp op_notInA sim_notInC (dv 7) (dv 3) rfl))).dt)) (fun _ _ _ _ _ => (dv 7)))
      (dss_cons (ds_if (dw_or (dt_cmp (op_neA hr.units) sim_ne (de_callB cr_len sim_len (by rfl) T.z_len boot_len (da_cons (dv 6) da_nil)) de_int (nomark _)) (dw_or1 (dt_cmp op_inA sim_in (dv 4) (de_lcW (own := [("_law_k", 7)]) (by rfl) sc59.nd (dv 3) (blkOk_by (N := N59) (own := [("_law_k", 7)]) (sc := defScope (top 59)) (by decide +kernel)) (fun _ _ _ _ _ => (pg_name (i := 7) sc59.nd rfl (by first | exact Or.inl rfl | exact Or.inr rfl))) (sim_nm (i := 7)) (fun _ _ _ _ _ => dts_nil) (fun _ _ _ _ _ => (de_ix ix_any sim_ix (de_ix ix_any sim_ix (dv 0) (dv 7) (fun _ _ => rfl)) de_int (fun _ _ => rfl)))) rfl))).dt (dss_one (ds_ret de_bl)) dss_nil)
      (dss_cons (ds_expr (de_bm PySem.F.plainAttrs_list PySem.F.slot_list_append PySem.F.type_list_append mt_append sim_append ok_cell (dv 3) (da_cons (de_ix ix_any sim_ix (dv 6) de_int (fun _ _ => rfl)) da_nil)))
      (dss_one (ds_set sc59.nd (i := 4) rfl (by first | exact Or.inl rfl | exact Or.inr rfl) (de_ix ix_any sim_ix (de_ix ix_any sim_ix (dv 0) (de_ix ix_any sim_ix (dv 6) de_int (fun _ _ => rfl)) (fun _ _ => rfl)) de_int (fun _ _ => rfl))))))))
      (dss_one (ds_ret (de_and (de_cmp (op_eqA hr.units) sim_eq (dv 4) (dv 2) (nomark _)) (de_one (de_cmp (op_eqA hr.units) sim_eq (de_callB cr_len sim_lenC (by rfl) T.z_len boot_len (da_cons (dv 3) da_nil)) (de_callB cr_len sim_len (by rfl) T.z_len boot_len (da_cons (dv 1) da_nil)) (nomark _)))))))))), fun ds μ R h => ?_⟩
  · obtain ⟨p, ts, l, lot, rfl, _⟩ := h
    rfl
  · obtain ⟨p, ts, l, lot, rfl, ot, hl, few, l11, lt, h⟩ := h
    have z0 : 0 ≤ sizeLine := by decide
    have sz2 : 2 ≤ sizeLine := by decide
    have two : ∀ a b : Nat, (yTie a b).length ≤ sizeLine := fun a b => by show 2 ≤ sizeLine; decide
    have wat : ∀ {i : Nat} {w : Str}, (waysL ts l)[i]? = some w → ((waysL ts l).map D.str)[i]? = some (.str w) := fun {i w} h => by rw [List.getElem?_map, h]; rfl
    refine ⟨z0, ?_⟩
    refine (lay_tup (layL_ints (lot.map Int.ofNat) 0)).cmp (lay_tup (layL_ints [] 0)) (by decide) (by decide) ?_
    rw [eqv_ints]
    refine if_case (c := decide (lot.map Int.ofNat = [])) (fun e => ?_) (fun e => ?_)
    · refine ⟨_, _, .refl, h false fun ⟨c, hc, hp⟩ => ?_⟩
      rw [List.map_eq_nil_iff.mp (of_decide_eq_true e)] at hp
      exact absurd hp.nil_eq.symm hc.ne
    obtain ⟨o, rest, rfl⟩ : ∃ o rest, lot = o :: rest := by
      cases lot with
      | nil => exact absurd rfl (of_decide_eq_false e)
      | cons a r => exact ⟨a, r, rfl⟩
    obtain ⟨a, a2, hwo, _, _, eO, _⟩ := way_at ot hl (lt o List.mem_cons_self)
    have key : ∃ d : List Nat, (∃ c, Cyc (arrE ts l) c ∧ (o :: rest).Perm c) → d.Perm (o :: rest) ∧
        (∀ j here, j < d.length → Run (arrE ts l) (arrE ts l o).1 (d.take j) here → ∃ k, d[j]? = some k ∧ k ∈ o :: rest ∧ ((o :: rest).filter fun x => decide ((arrE ts l x).1 = here) && !decide (x ∈ d.take j)) = [k] ∧ here ∉ (d.take j).map (fun i => (arrE ts l i).1) ∧ Run (arrE ts l) (arrE ts l o).1 (d.take (j + 1)) (arrE ts l k).2) ∧
        ∀ here, Run (arrE ts l) (arrE ts l o).1 d here → here = (arrE ts l o).1 := by
      by_cases q : ∃ c, Cyc (arrE ts l) c ∧ (o :: rest).Perm c
      · obtain ⟨c, hc, hp⟩ := q
        obtain ⟨d, hd⟩ := hc.walk hp
        exact ⟨d, fun _ => hd⟩
      · exact ⟨[], fun z => absurd z q⟩
    obtain ⟨d, key⟩ := key
    refine atK_nat (dIdx_at (r := o :: rest) (i := 0) rfl) ?_
    refine atK_nat (wat hwo) ?_
    refine ⟨two a a2, ?_⟩
    refine ⟨z0, fun b nb => ?_⟩
    refine ⟨sz2, rfl, ?_⟩
    have a1 : (arrE ts l o).1 = a := by rw [eO]
    rw [a1] at key
    have lol : (dIdx (o :: rest)).length = (o :: rest).length := dIdx_len _
    refine ⟨fun i δ' μ' => i ≤ (o :: rest).length ∧ ∃ (here : Nat) (seen : List Nat) (o5 o6 : Option D), μ' = put μ b (.lst (dIdx seen)) ∧ seen.length ≤ i ∧ (∀ x ∈ seen, x < ts.length) ∧ ((∃ c, Cyc (arrE ts l) c ∧ (o :: rest).Perm c) → seen = d.take i ∧ i ≤ d.length ∧ Run (arrE ts l) a (d.take i) here) ∧
      δ' = [some (.lst ((waysL ts l).map D.str)), some (.tup (dIdx (o :: rest))), some (.str (sg a)), some (.adr b), some (.str (sg here)), o5, o6, none],
      ⟨Nat.zero_le _, a, [], none, none, rfl, Nat.le_refl _, (fun x hx => by cases hx), (fun _ => ⟨rfl, Nat.zero_le _, rfl⟩), rfl⟩, ?_, ?_⟩
    · rintro i it δ' μ' hi ⟨_, here, seen, o5, o6, rfl, ls, sl, ring, rfl⟩
      have hi : i < (o :: rest).length := by
        have := (List.getElem?_eq_some_iff.mp hi).1
        omega
      show LcB _ _ _ _ _ _ (dIdx (o :: rest)) _
      refine lcb_pure (fun d => match d with | .int k => decide ((arrE ts l k.toNat).1 = here) && !decide (k.toNat ∈ seen) | _ => false) id ?_ ?_ ?_
      · rw [dIdx_len, sizeLine_eq]
        omega
      · intro x hx ν N Y kp hN hY
        obtain ⟨k, hk, rfl⟩ := dIdx_mem hx
        have hN : (decide ((arrE ts l k).1 = here) && !decide (k ∈ seen)) = false → N ν := hN
        have hY : (decide ((arrE ts l k).1 = here) && !decide (k ∈ seen)) = true → Y (.int (k : Nat)) ν := hY
        obtain ⟨u, v, hwk, _, _, eK, _⟩ := way_at ot hl (lt k hk)
        rw [eK] at hN hY
        refine atK_nat (wat hwk) ?_
        refine ⟨two u v, ?_⟩
        have es : decide (sg u = sg here) = decide (u = here) := decide_eq_decide.mpr ⟨fun e => sg_inj e, fun e => by rw [e]⟩
        refine if_case (c := decide (sg u = sg here)) (fun e => ?_) (fun e => ?_)
        · rw [es] at e
          rw [e, Bool.true_and] at hN hY
          refine ⟨dIdx seen, kp _ _ put_same, ?_⟩
          refine in_lot ?_
          exact if_case (c := !decide (k ∈ seen)) (fun e => hY e) (fun e => hN e)
        · rw [es] at e
          rw [e, Bool.false_and] at hN
          exact hN rfl
      have el : ((dIdx (o :: rest)).filter fun d => match d with | .int k => decide ((arrE ts l k.toNat).1 = here) && !decide (k.toNat ∈ seen) | _ => false).map id = dIdx ((o :: rest).filter fun x => decide ((arrE ts l x).1 = here) && !decide (x ∈ seen)) := by
        unfold dIdx
        rw [List.map_id, List.filter_map, List.filter_map]
        rfl
      rw [el]
      have step : (∃ c, Cyc (arrE ts l) c ∧ (o :: rest).Perm c) → ∃ k, d[i]? = some k ∧ ((o :: rest).filter fun x => decide ((arrE ts l x).1 = here) && !decide (x ∈ seen)) = [k] ∧ here ∉ seen.map (fun i => (arrE ts l i).1) ∧ i + 1 ≤ d.length ∧ Run (arrE ts l) a (d.take (i + 1)) (arrE ts l k).2 := fun rg => by
        obtain ⟨r1, r2, r3⟩ := ring rg
        obtain ⟨k1, k2, _⟩ := key rg
        have id : i < d.length := by rw [k1.length_eq]; exact hi
        obtain ⟨k, q1, _, q3, q4, q5⟩ := k2 i here id r3
        exact ⟨k, q1, by rw [r1]; exact q3, by rw [r1]; exact q4, id, q5⟩
      have sub : ∀ k ∈ (o :: rest).filter fun x => decide ((arrE ts l x).1 = here) && !decide (x ∈ seen), k < ts.length := fun k hk => lt k (List.mem_filter.mp hk).1
      generalize ((o :: rest).filter fun x => decide ((arrE ts l x).1 = here) && !decide (x ∈ seen)) = some_ at step sub ⊢
      show if (!decide (((dIdx some_).length : Int) = 1)) = true then _ else _
      refine if_case (c := !decide (((dIdx some_).length : Int) = 1)) (fun e => ?_) (fun e => ?_)
      · refine ⟨_, μ, .less fun c o e => ?_, h false fun rg => ?_⟩
        · rw [put_ne (fun z => by rw [z, nb] at e; cases e)]
          exact e
        · obtain ⟨k, _, e1, _⟩ := step rg
          rw [e1] at e
          cases e
      · have e : ((dIdx some_).length : Int) = 1 := Decidable.by_contra fun z => by rw [decide_eq_false z] at e; cases e
        rw [dIdx_len] at e
        obtain ⟨k, rfl⟩ : ∃ k, some_ = [k] := List.length_eq_one_iff.mp (by omega)
        refine ⟨dIdx seen, put_same, ?_⟩
        refine lcw_map (fun d => match d with | .int k => .str (sg (arrE ts l k.toNat).1) | d => d) put_same (by rw [dIdx_len, sizeLine_eq]; omega) ?_ ?_
        · intro x hx ν Y kp hY
          obtain ⟨j, hj, rfl⟩ := dIdx_mem hx
          have hY : Y (.str (sg (arrE ts l j).1)) ν := hY
          obtain ⟨u, v, hwj, _, _, eJ, _⟩ := way_at ot hl (sl j hj)
          rw [eJ] at hY
          refine atK_nat (wat hwj) ?_
          exact ⟨two u v, hY⟩
        have es : (dIdx seen).map (fun d => match d with | .int k => D.str (sg (arrE ts l k.toNat).1) | d => d) = (seen.map fun j => sg (arrE ts l j).1).map D.str := by
          unfold dIdx
          rw [List.map_map, List.map_map, List.map_map]
          rfl
        rw [es]
        refine .inr ⟨sg here, _, rfl, rfl, ?_⟩
        have em : decide (sg here ∈ seen.map fun j => sg (arrE ts l j).1) = decide (here ∈ seen.map fun j => (arrE ts l j).1) := decide_eq_decide.mpr ⟨fun z => by
          obtain ⟨j, hj, e⟩ := List.mem_map.mp z
          exact List.mem_map.mpr ⟨j, hj, sg_inj e⟩, fun z => by
          obtain ⟨j, hj, e⟩ := List.mem_map.mp z
          exact List.mem_map.mpr ⟨j, hj, by rw [e]⟩⟩
        refine if_case (c := decide (sg here ∈ seen.map fun j => sg (arrE ts l j).1)) (fun e => ?_) (fun _ => ?_)
        · rw [em] at e
          refine ⟨_, μ, .less fun c o e => ?_, h false fun rg => ?_⟩
          · rw [put_ne (fun z => by rw [z, nb] at e; cases e)]
            exact e
          · obtain ⟨_, _, _, e2, _⟩ := step rg
            exact absurd (of_decide_eq_true e) e2
        · have hk := sub k List.mem_cons_self
          obtain ⟨u, v, hwk, _, _, eK, _⟩ := way_at ot hl hk
          refine ⟨cell_ok put_same, ?_⟩
          refine ⟨_, put_same, by rw [dIdx_len, sizeLine_eq]; omega, ?_⟩
          rw [put_put]
          refine atK_nat (wat hwk) ?_
          refine ⟨two u v, ?_⟩
          have ea : dIdx seen ++ [.int (Int.ofNat k)] = dIdx (seen ++ [k]) := by
            unfold dIdx
            rw [List.map_append, List.map_append]
            rfl
          refine ⟨hi, v, seen ++ [k], _, _, by rw [ea], by rw [List.length_append]; show _ + 1 ≤ _; omega, fun x hx => ?_, fun rg => ?_, rfl⟩
          · rcases List.mem_append.mp hx with q | q
            · exact sl x q
            · rw [List.mem_singleton.mp q]
              exact hk
          · obtain ⟨k', q1, q2, _, q4, q5⟩ := step rg
            have ek : k = k' := by simpa using q2
            subst ek
            rw [eK] at q5
            refine ⟨?_, q4, q5⟩
            rw [(ring rg).1, List.take_succ, q1]
            rfl
    · rintro δ' μ' ⟨_, here, seen, o5, o6, rfl, ls, sl, ring, rfl⟩
      rw [lol] at ring
      have fin : ∀ c : Bool, ((∃ c, Cyc (arrE ts l) c ∧ (o :: rest).Perm c) → c = true) → freed R (.bl c) (put μ b (.lst (dIdx seen))) := fun c hc => by
        refine ⟨_, μ, .less fun x o e => ?_, h c hc⟩
        rw [put_ne (fun z => by rw [z, nb] at e; cases e)]
        exact e
      have rr : (∃ c, Cyc (arrE ts l) c ∧ (o :: rest).Perm c) → here = a ∧ seen.length = (o :: rest).length := fun rg => by
        obtain ⟨q1, q2, q3⟩ := ring rg
        obtain ⟨k1, _, k3⟩ := key rg
        have ld := k1.length_eq
        rw [← ld, List.take_length] at q1 q3
        exact ⟨k3 here q3, by rw [q1, ld]⟩
      refine if_case (c := decide (sg here = sg a)) (fun e => ?_) (fun e => ?_)
      · refine ⟨b, _, rfl, put_same, ?_⟩
        refine fin (decide (((dIdx seen).length : Int) = ((dIdx (o :: rest)).length : Int))) fun rg => ?_
        refine decide_eq_true ?_
        rw [dIdx_len, dIdx_len, (rr rg).2]
      · refine fin _ fun rg => ?_
        rw [(rr rg).1] at e
        exact absurd rfl (of_decide_eq_false e)
def N62 : List Str := ["_law_leaning_here", "_law_lot", "_law_k", "_law_sign"]
theorem sc62 : FnScope N62 ["_law_leaning_here", "_law_lot"] (defScope (top 62)) := ⟨rfl, rfl, rfl, by decide +kernel, rfl, by decide +kernel, by decide +kernel⟩
theorem ok_L_flip (T : Tx K mg A) : FnOk P A.w K mg base CX0 1 A.L_flip A.fd_L_flip ["_law_leaning_here", "_law_lot"] (toSp K (g_L_flip)) := by
  refine okD T.F_L_flip sc62 (fun ds μ R h => ?_) ⟨_, fun cdv A0 outer s H E hr =>
    (dss_one (ds_ret (de_bm PySem.F.plainAttrs_str PySem.F.slot_str_join PySem.F.type_str_join mt_join sim_join ok_str de_str (da_cons (de_lc (own := [("_law_k", 2), ("_law_sign", 3)]) (by rfl) sc62.nd (di_enumS (by rfl) T.z_enumerate (da_cons (dv 0) da_nil)) (blkOk_by (N := N62) (own := [("_law_k", 2), ("_law_sign", 3)]) (sc := defScope (top 62)) (by decide +kernel)) (fun _ _ _ _ _ => (pg_tup (n := 2) (by rfl) (pgs_cons (pg_name (i := 2) sc62.nd rfl (by first | exact Or.inl rfl | exact Or.inr rfl)) (pgs_cons (pg_name (i := 3) sc62.nd rfl (by first | exact Or.inl rfl | exact Or.inr rfl)) pgs_nil)))) (sim_tupT (n := 2) (sim_consT (sim_nm (i := 2)) (sim_consT (sim_nm (i := 3)) sim_nilT))) (fun _ _ _ _ _ => dts_nil) (fun _ _ _ _ _ => (de_if (dt_cmp op_inA sim_in (dv 2) (dv 1) rfl) (de_if (dt_cmp (op_eqA hr.units) sim_eq (dv 3) de_str (nomark _)) de_str de_str) (dv 3)))) da_nil)))), fun ds μ R h => ?_⟩
  · obtain ⟨l, lot, rfl | rfl, _⟩ := h <;> rfl
  · obtain ⟨l, lot, hd, few, h⟩ := h
    have lnl : (lnC (flipL l lot)).length = l.length := by unfold flipL; rw [lnC_len, List.length_mapIdx]
    have body : ∀ (dl : D) (inl : ∀ (k : Nat) (ν : Mu) (F : D → Mu → Prop), F (.bl (decide (k ∈ lot))) ν → DL.gIn id (.int (k : Nat)) dl ν F), DL.gRet (DL.gBM okStr (gM1 gJoin2) (gC (D.str (Str.ofString ""))) (DL.gCons (gLc (gEnumS (DL.gCons (gVar 0) DL.gNil)) (gTupT 2 (gConsT (gNm 2) (gConsT (gNm 3) gNilT))) gYes
        (DL.gIf (gB (gOp (DL.gIn id) (gVar 2) (gVar 1))) (DL.gIf (gB (gOp DL.gEq (gVar 3) (gC (D.str (Str.ofString "+"))))) (gC (D.str (Str.ofString "-"))) (gC (D.str (Str.ofString "+")))) (gVar 3)) (List.map (fun x => x.snd) [(Str.ofString "_law_k", 2), (Str.ofString "_law_sign", 3)])) DL.gNil))
        { nx := fun x μ' => R D.non μ', rt := R } (begin_ N62 [.str (lnS l), dl]) μ := fun dl inl => by
      refine ⟨True.intro, ?_⟩
      show LcB _ _ _ _ _ _ (DL.numbered (DL.signs (lnS l))) _
      unfold lnS
      rw [signs_chs]
      refine lcb_map (fun d => match d with | .tup [.int i, .str y] => .str (sg (if i.toNat ∈ lot then (if y = ("+" : Str) then 45 else 43) else y.cps.toList.getD 0 0)) | d => d) ?_ ?_ ?_
      · have : (DL.numbered (chs (lnC l))).length = l.length := by unfold DL.numbered; rw [List.length_mapIdx, chs_len, lnC_len]
        rw [this, sizeLine_eq]
        omega
      · intro x hx ν Y kp hY
        obtain ⟨i, hi, e⟩ := List.getElem_of_mem hx
        obtain ⟨dd, hd, rfl⟩ := numbered_at (show (DL.numbered (chs (lnC l)))[i]? = some x by rw [List.getElem?_eq_getElem hi, e])
        obtain ⟨c, _, rfl⟩ := chs_in (List.mem_of_getElem? hd)
        have hY : Y (.str (sg (if i ∈ lot then (if sg c = ("+" : Str) then 45 else 43) else c))) ν := hY
        refine ⟨rfl, inl i ν _ ?_⟩
        refine if_case (c := decide (i ∈ lot)) (fun e => ?_) (fun e => ?_)
        · rw [if_pos (of_decide_eq_true e)] at hY
          refine if_case (c := decide (sg c = ("+" : Str))) (fun e2 => ?_) (fun e2 => ?_)
          · rw [if_pos (of_decide_eq_true e2)] at hY
            have : ("-" : Str) = sg 45 := by decide +kernel
            show Y (.str ("-" : Str)) ν
            rw [this]
            exact hY
          · rw [if_neg (of_decide_eq_false e2)] at hY
            show Y (.str ("+" : Str)) ν
            rw [plus_sg]
            exact hY
        · rw [if_neg (of_decide_eq_false e)] at hY
          exact hY
      have e : (DL.numbered (chs (lnC l))).map (fun d => match d with | .tup [.int i, .str y] => D.str (sg (if i.toNat ∈ lot then (if y = ("+" : Str) then 45 else 43) else y.cps.toList.getD 0 0)) | d => d) = ((lnC (flipL l lot)).map sg).map D.str := by
        apply List.ext_getElem?
        intro i
        unfold DL.numbered chs lnC flipL
        rw [List.getElem?_map, List.getElem?_mapIdx, List.getElem?_map, List.getElem?_map, List.getElem?_map, List.getElem?_map, List.getElem?_map, List.getElem?_mapIdx]
        cases l[i]? with
        | none => rfl
        | some b =>
          show some (D.str (sg (if i ∈ lot then (if sg (sgn b) = ("+" : Str) then 45 else 43) else sgn b))) = some (D.str (sg (sgn (if i ∈ lot then !b else b))))
          have hp : (sg (sgn b) = ("+" : Str)) ↔ b = true := by
            have := plus_is b
            exact ⟨fun z => by rw [decide_eq_true z] at this; exact this.symm, fun z => of_decide_eq_true (by rw [this, z])⟩
          by_cases m : i ∈ lot
          · rw [if_pos m, if_pos m]
            cases b with
            | true => rw [if_pos (hp.mpr rfl)]; rfl
            | false => rw [if_neg (fun z => by have := hp.mp z; cases this)]; rfl
          · rw [if_neg m, if_neg m]
      rw [e]
      refine ⟨_, rfl, by rw [sum_sg, len_empty, lnl]; omega, ?_⟩
      rw [join_sg]
      exact h
    rcases hd with rfl | rfl
    · exact body _ fun k ν F hF => in_lot (R := fun b => F (.bl b) ν) hF
    · exact body _ fun k ν F hF => in_lot (R := fun b => F (.bl b) ν) hF
end
end K10
set_option Elab.async false
set_option linter.all false
set_option maxRecDepth 100000
namespace K10
/-! mathematics of orders and rounds of arrows -/
section
variable {E : Nat → Nat × Nat} {n : Nat}
/-- arrows below n lead from h to v -/
def Reach (E : Nat → Nat × Nat) (n h v : Nat) : Prop := ∃ w, Run E h w v ∧ ∀ i ∈ w, i < n
theorem Reach.refl (h : Nat) : Reach E n h h := ⟨[], rfl, fun i hi => by cases hi⟩
theorem Reach.step {h i : Nat} (r : Reach E n h (E i).1) (hi : i < n) : Reach E n h (E i).2 := by
  obtain ⟨w, r1, r2⟩ := r
  refine ⟨w ++ [i], Run.append.mpr ⟨_, r1, rfl, rfl⟩, fun j hj => ?_⟩
  rcases List.mem_append.mp hj with q | q
  · exact r2 j q
  · rw [List.mem_singleton.mp q]; exact hi
theorem Reach.trans {a b c : Nat} (r : Reach E n a b) (s : Reach E n b c) : Reach E n a c := by
  obtain ⟨w, r1, r2⟩ := r
  obtain ⟨x, s1, s2⟩ := s
  exact ⟨w ++ x, Run.append.mpr ⟨b, r1, s1⟩, fun i hi => (List.mem_append.mp hi).elim (r2 i) (s2 i)⟩
theorem Reach.within {h v : Nat} {K : List Nat} (r : Reach E n h v) (hK : h ∈ K) (cl : ∀ i, i < n → (E i).1 ∈ K → (E i).2 ∈ K) : v ∈ K := by
  obtain ⟨w, r1, r2⟩ := r
  induction w generalizing h with
  | nil =>
    have e : h = v := r1
    rw [← e]; exact hK
  | cons i w ih =>
    have hi := r2 i List.mem_cons_self
    exact ih (h := (E i).2) (cl i hi (by rw [r1.1]; exact hK)) r1.2 fun j hj => r2 j (List.mem_cons_of_mem _ hj)
theorem Found.reach {h : Nat} {kvs : List (Nat × List Nat)} (f : Found E n h kvs) (cl : ∀ i, i < n → (E i).1 ∈ kvs.map (·.1) → (E i).2 ∈ kvs.map (·.1)) (v : Nat) : v ∈ kvs.map (·.1) ↔ Reach E n h v := by
  constructor
  · intro hv
    obtain ⟨⟨u, w⟩, hw, rfl⟩ := List.mem_map.mp hv
    obtain ⟨r1, r2, _, _⟩ := f.way _ _ hw
    exact ⟨w, r1, r2⟩
  · exact fun r => r.within f.has cl
/-- the k-th arrow is in a round -/
def InRing (E : Nat → Nat × Nat) (n k : Nat) : Prop := Reach E n (E k).2 (E k).1
/-- what is found when nothing more can come -/
theorem full_closed {h : Nat} {K : List Nat} (nod : K.Nodup) (r : ∀ v ∈ K, Reach E n h v) (len : n + 1 ≤ K.length) : ∀ i, i < n → (E i).2 ∈ K := by
  intro i hi
  refine Decidable.by_contra fun z => ?_
  have sub : ∀ v ∈ (E i).2 :: K, v ∈ h :: (List.range n).map fun i => (E i).2 := fun v hv => by
    rcases List.mem_cons.mp hv with e | e
    · rw [e]
      exact List.mem_cons_of_mem _ (List.mem_map.mpr ⟨i, List.mem_range.mpr hi, rfl⟩)
    · obtain ⟨w, r1, r2⟩ := r v e
      have m : v ∈ h :: w.map fun i => (E i).2 := by
        rw [← r1.tails]
        exact List.mem_append_right _ (List.mem_singleton.mpr rfl)
      rcases List.mem_cons.mp m with q | q
      · rw [q]; exact List.mem_cons_self
      · obtain ⟨j, hj, rfl⟩ := List.mem_map.mp q
        exact List.mem_cons_of_mem _ (List.mem_map.mpr ⟨j, List.mem_range.mpr (r2 j hj), rfl⟩)
  have := (List.nodup_cons.mpr ⟨z, nod⟩).length_le_of_subset sub
  rw [List.length_cons, List.length_cons, List.length_map, List.length_range] at this
  omega
theorem found_few {h : Nat} {K : List Nat} (nod : K.Nodup) (r : ∀ v ∈ K, Reach E n h v) : K.length ≤ n + 1 := by
  have sub : ∀ v ∈ K, v ∈ h :: (List.range n).map fun i => (E i).2 := fun v e => by
    obtain ⟨w, r1, r2⟩ := r v e
    have m : v ∈ h :: w.map fun i => (E i).2 := by
      rw [← r1.tails]
      exact List.mem_append_right _ (List.mem_singleton.mpr rfl)
    rcases List.mem_cons.mp m with q | q
    · rw [q]; exact List.mem_cons_self
    · obtain ⟨j, hj, rfl⟩ := List.mem_map.mp q
      exact List.mem_cons_of_mem _ (List.mem_map.mpr ⟨j, List.mem_range.mpr (r2 j hj), rfl⟩)
  have := nod.length_le_of_subset sub
  rw [List.length_cons, List.length_map, List.length_range] at this
  exact this
/-! ### orders -/
/-- the places of q where no arrow from q ends -/
def frontsL (E : Nat → Nat × Nat) (n : Nat) (q : List Nat) : List Nat := q.filter fun c => (List.range n).all fun i => !(decide ((E i).1 ∈ q) && decide ((E i).2 = c))
theorem fronts_mem {q : List Nat} {c : Nat} : c ∈ frontsL E n q ↔ c ∈ q ∧ ∀ i, i < n → (E i).1 ∈ q → (E i).2 ≠ c := by
  unfold frontsL
  rw [List.mem_filter, List.all_eq_true]
  constructor
  · rintro ⟨h1, h2⟩
    refine ⟨h1, fun i hi hq e => ?_⟩
    have := h2 i (List.mem_range.mpr hi)
    rw [decide_eq_true hq, decide_eq_true e] at this
    cases this
  · rintro ⟨h1, h2⟩
    refine ⟨h1, fun i hi => ?_⟩
    have := h2 i (List.mem_range.mp hi)
    by_cases hq : (E i).1 ∈ q
    · rw [decide_eq_true hq, decide_eq_false (this hq)]
      rfl
    · rw [decide_eq_false hq]
      rfl
def ford (E : Nat → Nat × Nat) (n : Nat) : Nat → List Nat → Option (List Nat)
  | 0, _ => some []
  | f + 1, q => match frontsL E n q with
    | [] => none
    | c :: _ => (ford E n f (q.filter fun x => decide (x ≠ c))).map (c :: ·)
/-- first place first -/
def ordL (E : Nat → Nat × Nat) (n : Nat) (q : List Nat) : Option (List Nat) := ford E n q.length q
theorem less_one {q : List Nat} {c : Nat} (nod : q.Nodup) (hc : c ∈ q) : q.length = (q.filter fun x => decide (x ≠ c)).length + 1 := by
  induction q with
  | nil => cases hc
  | cons a q ih =>
    have nd := List.nodup_cons.mp nod
    rw [List.filter_cons]
    by_cases e : a = c
    · subst e
      rw [if_neg (by simp), List.length_cons]
      have : q.filter (fun x => decide (x ≠ a)) = q := List.filter_eq_self.mpr fun x hx => decide_eq_true fun z => nd.1 (by rw [← z]; exact hx)
      rw [this]
    · rw [if_pos (decide_eq_true e), List.length_cons, List.length_cons, ← ih nd.2 ((List.mem_cons.mp hc).resolve_left fun z => e z.symm)]
theorem ord_nil : ordL E n [] = some [] := rfl
theorem ord_none {q : List Nat} (ne : q ≠ []) (h : frontsL E n q = []) : ordL E n q = none := by
  unfold ordL
  cases q with
  | nil => exact absurd rfl ne
  | cons a q =>
    rw [List.length_cons]
    unfold ford
    rw [h]
theorem ord_cons {q r : List Nat} {c : Nat} (nod : q.Nodup) (h : frontsL E n q = c :: r) : ordL E n q = (ordL E n (q.filter fun x => decide (x ≠ c))).map (c :: ·) := by
  have hc : c ∈ q := (fronts_mem.mp (by rw [h]; exact List.mem_cons_self)).1
  have l := less_one nod hc
  unfold ordL
  rw [l]
  conv => lhs; unfold ford
  rw [h]
/-- each has an arrow from among them -/
def Trap (E : Nat → Nat × Nat) (n : Nat) (C : List Nat) : Prop := ∀ c ∈ C, ∃ i, i < n ∧ (E i).2 = c ∧ (E i).1 ∈ C
theorem Trap.stuck {C : List Nat} (t : Trap E n C) (ne : C ≠ []) : ∀ (m : Nat) (q : List Nat), q.length = m → q.Nodup → (∀ c ∈ C, c ∈ q) → ordL E n q = none := by
  intro m
  induction m with
  | zero =>
    intro q hl _ sub
    cases C with
    | nil => exact absurd rfl ne
    | cons a C =>
      have := sub a List.mem_cons_self
      rw [List.length_eq_zero_iff.mp hl] at this
      cases this
  | succ m ih =>
    intro q hl nod sub
    have hq : q ≠ [] := fun e => by rw [e] at hl; cases hl
    cases hf : frontsL E n q with
    | nil => exact ord_none hq hf
    | cons c r =>
      obtain ⟨hc, free⟩ := fronts_mem.mp (show c ∈ frontsL E n q by rw [hf]; exact List.mem_cons_self)
      have l := less_one nod hc
      rw [ord_cons nod hf, ih _ (by omega) (List.Pairwise.filter _ nod) fun x hx => ?_]
      · rfl
      · refine List.mem_filter.mpr ⟨sub x hx, decide_eq_true fun e => ?_⟩
        obtain ⟨i, hi, e1, e2⟩ := t x hx
        exact free i hi (sub _ e2) (e1.trans e)
theorem none_trap : ∀ (m : Nat) (q : List Nat), q.length = m → q.Nodup → ordL E n q = none → ∃ C, C ≠ [] ∧ Trap E n C := by
  intro m
  induction m with
  | zero =>
    intro q hl _ h
    rw [List.length_eq_zero_iff.mp hl] at h
    cases h
  | succ m ih =>
    intro q hl nod h
    have hq : q ≠ [] := fun e => by rw [e] at hl; cases hl
    cases hf : frontsL E n q with
    | nil =>
      refine ⟨q, hq, fun c hc => ?_⟩
      refine Classical.byContradiction fun z => ?_
      have : c ∈ frontsL E n q := fronts_mem.mpr ⟨hc, fun i hi h1 h2 => z ⟨i, hi, h2, h1⟩⟩
      rw [hf] at this
      cases this
    | cons c r =>
      have hc := (fronts_mem.mp (show c ∈ frontsL E n q by rw [hf]; exact List.mem_cons_self)).1
      have l := less_one nod hc
      rw [ord_cons nod hf] at h
      exact ih _ (by omega) (List.Pairwise.filter _ nod) (Option.map_eq_none_iff.mp h)
open Classical in
theorem Trap.ring {C : List Nat} (t : Trap E n C) (ne : C ≠ []) : ∃ k, k < n ∧ InRing E n k := by
  refine Classical.byContradiction fun no => ?_
  let P : Nat → Nat → Prop := fun u c => ∃ i, i < n ∧ (E i).1 = u ∧ Reach E n (E i).2 c
  have down : ∀ (m c : Nat), c ∈ C → (C.filter fun u => decide (P u c)).length ≤ m → False := by
    intro m
    induction m with
    | zero =>
      intro c hc hm
      obtain ⟨i, hi, e1, e2⟩ := t c hc
      have : (E i).1 ∈ C.filter fun u => decide (P u c) := List.mem_filter.mpr ⟨e2, decide_eq_true ⟨i, hi, rfl, by rw [e1]; exact .refl c⟩⟩
      rw [List.length_eq_zero_iff.mp (Nat.le_zero.mp hm)] at this
      cases this
    | succ m ih =>
      intro c hc hm
      obtain ⟨i, hi, e1, e2⟩ := t c hc
      refine ih (E i).1 e2 ?_
      have lt : (C.filter fun u => decide (P u (E i).1)).length < (C.filter fun u => decide (P u c)).length := by
        have imp : ∀ u, P u (E i).1 → P u c := fun u ⟨j, hj, h1, h2⟩ => ⟨j, hj, h1, by rw [← e1]; exact h2.step hi⟩
        have yes : P (E i).1 c := ⟨i, hi, rfl, by rw [e1]; exact .refl c⟩
        have nay : ¬ P (E i).1 (E i).1 := fun ⟨j, hj, h1, h2⟩ => no ⟨j, hj, by unfold InRing; rw [h1]; exact h2⟩
        clear hm ih hc
        have gen : ∀ L : List Nat, (E i).1 ∈ L → (L.filter fun u => decide (P u (E i).1)).length < (L.filter fun u => decide (P u c)).length := by
          have le : ∀ L : List Nat, (L.filter fun u => decide (P u (E i).1)).length ≤ (L.filter fun u => decide (P u c)).length := fun L => by
            induction L with
            | nil => exact Nat.le_refl _
            | cons a L ih =>
              rw [List.filter_cons, List.filter_cons]
              by_cases h1 : P a (E i).1
              · rw [if_pos (decide_eq_true h1), if_pos (decide_eq_true (imp a h1)), List.length_cons, List.length_cons]
                omega
              · rw [if_neg (by rw [decide_eq_false h1]; exact Bool.false_ne_true)]
                split
                · rw [List.length_cons]; omega
                · exact ih
          intro L hL
          induction L with
          | nil => cases hL
          | cons a L ih =>
            rw [List.filter_cons, List.filter_cons]
            by_cases ea : a = (E i).1
            · subst ea
              rw [if_neg (by rw [decide_eq_false nay]; exact Bool.false_ne_true), if_pos (decide_eq_true yes), List.length_cons]
              exact Nat.lt_succ_of_le (le L)
            · have ih := ih ((List.mem_cons.mp hL).resolve_left fun z => ea z.symm)
              by_cases h1 : P a (E i).1
              · rw [if_pos (decide_eq_true h1), if_pos (decide_eq_true (imp a h1)), List.length_cons, List.length_cons]
                omega
              · rw [if_neg (by rw [decide_eq_false h1]; exact Bool.false_ne_true)]
                split
                · rw [List.length_cons]; omega
                · exact ih
        exact gen C e2
      omega
  cases C with
  | nil => exact absurd rfl ne
  | cons c C => exact down _ c List.mem_cons_self (Nat.le_refl _)
theorem InRing.trap {k : Nat} (h : InRing E n k) (hk : k < n) : ∃ C, C ≠ [] ∧ Trap E n C ∧ ∀ c ∈ C, ∃ i, i < n ∧ (E i).1 = c := by
  obtain ⟨w, r1, r2⟩ := h
  have run : Run E (E k).1 (k :: w) (E k).1 := ⟨rfl, r1⟩
  have inn : ∀ i ∈ k :: w, i < n := fun i hi => by
    rcases List.mem_cons.mp hi with e | e
    · rw [e]; exact hk
    · exact r2 i e
  refine ⟨(k :: w).map fun i => (E i).1, List.cons_ne_nil _ _, fun c hc => ?_, fun c hc => ?_⟩
  · obtain ⟨i, hi, e⟩ := List.mem_map.mp (run.perm.subset hc)
    exact ⟨i, inn i hi, e, List.mem_map.mpr ⟨i, hi, rfl⟩⟩
  · obtain ⟨i, hi, e⟩ := List.mem_map.mp hc
    exact ⟨i, inn i hi, e⟩
/-- an order is there just if no arrow is in a round -/
theorem ord_ring {p : List Nat} (nod : p.Nodup) (hp : ∀ i, i < n → (E i).1 ∈ p) : ordL E n p = none ↔ ∃ k, k < n ∧ InRing E n k := by
  constructor
  · intro h
    obtain ⟨C, ne, t⟩ := none_trap p.length p rfl nod h
    exact t.ring ne
  · rintro ⟨k, hk, r⟩
    obtain ⟨C, ne, t, hC⟩ := r.trap hk
    refine t.stuck ne p.length p rfl nod fun c hc => ?_
    obtain ⟨i, hi, rfl⟩ := hC c hc
    exact hp i hi
end
end K10
set_option Elab.async false
set_option linter.all false
set_option maxRecDepth 100000
namespace DL
open PySem PySem.Spec PyProof.Rows L2
/-! ### a dict of the module, texts by texts -/
def gKd (K : PySem.W.Frag) (w : World) : G2 := fun x y μ R => ∃ (p : Addr) (z v : Str), x = .adr p ∧ y = .str z ∧ KDct K w p z (.str v) ∧ R (.str v) μ
theorem sim_kd {K : PySem.W.Frag} {w : World} : SimO K (rIxD K w) (gKd K w) := by
  intro x y dx dy H μ Q R rm rx ry q f
  obtain ⟨p, z, v, rfl, rfl, k, q⟩ := q
  exact ⟨p, z, .str v, rep_adr rx, rep_str ry, k, fw_now rm to_str q f⟩
end DL
set_option Elab.async false
set_option linter.all false
set_option maxRecDepth 100000
namespace DL
open PySem PySem.Spec PyProof.Rows L2
/-! ### x.replace(y[k], z), x.replace(y[k], z[l]): signs of texts -/
def tSignAt (ty : TE) (k : Int) (R : Nat → Hp → Prop) : L2.St → Hp → Prop := fun σ H => ty σ H fun u H2 => ∃ y c, u = .str y ∧ y.length ≤ sizeLine ∧ L2.atI y.cps.toList k = some c ∧ R c H2
def tReplIx (to ty : TE) (k : Int) (z : Str) : TE := fun σ H Q => to σ H fun v H1 => ∃ x, v = .str x ∧ tSignAt ty k (fun c H2 => ((⟨#[c]⟩ : Str) == z) = false ∧ x.length + (x.length + 1) * z.length ≤ 16777216 ∧ Q (.str (Txt.replace x ⟨#[c]⟩ z)) H2) σ H1
section
variable {X : Cx} {o e f : Expr} {to ty tz : TE} {k l : Int} {z : Str} {j j2 : Nat} {cp cp2 c2 q0 q1 apos pos : Pos}
theorem sub_sign {pins : List (Addr × Obj)} {σ : L2.St} {H : Hp} {s : Shared} {R : Nat → Hp → Prop} {Q E : Value → Shared → Prop} (hy : PE X e ty) (hs : PlainIx (.Constant (.int k) j cp)) (I : Inv X pins σ H s) (h : tSignAt ty k R σ H)
    (hE : E = X.xe) (q : ∀ (c : Nat) (H2 : Hp) (s2 : Shared) (t : Nat), Inv X pins σ H2 s2 → R c H2 → s.toks < t → t < s2.toks → Q (.str ⟨#[c]⟩ t) s2) : wpAny (model X.prog X.w) X.A (eval (.Subscript e (.Constant (.int k) j cp) q0) X.env) Q E s := by
  subst hE
  refine Subscript_ (wpAny_mono (PySem.wpAny_toks (hy.run pins s σ H _ I h)) (fun v s1 qq => ?_) fun _ _ z => z.2)
  obtain ⟨hk, v', H1, I1, r1, q1⟩ := qq
  obtain ⟨y, c, rfl, hz, he, hr⟩ := q1
  obtain ⟨t, rfl⟩ := r1
  refine wpAny_Constant_int ?_
  obtain ⟨j, h1, h2, h3, h4, h5⟩ := atI_get he
  have hl : y.cps.toList.length = y.length := by simp [Str.length]
  rw [hl] at h1 h4 h5
  have hn := line63
  have e1 : decide (k < -(2 ^ 63 : Int)) = false := decide_eq_false (Int.not_lt.mpr (Int.le_trans (show -(2 ^ 63 : Int) ≤ -9223372036854775807 by decide) (by omega)))
  have e2 : decide (k ≥ 2 ^ 63) = false := decide_eq_false (Int.not_le.mpr (Int.lt_of_le_of_lt (show k ≤ 9223372036854775807 by omega) (show (9223372036854775807 : Int) < 2 ^ 63 by decide)))
  refine tail_any (s := { s1 with toks := s1.toks + 1 }) (typeIs_str _ y t) slot_str_getitem.lookup (getItem_str (c := c) (by rw [e1, e2, Bool.or_false]) (by rw [h1]; simpa using h2) ?_) (hs _ _)
  exact q c H1 _ (s1.toks + 1) (I1.tok _) hr (Nat.lt_succ_of_le hk) (Nat.lt_succ_self _)
theorem pe_replIx (ho : PE X o to) (hy : PE X e ty) (hs : PlainIx (.Constant (.int k) j cp))
    (hst : starEach [.Subscript e (.Constant (.int k) j cp) q0, .Constant (.str z) j2 c2] X.env = [(false, eval (.Subscript e (.Constant (.int k) j cp) q0) X.env), (false, eval (.Constant (.str z) j2 c2) X.env)] := by rfl)
    (hbase : attributeBase o "replace" X.env (eval o X.env) = eval o X.env := by rfl) (hline : (apos.endLine == pos.line) = true := by rfl) :
    PE X (.Call (.Attribute o "replace" apos) [.Subscript e (.Constant (.int k) j cp) q0, .Constant (.str z) j2 c2] [] pos) (tReplIx to ty k z) := by
  refine ⟨fun pins s σ H Q I h => ?_⟩
  refine PySem.Call_method2 hbase hst hline (thn (ho.run pins s σ H _ I h) fun v s1 ⟨v', H1, I1, r1, x, ev, q1⟩ => ?_)
  subst ev
  obtain ⟨tx, rfl⟩ := r1
  refine ⟨"str", _, F.plainAttrs_str, F.slot_str_replace, F.type_str_replace, typeIs_str _ _ _, (fun _ e => nomatch e), Calls.callWith_builtin rfl (Calls.evalArgs_plain (Calls.spliced_cons ?_))⟩
  refine sub_sign hy hs I1 q1 rfl fun c H2 s2 t I2 ⟨hyz, hb, q⟩ t0 t1 => ?_
  refine Calls.spliced_cons (Calls.Constant_str (Calls.spliced_nil ?_))
  exact PySem.SC.replace (Nat.ne_of_gt (Nat.lt_of_le_of_lt (Nat.zero_le _) t0)) (Nat.ne_of_gt (Nat.lt_of_le_of_lt (Nat.zero_le _) t1)) (Nat.ne_of_lt t1) hyz hb fun t' k => ⟨.str (Txt.replace x ⟨#[c]⟩ z), H2, I2.tok k, ⟨t', rfl⟩, q⟩
end
/-! ### at data level -/
def gSignAt (gy : GE) (k : Int) (R : Nat → Mu → Prop) : DS → Mu → Prop := fun δ μ => gy δ μ fun d μ1 => match d with
  | .str y => y.length ≤ sizeLine ∧ ∃ c, L2.atI y.cps.toList k = some c ∧ R c μ1
  | _ => False
def gReplIx (go gy : GE) (k : Int) (z : Str) : GE := fun δ μ R => go δ μ fun d μ1 => match d with
  | .str x => gSignAt gy k (fun c μ2 => ((⟨#[c]⟩ : Str) == z) = false ∧ x.length + (x.length + 1) * z.length ≤ 16777216 ∧ R (.str (Txt.replace x ⟨#[c]⟩ z)) μ2) δ μ1
  | _ => False
theorem sim_signAt {K : PySem.W.Frag} {ty : TE} {gy : GE} {k : Int} (h : SimE K ty gy) {σ : L2.St} {H : Hp} {δ : DS} {μ : Mu} {Q : Nat → Hp → Prop} {R : Nat → Mu → Prop} (rm : RM K H μ) (rs : RepS K H μ δ σ) (q : gSignAt gy k R δ μ)
    (f : ∀ c H' μ', Kp H μ H' μ' → RM K H' μ' → R c μ' → Q c H') : tSignAt ty k Q σ H := by
  refine h σ H δ μ _ _ rm rs q fun v d H1 μ1 k1 rm1 r1 q1 => ?_
  cases d <;> try exact False.elim q1
  obtain ⟨hl, c, hc, q1⟩ := q1
  exact ⟨_, c, rep_str r1, hl, hc, f c H1 μ1 k1 rm1 q1⟩
theorem de_replIx {X : Cx} {o e : Expr} {go gy : GE} {k : Int} {z : Str} {j j2 : Nat} {cp c2 q0 apos pos : Pos} (ho : DE X o go) (hy : DE X e gy) (hs : PlainIx (.Constant (.int k) j cp))
    (hst : starEach [.Subscript e (.Constant (.int k) j cp) q0, .Constant (.str z) j2 c2] X.env = [(false, eval (.Subscript e (.Constant (.int k) j cp) q0) X.env), (false, eval (.Constant (.str z) j2 c2) X.env)] := by rfl)
    (hbase : attributeBase o "replace" X.env (eval o X.env) = eval o X.env := by rfl) (hline : (apos.endLine == pos.line) = true := by rfl) :
    DE X (.Call (.Attribute o "replace" apos) [.Subscript e (.Constant (.int k) j cp) q0, .Constant (.str z) j2 c2] [] pos) (gReplIx go gy k z) := by
  obtain ⟨to, a1, a2⟩ := ho.ex
  obtain ⟨ty, b1, b2⟩ := hy.ex
  refine ⟨_, pe_replIx a1 b1 hs hst hbase hline, fun σ H δ μ Q R rm rs q f => ?_⟩
  refine a2 σ H δ μ _ _ rm rs q fun v d H1 μ1 k1 rm1 r1 q1 => ?_
  cases d <;> try exact False.elim q1
  rename_i x
  refine ⟨x, rep_str r1, ?_⟩
  exact sim_signAt b2 rm1 (rs.mono k1) q1 fun c H2 μ2 k2 rm2 ⟨h1, h2, q2⟩ => ⟨h1, h2, f _ _ H2 μ2 (k1.trans k2) rm2 to_str q2⟩
end DL
set_option Elab.async false
set_option linter.all false
set_option maxRecDepth 100000
namespace DL
open PySem PySem.Spec PyProof.Rows L2
/-! ### a text as a test; a walk by one of two rules -/
def gTruS (g : GE) : GT := fun δ μ R => g δ μ fun d μ1 => match d with
  | .str z => z.length ≤ sizeLine ∧ R (decide (z.length ≠ 0)) μ1
  | _ => False
theorem dt_truS {X : Cx} {a : Expr} {g : GE} (h : DE X a g) (he : ∀ whole, isTrue a X.env whole = (do let v ← whole; standAt a.pos; holding [v] (truthy v)) := by intro _; rfl) : DT X a (gTruS g) := by
  obtain ⟨t, a1, a2⟩ := h.ex
  refine ⟨_, pt_truth a1 he, fun σ H δ μ Q R rm rs q f => ?_⟩
  refine a2 σ H δ μ _ _ rm rs q fun v d H1 μ1 k1 rm1 r1 q1 => ?_
  cases d <;> try exact False.elim q1
  rename_i z
  have e := rep_str r1
  subst e
  refine ⟨_, ⟨q1.1, rfl⟩, ?_⟩
  have e2 : ((z.length : Int) != 0) = decide (z.length ≠ 0) := by
    by_cases h : z.length = 0
    · rw [h]; rfl
    · rw [decide_eq_true h]
      exact bne_iff_ne.mpr (by omega)
  rw [e2]
  exact f _ H1 μ1 k1 rm1 q1.2
theorem di_or {X : Cx} {tg e : Expr} {g1 g2 : GI} (h1 : DI X tg e g1) (h2 : DI X tg e g2) : DI X tg e (fun δ μ R => g1 δ μ R ∨ g2 δ μ R) := by
  obtain ⟨t1, a1, b1⟩ := h1.ex
  obtain ⟨t2, a2, b2⟩ := h2.ex
  refine ⟨fun σ H R => t1 σ H R ∨ t2 σ H R, ⟨fun pins s σ H R I h => h.elim (a1.run pins s σ H R I) (a2.run pins s σ H R I)⟩, fun σ H δ μ Q R rm rs q f => ?_⟩
  rcases q with q | q
  · exact .inl (b1 σ H δ μ Q R rm rs q f)
  · exact .inr (b2 σ H δ μ Q R rm rs q f)
/-! ### a text += a text -/
def gIpS : G2 := fun x y μ R => match x, y with
  | .str a, .str b => a.length + b.length ≤ sizeLine ∧ R (.str (a ++ b)) μ
  | _, _ => False
def rIpS : R2 := fun x y H Q => ∃ i j, x = .str i ∧ y = .str j ∧ i.length + j.length ≤ sizeLine ∧ Q (.str (i ++ j)) H
theorem ip_str {X : Cx} : PIp X .Add rIpS := by
  intro pins s σ H x y v u Q I r1 r2 h
  exact iop_add_str pins s σ H x y v u Q I r1 r2 h
theorem sim_ipstr {K : PySem.W.Frag} : SimO K rIpS gIpS := by
  intro x y dx dy H μ Q R rm rx ry q f
  cases dx <;> cases dy <;> try exact False.elim q
  exact ⟨_, _, rep_str rx, rep_str ry, q.1, fw_now rm to_str q.2 f⟩
end DL
set_option Elab.async false
set_option linter.all false
set_option maxRecDepth 100000
namespace K10
open PySem PySem.Spec PyProof.Rows L2 DL
section
variable {P : Program} {w : World} {K : PySem.W.Frag} {mg : Str → Option Value} {base : Heap} {A : Ad}
/-! ### single leanings -/
theorem opp_mem (b : Bool) : (sg (sgn b), sg (sgn (!b))) ∈ ([("+", "-"), ("-", "+")] : List (Str × Str)) := by cases b <;> decide +kernel
def flipD (lot : List Nat) : D → D
  | .tup [.int i, .str y] => .str (sg (if i.toNat ∈ lot then (if y = ("+" : Str) then 45 else 43) else y.cps.toList.getD 0 0))
  | d => d
theorem flip_map (l : List Bool) (lot : List Nat) : (DL.numbered (chs (lnC l))).map (flipD lot) = ((lnC (flipL l lot)).map sg).map D.str := by
  apply List.ext_getElem?
  intro i
  unfold DL.numbered chs lnC flipL
  rw [List.getElem?_map, List.getElem?_mapIdx, List.getElem?_map, List.getElem?_map, List.getElem?_map, List.getElem?_map, List.getElem?_map, List.getElem?_mapIdx]
  cases l[i]? with
  | none => rfl
  | some b =>
    show some (D.str (sg (if i ∈ lot then (if sg (sgn b) = ("+" : Str) then 45 else 43) else sgn b))) = some (D.str (sg (sgn (if i ∈ lot then !b else b))))
    have hp : (sg (sgn b) = ("+" : Str)) ↔ b = true := by
      have := plus_is b
      exact ⟨fun z => by rw [decide_eq_true z] at this; exact this.symm, fun z => of_decide_eq_true (by rw [this, z])⟩
    by_cases m : i ∈ lot
    · rw [if_pos m, if_pos m]
      cases b with
      | true => rw [if_pos (hp.mpr rfl)]; rfl
      | false => rw [if_neg (fun z => by have := hp.mp z; cases this)]; rfl
    · rw [if_neg m, if_neg m]
theorem flip_one (c : Nat) (b : Bool) (h : c = sgn b) : sg (sgn (!b)) = sg (if sg c = ("+" : Str) then 45 else 43) := by
  subst h
  have := plus_is b
  cases b with
  | true => rw [if_pos (of_decide_eq_true this)]; rfl
  | false => rw [if_neg (of_decide_eq_false this)]; rfl
def lessQ (q : List Nat) (c : Nat) : List Nat := q.filter fun x => decide (x ≠ c)
theorem replL_gone (m : Nat) : ∀ l : List Nat, StrLaws.replL [m] [] l = l.filter fun c => decide (c ≠ m)
  | [] => by rw [StrLaws.replL_nil]; rfl
  | x :: l => by
    by_cases e : x = m
    · rw [StrLaws.replL_hit (by simp) (by rw [e]; rfl), List.filter_cons, if_neg (by rw [decide_eq_true_eq]; exact fun h => h e)]
      show [] ++ StrLaws.replL [m] [] l = _
      rw [replL_gone m l]
      rfl
    · rw [StrLaws.replL_miss (by
        intro h
        have h' : [x] = [m] := h
        exact e (by simpa using h')), List.filter_cons, if_pos (decide_eq_true e), replL_gone m l]
theorem repl_gone (p : List Nat) (b : Nat) : Txt.replace (toS p) ⟨#[b]⟩ ("" : Str) = toS (lessQ p b) := by
  have e : (Txt.replace (toS p) ⟨#[b]⟩ ("" : Str)).cps.toList = lessQ p b := by
    rw [StrLaws.replace_list (by show 1 ≤ 1; omega), toS_list, show (("" : Str).cps.toList) = [] by decide +kernel]
    exact replL_gone b p
  show _ = (⟨(lessQ p b).toArray⟩ : Str)
  rw [← e]
def g_ways_both : GC := fun ds μ R => ∃ (ws : List Str) (h : Nat), (ds = [.lst (ws.map D.str), .str (sg h)] ∨ ds = [.tup (ws.map D.str), .str (sg h)]) ∧ (∀ w ∈ ws, IsWay w) ∧ ws.length ≤ 11 ∧
  ∀ (f : Addr) (kvs : List (Nat × List Nat)), μ f = none → Found (fun i => ends (ws.getD i Str.empty)) ws.length h kvs → (∀ w ∈ ws, (ends w).1 ∈ kvs.map (·.1) → (ends w).2 ∈ kvs.map (·.1)) → R (.adr f) (put μ f (.dct (kvW kvs)))
def g_check_both (C : Addr) : GC := g_check_leaning C
def g_turned_by : GC := fun ds μ R => ∃ (l : List Bool) (lot : List Nat), ds = [.str (lnS l), .tup (dIdx lot)] ∧ l.length ≤ 11 ∧ R (.str (lnS (flipL l lot))) μ
def g_fronts_among : GC := fun ds μ R => ∃ (q : List Nat) (ws : List Str), (ds = [.str (toS q), .tup (ws.map D.str)] ∨ ds = [.str (toS q), .lst (ws.map D.str)]) ∧ q.length ≤ 8 ∧ ws.length ≤ 11 ∧ (∀ w ∈ ws, IsWay w) ∧ R (.str (toS (q.filter fun c => decide (c ∉ ws.map fun w => (ends w).2)))) μ
def oS : Option (List Nat) → D
  | none => .non
  | some o => .str (toS o)
def g_first_order (C : Addr) : GC := fun ds μ R => ∃ (p : List Nat) (ts : List Str) (l : List Bool), ds = [dWeb C p ts, .str (lnS l)] ∧ OkPlaces p ∧ OkT p ts ∧ l.length = ts.length ∧ ts.length ≤ 11 ∧ R (oS (ordL (arrE ts l) ts.length p)) μ
def N41 : List Str := ["row", "start", "ways", "grown", "index", "arrow"]
theorem sc41 : FnScope N41 ["row", "start"] (defScope (top 41)) := ⟨rfl, rfl, rfl, by decide +kernel, rfl, by decide +kernel, by decide +kernel⟩
theorem ok_ways_along (T : Tx K mg A) : FnOk P A.w K mg base CX0 1 A.ways_along A.fd_ways_along ["row", "start"] (toSp K (g_ways_both)) := by
  refine okDF T.F_ways_along sc41 (fun ds μ R h => ?_) ⟨_, fun cdv A0 outer s H E hr =>
    (dss_cons (ds_set sc41.nd (i := 2) rfl (by first | exact Or.inl rfl | exact Or.inr rfl) (de_done (dv 1) (de_tup da_nil)))
      (dss_cons (ds_set sc41.nd (i := 3) rfl (by first | exact Or.inl rfl | exact Or.inr rfl) de_bl)
      (dss_cons (ds_while PassesOwn.never (dt_val (dv 3))
      (dss_cons (ds_set sc41.nd (i := 3) rfl (by first | exact Or.inl rfl | exact Or.inr rfl) de_bl)
      (dss_one (ds_for PassesOwn.never rfl (di_or (di_enumL (by rfl) T.z_enumerate (da_cons (dv 0) da_nil)) (di_enumT (by rfl) T.z_enumerate (da_cons (dv 0) da_nil))) (pg_tup (n := 2) (by rfl) (pgs_cons (pg_name (i := 4) sc41.nd rfl (by first | exact Or.inl rfl | exact Or.inr rfl)) (pgs_cons (pg_name (i := 5) sc41.nd rfl (by first | exact Or.inl rfl | exact Or.inr rfl)) pgs_nil))) (sim_tupT (n := 2) (sim_consT (sim_nm (i := 4)) (sim_consT (sim_nm (i := 5)) sim_nilT)))
      (dss_one (ds_if (dw_and (dt_din (hu_of hr) (de_ix ix_any sim_ix (dv 5) de_int (fun _ _ => rfl)) (dv 2)) (dw_and1 (dt_dnotin (hu_of hr) (de_ix ix_any sim_ix (dv 5) de_int (fun _ _ => rfl)) (dv 2)))).dt (dss_cons (ds_asgH (de_op op_plus sim_plus (de_dget (hu_of hr) (dv 2) (de_ix ix_any sim_ix (dv 5) de_int (fun _ _ => rfl)) (fun _ _ => rfl)) (de_tup (da_cons (dv 4) da_nil))) (pg_subDD (hu_of hr) (dv 2) (de_ix ix_any sim_ix (dv 5) de_int (fun _ _ => rfl))) simH_subDD)
      (dss_one (ds_set sc41.nd (i := 3) rfl (by first | exact Or.inl rfl | exact Or.inr rfl) de_bl))) dss_nil))))))
      (dss_one (ds_ret (dv 2)))))), fun ds μ R h => ?_⟩
  · obtain ⟨ws, h0, rfl | rfl, _⟩ := h <;> rfl
  · obtain ⟨ws, h0, hx, hw, few, h⟩ := h
    rcases hx with rfl | rfl
    · skip
      have z0 : 0 ≤ sizeLine := by decide
      have two : ∀ a b : Nat, (yTie a b).length ≤ sizeLine := fun a b => by show 2 ≤ sizeLine; decide
      have lw : (ws.map D.str).length = ws.length := List.length_map _
      refine fun f nf => ?_
      refine ⟨z0, .inr (sg h0), rfl, put_same, ?_⟩
      rw [put_put]
      have sf := Found.start (F := fun i => ends (ws.getD i Str.empty)) (n := ws.length) (h := h0)
      refine ⟨fun m δ' μ' => ∃ (kvs : List (Nat × List Nat)) (g : Bool) (o4 o5 : Option D), Found (fun i => ends (ws.getD i Str.empty)) ws.length h0 kvs ∧ (g = false → ∀ w ∈ ws, (ends w).1 ∈ kvs.map (·.1) → (ends w).2 ∈ kvs.map (·.1)) ∧ μ' = put μ f (.dct (kvW kvs)) ∧
        m = 2 * (ws.length + 2 - kvs.length) + (if g then 1 else 0) ∧ δ' = [some (.lst (ws.map D.str)), some (.str (sg h0)), some (.adr f), some (.bl g), o4, o5], ⟨_, [(h0, [])], true, none, none, sf, (fun e => by cases e), rfl, rfl, rfl⟩, ?_⟩
      rintro m δ' μ' ⟨kvs, g, o4, o5, fd, cl, rfl, rfl, rfl⟩
      refine if_case (c := g) (fun eg => ?_) (fun eg => ?_)
      · subst eg
        refine .inl ⟨fun i δ' μ' => ∃ (kvs' : List (Nat × List Nat)) (g : Bool) (o4 o5 : Option D), Found (fun i => ends (ws.getD i Str.empty)) ws.length h0 kvs' ∧ kvs.length ≤ kvs'.length ∧ (g = true → kvs.length < kvs'.length) ∧ (g = false → ∀ (j : Nat) (w : Str), j < i → ws[j]? = some w → (ends w).1 ∈ kvs'.map (·.1) → (ends w).2 ∈ kvs'.map (·.1)) ∧
          μ' = put μ f (.dct (kvW kvs')) ∧ δ' = [some (.lst (ws.map D.str)), some (.str (sg h0)), some (.adr f), some (.bl g), o4, o5], ⟨kvs, false, o4, o5, fd, Nat.le_refl _, (fun e => by cases e), (fun _ j w hj => absurd hj (Nat.not_lt_zero _)), rfl, rfl⟩, ?_, ?_⟩
        · rintro i x δ' μ' hx ⟨kvs', g, o4, o5, fd, le, gr, cl, rfl, rfl⟩
          obtain ⟨d, hd, rfl⟩ := numbered_at hx
          rw [List.getElem?_map] at hd
          obtain ⟨w, hi, rfl⟩ : ∃ w, ws[i]? = some w ∧ d = .str w := by
            cases q : ws[i]? with
            | none => rw [q] at hd; cases hd
            | some w => rw [q] at hd; exact ⟨w, rfl, (Option.some.inj hd).symm⟩
          have il := (List.getElem?_eq_some_iff.mp hi).1
          obtain ⟨a, b, rfl⟩ := hw w (List.mem_of_getElem? hi)
          have eF : ends (ws.getD i Str.empty) = (a, b) := by
            rw [List.getD_eq_getElem?_getD, hi]
            rfl
          refine ⟨rfl, two a b, kvW kvs', .inr (sg a), put_same, rfl, ?_⟩
          show if (DL.valD (kvW kvs') (.inr (sg a))).isSome = true then _ else _
          rw [kvW_some fd.nod]
          refine if_case (c := decide (a ∈ kvs'.map (·.1))) (fun ea => ?_) (fun ea => ?_)
          · have ea := of_decide_eq_true ea
            refine ⟨two a b, kvW kvs', .inr (sg b), put_same, rfl, ?_⟩
            show if (!(DL.valD (kvW kvs') (.inr (sg b))).isSome) = true then _ else _
            rw [kvW_some fd.nod]
            refine if_case (c := !decide (b ∈ kvs'.map (·.1))) (fun eb => ?_) (fun eb => ?_)
            · have eb : b ∉ kvs'.map (·.1) := fun z => by rw [decide_eq_true z] at eb; cases eb
              obtain ⟨⟨u, wy⟩, hwy, rfl⟩ := List.mem_map.mp ea
              have fw := fd.few
              have lwy : wy.length ≤ 20 := by
                obtain ⟨r1, r2, r3, _⟩ := fd.way _ _ hwy
                have := (List.nodup_cons.mp r3).2
                have l : (wy.map fun i => (ends (ws.getD i Str.empty)).2).length ≤ (kvs'.map (·.1)).length := this.length_le_of_subset fun z hz => (fd.way _ _ hwy).2.2.2 z (List.mem_cons_of_mem _ hz)
                rw [List.length_map, List.length_map] at l
                omega
              refine ⟨two u b, kvW kvs', .inr (sg u), _, put_same, rfl, kvW_val fd.nod hwy, ?_⟩
              refine ⟨by show 1 ≤ sizeLine; decide, ?_⟩
              refine ⟨by show ((wy.map Int.ofNat).map D.int).length + 1 ≤ sizeLine; rw [List.length_map, List.length_map, sizeLine_eq]; omega, ?_⟩
              refine ⟨two u b, kvW kvs', .inr (sg b), put_same, rfl, by unfold kvW; rw [List.length_map, sizeLine_eq]; omega, ?_⟩
              have ew : D.tup ((wy.map Int.ofNat).map D.int ++ [.int (i : Nat)]) = .tup (((wy ++ [i]).map Int.ofNat).map D.int) := by rw [List.map_append, List.map_append]; rfl
              have kp := kvW_put (w := wy ++ [i]) eb
              rw [← ew] at kp
              rw [put_put, kp]
              have fd2 := fd.add (i := i) (w := wy) il (by rw [eF]; exact hwy) (by rw [eF]; exact eb)
              rw [eF] at fd2
              refine ⟨kvs' ++ [(b, wy ++ [i])], true, _, _, fd2, by rw [List.length_append]; omega, fun _ => by rw [List.length_append]; show _ < _ + 1; omega, (fun e => by cases e), rfl, rfl⟩
            · have eb : b ∈ kvs'.map (·.1) := Decidable.by_contra fun z => by rw [decide_eq_false z] at eb; cases eb
              refine ⟨kvs', g, _, _, fd, le, gr, fun eg j w hj hw' => ?_, rfl, rfl⟩
              rcases Nat.lt_or_eq_of_le (Nat.le_of_lt_succ hj) with q | q
              · exact cl eg j w q hw'
              · subst q
                rw [hi] at hw'
                cases hw'
                exact fun _ => eb
          · have ea := of_decide_eq_false ea
            refine ⟨kvs', g, _, _, fd, le, gr, fun eg j w hj hw' => ?_, rfl, rfl⟩
            rcases Nat.lt_or_eq_of_le (Nat.le_of_lt_succ hj) with q | q
            · exact cl eg j w q hw'
            · subst q
              rw [hi] at hw'
              cases hw'
              exact fun z => absurd z ea
        · rintro δ' μ' ⟨kvs', g, o4, o5, fd', le, gr, cl, rfl, rfl⟩
          have nl : (DL.numbered (ws.map D.str)).length = ws.length := by simp [DL.numbered]
          rw [nl] at cl
          have fw := fd.few
          have fw' := fd'.few
          refine ⟨2 * (ws.length + 2 - kvs'.length) + (if g then 1 else 0), ?_, kvs', g, o4, o5, fd', fun eg w hw' => ?_, rfl, rfl, rfl⟩
          · cases g with
            | false =>
              show 2 * (ws.length + 2 - kvs'.length) + 0 < 2 * (ws.length + 2 - kvs.length) + 1
              omega
            | true =>
              have := gr rfl
              show 2 * (ws.length + 2 - kvs'.length) + 1 < 2 * (ws.length + 2 - kvs.length) + 1
              omega
          · obtain ⟨j, hj, e⟩ := List.getElem_of_mem hw'
            exact cl eg j w hj (by rw [List.getElem?_eq_getElem hj, e])
      · subst eg
        exact ⟨_, _, .refl, h f kvs nf fd (cl rfl)⟩
    · skip
      have z0 : 0 ≤ sizeLine := by decide
      have two : ∀ a b : Nat, (yTie a b).length ≤ sizeLine := fun a b => by show 2 ≤ sizeLine; decide
      have lw : (ws.map D.str).length = ws.length := List.length_map _
      refine fun f nf => ?_
      refine ⟨z0, .inr (sg h0), rfl, put_same, ?_⟩
      rw [put_put]
      have sf := Found.start (F := fun i => ends (ws.getD i Str.empty)) (n := ws.length) (h := h0)
      refine ⟨fun m δ' μ' => ∃ (kvs : List (Nat × List Nat)) (g : Bool) (o4 o5 : Option D), Found (fun i => ends (ws.getD i Str.empty)) ws.length h0 kvs ∧ (g = false → ∀ w ∈ ws, (ends w).1 ∈ kvs.map (·.1) → (ends w).2 ∈ kvs.map (·.1)) ∧ μ' = put μ f (.dct (kvW kvs)) ∧
        m = 2 * (ws.length + 2 - kvs.length) + (if g then 1 else 0) ∧ δ' = [some (.tup (ws.map D.str)), some (.str (sg h0)), some (.adr f), some (.bl g), o4, o5], ⟨_, [(h0, [])], true, none, none, sf, (fun e => by cases e), rfl, rfl, rfl⟩, ?_⟩
      rintro m δ' μ' ⟨kvs, g, o4, o5, fd, cl, rfl, rfl, rfl⟩
      refine if_case (c := g) (fun eg => ?_) (fun eg => ?_)
      · subst eg
        refine .inr ⟨fun i δ' μ' => ∃ (kvs' : List (Nat × List Nat)) (g : Bool) (o4 o5 : Option D), Found (fun i => ends (ws.getD i Str.empty)) ws.length h0 kvs' ∧ kvs.length ≤ kvs'.length ∧ (g = true → kvs.length < kvs'.length) ∧ (g = false → ∀ (j : Nat) (w : Str), j < i → ws[j]? = some w → (ends w).1 ∈ kvs'.map (·.1) → (ends w).2 ∈ kvs'.map (·.1)) ∧
          μ' = put μ f (.dct (kvW kvs')) ∧ δ' = [some (.tup (ws.map D.str)), some (.str (sg h0)), some (.adr f), some (.bl g), o4, o5], ⟨kvs, false, o4, o5, fd, Nat.le_refl _, (fun e => by cases e), (fun _ j w hj => absurd hj (Nat.not_lt_zero _)), rfl, rfl⟩, ?_, ?_⟩
        · rintro i x δ' μ' hx ⟨kvs', g, o4, o5, fd, le, gr, cl, rfl, rfl⟩
          obtain ⟨d, hd, rfl⟩ := numbered_at hx
          rw [List.getElem?_map] at hd
          obtain ⟨w, hi, rfl⟩ : ∃ w, ws[i]? = some w ∧ d = .str w := by
            cases q : ws[i]? with
            | none => rw [q] at hd; cases hd
            | some w => rw [q] at hd; exact ⟨w, rfl, (Option.some.inj hd).symm⟩
          have il := (List.getElem?_eq_some_iff.mp hi).1
          obtain ⟨a, b, rfl⟩ := hw w (List.mem_of_getElem? hi)
          have eF : ends (ws.getD i Str.empty) = (a, b) := by
            rw [List.getD_eq_getElem?_getD, hi]
            rfl
          refine ⟨rfl, two a b, kvW kvs', .inr (sg a), put_same, rfl, ?_⟩
          show if (DL.valD (kvW kvs') (.inr (sg a))).isSome = true then _ else _
          rw [kvW_some fd.nod]
          refine if_case (c := decide (a ∈ kvs'.map (·.1))) (fun ea => ?_) (fun ea => ?_)
          · have ea := of_decide_eq_true ea
            refine ⟨two a b, kvW kvs', .inr (sg b), put_same, rfl, ?_⟩
            show if (!(DL.valD (kvW kvs') (.inr (sg b))).isSome) = true then _ else _
            rw [kvW_some fd.nod]
            refine if_case (c := !decide (b ∈ kvs'.map (·.1))) (fun eb => ?_) (fun eb => ?_)
            · have eb : b ∉ kvs'.map (·.1) := fun z => by rw [decide_eq_true z] at eb; cases eb
              obtain ⟨⟨u, wy⟩, hwy, rfl⟩ := List.mem_map.mp ea
              have fw := fd.few
              have lwy : wy.length ≤ 20 := by
                obtain ⟨r1, r2, r3, _⟩ := fd.way _ _ hwy
                have := (List.nodup_cons.mp r3).2
                have l : (wy.map fun i => (ends (ws.getD i Str.empty)).2).length ≤ (kvs'.map (·.1)).length := this.length_le_of_subset fun z hz => (fd.way _ _ hwy).2.2.2 z (List.mem_cons_of_mem _ hz)
                rw [List.length_map, List.length_map] at l
                omega
              refine ⟨two u b, kvW kvs', .inr (sg u), _, put_same, rfl, kvW_val fd.nod hwy, ?_⟩
              refine ⟨by show 1 ≤ sizeLine; decide, ?_⟩
              refine ⟨by show ((wy.map Int.ofNat).map D.int).length + 1 ≤ sizeLine; rw [List.length_map, List.length_map, sizeLine_eq]; omega, ?_⟩
              refine ⟨two u b, kvW kvs', .inr (sg b), put_same, rfl, by unfold kvW; rw [List.length_map, sizeLine_eq]; omega, ?_⟩
              have ew : D.tup ((wy.map Int.ofNat).map D.int ++ [.int (i : Nat)]) = .tup (((wy ++ [i]).map Int.ofNat).map D.int) := by rw [List.map_append, List.map_append]; rfl
              have kp := kvW_put (w := wy ++ [i]) eb
              rw [← ew] at kp
              rw [put_put, kp]
              have fd2 := fd.add (i := i) (w := wy) il (by rw [eF]; exact hwy) (by rw [eF]; exact eb)
              rw [eF] at fd2
              refine ⟨kvs' ++ [(b, wy ++ [i])], true, _, _, fd2, by rw [List.length_append]; omega, fun _ => by rw [List.length_append]; show _ < _ + 1; omega, (fun e => by cases e), rfl, rfl⟩
            · have eb : b ∈ kvs'.map (·.1) := Decidable.by_contra fun z => by rw [decide_eq_false z] at eb; cases eb
              refine ⟨kvs', g, _, _, fd, le, gr, fun eg j w hj hw' => ?_, rfl, rfl⟩
              rcases Nat.lt_or_eq_of_le (Nat.le_of_lt_succ hj) with q | q
              · exact cl eg j w q hw'
              · subst q
                rw [hi] at hw'
                cases hw'
                exact fun _ => eb
          · have ea := of_decide_eq_false ea
            refine ⟨kvs', g, _, _, fd, le, gr, fun eg j w hj hw' => ?_, rfl, rfl⟩
            rcases Nat.lt_or_eq_of_le (Nat.le_of_lt_succ hj) with q | q
            · exact cl eg j w q hw'
            · subst q
              rw [hi] at hw'
              cases hw'
              exact fun z => absurd z ea
        · rintro δ' μ' ⟨kvs', g, o4, o5, fd', le, gr, cl, rfl, rfl⟩
          have nl : (DL.numbered (ws.map D.str)).length = ws.length := by simp [DL.numbered]
          rw [nl] at cl
          have fw := fd.few
          have fw' := fd'.few
          refine ⟨2 * (ws.length + 2 - kvs'.length) + (if g then 1 else 0), ?_, kvs', g, o4, o5, fd', fun eg w hw' => ?_, rfl, rfl, rfl⟩
          · cases g with
            | false =>
              show 2 * (ws.length + 2 - kvs'.length) + 0 < 2 * (ws.length + 2 - kvs.length) + 1
              omega
            | true =>
              have := gr rfl
              show 2 * (ws.length + 2 - kvs'.length) + 1 < 2 * (ws.length + 2 - kvs.length) + 1
              omega
          · obtain ⟨j, hj, e⟩ := List.getElem_of_mem hw'
            exact cl eg j w hj (by rw [List.getElem?_eq_getElem hj, e])
      · subst eg
        exact ⟨_, _, .refl, h f kvs nf fd (cl rfl)⟩
def N35 : List Str := ["web", "leaning"]
theorem sc35 : FnScope N35 ["web", "leaning"] (defScope (top 35)) := ⟨rfl, rfl, rfl, by decide +kernel, rfl, by decide +kernel, by decide +kernel⟩
theorem ok_check_web_and_leaning (T : Tx K mg A) : FnOk P A.w K mg base CX0 2 A.check_web_and_leaning A.fd_check_web_and_leaning ["web", "leaning"] (toSp K (g_check_both A.Web)) := by
  refine okD T.F_check_web_and_leaning sc35 (fun ds μ R h => ?_) ⟨_, fun cdv A0 outer s H E hr =>
    (dss_cons (ds_expr (de_call ((ok_check_web T).mono (by decide)) hr (by rfl) T.g_check_web T.F_check_web.kp T.b_check_web (da_cons (dv 0) da_nil)))
      (dss_one (ds_expr (de_call ((ok_check_leaning T).mono (by decide)) hr (by rfl) T.g_check_leaning T.F_check_leaning.kp T.b_check_leaning (da_cons (dv 0) (da_cons (dv 1) da_nil)))))), fun ds μ R h => ?_⟩
  · obtain ⟨p, ts, l, rfl, _⟩ := h
    rfl
  · obtain ⟨p, ts, l, rfl, hl, few, h⟩ := h
    refine ⟨p, ts, rfl, ?_⟩
    exact ⟨p, ts, l, rfl, hl, few, h⟩
def N38 : List Str := ["leaning", "lot", "index", "sign"]
theorem sc38 : FnScope N38 ["leaning", "lot"] (defScope (top 38)) := ⟨rfl, rfl, rfl, by decide +kernel, rfl, by decide +kernel, by decide +kernel⟩
theorem ok_turned_by (T : Tx K mg A) : FnOk P A.w K mg base CX0 1 A.turned_by A.fd_turned_by ["leaning", "lot"] (toSp K (g_turned_by)) := by
  refine okD T.F_turned_by sc38 (fun ds μ R h => ?_) ⟨_, fun cdv A0 outer s H E hr =>
    (dss_one (ds_ret (de_bm PySem.F.plainAttrs_str PySem.F.slot_str_join PySem.F.type_str_join mt_join sim_join ok_str de_str (da_cons (de_lc (own := [("index", 2), ("sign", 3)]) (by rfl) sc38.nd (di_enumS (by rfl) T.z_enumerate (da_cons (dv 0) da_nil)) (blkOk_by (N := N38) (own := [("index", 2), ("sign", 3)]) (sc := defScope (top 38)) (by decide +kernel)) (fun _ _ _ _ _ => (pg_tup (n := 2) (by rfl) (pgs_cons (pg_name (i := 2) sc38.nd rfl (by first | exact Or.inl rfl | exact Or.inr rfl)) (pgs_cons (pg_name (i := 3) sc38.nd rfl (by first | exact Or.inl rfl | exact Or.inr rfl)) pgs_nil)))) (sim_tupT (n := 2) (sim_consT (sim_nm (i := 2)) (sim_consT (sim_nm (i := 3)) sim_nilT))) (fun _ _ _ _ _ => dts_nil) (fun _ _ _ _ _ => (de_if (dt_cmp op_inA sim_in (dv 2) (dv 1) rfl) (de_ix ix_kdict (sim_kd (K := K) (w := A.w)) (de_globF (by rfl) T.g_OPPOSITE) (dv 3) (fun _ _ => rfl)) (dv 3)))) da_nil)))), fun ds μ R h => ?_⟩
  · obtain ⟨l, lot, rfl, _⟩ := h
    rfl
  · obtain ⟨l, lot, rfl, few, h⟩ := h
    have lnl : (lnC (flipL l lot)).length = l.length := by unfold flipL; rw [lnC_len, List.length_mapIdx]
    refine ⟨True.intro, ?_⟩
    show LcB _ _ _ _ _ _ (DL.numbered (DL.signs (lnS l))) _
    unfold lnS
    rw [signs_chs]
    refine lcb_map (flipD lot) ?_ ?_ ?_
    · have : (DL.numbered (chs (lnC l))).length = l.length := by unfold DL.numbered; rw [List.length_mapIdx, chs_len, lnC_len]
      rw [this, sizeLine_eq]
      omega
    · intro x hx ν Y kp hY
      obtain ⟨i, hi, e⟩ := List.getElem_of_mem hx
      obtain ⟨dd, hd, rfl⟩ := numbered_at (show (DL.numbered (chs (lnC l)))[i]? = some x by rw [List.getElem?_eq_getElem hi, e])
      obtain ⟨c, hc, rfl⟩ := chs_in (List.mem_of_getElem? hd)
      obtain ⟨b, _, hb⟩ := List.mem_map.mp hc
      have hY : Y (.str (sg (if i ∈ lot then (if sg c = ("+" : Str) then 45 else 43) else c))) ν := hY
      refine ⟨rfl, ?_⟩
      show DL.inDs (.int (i : Nat)) ((lot.map Int.ofNat).map D.int) fun b => DL.bK _ (.bl b) ν
      refine in_lot ?_
      refine if_case (c := decide (i ∈ lot)) (fun e => ?_) (fun e => ?_)
      · rw [if_pos (of_decide_eq_true e), ← flip_one c b hb.symm] at hY
        refine ⟨A.OPPOSITE, sg c, sg (sgn (!b)), rfl, rfl, ?_, hY⟩
        rw [← hb]
        exact T.k_OPPOSITE _ _ (opp_mem b)
      · rw [if_neg (of_decide_eq_false e)] at hY
        exact hY
    rw [flip_map]
    refine ⟨_, rfl, by rw [sum_sg, len_empty, lnl]; omega, ?_⟩
    rw [join_sg]
    exact h
def N39 : List Str := ["places", "row", "heads", "arrow", "place"]
theorem sc39 : FnScope N39 ["places", "row"] (defScope (top 39)) := ⟨rfl, rfl, rfl, by decide +kernel, rfl, by decide +kernel, by decide +kernel⟩
theorem ok_fronts_among (T : Tx K mg A) : FnOk P A.w K mg base CX0 1 A.fronts_among A.fd_fronts_among ["places", "row"] (toSp K (g_fronts_among)) := by
  refine okD T.F_fronts_among sc39 (fun ds μ R h => ?_) ⟨_, fun cdv A0 outer s H E hr =>
    (dss_cons (ds_set sc39.nd (i := 2) rfl (by first | exact Or.inl rfl | exact Or.inr rfl) (de_bm PySem.F.plainAttrs_str PySem.F.slot_str_join PySem.F.type_str_join mt_join sim_join ok_str de_str (da_cons (de_lc (own := [("arrow", 3)]) (by rfl) sc39.nd (di_both (dv 1)) (blkOk_by (N := N39) (own := [("arrow", 3)]) (sc := defScope (top 39)) (by decide +kernel)) (fun _ _ _ _ _ => (pg_name (i := 3) sc39.nd rfl (by first | exact Or.inl rfl | exact Or.inr rfl))) (sim_nm (i := 3)) (fun _ _ _ _ _ => dts_nil) (fun _ _ _ _ _ => (de_ix ix_any sim_ix (dv 3) de_int (fun _ _ => rfl)))) da_nil)))
      (dss_one (ds_ret (de_bm PySem.F.plainAttrs_str PySem.F.slot_str_join PySem.F.type_str_join mt_join sim_join ok_str de_str (da_cons (de_lc (own := [("place", 4)]) (by rfl) sc39.nd (di_str (dv 0)) (blkOk_by (N := N39) (own := [("place", 4)]) (sc := defScope (top 39)) (by decide +kernel)) (fun _ _ _ _ _ => (pg_name (i := 4) sc39.nd rfl (by first | exact Or.inl rfl | exact Or.inr rfl))) (sim_nm (i := 4)) (fun _ _ _ _ _ => (dts_one (dt_cmp op_notInA sim_notIn (dv 4) (dv 2) rfl))) (fun _ _ _ _ _ => (dv 4))) da_nil))))), fun ds μ R h => ?_⟩
  · obtain ⟨q, ws, rfl | rfl, _⟩ := h <;> rfl
  · obtain ⟨q, ws, hx, l8, few, hw, h⟩ := h
    have e1 : (ws.map D.str).map (fun d => match d with | .str w => D.str (sg (ends w).2) | d => d) = ((ws.map fun w => (ends w).2).map sg).map D.str := by
      rw [List.map_map, List.map_map, List.map_map]
      rfl
    have each : ∀ x ∈ ws.map D.str, ∀ (ν : Mu) (Y : KD), Y (match x with | .str w => D.str (sg (ends w).2) | d => d) ν → DL.gIx x (.int 1) ν Y := fun x hx ν Y hY => by
      obtain ⟨w, hw', rfl⟩ := List.mem_map.mp hx
      obtain ⟨a, b, rfl⟩ := hw w hw'
      exact ⟨by show 2 ≤ sizeLine; decide, hY⟩
    rcases hx with rfl | rfl
    · refine ⟨True.intro, ?_⟩
      show LcB _ _ _ _ _ _ _ _
      refine lcb_map (fun d => match d with | .str w => .str (sg (ends w).2) | d => d) (by rw [List.length_map, sizeLine_eq]; omega) (fun x hx ν Y _ hY => each x hx ν Y hY) ?_
      rw [e1]
      refine ⟨_, rfl, by rw [sum_sg, len_empty, List.length_map]; omega, ?_⟩
      rw [join_sg]
      refine ⟨True.intro, ?_⟩
      show LcB _ _ _ _ _ _ (DL.signs (toS q)) _
      rw [signs_chs]
      refine lcb_pure (fun d => match d with | .str y => !decide (y.cps.toList.getD 0 0 ∈ ws.map fun w => (ends w).2) | _ => false) id ?_ ?_ ?_
      · rw [chs_len, sizeLine_eq]
        omega
      · intro x hx ν N Y _ hN hY
        obtain ⟨c, hc, rfl⟩ := chs_in hx
        have hN : (!decide (c ∈ ws.map fun w => (ends w).2)) = false → N ν := hN
        have hY : (!decide (c ∈ ws.map fun w => (ends w).2)) = true → Y (.str (sg c)) ν := hY
        refine ⟨c, rfl, ?_⟩
        show if (!decide (c ∈ (toS (ws.map fun w => (ends w).2)).cps.toList)) = true then _ else _
        rw [toS_list]
        exact if_case (fun e => hY e) (fun e => hN e)
      have e2 : ((chs q).filter fun d => match d with | .str y => !decide (y.cps.toList.getD 0 0 ∈ ws.map fun w => (ends w).2) | _ => false).map id = ((q.filter fun c => decide (c ∉ ws.map fun w => (ends w).2)).map sg).map D.str := by
        unfold chs
        rw [List.map_id, List.filter_map, List.map_map]
        congr 1
        refine List.filter_congr fun c _ => ?_
        show (!decide (c ∈ ws.map fun w => (ends w).2)) = decide (c ∉ ws.map fun w => (ends w).2)
        exact decide_not.symm
      rw [e2]
      have lf := List.length_filter_le (fun c => decide (c ∉ ws.map fun w => (ends w).2)) q
      refine ⟨_, rfl, by rw [sum_sg, len_empty]; omega, ?_⟩
      rw [join_sg]
      exact h
    · refine ⟨True.intro, ?_⟩
      show LcB _ _ _ _ _ _ _ _
      refine lcb_map (fun d => match d with | .str w => .str (sg (ends w).2) | d => d) (by rw [List.length_map, sizeLine_eq]; omega) (fun x hx ν Y _ hY => each x hx ν Y hY) ?_
      rw [e1]
      refine ⟨_, rfl, by rw [sum_sg, len_empty, List.length_map]; omega, ?_⟩
      rw [join_sg]
      refine ⟨True.intro, ?_⟩
      show LcB _ _ _ _ _ _ (DL.signs (toS q)) _
      rw [signs_chs]
      refine lcb_pure (fun d => match d with | .str y => !decide (y.cps.toList.getD 0 0 ∈ ws.map fun w => (ends w).2) | _ => false) id ?_ ?_ ?_
      · rw [chs_len, sizeLine_eq]
        omega
      · intro x hx ν N Y _ hN hY
        obtain ⟨c, hc, rfl⟩ := chs_in hx
        have hN : (!decide (c ∈ ws.map fun w => (ends w).2)) = false → N ν := hN
        have hY : (!decide (c ∈ ws.map fun w => (ends w).2)) = true → Y (.str (sg c)) ν := hY
        refine ⟨c, rfl, ?_⟩
        show if (!decide (c ∈ (toS (ws.map fun w => (ends w).2)).cps.toList)) = true then _ else _
        rw [toS_list]
        exact if_case (fun e => hY e) (fun e => hN e)
      have e2 : ((chs q).filter fun d => match d with | .str y => !decide (y.cps.toList.getD 0 0 ∈ ws.map fun w => (ends w).2) | _ => false).map id = ((q.filter fun c => decide (c ∉ ws.map fun w => (ends w).2)).map sg).map D.str := by
        unfold chs
        rw [List.map_id, List.filter_map, List.map_map]
        congr 1
        refine List.filter_congr fun c _ => ?_
        show (!decide (c ∈ ws.map fun w => (ends w).2)) = decide (c ∉ ws.map fun w => (ends w).2)
        exact decide_not.symm
      rw [e2]
      have lf := List.length_filter_le (fun c => decide (c ∉ ws.map fun w => (ends w).2)) q
      refine ⟨_, rfl, by rw [sum_sg, len_empty]; omega, ?_⟩
      rw [join_sg]
      exact h
def N40 : List Str := ["web", "leaning", "order", "left", "row", "free", "arrow"]
theorem sc40 : FnScope N40 ["web", "leaning"] (defScope (top 40)) := ⟨rfl, rfl, rfl, by decide +kernel, rfl, by decide +kernel, by decide +kernel⟩
theorem ok_first_order (T : Tx K mg A) : FnOk P A.w K mg base CX0 3 A.first_order A.fd_first_order ["web", "leaning"] (toSp K (g_first_order A.Web)) := by
  refine okD T.F_first_order sc40 (fun ds μ R h => ?_) ⟨_, fun cdv A0 outer s H E hr =>
    (dss_cons (ds_set sc40.nd (i := 2) rfl (by first | exact Or.inl rfl | exact Or.inr rfl) de_str)
      (dss_cons (ds_set sc40.nd (i := 3) rfl (by first | exact Or.inl rfl | exact Or.inr rfl) (de_fld T.k_Web T.n_places (dv 0)))
      (dss_cons (ds_set sc40.nd (i := 4) rfl (by first | exact Or.inl rfl | exact Or.inr rfl) (de_call ((ok_arrows_of T).mono (by decide)) hr (by rfl) T.g_arrows_of T.F_arrows_of.kp T.b_arrows_of (da_cons (dv 0) (da_cons (dv 1) da_nil))))
      (dss_cons (ds_while PassesOwn.never (dt_truS (dv 3))
      (dss_cons (ds_set sc40.nd (i := 5) rfl (by first | exact Or.inl rfl | exact Or.inr rfl) (de_call ((ok_fronts_among T).mono (by decide)) hr (by rfl) T.g_fronts_among T.F_fronts_among.kp T.b_fronts_among (da_cons (dv 3) (da_cons (dv 4) da_nil))))
      (dss_cons (ds_if (dt_not (dt_truS (dv 5))) (dss_one (ds_ret de_non)) dss_nil)
      (dss_cons (ds_aug sc40.nd (i := 2) rfl (by first | exact Or.inl rfl | exact Or.inr rfl) (de_ix ix_any sim_ix (dv 5) de_int (fun _ _ => rfl)) ip_str sim_ipstr)
      (dss_cons (ds_set sc40.nd (i := 3) rfl (by first | exact Or.inl rfl | exact Or.inr rfl) (de_replIx (dv 3) (dv 5) (fun _ _ => rfl)))
      (dss_one (ds_setLc (i := 4) (own := [("arrow", 6)]) (by rfl) sc40.nd rfl rfl (sw_true rfl rfl rfl (by decide +kernel)) (di_both (dv 4)) (blkOk_by (N := N40) (own := [("arrow", 6)]) (sc := defScope (top 40)) (by decide +kernel)) (fun _ _ _ _ _ => (pg_name (i := 6) sc40.nd rfl (by first | exact Or.inl rfl | exact Or.inr rfl))) (sim_nm (i := 6)) (fun _ _ _ _ _ => (dts_one (dt_cmp op_inA sim_in (de_ix ix_any sim_ix (dv 6) de_int (fun _ _ => rfl)) (dv 3) rfl))) (fun _ _ _ _ _ => (dv 6)))))))))
      (dss_one (ds_ret (dv 2))))))), fun ds μ R h => ?_⟩
  · obtain ⟨p, ts, l, rfl, _⟩ := h
    rfl
  · obtain ⟨p, ts, l, rfl, op, ot, hl, few, h⟩ := h
    have p7 := op.few
    have pn : p.Nodup := op.asc.imp fun h => Nat.ne_of_lt h
    have sz : ∀ {q : List Nat}, q.length ≤ 8 → (toS q).length ≤ sizeLine := fun {q} h => by rw [toS_size, sizeLine_eq]; omega
    have lw : (waysL ts l).length = ts.length := by
      unfold waysL
      rw [List.length_zipWith]
      omega
    have isw := ways_are (l := l) ot
    have tin : ∀ w ∈ waysL ts l, (ends w).1 ∈ p := fun w hw' => by
      obtain ⟨i, hi, e⟩ := List.getElem_of_mem hw'
      obtain ⟨a, b, hwi, ha, _, _⟩ := way_at ot hl (show i < ts.length by omega)
      rw [List.getElem?_eq_getElem hi, e] at hwi
      rw [Option.some.inj hwi]
      exact ha
    have fl : ∀ q : List Nat, (∀ c ∈ q, c ∈ p) → (q.filter fun c => decide (c ∉ ((waysL ts l).filter fun w => decide ((ends w).1 ∈ q)).map fun w => (ends w).2)) = frontsL (arrE ts l) ts.length q := fun q _ => by
      refine List.filter_congr fun c _ => ?_
      rw [Bool.eq_iff_iff, decide_eq_true_iff, List.all_eq_true]
      have atw : ∀ i, i < ts.length → ∃ w, w ∈ waysL ts l ∧ ends w = arrE ts l i := fun i hi => by
        obtain ⟨a, b, hwi, _, _, eE, _⟩ := way_at ot hl hi
        exact ⟨_, List.mem_of_getElem? hwi, by rw [eE]; rfl⟩
      constructor
      · intro h1 i hi
        obtain ⟨w, hw', e⟩ := atw i (List.mem_range.mp hi)
        rw [← e]
        by_cases e1 : (ends w).1 ∈ q
        · have : ¬ (ends w).2 = c := fun z => h1 (List.mem_map.mpr ⟨w, List.mem_filter.mpr ⟨hw', decide_eq_true e1⟩, z⟩)
          rw [decide_eq_false this, Bool.and_false]
          rfl
        · rw [decide_eq_false e1]
          rfl
      · intro h1 z
        obtain ⟨w, hw', e⟩ := List.mem_map.mp z
        obtain ⟨hw1, hw2⟩ := List.mem_filter.mp hw'
        obtain ⟨i, hi, ei⟩ := List.getElem_of_mem hw1
        have := h1 i (List.mem_range.mpr (by omega))
        have eE : arrE ts l i = ends w := by
          unfold arrE
          rw [List.getD_eq_getElem?_getD, List.getElem?_eq_getElem hi, ei]
          rfl
        rw [eE, hw2, decide_eq_true e] at this
        cases this
    refine ⟨rfl, _, rfl, ?_⟩
    refine ⟨p, ts, l, rfl, ot, hl, few, ?_⟩
    have full : (waysL ts l).filter (fun w => decide ((ends w).1 ∈ p)) = waysL ts l := List.filter_eq_self.mpr fun w hw' => decide_eq_true (tin w hw')
    refine ⟨fun k δ' μ' => μ' = μ ∧ ∃ (o q : List Nat) (rd : D) (o5 : Option D), k = q.length ∧ q.Nodup ∧ (∀ c ∈ q, c ∈ p) ∧ o.length + q.length ≤ 7 ∧ ordL (arrE ts l) ts.length p = (ordL (arrE ts l) ts.length q).map (o ++ ·) ∧
      (rd = .tup (((waysL ts l).filter fun w => decide ((ends w).1 ∈ q)).map D.str) ∨ rd = .lst (((waysL ts l).filter fun w => decide ((ends w).1 ∈ q)).map D.str)) ∧
      δ' = [some (dWeb A.Web p ts), some (.str (lnS l)), some (.str (toS o)), some (.str (toS q)), some rd, o5, none], ⟨_, rfl, [], p, _, none, rfl, pn, (fun c hc => hc), by rw [List.length_nil]; omega, ?_, .inl (by rw [full]), ?_⟩, ?_⟩
    · cases ordL (arrE ts l) ts.length p <;> rfl
    · have : ("" : Str) = toS [] := by decide +kernel
      show [_, _, some (D.str ("" : Str)), _, _, _, _] = _
      rw [this]
    rintro k δ' μ' ⟨rfl, o, q, rd, o5, rfl, qn, sub, l7, eo, hr, rfl⟩
    refine ⟨sz (by omega), ?_⟩
    rw [toS_size]
    refine if_case (c := decide (q.length ≠ 0)) (fun e => ?_) (fun e => ?_)
    · have qne : q ≠ [] := fun z => of_decide_eq_true e (by rw [z]; rfl)
      have lf := List.length_filter_le (fun w => decide ((ends w).1 ∈ q)) (waysL ts l)
      have isf : ∀ w ∈ (waysL ts l).filter (fun w => decide ((ends w).1 ∈ q)), IsWay w := fun w hw' => isw w (List.mem_filter.mp hw').1
      refine ⟨q, (waysL ts l).filter fun w => decide ((ends w).1 ∈ q), by rcases hr with e | e <;> rw [e]; exact .inl rfl; exact .inr rfl, by omega, by omega, isf, ?_⟩
      rw [fl q sub]
      have lff : (frontsL (arrE ts l) ts.length q).length ≤ q.length := List.length_filter_le _ _
      refine ⟨sz (by omega), ?_⟩
      rw [toS_size]
      cases hf : frontsL (arrE ts l) ts.length q with
      | nil =>
        show R .non μ'
        rw [ord_none qne hf] at eo
        rw [eo] at h
        exact h
      | cons c r =>
        have hc := (fronts_mem.mp (show c ∈ frontsL (arrE ts l) ts.length q by rw [hf]; exact List.mem_cons_self)).1
        have less := less_one qn hc
        rw [hf] at lff
        rw [List.length_cons] at lff
        have zf : (toS (c :: r)).length ≤ sizeLine := by rw [toS_size, List.length_cons, sizeLine_eq]; omega
        refine ⟨zf, ?_⟩
        have at0 : L2.atI (c :: r) (0 : Int) = some c := atI_nat (j := 0) rfl
        rw [toS_list, at0]
        refine ⟨by show (toS o).length + 1 ≤ sizeLine; rw [toS_size, sizeLine_eq]; omega, ?_⟩
        have ea : toS o ++ (⟨#[c]⟩ : Str) = toS (o ++ [c]) := toS_add o c
        rw [ea]
        refine ⟨zf, c, by rw [toS_list]; exact at0, ?_, by show (toS q).length + ((toS q).length + 1) * ("" : Str).length ≤ _; rw [toS_size, len_empty]; omega, ?_⟩
        · show decide ((⟨#[c]⟩ : Str) = ("" : Str)) = false
          refine decide_eq_false fun z => ?_
          have := congrArg Str.length z
          rw [len_empty] at this
          cases this
        rw [repl_gone]
        have body : ∀ rd : D, (rd = .tup (((waysL ts l).filter fun w => decide ((ends w).1 ∈ q)).map D.str) ∨ rd = .lst (((waysL ts l).filter fun w => decide ((ends w).1 ∈ q)).map D.str)) → True := fun _ _ => trivial
        have each : ∀ x ∈ ((waysL ts l).filter fun w => decide ((ends w).1 ∈ q)).map D.str, ∀ (ν : Mu) (N : Mu → Prop) (Y : D → Mu → Prop), ((match x with | .str w => decide ((ends w).1 ∈ lessQ q c) | _ => false) = false → N ν) → ((match x with | .str w => decide ((ends w).1 ∈ lessQ q c) | _ => false) = true → Y x ν) →
            DL.gIx x (.int 0) ν fun d μ1 => DL.gIn id d (.str (toS (lessQ q c))) μ1 (DL.bK fun b μ2 => if b = true then Y x μ2 else N μ2) := fun x hx ν N Y hN hY => by
          obtain ⟨w, hw', rfl⟩ := List.mem_map.mp hx
          obtain ⟨u, v, rfl⟩ := isf w hw'
          have hN : decide (u ∈ lessQ q c) = false → N ν := hN
          have hY : decide (u ∈ lessQ q c) = true → Y (.str (yTie u v)) ν := hY
          refine ⟨by show 2 ≤ sizeLine; decide, u, rfl, ?_⟩
          show if decide (u ∈ (toS (lessQ q c)).cps.toList) = true then _ else _
          rw [toS_list]
          exact if_case (fun e => hY e) (fun e => hN e)
        have ef : ((((waysL ts l).filter fun w => decide ((ends w).1 ∈ q)).map D.str).filter fun x => match x with | .str w => decide ((ends w).1 ∈ lessQ q c) | _ => false).map id = ((waysL ts l).filter fun w => decide ((ends w).1 ∈ lessQ q c)).map D.str := by
          rw [List.map_id, List.filter_map, List.filter_filter]
          congr 1
          refine List.filter_congr fun w _ => ?_
          show (decide ((ends w).1 ∈ lessQ q c) && decide ((ends w).1 ∈ q)) = decide ((ends w).1 ∈ lessQ q c)
          by_cases m : (ends w).1 ∈ lessQ q c
          · rw [decide_eq_true m, decide_eq_true (List.mem_filter.mp m).1]
            rfl
          · rw [decide_eq_false m]
            rfl
        have last : ∀ o5 : Option D, ∃ k', k' < q.length ∧ (μ' = μ' ∧ ∃ (o' q' : List Nat) (rd : D) (o5' : Option D), k' = q'.length ∧ q'.Nodup ∧ (∀ c ∈ q', c ∈ p) ∧ o'.length + q'.length ≤ 7 ∧ ordL (arrE ts l) ts.length p = (ordL (arrE ts l) ts.length q').map (o' ++ ·) ∧
            (rd = .tup (((waysL ts l).filter fun w => decide ((ends w).1 ∈ q')).map D.str) ∨ rd = .lst (((waysL ts l).filter fun w => decide ((ends w).1 ∈ q')).map D.str)) ∧
            [some (dWeb A.Web p ts), some (.str (lnS l)), some (.str (toS (o ++ [c]))), some (.str (toS (lessQ q c))), some (.lst (((waysL ts l).filter fun w => decide ((ends w).1 ∈ lessQ q c)).map D.str)), o5, none] = [some (dWeb A.Web p ts), some (.str (lnS l)), some (.str (toS o')), some (.str (toS q')), some rd, o5', none]) := fun o5 => by
          have le : (lessQ q c).length + 1 = q.length := less.symm
          refine ⟨(lessQ q c).length, by omega, rfl, o ++ [c], lessQ q c, _, o5, rfl, List.Pairwise.filter _ qn, fun x hx => sub x (List.mem_filter.mp hx).1, by rw [List.length_append]; show o.length + 1 + _ ≤ 7; omega, ?_, .inr rfl, rfl⟩
          rw [eo, ord_cons qn hf]
          show _ = (ordL (arrE ts l) ts.length (q.filter fun x => decide (x ≠ c))).map _
          rw [Option.map_map]
          congr 1
          funext z
          show o ++ (c :: z) = o ++ [c] ++ z
          rw [List.append_assoc]
          rfl
        rcases hr with rfl | rfl
        · show LcB _ _ _ _ _ _ _ _
          refine lcb_pure (fun x => match x with | .str w => decide ((ends w).1 ∈ lessQ q c) | _ => false) id (by rw [List.length_map, sizeLine_eq]; omega) (fun x hx ν N Y _ hN hY => each x hx ν N Y hN hY) ?_
          rw [ef]
          exact last _
        · show LcB _ _ _ _ _ _ _ _
          refine lcb_pure (fun x => match x with | .str w => decide ((ends w).1 ∈ lessQ q c) | _ => false) id (by rw [List.length_map, sizeLine_eq]; omega) (fun x hx ν N Y _ hN hY => each x hx ν N Y hN hY) ?_
          rw [ef]
          exact last _
    · have qe : q = [] := List.length_eq_zero_iff.mp (Decidable.by_contra fun z => by rw [decide_eq_true z] at e; cases e)
      subst qe
      rw [ord_nil] at eo
      rw [eo] at h
      have : R (.str (toS (o ++ []))) μ' := h
      rw [List.append_nil] at this
      exact this
end
end K10
set_option Elab.async false
set_option linter.all false
set_option maxRecDepth 100000
namespace K10
open PySem PySem.Spec PyProof.Rows L2 DL
section
variable {P : Program} {w : World} {K : PySem.W.Frag} {mg : Str → Option Value} {base : Heap} {A : Ad}
/-! ### single leanings: rounds and cuts -/
def kvG {α : Type} (f : α → D) (vs : List (Nat × α)) : List (Key × D) := vs.map fun y => (Sum.inr (sg y.1), f y.2)
theorem kvG_val {α : Type} {f : α → D} {c : Nat} {x : α} : ∀ {vs : List (Nat × α)}, (vs.map (·.1)).Nodup → (c, x) ∈ vs → DL.valD (kvG f vs) (.inr (sg c)) = some (f x)
  | [], _, h => by cases h
  | (u, y) :: vs, nd, h => by
    have nd := List.nodup_cons.mp nd
    unfold DL.valD
    show (List.find? _ ((Sum.inr (sg u), f y) :: kvG f vs)).map _ = _
    rw [List.find?_cons]
    by_cases e : u = c
    · subst e
      rcases List.mem_cons.mp h with q | q
      · cases q
        simp
      · exact absurd (List.mem_map.mpr ⟨_, q, rfl⟩) nd.1
    · have ne : ¬ ((Sum.inr (sg u) : Key) = Sum.inr (sg c)) := fun z => e (sg_inj (Sum.inr.inj z))
      simp only [ne, decide_false]
      rcases List.mem_cons.mp h with q | q
      · cases q
        exact absurd rfl e
      · exact kvG_val nd.2 q
theorem kvG_put {α : Type} {f : α → D} {c : Nat} {x : α} {vs : List (Nat × α)} (h : c ∉ vs.map (·.1)) : DL.putD (kvG f vs) (.inr (sg c)) (f x) = kvG f (vs ++ [(c, x)]) := by
  have e : ((kvG f vs).any fun kv => decide (kv.1 = Sum.inr (sg c))) = false := by
    rw [List.any_eq_false]
    intro y hy
    obtain ⟨z, hz, rfl⟩ := List.mem_map.mp hy
    rw [decide_eq_true_iff]
    exact fun q => h (by rw [← sg_inj (Sum.inr.inj q)]; exact List.mem_map.mpr ⟨z, hz, rfl⟩)
  unfold DL.putD
  rw [e, if_neg Bool.false_ne_true]
  unfold kvG
  rw [List.map_append]
  rfl
/-- the arrows as the program's row, at any place -/
theorem row_at {p : List Nat} {ts : List Str} {l : List Bool} (ot : OkT p ts) (hl : l.length = ts.length) {w : Str} (h : w ∈ waysL ts l) : ∃ i a b, i < ts.length ∧ w = yTie a b ∧ arrE ts l i = (a, b) ∧ a ∈ p ∧ b ∈ p := by
  have lw : (waysL ts l).length = ts.length := by
    unfold waysL
    rw [List.length_zipWith]
    omega
  obtain ⟨i, hi, e⟩ := List.getElem_of_mem h
  have hi : i < ts.length := by omega
  obtain ⟨a, b, hw, ha, hb, eE, _⟩ := way_at ot hl hi
  rw [List.getElem?_eq_getElem (by omega), e] at hw
  exact ⟨i, a, b, hi, Option.some.inj hw, eE, ha, hb⟩
theorem row_closed {p : List Nat} {ts : List Str} {l : List Bool} (ot : OkT p ts) (hl : l.length = ts.length) {K : List Nat} (cl : ∀ w ∈ waysL ts l, (ends w).1 ∈ K → (ends w).2 ∈ K) : ∀ i, i < ts.length → (arrE ts l i).1 ∈ K → (arrE ts l i).2 ∈ K := fun i hi h => by
  obtain ⟨a, b, hw, _, _, eE, _⟩ := way_at ot hl hi
  rw [eE] at h ⊢
  exact cl _ (List.mem_of_getElem? hw) h
theorem cross_arr {p : List Nat} {ts : List Str} {l : List Bool} (ot : OkT p ts) (hl : l.length = ts.length) {i : Nat} {hd : List Nat} : i ∈ crossL ts hd ↔ i < ts.length ∧ (decide ((arrE ts l i).1 ∈ hd) != decide ((arrE ts l i).2 ∈ hd)) = true := by
  unfold crossL
  rw [List.mem_filter, List.mem_range]
  refine and_congr_right fun hi => ?_
  obtain ⟨a, b, _, _, _, eE, et⟩ := way_at ot hl hi
  rw [eE, List.getD_eq_getElem?_getD, et]
  unfold crB
  show (decide ((if l.getD i true then a else b) ∈ hd) != decide ((if l.getD i true then b else a) ∈ hd)) = true ↔ (decide (a ∈ hd) != decide (b ∈ hd)) = true
  cases l.getD i true with
  | true => exact Iff.rfl
  | false =>
    show (decide (b ∈ hd) != decide (a ∈ hd)) = true ↔ _
    rw [bne_comm]
def g_arrows (C : Addr) : GC := fun ds μ R => ∃ (p : List Nat) (ts : List Str) (l : List Bool), ds = [dWeb C p ts, .str (lnS l)] ∧ OkT p ts ∧ l.length = ts.length ∧ ts.length ≤ 11 ∧ R (.tup ((waysL ts l).map D.str)) μ
def g_turned (C : Addr) : GC := fun ds μ R => ∃ (p : List Nat) (ts : List Str) (l : List Bool) (lot : List Nat), ds = [dWeb C p ts, .str (lnS l), .tup (dIdx lot)] ∧ l.length = ts.length ∧ ts.length ≤ 11 ∧ lot.Pairwise (· < ·) ∧ (∀ i ∈ lot, i < ts.length) ∧ R (.str (lnS (flipL l lot))) μ
def g_is_ringless (C : Addr) : GC := fun ds μ R => ∃ (p : List Nat) (ts : List Str) (l : List Bool), ds = [dWeb C p ts, .str (lnS l)] ∧ OkPlaces p ∧ OkT p ts ∧ l.length = ts.length ∧ ts.length ≤ 11 ∧ R (.bl (ordL (arrE ts l) ts.length p).isSome) μ
def g_fronts (C : Addr) : GC := fun ds μ R => ∃ (p : List Nat) (ts : List Str) (l : List Bool), ds = [dWeb C p ts, .str (lnS l)] ∧ OkPlaces p ∧ OkT p ts ∧ l.length = ts.length ∧ ts.length ≤ 11 ∧ R (.str (toS (p.filter fun c => decide (c ∉ (waysL ts l).map fun w => (ends w).2)))) μ
def g_each (C : Addr) : GC := fun ds μ R => ∃ (p : List Nat) (ts : List Str) (l : List Bool), ds = [dWeb C p ts, .str (lnS l)] ∧ OkPlaces p ∧ OkT p ts ∧ l.length = ts.length ∧ ts.length ≤ 11 ∧ ∀ b : Bool, (b = true ↔ ∀ k, k < ts.length → InRing (arrE ts l) ts.length k) → R (.bl b) μ
def g_ring_or_cut (C : Addr) : GC := fun ds μ R => ∃ (p : List Nat) (ts : List Str) (l : List Bool) (k : Nat), ds = [dWeb C p ts, .str (lnS l), .int (k : Nat)] ∧ OkPlaces p ∧ OkT p ts ∧ l.length = ts.length ∧ ts.length ≤ 11 ∧ k < ts.length ∧
  (InRing (arrE ts l) ts.length k → ∀ r c : List Nat, r.Pairwise (· < ·) → Cyc (arrE ts l) c → r.Perm c → k ∈ r → (∀ i ∈ r, i < ts.length) → R (.tup [.str "ring", .tup (dIdx r)]) μ) ∧
  (¬ InRing (arrE ts l) ts.length k → ∀ hd : List Nat, hd ∈ subsL p → k ∈ crossL ts hd → (∀ i ∈ crossL ts hd, (arrE ts l i).1 ∈ hd) → R (.tup [.str "cut", .tup (dIdx (crossL ts hd))]) μ)
def N43 : List Str := ["web", "leaning"]
theorem sc43 : FnScope N43 ["web", "leaning"] (defScope (top 43)) := ⟨rfl, rfl, rfl, by decide +kernel, rfl, by decide +kernel, by decide +kernel⟩
theorem ok_arrows (T : Tx K mg A) : FnOk P A.w K mg base CX0 4 A.arrows A.fd_arrows ["web", "leaning"] (toSp K (g_arrows A.Web)) := by
  refine okD T.F_arrows sc43 (fun ds μ R h => ?_) ⟨_, fun cdv A0 outer s H E hr =>
    (dss_cons (ds_expr (de_call ((ok_check_web_and_leaning T).mono (by decide)) hr (by rfl) T.g_check_web_and_leaning T.F_check_web_and_leaning.kp T.b_check_web_and_leaning (da_cons (dv 0) (da_cons (dv 1) da_nil))))
      (dss_one (ds_ret (de_call ((ok_arrows_of T).mono (by decide)) hr (by rfl) T.g_arrows_of T.F_arrows_of.kp T.b_arrows_of (da_cons (dv 0) (da_cons (dv 1) da_nil)))))), fun ds μ R h => ?_⟩
  · obtain ⟨p, ts, l, rfl, _⟩ := h
    rfl
  · obtain ⟨p, ts, l, rfl, ot, hl, few, h⟩ := h
    refine ⟨p, ts, l, rfl, hl, few, ?_⟩
    exact ⟨p, ts, l, rfl, ot, hl, few, h⟩
def N44 : List Str := ["web", "leaning", "lot"]
theorem sc44 : FnScope N44 ["web", "leaning", "lot"] (defScope (top 44)) := ⟨rfl, rfl, rfl, by decide +kernel, rfl, by decide +kernel, by decide +kernel⟩
theorem ok_turned (T : Tx K mg A) : FnOk P A.w K mg base CX0 6 A.turned A.fd_turned ["web", "leaning", "lot"] (toSp K (g_turned A.Web)) := by
  refine okD T.F_turned sc44 (fun ds μ R h => ?_) ⟨_, fun cdv A0 outer s H E hr =>
    (dss_cons (ds_expr (de_call ((ok_check_web_and_leaning T).mono (by decide)) hr (by rfl) T.g_check_web_and_leaning T.F_check_web_and_leaning.kp T.b_check_web_and_leaning (da_cons (dv 0) (da_cons (dv 1) da_nil))))
      (dss_cons (ds_expr (de_callV (dd := [11]) ((ok_check_lot T).mono (by decide)) hr (by rfl) T.g_check_lot T.F_check_lot.kp T.b_check_lot (da_cons (dv 0) (da_cons (dv 2) da_nil))))
      (dss_one (ds_ret (de_call ((ok_turned_by T).mono (by decide)) hr (by rfl) T.g_turned_by T.F_turned_by.kp T.b_turned_by (da_cons (dv 1) (da_cons (dv 2) da_nil))))))), fun ds μ R h => ?_⟩
  · obtain ⟨p, ts, l, lot, rfl, _⟩ := h
    rfl
  · obtain ⟨p, ts, l, lot, rfl, hl, few, asc, lt, h⟩ := h
    have ll : lot.length ≤ 11 := by
      have := asc_short (lot := lot) (n := ts.length) ⟨asc, lt⟩
      omega
    refine ⟨p, ts, l, rfl, hl, few, ?_⟩
    refine ⟨p, ts, lot, rfl, ⟨asc, lt⟩, ll, ?_⟩
    exact ⟨l, lot, rfl, by omega, h⟩
def N45 : List Str := ["web", "leaning"]
theorem sc45 : FnScope N45 ["web", "leaning"] (defScope (top 45)) := ⟨rfl, rfl, rfl, by decide +kernel, rfl, by decide +kernel, by decide +kernel⟩
theorem ok_is_ringless (T : Tx K mg A) : FnOk P A.w K mg base CX0 6 A.is_ringless A.fd_is_ringless ["web", "leaning"] (toSp K (g_is_ringless A.Web)) := by
  refine okD T.F_is_ringless sc45 (fun ds μ R h => ?_) ⟨_, fun cdv A0 outer s H E hr =>
    (dss_cons (ds_expr (de_call ((ok_check_web_and_leaning T).mono (by decide)) hr (by rfl) T.g_check_web_and_leaning T.F_check_web_and_leaning.kp T.b_check_web_and_leaning (da_cons (dv 0) (da_cons (dv 1) da_nil))))
      (dss_one (ds_ret (de_cmp op_notN sim_notN (de_call ((ok_first_order T).mono (by decide)) hr (by rfl) T.g_first_order T.F_first_order.kp T.b_first_order (da_cons (dv 0) (da_cons (dv 1) da_nil))) de_non (nomark _))))), fun ds μ R h => ?_⟩
  · obtain ⟨p, ts, l, rfl, _⟩ := h
    rfl
  · obtain ⟨p, ts, l, rfl, op, ot, hl, few, h⟩ := h
    refine ⟨p, ts, l, rfl, hl, few, ?_⟩
    refine ⟨p, ts, l, rfl, op, ot, hl, few, ?_⟩
    show R (.bl (!(oS (ordL (arrE ts l) ts.length p)).isNon)) μ
    have e : (!(oS (ordL (arrE ts l) ts.length p)).isNon) = (ordL (arrE ts l) ts.length p).isSome := by
      cases ordL (arrE ts l) ts.length p <;> rfl
    rw [e]
    exact h
def N49 : List Str := ["web", "leaning"]
theorem sc49 : FnScope N49 ["web", "leaning"] (defScope (top 49)) := ⟨rfl, rfl, rfl, by decide +kernel, rfl, by decide +kernel, by decide +kernel⟩
theorem ok_order_of (T : Tx K mg A) : FnOk P A.w K mg base CX0 6 A.order_of A.fd_order_of ["web", "leaning"] (toSp K (g_first_order A.Web)) := by
  refine okD T.F_order_of sc49 (fun ds μ R h => ?_) ⟨_, fun cdv A0 outer s H E hr =>
    (dss_cons (ds_expr (de_call ((ok_check_web_and_leaning T).mono (by decide)) hr (by rfl) T.g_check_web_and_leaning T.F_check_web_and_leaning.kp T.b_check_web_and_leaning (da_cons (dv 0) (da_cons (dv 1) da_nil))))
      (dss_one (ds_ret (de_call ((ok_first_order T).mono (by decide)) hr (by rfl) T.g_first_order T.F_first_order.kp T.b_first_order (da_cons (dv 0) (da_cons (dv 1) da_nil)))))), fun ds μ R h => ?_⟩
  · obtain ⟨p, ts, l, rfl, _⟩ := h
    rfl
  · obtain ⟨p, ts, l, rfl, op, ot, hl, few, h⟩ := h
    refine ⟨p, ts, l, rfl, hl, few, ?_⟩
    exact ⟨p, ts, l, rfl, op, ot, hl, few, h⟩
def N47 : List Str := ["web", "leaning"]
theorem sc47 : FnScope N47 ["web", "leaning"] (defScope (top 47)) := ⟨rfl, rfl, rfl, by decide +kernel, rfl, by decide +kernel, by decide +kernel⟩
theorem ok_fronts (T : Tx K mg A) : FnOk P A.w K mg base CX0 6 A.fronts A.fd_fronts ["web", "leaning"] (toSp K (g_fronts A.Web)) := by
  refine okD T.F_fronts sc47 (fun ds μ R h => ?_) ⟨_, fun cdv A0 outer s H E hr =>
    (dss_cons (ds_expr (de_call ((ok_check_web_and_leaning T).mono (by decide)) hr (by rfl) T.g_check_web_and_leaning T.F_check_web_and_leaning.kp T.b_check_web_and_leaning (da_cons (dv 0) (da_cons (dv 1) da_nil))))
      (dss_one (ds_ret (de_call ((ok_fronts_among T).mono (by decide)) hr (by rfl) T.g_fronts_among T.F_fronts_among.kp T.b_fronts_among (da_cons (de_fld T.k_Web T.n_places (dv 0)) (da_cons (de_call ((ok_arrows_of T).mono (by decide)) hr (by rfl) T.g_arrows_of T.F_arrows_of.kp T.b_arrows_of (da_cons (dv 0) (da_cons (dv 1) da_nil))) da_nil)))))), fun ds μ R h => ?_⟩
  · obtain ⟨p, ts, l, rfl, _⟩ := h
    rfl
  · obtain ⟨p, ts, l, rfl, op, ot, hl, few, h⟩ := h
    refine ⟨p, ts, l, rfl, hl, few, ?_⟩
    refine ⟨rfl, _, rfl, ?_⟩
    refine ⟨p, ts, l, rfl, ot, hl, few, ?_⟩
    have lw : (waysL ts l).length = ts.length := by
      unfold waysL
      rw [List.length_zipWith]
      omega
    have := op.few
    exact ⟨p, waysL ts l, .inl rfl, by omega, by omega, ways_are ot, h⟩
def N42 : List Str := ["web", "leaning", "row", "ways", "place", "arrow"]
theorem sc42 : FnScope N42 ["web", "leaning"] (defScope (top 42)) := ⟨rfl, rfl, rfl, by decide +kernel, rfl, by decide +kernel, by decide +kernel⟩
theorem ok_is_each_in_a_ring (T : Tx K mg A) : FnOk P A.w K mg base CX0 4 A.is_each_in_a_ring A.fd_is_each_in_a_ring ["web", "leaning"] (toSp K (g_each A.Web)) := by
  refine okDF T.F_is_each_in_a_ring sc42 (fun ds μ R h => ?_) ⟨_, fun cdv A0 outer s H E hr =>
    (dss_cons (ds_set sc42.nd (i := 2) rfl (by first | exact Or.inl rfl | exact Or.inr rfl) (de_call ((ok_arrows_of T).mono (by decide)) hr (by rfl) T.g_arrows_of T.F_arrows_of.kp T.b_arrows_of (da_cons (dv 0) (da_cons (dv 1) da_nil))))
      (dss_cons (ds_set sc42.nd (i := 3) rfl (by first | exact Or.inl rfl | exact Or.inr rfl) (de_dc (own := [("place", 4)]) (by rfl) sc42.nd (di_str (de_fld T.k_Web T.n_places (dv 0))) (blkOk_by (N := N42) (own := [("place", 4)]) (sc := defScope (top 42)) (by decide +kernel)) (fun _ _ _ _ _ => (pg_name (i := 4) sc42.nd rfl (by first | exact Or.inl rfl | exact Or.inr rfl))) (sim_nm (i := 4)) (fun _ _ _ _ _ => dts_nil) (fun _ _ _ _ _ => (dv 4)) (fun _ _ _ _ _ => (de_call ((ok_ways_along T).mono (by decide)) hr (by rfl) T.g_ways_along T.F_ways_along.kp T.b_ways_along (da_cons (dv 2) (da_cons (dv 4) da_nil))))))
      (dss_one (ds_ret (de_callB (cr_all (by rfl)) sim_all (by rfl) T.z_all boot_all (da_cons (de_lc (own := [("arrow", 5)]) (by rfl) sc42.nd (di_both (dv 2)) (blkOk_by (N := N42) (own := [("arrow", 5)]) (sc := defScope (top 42)) (by decide +kernel)) (fun _ _ _ _ _ => (pg_name (i := 5) sc42.nd rfl (by first | exact Or.inl rfl | exact Or.inr rfl))) (sim_nm (i := 5)) (fun _ _ _ _ _ => dts_nil) (fun _ _ _ _ _ => (de_din (hu_of hr) (de_ix ix_any sim_ix (dv 5) de_int (fun _ _ => rfl)) (de_dget (hu_of hr) (dv 3) (de_ix ix_any sim_ix (dv 5) de_int (fun _ _ => rfl)) (fun _ _ => rfl))))) da_nil)))))), fun ds μ R h => ?_⟩
  · obtain ⟨p, ts, l, rfl, _⟩ := h
    rfl
  · obtain ⟨p, ts, l, rfl, op, ot, hl, few, h⟩ := h
    have p7 := op.few
    have pn : p.Nodup := op.asc.imp fun h => Nat.ne_of_lt h
    have lw : (waysL ts l).length = ts.length := by
      unfold waysL
      rw [List.length_zipWith]
      omega
    refine ⟨p, ts, l, rfl, ot, hl, few, ?_⟩
    refine ⟨rfl, _, rfl, ?_⟩
    show DL.DcB _ _ _ _ _ _ _ (DL.signs (toS p)) _
    rw [signs_chs]
    refine ⟨fun a na => ?_⟩
    refine ⟨fun i μ' => i ≤ p.length ∧ ∃ vs : List (Nat × Addr × List (Nat × List Nat)), vs.map (·.1) = p.take i ∧ (∀ c o, μ c = some o → μ' c = some o) ∧ μ' a = some (.dct (kvG (fun y : Addr × List (Nat × List Nat) => D.adr y.1) vs)) ∧
      ∀ c f kvs, (c, f, kvs) ∈ vs → μ' f = some (.dct (kvW kvs)) ∧ f ≠ a ∧ Found (arrE ts l) ts.length c kvs ∧ ∀ w ∈ waysL ts l, (ends w).1 ∈ kvs.map (·.1) → (ends w).2 ∈ kvs.map (·.1),
      ⟨Nat.zero_le _, [], rfl, fun c o e => by rw [put_ne (fun z => by rw [z, na] at e; cases e)]; exact e, put_same, (fun c f kvs h => by cases h)⟩, ?_, ?_⟩
    · rintro i x μ' hi ⟨_, vs, hv, kp, ha, each⟩
      have hlt : i < p.length := by
        have := (List.getElem?_eq_some_iff.mp hi).1
        rwa [chs_len] at this
      have ex : x = .str (sg p[i]) := by
        unfold chs at hi
        rw [List.getElem?_map, List.getElem?_eq_getElem hlt] at hi
        exact (Option.some.inj hi).symm
      subst ex
      refine ⟨waysL ts l, p[i], .inr rfl, ways_are ot, by omega, fun f kvs nf fd cl => ?_⟩
      have fa : f ≠ a := fun z => by rw [z, ha] at nf; cases nf
      have lv : vs.length = i := by
        have := congrArg List.length hv
        rw [List.length_map, List.length_take] at this
        omega
      have new : p[i] ∉ vs.map (·.1) := fun z => by
        rw [hv] at z
        obtain ⟨j, hj, e⟩ := List.getElem_of_mem z
        rw [List.length_take] at hj
        rw [List.getElem_take] at e
        have := (List.getElem_inj pn).mp e
        omega
      have et : p.take (i + 1) = p.take i ++ [p[i]] := by
        rw [List.take_succ, List.getElem?_eq_getElem hlt]
        rfl
      have fd : Found (arrE ts l) ts.length p[i] kvs := by
        rw [lw] at fd
        exact fd
      refine ⟨kvG (fun y : Addr × List (Nat × List Nat) => D.adr y.1) vs, .inr (sg p[i]), rfl, by rw [put_ne fa.symm]; exact ha, by unfold kvG; rw [List.length_map, lv, sizeLine_eq]; omega, hlt, vs ++ [(p[i], f, kvs)], by rw [List.map_append, hv, et]; rfl, fun c o e => ?_, ?_, fun c g kv hm => ?_⟩
      · have h1 := kp c o e
        have ca : c ≠ a := fun z => by rw [z, na] at e; cases e
        have cf : c ≠ f := fun z => by rw [z, nf] at h1; cases h1
        rw [put_ne ca, put_ne cf]
        exact h1
      · rw [put_same]
        have := kvG_put (f := fun y : Addr × List (Nat × List Nat) => D.adr y.1) (c := p[i]) (x := (f, kvs)) new
        rw [← this]
      · rcases List.mem_append.mp hm with q | q
        · obtain ⟨q1, q2, q3, q4⟩ := each c g kv q
          have gf : g ≠ f := fun z => by rw [z, nf] at q1; cases q1
          exact ⟨by rw [put_ne q2, put_ne gf]; exact q1, q2, q3, q4⟩
        · have q := List.mem_singleton.mp q
          cases q
          exact ⟨by rw [put_ne fa, put_same], fa, fd, cl⟩
    · rintro μ' ⟨_, vs, hv, kp, ha, each⟩
      rw [chs_len, List.take_length] at hv
      have key : ∀ w ∈ waysL ts l, ∀ (ν : Mu), (∀ b o, μ' b = some o → ν b = some o) → ∀ Y : D → Mu → Prop, (∀ i, i < ts.length → w = yTie (arrE ts l i).1 (arrE ts l i).2 → ∀ b : Bool, (b = true ↔ InRing (arrE ts l) ts.length i) → Y (.bl b) ν) → True := fun _ _ _ _ _ _ => trivial
      show LcB _ _ _ _ _ _ _ _
      have dec : ∀ i, ∃ b : Bool, b = true ↔ InRing (arrE ts l) ts.length i := fun i => by
        by_cases q : InRing (arrE ts l) ts.length i
        · exact ⟨true, fun _ => q, fun _ => rfl⟩
        · exact ⟨false, (fun z => by cases z), fun z => absurd z q⟩
      have mem2 : ∀ w : Str, ∃ b : Bool, b = true ↔ ∀ i, i < ts.length → ends w = arrE ts l i → InRing (arrE ts l) ts.length i := fun w => by
        by_cases q : ∀ i, i < ts.length → ends w = arrE ts l i → InRing (arrE ts l) ts.length i
        · exact ⟨true, fun _ => q, fun _ => rfl⟩
        · exact ⟨false, (fun z => by cases z), fun z => absurd z q⟩
      have hg : ∃ g : Str → Bool, ∀ w, g w = true ↔ ∀ i, i < ts.length → ends w = arrE ts l i → InRing (arrE ts l) ts.length i := ⟨fun w => Classical.choose (mem2 w), fun w => Classical.choose_spec (mem2 w)⟩
      obtain ⟨g, hg⟩ := hg
      refine lcb_map (fun d => match d with | .str w => .bl (g w) | d => d) ?_ ?_ ?_
      · rw [List.length_map, sizeLine_eq]
        omega
      · intro x hx ν Y kn hY
        obtain ⟨w, hw, rfl⟩ := List.mem_map.mp hx
        have hY : Y (.bl (g w)) ν := hY
        obtain ⟨i, u, v, hi, rfl, eE, hu, hv2⟩ := row_at ot hl hw
        have inv : v ∈ vs.map (·.1) := by rw [hv]; exact hv2
        obtain ⟨⟨c, f, kvs⟩, hm, rfl⟩ := List.mem_map.mp inv
        obtain ⟨q1, q2, fd, cl⟩ := each c f kvs hm
        have eb : (DL.valD (kvW kvs) (.inr (sg u))).isSome = g (yTie u c) := by
          rw [kvW_some fd.nod, Bool.eq_iff_iff, decide_eq_true_iff, fd.reach (row_closed ot hl cl), hg]
          constructor
          · intro r j hj ej
            have ej : (u, c) = arrE ts l j := ej
            unfold InRing
            rw [← ej]
            exact r
          · intro r
            have := r i hi (by rw [eE]; rfl)
            unfold InRing at this
            rw [eE] at this
            exact this
        refine ⟨by show 2 ≤ sizeLine; decide, by show 2 ≤ sizeLine; decide, ?_⟩
        refine ⟨kvG (fun y : Addr × List (Nat × List Nat) => D.adr y.1) vs, .inr (sg c), .adr f, kn _ _ ha, rfl, kvG_val (by rw [hv]; exact pn) hm, ?_⟩
        refine ⟨kvW kvs, .inr (sg u), kn _ _ q1, rfl, ?_⟩
        show Y (.bl (DL.valD (kvW kvs) (.inr (sg u))).isSome) ν
        rw [eb]
        exact hY
      · have em : ((waysL ts l).map D.str).map (fun d => match d with | .str w => D.bl (g w) | d => d) = ((waysL ts l).map g).map D.bl := by
          rw [List.map_map, List.map_map]
          rfl
        rw [em]
        refine ⟨_, rfl, ?_⟩
        refine ⟨_, μ, .less fun c o e => kp c o e, h _ ?_⟩
        rw [List.all_eq_true]
        constructor
        · intro hall k hk
          obtain ⟨u, v, hw, _, _, eE, _⟩ := way_at ot hl hk
          have := hall (g (yTie u v)) (List.mem_map.mpr ⟨_, List.mem_of_getElem? hw, rfl⟩)
          exact (hg (yTie u v)).mp this k hk (by rw [eE]; rfl)
        · intro hall b hb
          obtain ⟨w, hw, rfl⟩ := List.mem_map.mp hb
          exact (hg w).mpr fun i hi _ => hall i hi
def N46 : List Str := ["web", "leaning"]
theorem sc46 : FnScope N46 ["web", "leaning"] (defScope (top 46)) := ⟨rfl, rfl, rfl, by decide +kernel, rfl, by decide +kernel, by decide +kernel⟩
theorem ok_is_ringed (T : Tx K mg A) : FnOk P A.w K mg base CX0 6 A.is_ringed A.fd_is_ringed ["web", "leaning"] (toSp K (g_each A.Web)) := by
  refine okD T.F_is_ringed sc46 (fun ds μ R h => ?_) ⟨_, fun cdv A0 outer s H E hr =>
    (dss_cons (ds_expr (de_call ((ok_check_web_and_leaning T).mono (by decide)) hr (by rfl) T.g_check_web_and_leaning T.F_check_web_and_leaning.kp T.b_check_web_and_leaning (da_cons (dv 0) (da_cons (dv 1) da_nil))))
      (dss_one (ds_ret (de_call ((ok_is_each_in_a_ring T).mono (by decide)) hr (by rfl) T.g_is_each_in_a_ring T.F_is_each_in_a_ring.kp T.b_is_each_in_a_ring (da_cons (dv 0) (da_cons (dv 1) da_nil)))))), fun ds μ R h => ?_⟩
  · obtain ⟨p, ts, l, rfl, _⟩ := h
    rfl
  · obtain ⟨p, ts, l, rfl, op, ot, hl, few, h⟩ := h
    refine ⟨p, ts, l, rfl, hl, few, ?_⟩
    exact ⟨p, ts, l, rfl, op, ot, hl, few, h⟩
def N48 : List Str := ["web", "leaning", "index", "row", "tail", "head", "ways", "herd", "place"]
theorem sc48 : FnScope N48 ["web", "leaning", "index"] (defScope (top 48)) := ⟨rfl, rfl, rfl, by decide +kernel, rfl, by decide +kernel, by decide +kernel⟩
theorem ok_ring_or_cut (T : Tx K mg A) : FnOk P A.w K mg base CX0 6 A.ring_or_cut A.fd_ring_or_cut ["web", "leaning", "index"] (toSp K (g_ring_or_cut A.Web)) := by
  refine okDF T.F_ring_or_cut sc48 (fun ds μ R h => ?_) ⟨_, fun cdv A0 outer s H E hr =>
    (dss_cons (ds_expr (de_call ((ok_check_web_and_leaning T).mono (by decide)) hr (by rfl) T.g_check_web_and_leaning T.F_check_web_and_leaning.kp T.b_check_web_and_leaning (da_cons (dv 0) (da_cons (dv 1) da_nil))))
      (dss_cons (ds_expr (de_call ((ok_check_index T).mono (by decide)) hr (by rfl) T.g_check_index T.F_check_index.kp T.b_check_index (da_cons (dv 0) (da_cons (dv 2) da_nil))))
      (dss_cons (ds_set sc48.nd (i := 3) rfl (by first | exact Or.inl rfl | exact Or.inr rfl) (de_call ((ok_arrows_of T).mono (by decide)) hr (by rfl) T.g_arrows_of T.F_arrows_of.kp T.b_arrows_of (da_cons (dv 0) (da_cons (dv 1) da_nil))))
      (dss_cons (ds_asg (de_ix ix_any sim_ix (dv 3) (dv 2) (fun _ _ => rfl)) (pg_unp (i := 4) (j := 5) (by rfl) sc48.nd rfl rfl rfl rfl) sim_unp)
      (dss_cons (ds_set sc48.nd (i := 6) rfl (by first | exact Or.inl rfl | exact Or.inr rfl) (de_call ((ok_ways_along T).mono (by decide)) hr (by rfl) T.g_ways_along T.F_ways_along.kp T.b_ways_along (da_cons (dv 3) (da_cons (dv 5) da_nil))))
      (dss_cons (ds_if (dt_din (hu_of hr) (dv 4) (dv 6)) (dss_one (ds_ret (de_tup (da_cons de_str (da_cons (de_callTy call_tuple_of sim_tuple (by rfl) T.z_tuple boot_tuple (da_cons (de_callB cr_sortedIT sim_sortedIT (by rfl) T.z_sorted boot_sorted (da_cons (de_op op_plus sim_plus (de_dget (hu_of hr) (dv 6) (dv 4) (fun _ _ => rfl)) (de_tup (da_cons (dv 2) da_nil))) da_nil)) da_nil)) da_nil))))) dss_nil)
      (dss_cons (ds_set sc48.nd (i := 7) rfl (by first | exact Or.inl rfl | exact Or.inr rfl) (de_bm PySem.F.plainAttrs_str PySem.F.slot_str_join PySem.F.type_str_join mt_join sim_join ok_str de_str (da_cons (de_lc (own := [("place", 8)]) (by rfl) sc48.nd (di_str (de_fld T.k_Web T.n_places (dv 0))) (blkOk_by (N := N48) (own := [("place", 8)]) (sc := defScope (top 48)) (by decide +kernel)) (fun _ _ _ _ _ => (pg_name (i := 8) sc48.nd rfl (by first | exact Or.inl rfl | exact Or.inr rfl))) (sim_nm (i := 8)) (fun _ _ _ _ _ => (dts_one (dt_dnotin (hu_of hr) (dv 8) (dv 6)))) (fun _ _ _ _ _ => (dv 8))) da_nil)))
      (dss_one (ds_ret (de_tup (da_cons de_str (da_cons (de_call ((ok_crossing T).mono (by decide)) hr (by rfl) T.g_crossing T.F_crossing.kp T.b_crossing (da_cons (dv 0) (da_cons (dv 7) da_nil))) da_nil)))))))))))), fun ds μ R h => ?_⟩
  · obtain ⟨p, ts, l, k, rfl, _⟩ := h
    rfl
  · obtain ⟨p, ts, l, k, rfl, op, ot, hl, few, hk, h1, h2⟩ := h
    have p7 := op.few
    have sz2 : 2 ≤ sizeLine := by decide
    have lw : (waysL ts l).length = ts.length := by
      unfold waysL
      rw [List.length_zipWith]
      omega
    refine ⟨p, ts, l, rfl, hl, few, ?_⟩
    refine ⟨p, ts, k, rfl, hk, ?_⟩
    refine ⟨p, ts, l, rfl, ot, hl, few, ?_⟩
    obtain ⟨a, b, hw, ha, hb, eE, _⟩ := way_at ot hl hk
    refine atK_nat (j := k) (d := .str (yTie a b)) (by rw [List.getElem?_map, hw]; rfl) ?_
    refine ⟨a, b, rfl, low_tie op ha hb, ?_⟩
    refine ⟨waysL ts l, b, .inr rfl, ways_are ot, by omega, fun f kvs nf fd cl => ?_⟩
    have fd : Found (arrE ts l) ts.length b kvs := by
      rw [lw] at fd
      exact fd
    have clE := row_closed ot hl cl
    have rk : a ∈ kvs.map (·.1) ↔ InRing (arrE ts l) ts.length k := by
      unfold InRing
      rw [eE]
      exact fd.reach clE a
    have fin : ∀ d : D, R d μ → freed R d (put μ f (.dct (kvW kvs))) := fun d hd => by
      refine ⟨_, μ, .less fun c o e => ?_, hd⟩
      rw [put_ne (fun z => by rw [z, nf] at e; cases e)]
      exact e
    refine ⟨kvW kvs, .inr (sg a), put_same, rfl, ?_⟩
    show if (DL.valD (kvW kvs) (.inr (sg a))).isSome = true then _ else _
    rw [kvW_some fd.nod]
    refine if_case (c := decide (a ∈ kvs.map (·.1))) (fun e => ?_) (fun e => ?_)
    · have hin := of_decide_eq_true e
      have ring := rk.mp hin
      obtain ⟨⟨u, w⟩, huw, rfl⟩ := List.mem_map.mp hin
      have fd' : Found (arrE ts l) (List.range ts.length).length (arrE ts l k).2 kvs := by rw [List.length_range, eE]; exact fd
      obtain ⟨cyc, sub⟩ := fd'.cyc (E := arrE ts l) (i0 := k) (w := w) (g := fun i => i) (fun i hi => by
        rw [List.length_range] at hi
        exact List.getElem?_range hi) (fun i _ => rfl) (by rw [eE]; exact huw)
      have em : w.map (fun i => i) = w := List.map_id w
      rw [em] at cyc sub
      have inr : ∀ x ∈ k :: w, x < ts.length := fun x hx => by
        rcases List.mem_cons.mp hx with q | q
        · rw [q]; exact hk
        · exact List.mem_range.mp (sub x q)
      have lkw : (k :: w).length ≤ 11 := by
        have := (nodup_of_tails cyc.nod).length_le_of_subset fun x hx => List.mem_range.mpr (inr x hx)
        rw [List.length_range] at this
        omega
      rw [List.length_cons] at lkw
      refine ⟨kvW kvs, .inr (sg u), _, put_same, rfl, kvW_val fd.nod huw, ?_⟩
      refine ⟨by show 1 ≤ sizeLine; decide, ?_⟩
      have ew : (w.map Int.ofNat).map D.int ++ [D.int (k : Nat)] = ((w ++ [k]).map Int.ofNat).map D.int := by rw [List.map_append, List.map_append]; rfl
      refine ⟨by show ((w.map Int.ofNat).map D.int).length + 1 ≤ sizeLine; rw [List.length_map, List.length_map, sizeLine_eq]; omega, ?_⟩
      rw [ew]
      refine ⟨(w ++ [k]).map Int.ofNat, rfl, by rw [List.length_map, List.length_append]; show _ + 1 < 64; omega, fun ns' pm asc => ?_⟩
      obtain ⟨r, pr, rfl⟩ := perm_back pm
      have pr2 : r.Perm (k :: w) := pr.trans (List.perm_append_singleton k w)
      have rn : r.Nodup := pr2.nodup_iff.mpr (nodup_of_tails cyc.nod)
      have asc2 : r.Pairwise (· < ·) := by
        rw [List.pairwise_map] at asc
        refine (asc.and rn).imp fun {x y} ⟨h1, h2⟩ => ?_
        have h1 : (x : Int) ≤ (y : Int) := h1
        omega
      refine ⟨sz2, ?_⟩
      exact fin _ (h1 ring r (k :: w) asc2 cyc pr2 (pr2.symm.subset List.mem_cons_self) fun i hi => inr i (pr2.subset hi))
    · have nin := of_decide_eq_false e
      have noring : ¬ InRing (arrE ts l) ts.length k := fun z => nin (rk.mpr z)
      refine ⟨True.intro, ?_⟩
      refine ⟨rfl, _, rfl, ?_⟩
      show LcB _ _ _ _ _ _ (DL.signs (toS p)) _
      rw [signs_chs]
      refine lcb_pure (fun d => match d with | .str y => !decide (y.cps.toList.getD 0 0 ∈ kvs.map (·.1)) | _ => false) id ?_ ?_ ?_
      · rw [chs_len, sizeLine_eq]
        omega
      · intro x hx ν N Y kn hN hY
        obtain ⟨c, hc, rfl⟩ := chs_in hx
        have hN : (!decide (c ∈ kvs.map (·.1))) = false → N ν := hN
        have hY : (!decide (c ∈ kvs.map (·.1))) = true → Y (.str (sg c)) ν := hY
        refine ⟨kvW kvs, .inr (sg c), kn _ _ put_same, rfl, ?_⟩
        show if (!(DL.valD (kvW kvs) (.inr (sg c))).isSome) = true then _ else _
        rw [kvW_some fd.nod]
        exact if_case (fun e => hY e) (fun e => hN e)
      have e2 : ((chs p).filter fun d => match d with | .str y => !decide (y.cps.toList.getD 0 0 ∈ kvs.map (·.1)) | _ => false).map id = ((p.filter fun c => !decide (c ∈ kvs.map (·.1))).map sg).map D.str := by
        unfold chs
        rw [List.map_id, List.filter_map, List.map_map]
        rfl
      rw [e2]
      have lf := List.length_filter_le (fun c => !decide (c ∈ kvs.map (·.1))) p
      refine ⟨_, rfl, by rw [sum_sg, len_empty]; omega, ?_⟩
      rw [join_sg]
      have inh : ∀ c, c ∈ p → (c ∈ p.filter (fun c => !decide (c ∈ kvs.map (·.1))) ↔ c ∉ kvs.map (·.1)) := fun c hc => by
        rw [List.mem_filter, Bool.not_eq_true', decide_eq_false_iff_not]
        exact ⟨fun z => z.2, fun z => ⟨hc, z⟩⟩
      have hsub : p.filter (fun c => !decide (c ∈ kvs.map (·.1))) ∈ subsL p := (subs_mem p _).mpr List.filter_sublist
      generalize p.filter (fun c => !decide (c ∈ kvs.map (·.1))) = hd at inh hsub ⊢
      have c1 : k ∈ crossL ts hd := by
        rw [cross_arr ot hl]
        refine ⟨hk, ?_⟩
        rw [eE]
        have h3 : a ∈ hd := (inh a ha).mpr nin
        have h4 : b ∉ hd := fun z => (inh b hb).mp z fd.has
        show (decide (a ∈ hd) != decide (b ∈ hd)) = true
        rw [decide_eq_true h3, decide_eq_false h4]
        rfl
      have c2 : ∀ i ∈ crossL ts hd, (arrE ts l i).1 ∈ hd := fun i hi => by
        obtain ⟨hi, hx⟩ := (cross_arr ot hl).mp hi
        obtain ⟨u, v, _, hu, hv, eI, _⟩ := way_at ot hl hi
        rw [eI] at hx ⊢
        refine Decidable.by_contra fun z => ?_
        have hu2 : u ∈ kvs.map (·.1) := Decidable.by_contra fun y => z ((inh u hu).mpr y)
        have hv2 : v ∈ kvs.map (·.1) := by
          have := clE i hi (by rw [eI]; exact hu2)
          rw [eI] at this
          exact this
        have h4 : v ∉ hd := fun y => (inh v hv).mp y hv2
        have hx : (decide (u ∈ hd) != decide (v ∈ hd)) = true := hx
        rw [decide_eq_false z, decide_eq_false h4] at hx
        cases hx
      have last : R (.tup [.str ("cut" : Str), dLot (crossL ts hd)]) μ := h2 noring hd hsub c1 c2
      clear c1 c2 h2 inh
      refine ⟨p, ts, hd, rfl, ot.web op few, ?_⟩
      generalize dLot (crossL ts hd) = dl at last ⊢
      refine ⟨sz2, ?_⟩
      exact fin _ last
end
end K10
set_option Elab.async false
set_option linter.all false
set_option maxRecDepth 100000
namespace DL
open PySem PySem.Spec PyProof.Rows L2
/-! ### list.remove of texts -/
def eqkS (k : Str) (v : Value) : Bool := match v with
  | .str n _ => n == k
  | _ => false
theorem eqkS_gives {k : Str} {t : Tok} : ∀ {us : List Value} {ns : List Str}, StrsAre us ns → ∀ y ∈ us, MeetsSeq.EqGives y (.str k t) (eqkS k y)
  | _, _, .nil => fun y hy => by cases hy
  | _, _, .cons n t' h => fun y hy => by
    rcases List.mem_cons.mp hy with e | e
    · rw [e]
      exact eqGives_str n k t' t
    · exact eqkS_gives h y e
theorem erase_mapS : ∀ (l : List Str) (j : Nat), (l.map V.str).eraseIdx j = (l.eraseIdx j).map V.str
  | [], j => by simp
  | a :: r, 0 => by simp
  | a :: r, j + 1 => by
    have ih := erase_mapS r j
    simp [ih]
def rRemS : V → List V → Hp → VK → Prop := fun x xs H Q => ∃ (l : Addr) (ns : List Str) (k : Str) (j : Nat), x = .ref l ∧ xs = [.str k] ∧ H l = some (.lst (ns.map V.str)) ∧ ns[j]? = some k ∧ (∀ m : Nat, m < j → ns[m]? ≠ some k) ∧ Q .non (upd H l (.lst ((ns.eraseIdx j).map V.str)))
theorem mt_removeS {X : Cx} : MtM X "list.remove" rRemS := by
  intro pins s σ H x xs v us Q I rx rxs h
  obtain ⟨l, ns, k, j, rfl, rfl, hH, hj, hno, q⟩ := h
  cases rx
  obtain ⟨u, rfl, ru⟩ := rxs.one
  obtain ⟨t, rfl⟩ := ru
  obtain ⟨z, its, n, r, hl, e⟩ := I.lstM hH
  have hi : StrsAre its ns := r.strs
  rw [List.length_map] at hl z
  have hjn : j < ns.length := (List.getElem?_eq_some_iff.mp hj).1
  have hjl : j < its.toArray.size := by rw [List.size_toArray]; omega
  refine call_meets PySem.F.slot_list_remove ⟨_, e, rfl⟩ PySem.F.entry_list_remove (PySem.F.args_list_remove_2 _ _)
    (MeetsSeq.list_remove l its.toArray n (.str k t) (eqkS k) (fun y hy => eqkS_gives hi y (by simpa using hy)) j hjl ?_ ?_ (by rw [List.size_toArray]; omega)) ⟨e, ?_⟩
  · obtain ⟨tj, hjt⟩ := hi.get j k hj
    obtain ⟨h1, h2⟩ := List.getElem?_eq_some_iff.mp hjt
    have e1 : its.toArray[j] = .str k tj := by simpa using h2
    rw [e1]
    exact beq_self_eq_true k
  · intro m hm hmj
    have hmn : m < ns.length := by omega
    obtain ⟨tm, hmt⟩ := hi.get m _ (List.getElem?_eq_getElem hmn)
    obtain ⟨h1, h2⟩ := List.getElem?_eq_some_iff.mp hmt
    have e1 : its.toArray[m] = .str ns[m] tm := by simpa using h2
    rw [e1]
    refine beq_eq_false_iff_ne.mpr fun e2 => hno m hmj ?_
    rw [List.getElem?_eq_getElem hmn, e2]
  · have rr := r.eraseIdx j
    rw [erase_mapS] at rr
    refine ⟨.non, _, I.lset (its' := its.eraseIdx j) (t' := s.toks) hH e ?_ rr ?_, rfl, q⟩
    · show its.toArray.eraseIdxIfInBounds j = (its.eraseIdx j).toArray
      rw [List.eraseIdxIfInBounds_toArray]
    · have z2 := len_erase ns j
      rw [List.length_map]
      omega
def gRemS2 : G2 := fun x d μ R => match x, d with
  | .adr a, .str k => ∃ (ns : List Str) (j : Nat), μ a = some (.lst (ns.map D.str)) ∧ ns[j]? = some k ∧ (∀ m : Nat, m < j → ns[m]? ≠ some k) ∧ R .non (put μ a (.lst ((ns.eraseIdx j).map D.str)))
  | _, _ => False
theorem repL_strs {K : PySem.W.Frag} {H : Hp} {μ : Mu} : ∀ ns : List Str, RepL K H μ (ns.map D.str) (ns.map V.str)
  | [] => RepL.nil
  | _ :: ns => RepL.cons to_str (repL_strs ns)
theorem sim_removeS {K : PySem.W.Frag} : SimM K rRemS (gM1 gRemS2) := sim_m1 fun x v dx d H μ Q R rm rx rv q f => by
  cases dx <;> cases d <;> try exact False.elim q
  rename_i a k
  obtain ⟨ns, j, e0, hj, hno, q⟩ := q
  obtain ⟨vs, h1, l⟩ := rm a _ e0
  have ev : vs = ns.map V.str := l.strs
  subst ev
  have kw : Kp H μ (upd H a (.lst ((ns.eraseIdx j).map V.str))) (put μ a (.lst ((ns.eraseIdx j).map D.str))) := Kp.write e0
  refine ⟨a, ns, k, j, rep_adr rx, by rw [rep_str rv], h1, hj, hno, ?_⟩
  refine f .non .non _ _ kw ?_ to_non q
  exact rm.put (m := .lst ((ns.eraseIdx j).map D.str)) kw (fun b o n _ => upd_ne n) ⟨_, upd_same, repL_strs _⟩
/-! ### a comprehension over a cell, with a condition -/
theorem lcw_pure {gt : GG} {gc : GT} {ge : GE} {own : List Nat} {δ : DS} {R : KD} {c : Addr} {items : List D} {μ1 : Mu} (p : D → Bool) (f : D → D) (ec : μ1 c = some (.lst items)) (hl : items.length < sizeLine)
    (hx : ∀ x ∈ items, ∀ (μ' : Mu) (N : Mu → Prop) (Y : KD), (∀ b o, μ1 b = some o → μ' b = some o) → (p x = false → N μ') → (p x = true → Y (f x) μ') →
      gt x (wiped δ own) fun δ2 => gc δ2 μ' fun b μ2 => if b = true then ge δ2 μ2 Y else N μ2) (hr : R (.lst ((items.filter p).map f)) μ1) : LcW gt gc ge own δ R c items μ1 := by
  refine ⟨fun a na => ?_⟩
  have ne : c ≠ a := fun z => by rw [z, na] at ec; cases ec
  refine ⟨fun i μ' => μ' = put μ1 a (.lst (((items.take i).filter p).map f)), rfl, fun i μ' e => by rw [e, put_ne ne]; exact ec, fun i x μ' hi e => ?_, fun μ' e => ?_⟩
  · subst e
    have ht := take_succ_get hi
    have hm : x ∈ items := List.mem_of_getElem? hi
    refine hx x hm _ _ _ (fun b o e => ?_) (fun hp => ?_) fun hp => ?_
    · rw [put_ne (fun z => by rw [z, na] at e; cases e)]
      exact e
    · show put μ1 a _ = put μ1 a _
      rw [ht, List.filter_append, List.filter_cons_of_neg (by rw [hp]; simp), List.filter_nil, List.append_nil]
    · refine ⟨_, put_same, ?_, ?_⟩
      · have : (((items.take i).filter p).map f).length ≤ items.length := by
          rw [List.length_map]
          exact Nat.le_trans (List.length_filter_le _ _) (by rw [List.length_take]; omega)
        omega
      · show put (put μ1 a _) a _ = put μ1 a _
        rw [put_put, ht, List.filter_append, List.filter_cons_of_pos hp, List.filter_nil, List.map_append]
        rfl
  · subst e
    refine ⟨_, put_same, ?_⟩
    rw [del_put na, List.take_length]
    exact hr
theorem ds_setLcW {X : Cx} {i : Nat} {y : Str} {py : Pos} {elt tg iter : Expr} {ifs : List Expr} {scope : Scope} {own : List (Str × Nat)} {pos spos : Pos} {gl : GE} {g : TG} {gg : GG} {ow : List Nat} {gc : GT} {ge : GE} (hc : X.calm = true) (hN : X.N.Nodup) (hy : X.N[i]? = some y) (hyl : X.env.scope.names.lookup y = some .local)
    (hsw : swapsWith (.ListComp elt [⟨tg, iter, ifs, 0⟩] scope pos) (some (.Name y py)) spos.line X.env = pure true) (hi : DE X iter gl) (ok : BlkOk X.N X.env.scope scope own)
    (hg : ∀ (s : Shared) (H : Hp) (C : Addr) (cl : List (Str × Addr)) (fp : List Addr), PG (X.blk s H scope (compEnvC scope cl C X.env) fp) tg g) (sg : SimG X.K g gg ow) (ht : ∀ (s : Shared) (H : Hp) (C : Addr) (cl : List (Str × Addr)) (fp : List Addr), DTs (X.blk s H scope (compEnvC scope cl C X.env) fp) ifs gc)
    (he : ∀ (s : Shared) (H : Hp) (C : Addr) (cl : List (Str × Addr)) (fp : List Addr), DE (X.blk s H scope (compEnvC scope cl C X.env) fp) elt ge) (ho : ∀ i ∈ ow, i ∈ own.map (·.2) := by decide) (hs : ∀ x, foldedSetIterable iter X.env x = pure x := by intro _; rfl) :
    DSt X (.Assign [.Name y py] (.ListComp elt [⟨tg, iter, ifs, 0⟩] scope pos) spos) (gAsg (gLcW gl gg gc ge (own.map (·.2))) (gNm i)) := by
  obtain ⟨ti, i1, i2⟩ := hi.ex
  exact ⟨_, ps_setLc hc hN hy hyl hsw (pi_list i1) ok hg (fun s H C cl fp => (ht s H C cl fp).pt) (fun s H C cl fp => (he s H C cl fp).pe) hs, sim_asg (sim_lcW i2 sg ho simT_of sim_of) sim_nm⟩
end DL
set_option Elab.async false
set_option linter.all false
set_option maxRecDepth 100000
namespace K10
open PySem PySem.Spec PyProof.Rows L2 DL
section
variable {P : Program} {w : World} {K : PySem.W.Frag} {mg : Str → Option Value} {base : Heap} {A : Ad}
/-! ### the law's own walks -/
theorem lay_way {p : List Nat} {ts : List Str} {l : List Bool} (op : OkPlaces p) (ot : OkT p ts) (hl : l.length = ts.length) {ws : List Str} (sub : ∀ w ∈ ws, w ∈ waysL ts l) (n : Nat) : LayL (ws.map D.str) (ws.map PyData.str) n := layL_map fun y hy => by
  refine lay_str ?_ n
  obtain ⟨_, a, b, _, rfl, _, ha, hb⟩ := row_at ot hl (sub y hy)
  show (#[a, b] : Array Nat).all (· < 0x110000) = true
  rw [Array.all_eq_true']
  intro c hc
  have hc : c = a ∨ c = b := by simpa using hc
  have h1 := op.sign a ha
  have h2 := op.sign b hb
  exact decide_eq_true (by omega)
theorem lay_chs {p q : List Nat} (op : OkPlaces p) (sub : ∀ c ∈ q, c ∈ p) (n : Nat) : LayL (chs q) (q.map fun c => PyData.str (sg c)) n := layL_map fun c hc => by
  refine lay_str ?_ n
  show (#[c] : Array Nat).all (· < 0x110000) = true
  rw [Array.all_eq_true']
  intro x hx
  have hx : x = c := by simpa using hx
  have h1 := op.sign c (sub c hc)
  exact decide_eq_true (by omega)
theorem erase_less {c : Nat} : ∀ {q : List Nat} {j : Nat}, q.Nodup → q[j]? = some c → q.eraseIdx j = lessQ q c
  | [], j, _, h => by simp at h
  | a :: q, 0, nd, h => by
    have e : a = c := by simpa using h
    subst e
    have nd := List.nodup_cons.mp nd
    unfold lessQ
    rw [List.filter_cons]
    split
    · rename_i h2
      exact absurd rfl (of_decide_eq_true h2)
    · show q = _
      refine (List.filter_eq_self.mpr fun x hx => ?_).symm
      have hne : x ≠ a := fun z => nd.1 (by rw [← z]; exact hx)
      exact @decide_eq_true _ _ hne
  | a :: q, j + 1, nd, h => by
    have nd := List.nodup_cons.mp nd
    have h : q[j]? = some c := by simpa using h
    have ne : a ≠ c := fun z => nd.1 (by rw [z]; exact List.mem_of_getElem? h)
    unfold lessQ
    rw [List.filter_cons]
    split
    · show a :: q.eraseIdx j = _
      rw [erase_less (q := q) nd.2 h]
      rfl
    · rename_i h2
      exact absurd (@decide_eq_true _ _ ne) h2
def g_L_reach : GC := fun ds μ R => ∃ (p : List Nat) (ts : List Str) (l : List Bool) (h : Nat), ds = [.lst ((waysL ts l).map D.str), .str (sg h)] ∧ OkT p ts ∧ l.length = ts.length ∧ ts.length ≤ 11 ∧
  ∀ K : List Nat, (∀ v, v ∈ K ↔ Reach (arrE ts l) ts.length h v) → R (.lst ((K.map sg).map D.str)) μ
def g_L_in_ring : GC := fun ds μ R => ∃ (p : List Nat) (ts : List Str) (l : List Bool) (k : Nat), ds = [.lst ((waysL ts l).map D.str), .int (k : Nat)] ∧ OkT p ts ∧ l.length = ts.length ∧ ts.length ≤ 11 ∧ k < ts.length ∧
  ∀ b : Bool, (b = true ↔ InRing (arrE ts l) ts.length k) → R (.bl b) μ
def g_L_herds : GC := fun ds μ R => ∃ p : List Nat, ds = [.str (toS p)] ∧ p.length ≤ 8 ∧ R (.lst ((subsL p).map dHerd)) μ
def g_L_leads_out : GC := fun ds μ R => ∃ (p : List Nat) (ts : List Str) (l : List Bool) (hd lot : List Nat), ds = [.tup (ts.map D.str), .lst ((waysL ts l).map D.str), dHerd hd, .tup (dIdx lot)] ∧ OkT p ts ∧ l.length = ts.length ∧ ts.length ≤ 11 ∧ hd.length ≤ 8 ∧ lot.length ≤ 11 ∧
  ∀ b : Bool, (lot = crossL ts hd → lot ≠ [] → (∀ i ∈ lot, (arrE ts l i).1 ∈ hd) → b = true) → R (.bl b) μ
def g_L_first_order : GC := fun ds μ R => ∃ (p : List Nat) (ts : List Str) (l : List Bool), ds = [.str (toS p), .lst ((waysL ts l).map D.str)] ∧ OkPlaces p ∧ OkT p ts ∧ l.length = ts.length ∧ ts.length ≤ 11 ∧ R (oS (ordL (arrE ts l) ts.length p)) μ
def N57 : List Str := ["_law_ways_here", "_law_start", "_law_found", "_law_turn", "_law_way"]
theorem sc57 : FnScope N57 ["_law_ways_here", "_law_start"] (defScope (top 57)) := ⟨rfl, rfl, rfl, by decide +kernel, rfl, by decide +kernel, by decide +kernel⟩
theorem ok_L_reach (T : Tx K mg A) : FnOk P A.w K mg base CX0 1 A.L_reach A.fd_L_reach ["_law_ways_here", "_law_start"] (toSp K (g_L_reach)) := by
  refine okDF T.F_L_reach sc57 (fun ds μ R h => ?_) ⟨_, fun cdv A0 outer s H E hr =>
    (dss_cons (ds_set sc57.nd (i := 2) rfl (by first | exact Or.inl rfl | exact Or.inr rfl) (de_cell (da_cons (dv 1) da_nil)))
      (dss_cons (ds_for PassesOwn.never rfl (di_both (dv 0)) (pg_name (i := 3) sc57.nd rfl (by first | exact Or.inl rfl | exact Or.inr rfl)) (sim_nm (i := 3))
      (dss_one (ds_for PassesOwn.never rfl (di_both (dv 0)) (pg_name (i := 4) sc57.nd rfl (by first | exact Or.inl rfl | exact Or.inr rfl)) (sim_nm (i := 4))
      (dss_one (ds_if (dw_and (dt_cmp op_inA sim_inC (de_ix ix_any sim_ix (dv 4) de_int (fun _ _ => rfl)) (dv 2) rfl) (dw_and1 (dt_cmp op_notInA sim_notInC (de_ix ix_any sim_ix (dv 4) de_int (fun _ _ => rfl)) (dv 2) rfl))).dt (dss_one (ds_expr (de_bm PySem.F.plainAttrs_list PySem.F.slot_list_append PySem.F.type_list_append mt_append sim_append ok_cell (dv 2) (da_cons (de_ix ix_any sim_ix (dv 4) de_int (fun _ _ => rfl)) da_nil)))) dss_nil)))))
      (dss_one (ds_ret (dv 2))))), fun ds μ R h => ?_⟩
  · obtain ⟨p, ts, l, h0, rfl, _⟩ := h
    rfl
  · obtain ⟨p, ts, l, h0, rfl, ot, hl, few, h⟩ := h
    have z1 : 1 ≤ sizeLine := by decide
    have two : ∀ a b : Nat, (yTie a b).length ≤ sizeLine := fun a b => by show 2 ≤ sizeLine; decide
    have lw : (waysL ts l).length = ts.length := by
      unfold waysL
      rw [List.length_zipWith]
      omega
    have lwm : ((waysL ts l).map D.str).length = ts.length := by rw [List.length_map, lw]
    refine ⟨z1, fun b nb => ?_⟩
    have st : ∀ {i : Nat} {x : D}, ((waysL ts l).map D.str)[i]? = some x → ∃ u v, i < ts.length ∧ x = .str (yTie u v) ∧ arrE ts l i = (u, v) := fun {i x} hx => by
      have hi : i < ts.length := by
        have := (List.getElem?_eq_some_iff.mp hx).1
        omega
      obtain ⟨u, v, hw, _, _, eE, _⟩ := way_at ot hl hi
      rw [List.getElem?_map, hw] at hx
      exact ⟨u, v, hi, (Option.some.inj hx).symm, eE⟩
    refine ⟨fun t δ' μ' => ∃ (K : List Nat) (o3 o4 : Option D), K.Nodup ∧ h0 ∈ K ∧ (∀ v ∈ K, Reach (arrE ts l) ts.length h0 v) ∧ ((∀ i, i < ts.length → (arrE ts l i).1 ∈ K → (arrE ts l i).2 ∈ K) ∨ t + 1 ≤ K.length) ∧ μ' = put μ b (.lst ((K.map sg).map D.str)) ∧
      δ' = [some (.lst ((waysL ts l).map D.str)), some (.str (sg h0)), some (.adr b), o3, o4], ⟨[h0], none, none, by simp, by simp, (fun v hv => by rw [List.mem_singleton.mp hv]; exact .refl h0), .inr (Nat.le_refl _), rfl, rfl⟩, ?_, ?_⟩
    · rintro t it δ' μ' hit ⟨K0, o3, o4, n0, m0, r0, prog, rfl, rfl⟩
      refine ⟨fun j δ' μ' => ∃ (K : List Nat) (o4 : Option D), K.Nodup ∧ h0 ∈ K ∧ (∀ v ∈ K, Reach (arrE ts l) ts.length h0 v) ∧ (∀ c ∈ K0, c ∈ K) ∧ (K = K0 ∧ (∀ i, i < j → i < ts.length → (arrE ts l i).1 ∈ K → (arrE ts l i).2 ∈ K) ∨ K0.length + 1 ≤ K.length) ∧ μ' = put μ b (.lst ((K.map sg).map D.str)) ∧
        δ' = [some (.lst ((waysL ts l).map D.str)), some (.str (sg h0)), some (.adr b), some it, o4], ⟨K0, o4, n0, m0, r0, (fun c hc => hc), .inl ⟨rfl, fun i hi => absurd hi (Nat.not_lt_zero _)⟩, rfl, rfl⟩, ?_, ?_⟩
      · rintro j x δ' μ' hx ⟨K, o4, nK, mK, rK, sub, pr, rfl, rfl⟩
        obtain ⟨u, v, hj, rfl, eE⟩ := st hx
        have mem : ∀ c, decide (sg c ∈ K.map sg) = decide (c ∈ K) := fun c => decide_eq_decide.mpr ⟨fun z => by
          obtain ⟨y, hy, e⟩ := List.mem_map.mp z
          rw [← sg_inj e]
          exact hy, fun z => List.mem_map.mpr ⟨c, z, rfl⟩⟩
        have keep : (u ∈ K → v ∈ K) → (K = K0 ∧ (∀ i, i < j + 1 → i < ts.length → (arrE ts l i).1 ∈ K → (arrE ts l i).2 ∈ K) ∨ K0.length + 1 ≤ K.length) := fun hc => by
          rcases pr with ⟨e, cl⟩ | g
          · refine .inl ⟨e, fun i hi hn => ?_⟩
            rcases Nat.lt_or_eq_of_le (Nat.le_of_lt_succ hi) with q | q
            · exact cl i q hn
            · subst q
              rw [eE]
              exact hc
          · exact .inr g
        refine ⟨two u v, _, put_same, ?_⟩
        refine .inr ⟨sg u, K.map sg, rfl, rfl, ?_⟩
        show if decide (sg u ∈ K.map sg) = true then _ else _
        rw [mem u]
        refine if_case (c := decide (u ∈ K)) (fun eu => ?_) (fun eu => ?_)
        · have eu := of_decide_eq_true eu
          refine ⟨two u v, _, put_same, ?_⟩
          refine .inr ⟨sg v, K.map sg, rfl, rfl, ?_⟩
          show if (!decide (sg v ∈ K.map sg)) = true then _ else _
          rw [mem v]
          refine if_case (c := !decide (v ∈ K)) (fun ev => ?_) (fun ev => ?_)
          · have ev : v ∉ K := fun z => by rw [decide_eq_true z] at ev; cases ev
            refine ⟨cell_ok put_same, ?_⟩
            have fw := found_few nK rK
            refine ⟨two u v, _, put_same, by rw [List.length_map, List.length_map, sizeLine_eq]; omega, ?_⟩
            rw [put_put]
            have ek : (K.map sg).map D.str ++ [D.str (sg v)] = ((K ++ [v]).map sg).map D.str := by
              rw [List.map_append, List.map_append]
              rfl
            refine ⟨K ++ [v], _, ?_, List.mem_append_left _ mK, fun c hc => ?_, fun c hc => List.mem_append_left _ (sub c hc), .inr ?_, by rw [← ek]; rfl, rfl⟩
            · exact List.nodup_append.mpr ⟨nK, by simp, fun a ha c hc e => ev (by rw [← List.mem_singleton.mp hc, ← e]; exact ha)⟩
            · rcases List.mem_append.mp hc with q | q
              · exact rK c q
              · rw [List.mem_singleton.mp q]
                have := (rK u eu)
                have s := Reach.step (E := arrE ts l) (i := j) (h := h0) (by rw [eE]; exact this) hj
                rw [eE] at s
                exact s
            · rw [List.length_append]
              show _ ≤ K.length + 1
              rcases pr with ⟨e, _⟩ | g
              · rw [e]; omega
              · omega
          · have ev : v ∈ K := Decidable.by_contra fun z => by rw [decide_eq_false z] at ev; cases ev
            exact ⟨K, _, nK, mK, rK, sub, keep fun _ => ev, rfl, rfl⟩
        · have eu := of_decide_eq_false eu
          exact ⟨K, _, nK, mK, rK, sub, keep fun z => absurd z eu, rfl, rfl⟩
      · rintro δ' μ' ⟨K, o4, nK, mK, rK, sub, pr, rfl, rfl⟩
        rw [lwm] at pr
        refine ⟨K, _, o4, nK, mK, rK, ?_, rfl, rfl⟩
        rcases pr with ⟨e, cl⟩ | g
        · exact .inl fun i hi => cl i hi hi
        · rcases prog with c | q
          · by_cases full : ts.length + 1 ≤ K.length
            · exact .inl fun i hi _ => full_closed nK rK full i hi
            · have hK : ∀ v ∈ K, v ∈ K0 := fun v hv => (rK v hv).within m0 c
              have := nK.length_le_of_subset hK
              omega
          · exact .inr (by omega)
    · rintro δ' μ' ⟨K, o3, o4, nK, mK, rK, prog, rfl, rfl⟩
      rw [lwm] at prog
      have cl : ∀ i, i < ts.length → (arrE ts l i).1 ∈ K → (arrE ts l i).2 ∈ K := by
        rcases prog with c | q
        · exact c
        · exact fun i hi _ => full_closed nK rK q i hi
      exact ⟨_, _, .frz put_same, by rw [del_put nb]; exact h K fun v => ⟨rK v, fun r => r.within mK cl⟩⟩
def N58 : List Str := ["_law_ways_here", "_law_k"]
theorem sc58 : FnScope N58 ["_law_ways_here", "_law_k"] (defScope (top 58)) := ⟨rfl, rfl, rfl, by decide +kernel, rfl, by decide +kernel, by decide +kernel⟩
theorem ok_L_in_ring (T : Tx K mg A) : FnOk P A.w K mg base CX0 2 A.L_in_ring A.fd_L_in_ring ["_law_ways_here", "_law_k"] (toSp K (g_L_in_ring)) := by
  refine okD T.F_L_in_ring sc58 (fun ds μ R h => ?_) ⟨_, fun cdv A0 outer s H E hr =>
    (dss_one (ds_ret (de_cmp op_inA sim_in (de_ix ix_any sim_ix (de_ix ix_any sim_ix (dv 0) (dv 1) (fun _ _ => rfl)) de_int (fun _ _ => rfl)) (de_call ((ok_L_reach T).mono (by decide)) hr (by rfl) T.g_L_reach T.F_L_reach.kp T.b_L_reach (da_cons (dv 0) (da_cons (de_ix ix_any sim_ix (de_ix ix_any sim_ix (dv 0) (dv 1) (fun _ _ => rfl)) de_int (fun _ _ => rfl)) da_nil))) rfl))), fun ds μ R h => ?_⟩
  · obtain ⟨p, ts, l, k, rfl, _⟩ := h
    rfl
  · obtain ⟨p, ts, l, k, rfl, ot, hl, few, hk, h⟩ := h
    have two : ∀ a b : Nat, (yTie a b).length ≤ sizeLine := fun a b => by show 2 ≤ sizeLine; decide
    obtain ⟨u, v, hw, _, _, eE, _⟩ := way_at ot hl hk
    have hat : ((waysL ts l).map D.str)[k]? = some (.str (yTie u v)) := by rw [List.getElem?_map, hw]; rfl
    refine atK_nat hat ?_
    refine ⟨two u v, ?_⟩
    refine atK_nat hat ?_
    refine ⟨two u v, ?_⟩
    refine ⟨p, ts, l, v, rfl, ot, hl, few, fun K hK => ?_⟩
    refine .inr ⟨sg u, K.map sg, rfl, rfl, ?_⟩
    refine h (decide (sg u ∈ K.map sg)) ?_
    rw [decide_eq_true_iff]
    unfold InRing
    rw [eE, ← hK]
    exact ⟨fun z => by
      obtain ⟨y, hy, e⟩ := List.mem_map.mp z
      rw [← sg_inj e]
      exact hy, fun z => List.mem_map.mpr ⟨u, z, rfl⟩⟩
def N60 : List Str := ["_law_places_here", "_law_found", "_law_place", "_law_herd"]
theorem sc60 : FnScope N60 ["_law_places_here"] (defScope (top 60)) := ⟨rfl, rfl, rfl, by decide +kernel, rfl, by decide +kernel, by decide +kernel⟩
theorem ok_L_herds (T : Tx K mg A) : FnOk P A.w K mg base CX0 1 A.L_herds A.fd_L_herds ["_law_places_here"] (toSp K (g_L_herds)) := by
  refine okD T.F_L_herds sc60 (fun ds μ R h => ?_) ⟨_, fun cdv A0 outer s H E hr =>
    (dss_cons (ds_set sc60.nd (i := 1) rfl (by first | exact Or.inl rfl | exact Or.inr rfl) (de_lst (da_cons de_str da_nil)))
      (dss_cons (ds_for PassesOwn.never rfl (di_str (dv 0)) (pg_name (i := 2) sc60.nd rfl (by first | exact Or.inl rfl | exact Or.inr rfl)) (sim_nm (i := 2))
      (dss_one (ds_set sc60.nd (i := 1) rfl (by first | exact Or.inl rfl | exact Or.inr rfl) (de_op op_plus sim_plus (dv 1) (de_lc (own := [("_law_herd", 3)]) (by rfl) sc60.nd (di_both (dv 1)) (blkOk_by (N := N60) (own := [("_law_herd", 3)]) (sc := defScope (top 60)) (by decide +kernel)) (fun _ _ _ _ _ => (pg_name (i := 3) sc60.nd rfl (by first | exact Or.inl rfl | exact Or.inr rfl))) (sim_nm (i := 3)) (fun _ _ _ _ _ => dts_nil) (fun _ _ _ _ _ => (de_op op_plus sim_plus (dv 3) (dv 2))))))))
      (dss_one (ds_ret (dv 1))))), fun ds μ R h => ?_⟩
  · obtain ⟨p, rfl, _⟩ := h
    rfl
  · obtain ⟨p, rfl, few, h⟩ := h
    refine ⟨by show 1 ≤ sizeLine; decide, ?_⟩
    have e0 : ("" : Str) = toS [] := by decide +kernel
    refine ⟨fun i δ' μ' => μ' = μ ∧ ∃ o2, δ' = [some (.str (toS p)), some (.lst ((subsL (p.take i)).map dHerd)), o2, none], ⟨rfl, none, by rw [e0]; rfl⟩, ?_, ?_⟩
    · rintro i x δ' μ' hx ⟨rfl, o2, rfl⟩
      obtain ⟨c, hc, rfl⟩ := signs_at hx
      have hi : i < p.length := (List.getElem?_eq_some_iff.mp hc).1
      have fw : (subsL (p.take i)).length ≤ 256 := by
        rw [subs_few, List.length_take]
        exact Nat.le_trans (Nat.pow_le_pow_right (by decide) (show min i p.length ≤ 8 by omega)) (by decide)
      show LcB _ _ _ _ _ _ _ _
      refine lcb_map (addC c) ?_ ?_ ?_
      · rw [List.length_map, sizeLine_eq]
        omega
      · intro x hx μ2 Y _ hy
        obtain ⟨h2, hh, rfl⟩ := List.mem_map.mp hx
        have := subs_len hh
        rw [List.length_take] at this
        refine ⟨?_, hy⟩
        show h2.toArray.size + 1 ≤ sizeLine
        rw [List.size_toArray, sizeLine_eq]
        omega
      · have em : ((subsL (p.take i)).map dHerd).map (addC c) = ((subsL (p.take i)).map (· ++ [c])).map dHerd := by
          rw [List.map_map, List.map_map]
          refine List.map_congr_left fun h2 _ => ?_
          show D.str (toS h2 ++ ⟨#[c]⟩) = D.str (toS (h2 ++ [c]))
          rw [toS_add]
        rw [em]
        refine ⟨by rw [List.length_map, List.length_map, List.length_map, sizeLine_eq]; omega, rfl, some (.str ⟨#[c]⟩), ?_⟩
        show _ = [some (D.str (toS p)), some (D.lst ((subsL (p.take (i + 1))).map dHerd)), some (D.str ⟨#[c]⟩), none]
        rw [take_succ_get hc, subs_snoc, List.map_append]
        rfl
    · rintro δ' μ' ⟨rfl, o2, rfl⟩
      rw [signs_len, List.take_length]
      exact h
def N61 : List Str := ["_law_ties_here", "_law_ways_here", "_law_herd", "_law_lot", "_law_due", "_law_k"]
theorem sc61 : FnScope N61 ["_law_ties_here", "_law_ways_here", "_law_herd", "_law_lot"] (defScope (top 61)) := ⟨rfl, rfl, rfl, by decide +kernel, rfl, by decide +kernel, by decide +kernel⟩
theorem ok_L_leads_out (T : Tx K mg A) : FnOk P A.w K mg base CX0 1 A.L_leads_out A.fd_L_leads_out ["_law_ties_here", "_law_ways_here", "_law_herd", "_law_lot"] (toSp K (g_L_leads_out)) := by
  refine okD T.F_L_leads_out sc61 (fun ds μ R h => ?_) ⟨_, fun cdv A0 outer s H E hr =>
    (dss_cons (ds_setLc (i := 4) (own := [("_law_k", 5)]) (by rfl) sc61.nd rfl rfl (sw_true rfl rfl rfl (by decide +kernel)) (di_range (by rfl) T.z_range (da_cons (de_callB cr_len sim_len (by rfl) T.z_len boot_len (da_cons (dv 0) da_nil)) da_nil)) (blkOk_by (N := N61) (own := [("_law_k", 5)]) (sc := defScope (top 61)) (by decide +kernel)) (fun _ _ _ _ _ => (pg_name (i := 5) sc61.nd rfl (by first | exact Or.inl rfl | exact Or.inr rfl))) (sim_nm (i := 5)) (fun _ _ _ _ _ => (dts_one (dt_cmp (op_neA hr.units) sim_ne (de_cmp op_inA sim_in (de_ix ix_any sim_ix (de_ix ix_any sim_ix (dv 0) (dv 5) (fun _ _ => rfl)) de_int (fun _ _ => rfl)) (dv 2) rfl) (de_cmp op_inA sim_in (de_ix ix_any sim_ix (de_ix ix_any sim_ix (dv 0) (dv 5) (fun _ _ => rfl)) de_int (fun _ _ => rfl)) (dv 2) rfl) (nomark _)))) (fun _ _ _ _ _ => (dv 5)))
      (dss_one (ds_ret (de_and (de_cmp (op_neA hr.units) sim_ne (dv 4) (de_lst da_nil) (nomark _)) (de_and (de_cmp (op_eqA hr.units) sim_eq (de_callTy call_list_of sim_list (by rfl) T.z_list boot_list (da_cons (dv 3) da_nil)) (dv 4) (nomark _)) (de_one (de_callB (cr_all (by rfl)) sim_all (by rfl) T.z_all boot_all (da_cons (de_lc (own := [("_law_k", 5)]) (by rfl) sc61.nd (di_both (dv 4)) (blkOk_by (N := N61) (own := [("_law_k", 5)]) (sc := defScope (top 61)) (by decide +kernel)) (fun _ _ _ _ _ => (pg_name (i := 5) sc61.nd rfl (by first | exact Or.inl rfl | exact Or.inr rfl))) (sim_nm (i := 5)) (fun _ _ _ _ _ => dts_nil) (fun _ _ _ _ _ => (de_cmp op_inA sim_in (de_ix ix_any sim_ix (de_ix ix_any sim_ix (dv 1) (dv 5) (fun _ _ => rfl)) de_int (fun _ _ => rfl)) (dv 2) rfl))) da_nil)))))))), fun ds μ R h => ?_⟩
  · obtain ⟨p, ts, l, hd, lot, rfl, _⟩ := h
    rfl
  · obtain ⟨p, ts, l, hd, lot, rfl, ot, hl, few, h8, l11, h⟩ := h
    have z0 : 0 ≤ sizeLine := by decide
    have sz2 : 2 ≤ sizeLine := by decide
    have two : ∀ a b : Nat, (yTie a b).length ≤ sizeLine := fun a b => by show 2 ≤ sizeLine; decide
    have lt : (ts.map D.str).length = ts.length := List.length_map _
    refine ⟨⟨by omega, by omega⟩, ?_⟩
    rw [lt, Int.toNat_natCast]
    show LcB _ _ _ _ _ _ _ _
    refine lcb_pure (fun d => match d with | .int k => crB hd (ts.getD k.toNat Str.empty) | _ => false) id ?_ ?_ ?_
    · rw [List.length_map, List.length_range, sizeLine_eq]
      omega
    · intro d hx ν N Y _ hN hY
      obtain ⟨k, hk, rfl⟩ := List.mem_map.mp hx
      have hk := List.mem_range.mp hk
      have hN : crB hd (ts.getD k Str.empty) = false → N ν := hN
      have hY : crB hd (ts.getD k Str.empty) = true → Y (.int (k : Nat)) ν := hY
      obtain ⟨a, b, e, _, _, _⟩ := ot.ties ts[k] (List.getElem_mem hk)
      have e : ts[k] = yTie a b := e
      have hat : ts[k]? = some (yTie a b) := by rw [List.getElem?_eq_getElem hk, e]
      have hat2 : (ts.map D.str)[k]? = some (.str (yTie a b)) := by rw [List.getElem?_map, hat]; rfl
      rw [List.getD_eq_getElem?_getD, hat] at hN hY
      refine atK_nat hat2 ?_
      refine ⟨two a b, a, rfl, ?_⟩
      refine atK_nat hat2 ?_
      refine ⟨two a b, b, rfl, ?_⟩
      have ec : (!decide (decide (a ∈ (toS hd).cps.toList) = decide (b ∈ (toS hd).cps.toList))) = crB hd (yTie a b) := by
        rw [toS_list]
        unfold crB
        show _ = (decide (a ∈ hd) != decide (b ∈ hd))
        cases decide (a ∈ hd) <;> cases decide (b ∈ hd) <;> rfl
      show if (!decide (decide (a ∈ (toS hd).cps.toList) = decide (b ∈ (toS hd).cps.toList))) = true then _ else _
      rw [ec]
      exact if_case (fun e => hY e) (fun e => hN e)
    have ed : (((List.range ts.length).map fun i => D.int (i : Nat)).filter fun d => match d with | .int k => crB hd (ts.getD k.toNat Str.empty) | _ => false).map id = dIdx (crossL ts hd) := by
      unfold dIdx crossL
      rw [List.map_id, List.filter_map, List.map_map]
      rfl
    rw [ed]
    have inr : ∀ i ∈ crossL ts hd, i < ts.length := fun i hi => List.mem_range.mp (List.mem_filter.mp hi).1
    have few2 : (crossL ts hd).length ≤ 11 := by
      have := List.length_filter_le (fun i => crB hd (ts.getD i Str.empty)) (List.range ts.length)
      rw [List.length_range] at this
      unfold crossL
      omega
    generalize crossL ts hd = due at inr few2 h ⊢
    refine ⟨z0, ?_⟩
    refine LayL.none (layL_ints (due.map Int.ofNat) 0) (by decide) ?_
    refine if_case (c := !decide ((due.map Int.ofNat).map D.int = [])) (fun e => ?_) (fun e => ?_)
    · refine (lay_lst (layL_ints (lot.map Int.ofNat) 0)).cmp (lay_lst (layL_ints (due.map Int.ofNat) 0)) (by decide) (by decide) ?_
      have ee : PyData.eqv (.list ((lot.map Int.ofNat).map .int)) (.list ((due.map Int.ofNat).map .int)) = decide (lot.map Int.ofNat = due.map Int.ofNat) := by
        unfold PyData.eqv
        exact eqvAll_ints _ _
      rw [ee]
      refine if_case (c := decide (lot.map Int.ofNat = due.map Int.ofNat)) (fun e2 => ?_) (fun e2 => ?_)
      · show LcB _ _ _ _ _ _ (dIdx due) _
        refine lcb_map (fun d => match d with | .int k => .bl (decide ((arrE ts l k.toNat).1 ∈ hd)) | d => d) ?_ ?_ ?_
        · rw [dIdx_len, sizeLine_eq]
          omega
        · intro x hx ν Y _ hY
          obtain ⟨k, hk, rfl⟩ := dIdx_mem hx
          have hY : Y (.bl (decide ((arrE ts l k).1 ∈ hd))) ν := hY
          obtain ⟨u, v, hw, _, _, eE, _⟩ := way_at ot hl (inr k hk)
          rw [eE] at hY
          refine atK_nat (j := k) (d := .str (yTie u v)) (by rw [List.getElem?_map, hw]; rfl) ?_
          refine ⟨two u v, u, rfl, ?_⟩
          show Y (.bl (decide (u ∈ (toS hd).cps.toList))) ν
          rw [toS_list]
          exact hY
        · have em : (dIdx due).map (fun d => match d with | .int k => D.bl (decide ((arrE ts l k.toNat).1 ∈ hd)) | d => d) = (due.map fun k => decide ((arrE ts l k).1 ∈ hd)).map D.bl := by
            unfold dIdx
            rw [List.map_map, List.map_map, List.map_map]
            rfl
          rw [em]
          refine ⟨_, rfl, h _ fun el _ al => ?_⟩
          rw [List.all_eq_true]
          intro b hb
          obtain ⟨k, hk, rfl⟩ := List.mem_map.mp hb
          exact decide_eq_true (al k (by rw [el]; exact hk))
      · refine h _ fun el _ _ => ?_
        rw [el] at e2
        exact absurd rfl (of_decide_eq_false e2)
    · refine h _ fun el ne _ => ?_
      have e : due = [] := by
        have : (due.map Int.ofNat).map D.int = [] := Decidable.by_contra fun z => by rw [decide_eq_false z] at e; cases e
        exact List.map_eq_nil_iff.mp (List.map_eq_nil_iff.mp this)
      exact absurd (el.trans e) ne
def N63 : List Str := ["_law_places_here", "_law_ways_here", "_law_left", "_law_found", "_law_turn", "_law_free", "_law_place", "_law_way"]
theorem sc63 : FnScope N63 ["_law_places_here", "_law_ways_here"] (defScope (top 63)) := ⟨rfl, rfl, rfl, by decide +kernel, rfl, by decide +kernel, by decide +kernel⟩
theorem ok_L_first_order (T : Tx K mg A) : FnOk P A.w K mg base CX0 1 A.L_first_order A.fd_L_first_order ["_law_places_here", "_law_ways_here"] (toSp K (g_L_first_order)) := by
  refine okDF T.F_L_first_order sc63 (fun ds μ R h => ?_) ⟨_, fun cdv A0 outer s H E hr =>
    (dss_cons (ds_asg (de_tup (da_cons (de_callTy (call_listS (by rfl)) sim_listSC (by rfl) T.z_list boot_list (da_cons (dv 0) da_nil)) (da_cons de_str da_nil))) (pg_tup (n := 2) (by rfl) (pgs_cons (pg_name (i := 2) sc63.nd rfl (by first | exact Or.inl rfl | exact Or.inr rfl)) (pgs_cons (pg_name (i := 3) sc63.nd rfl (by first | exact Or.inl rfl | exact Or.inr rfl)) pgs_nil))) (sim_tupT (n := 2) (sim_consT (sim_nm (i := 2)) (sim_consT (sim_nm (i := 3)) sim_nilT))))
      (dss_cons (ds_for PassesOwn.never rfl (di_str (dv 0)) (pg_name (i := 4) sc63.nd rfl (by first | exact Or.inl rfl | exact Or.inr rfl)) (sim_nm (i := 4))
      (dss_cons (ds_setLcW (i := 5) (own := [("_law_place", 6)]) (by rfl) sc63.nd rfl rfl (sw_true rfl rfl rfl (by decide +kernel)) (dv 2) (blkOk_by (N := N63) (own := [("_law_place", 6)]) (sc := defScope (top 63)) (by decide +kernel)) (fun _ _ _ _ _ => (pg_name (i := 6) sc63.nd rfl (by first | exact Or.inl rfl | exact Or.inr rfl))) (sim_nm (i := 6)) (fun _ _ _ _ _ => (dts_one (dt_cmp (op_eqA hr.units) sim_eq (de_lc (own := [("_law_way", 7)]) (by rfl) sc63.nd (di_both (dv 1)) (blkOk_by (by kernel_rfl)) (fun _ _ _ _ _ => (pg_name (i := 7) sc63.nd rfl (by first | exact Or.inl rfl | exact Or.inr rfl))) (sim_nm (i := 7)) (fun _ _ _ _ _ => (dts_one (dw_and (dt_cmp (op_eqA hr.units) sim_eq (de_ix ix_any sim_ix (dv 7) de_int (fun _ _ => rfl)) (dv 6) (nomark _)) (dw_and1 (dt_cmp op_inA sim_inC (de_ix ix_any sim_ix (dv 7) de_int (fun _ _ => rfl)) (dv 2) rfl))).dt)) (fun _ _ _ _ _ => (dv 7))) (de_lst da_nil) (nomark _)))) (fun _ _ _ _ _ => (dv 6)))
      (dss_cons (ds_if (dt_cmp (op_eqA hr.units) sim_eq (dv 5) (de_lst da_nil) (nomark _)) (dss_one (ds_ret de_non)) dss_nil)
      (dss_cons (ds_expr (de_bm PySem.F.plainAttrs_list PySem.F.slot_list_remove PySem.F.type_list_remove mt_removeS sim_removeS ok_cell (dv 2) (da_cons (de_ix ix_any sim_ix (dv 5) de_int (fun _ _ => rfl)) da_nil)))
      (dss_one (ds_set sc63.nd (i := 3) rfl (by first | exact Or.inl rfl | exact Or.inr rfl) (de_op op_plus sim_plus (dv 3) (de_ix ix_any sim_ix (dv 5) de_int (fun _ _ => rfl)))))))))
      (dss_one (ds_ret (dv 3))))), fun ds μ R h => ?_⟩
  · obtain ⟨p, ts, l, rfl, _⟩ := h
    rfl
  · obtain ⟨p, ts, l, rfl, op, ot, hl, few, h⟩ := h
    have z0 : 0 ≤ sizeLine := by decide
    have sz2 : 2 ≤ sizeLine := by decide
    have two : ∀ a b : Nat, (yTie a b).length ≤ sizeLine := fun a b => by show 2 ≤ sizeLine; decide
    have p7 := op.few
    have pn : p.Nodup := op.asc.imp fun h => Nat.ne_of_lt h
    have lw : (waysL ts l).length = ts.length := by
      unfold waysL
      rw [List.length_zipWith]
      omega
    refine ⟨by rw [toS_size, sizeLine_eq]; omega, fun b nb => ?_⟩
    refine ⟨sz2, rfl, ?_⟩
    rw [signs_chs]
    have fin : ∀ (d : D) (L : List D), R d μ → freed R d (put μ b (.lst L)) := fun d L hd => by
      refine ⟨_, μ, .less fun c o e => ?_, hd⟩
      rw [put_ne (fun z => by rw [z, nb] at e; cases e)]
      exact e
    have front : ∀ (q : List Nat) (c : Nat), decide (((waysL ts l).filter fun w => decide ((ends w).2 = c) && decide ((ends w).1 ∈ q)) = []) = (List.range ts.length).all fun i => !(decide ((arrE ts l i).1 ∈ q) && decide ((arrE ts l i).2 = c)) := fun q c => by
      rw [Bool.eq_iff_iff, decide_eq_true_iff, List.filter_eq_nil_iff, List.all_eq_true]
      constructor
      · intro h1 i hi
        obtain ⟨u, v, hw, _, _, eE, _⟩ := way_at ot hl (List.mem_range.mp hi)
        have := h1 _ (List.mem_of_getElem? hw)
        rw [eE]
        have this : ¬ (decide (v = c) && decide (u ∈ q)) = true := this
        show (!(decide (u ∈ q) && decide (v = c))) = true
        revert this
        cases decide (u ∈ q) <;> cases decide (v = c) <;> first | exact fun _ => rfl | exact fun z => absurd rfl z
      · intro h1 w hw
        obtain ⟨i, u, v, hi, rfl, eE, _, _⟩ := row_at ot hl hw
        have := h1 i (List.mem_range.mpr hi)
        rw [eE] at this
        have this : (!(decide (u ∈ q) && decide (v = c))) = true := this
        show ¬ (decide (v = c) && decide (u ∈ q)) = true
        revert this
        cases decide (u ∈ q) <;> cases decide (v = c) <;> first | exact fun _ => Bool.false_ne_true | exact fun z => absurd z Bool.false_ne_true
    refine ⟨fun i δ' μ' => i ≤ p.length ∧ ∃ (q o : List Nat) (o4 o5 : Option D), q.length + i = p.length ∧ o.length = i ∧ q.Nodup ∧ (∀ c ∈ q, c ∈ p) ∧ ordL (arrE ts l) ts.length p = (ordL (arrE ts l) ts.length q).map (o ++ ·) ∧ μ' = put μ b (.lst (chs q)) ∧
      δ' = [some (.str (toS p)), some (.lst ((waysL ts l).map D.str)), some (.adr b), some (.str (toS o)), o4, o5, none, none], ⟨Nat.zero_le _, p, [], none, none, rfl, rfl, pn, (fun c hc => hc), ?_, rfl, ?_⟩, ?_, ?_⟩
    · cases ordL (arrE ts l) ts.length p <;> rfl
    · have : ("" : Str) = toS [] := by decide +kernel
      show [_, _, _, some (D.str ("" : Str)), _, _, _, _] = _
      rw [this]
    · rintro i x δ' μ' hx ⟨_, q, o, o4, o5, lq, lo, qn, sub, eo, rfl, rfl⟩
      have hi : i < p.length := by
        have := (List.getElem?_eq_some_iff.mp hx).1
        rw [signs_len] at this
        exact this
      have qne : q ≠ [] := fun z => by rw [z] at lq; change 0 + i = p.length at lq; omega
      refine ⟨chs q, put_same, ?_⟩
      refine lcw_pure (fun d => match d with | .str y => (List.range ts.length).all fun i => !(decide ((arrE ts l i).1 ∈ q) && decide ((arrE ts l i).2 = y.cps.toList.getD 0 0)) | _ => false) id put_same ?_ ?_ ?_
      · rw [chs_len, sizeLine_eq]
        omega
      · intro d hd ν N Y kn hN hY
        obtain ⟨c, hc, rfl⟩ := chs_in hd
        have hN : ((List.range ts.length).all fun i => !(decide ((arrE ts l i).1 ∈ q) && decide ((arrE ts l i).2 = c))) = false → N ν := hN
        have hY : ((List.range ts.length).all fun i => !(decide ((arrE ts l i).1 ∈ q) && decide ((arrE ts l i).2 = c))) = true → Y (.str (sg c)) ν := hY
        rw [← front q c] at hN hY
        show LcB _ _ _ _ _ _ _ _
        refine lcb_pure (fun d => match d with | .str w => decide ((ends w).2 = c) && decide ((ends w).1 ∈ q) | _ => false) id ?_ ?_ ?_
        · rw [List.length_map, sizeLine_eq]
          omega
        · intro d hd ν2 N2 Y2 kn2 hN2 hY2
          obtain ⟨w, hw, rfl⟩ := List.mem_map.mp hd
          obtain ⟨_, u, v, _, rfl, _, _, _⟩ := row_at ot hl hw
          have hN2 : (decide (v = c) && decide (u ∈ q)) = false → N2 ν2 := hN2
          have hY2 : (decide (v = c) && decide (u ∈ q)) = true → Y2 (.str (yTie u v)) ν2 := hY2
          refine ⟨two u v, ?_⟩
          have ev : decide (sg v = sg c) = decide (v = c) := decide_eq_decide.mpr ⟨fun e => sg_inj e, fun e => by rw [e]⟩
          show if decide (sg v = sg c) = true then _ else _
          rw [ev]
          refine if_case (c := decide (v = c)) (fun e => ?_) (fun e => ?_)
          · rw [e, Bool.true_and] at hN2 hY2
            refine ⟨two u v, chs q, kn2 _ _ (kn _ _ put_same), ?_⟩
            have ec : chs q = (q.map sg).map D.str := by unfold chs; rw [List.map_map]; rfl
            have em : decide (sg u ∈ q.map sg) = decide (u ∈ q) := decide_eq_decide.mpr ⟨fun z => by
              obtain ⟨y, hy, e⟩ := List.mem_map.mp z
              rw [← sg_inj e]
              exact hy, fun z => List.mem_map.mpr ⟨u, z, rfl⟩⟩
            refine .inr ⟨sg u, q.map sg, rfl, ec, ?_⟩
            show if decide (sg u ∈ q.map sg) = true then _ else _
            rw [em]
            exact if_case (fun e => hY2 e) (fun e => hN2 e)
          · rw [e, Bool.false_and] at hN2
            exact hN2 rfl
        · have ef : (((waysL ts l).map D.str).filter fun d => match d with | .str w => decide ((ends w).2 = c) && decide ((ends w).1 ∈ q) | _ => false).map id = ((waysL ts l).filter fun w => decide ((ends w).2 = c) && decide ((ends w).1 ∈ q)).map D.str := by
            rw [List.map_id, List.filter_map]
            rfl
          rw [ef]
          refine ⟨z0, ?_⟩
          refine LayL.none (k := id) (lay_way op ot hl (fun w hw => (List.mem_filter.mp hw).1) 0) (by decide) ?_
          have en : decide (((waysL ts l).filter fun w => decide ((ends w).2 = c) && decide ((ends w).1 ∈ q)).map D.str = []) = decide (((waysL ts l).filter fun w => decide ((ends w).2 = c) && decide ((ends w).1 ∈ q)) = []) := decide_eq_decide.mpr List.map_eq_nil_iff
          show if decide (((waysL ts l).filter fun w => decide ((ends w).2 = c) && decide ((ends w).1 ∈ q)).map D.str = []) = true then _ else _
          rw [en]
          exact if_case (fun e => hY e) (fun e => hN e)
      · have ef : ((chs q).filter fun d => match d with | .str y => (List.range ts.length).all fun i => !(decide ((arrE ts l i).1 ∈ q) && decide ((arrE ts l i).2 = y.cps.toList.getD 0 0)) | _ => false).map id = chs (frontsL (arrE ts l) ts.length q) := by
          unfold chs frontsL
          rw [List.map_id, List.filter_map]
          rfl
        rw [ef]
        have subf : ∀ c ∈ frontsL (arrE ts l) ts.length q, c ∈ q := fun c hc => (fronts_mem.mp hc).1
        refine ⟨z0, ?_⟩
        refine LayL.none (k := id) (lay_chs op (fun c hc => sub c (subf c hc)) 0) (by decide) ?_
        cases hf : frontsL (arrE ts l) ts.length q with
        | nil =>
          rw [ord_none qne hf] at eo
          rw [eo] at h
          exact fin _ _ h
        | cons c r =>
          have hc := subf c (by rw [hf]; exact List.mem_cons_self)
          obtain ⟨j, hj, ej⟩ := List.getElem_of_mem hc
          have hj2 : q[j]? = some c := by rw [List.getElem?_eq_getElem hj, ej]
          have ec : chs q = (q.map sg).map D.str := by unfold chs; rw [List.map_map]; rfl
          have at0 : L2.atI (chs (c :: r)) (0 : Int) = some (D.str (sg c)) := atI_nat (j := 0) rfl
          refine ⟨cell_ok put_same, ?_⟩
          refine atK_nat (ds := chs (c :: r)) (j := 0) (d := D.str (sg c)) rfl ?_
          refine ⟨q.map sg, j, by rw [put_same, ec], by rw [List.getElem?_map, hj2]; rfl, fun m hm z => ?_, ?_⟩
          · rw [List.getElem?_map] at z
            have hm2 : m < q.length := by omega
            rw [List.getElem?_eq_getElem hm2] at z
            have := sg_inj (Option.some.inj z)
            have := (List.getElem_inj qn).mp (this.trans ej.symm)
            omega
          · rw [put_put]
            have er : ((q.map sg).eraseIdx j).map D.str = chs (lessQ q c) := by
              rw [← erase_less (q := q) (c := c) qn hj2]
              unfold chs
              rw [erase_map, List.map_map]
              rfl
            rw [er]
            have ll : q.length = (lessQ q c).length + 1 := less_one qn hc
            refine atK_nat (ds := chs (c :: r)) (j := 0) (d := D.str (sg c)) rfl ?_
            refine ⟨by show (toS o).length + 1 ≤ sizeLine; rw [toS_size, sizeLine_eq]; omega, ?_⟩
            refine ⟨hi, lessQ q c, o ++ [c], some x, some (.lst (chs (c :: r))), by omega, by rw [List.length_append, lo]; rfl, List.Pairwise.filter _ qn, fun x hx => sub x (List.mem_filter.mp hx).1, ?_, rfl, ?_⟩
            · rw [eo, ord_cons qn hf]
              show _ = (ordL (arrE ts l) ts.length (q.filter fun x => decide (x ≠ c))).map _
              rw [Option.map_map]
              congr 1
              funext z
              show o ++ (c :: z) = o ++ [c] ++ z
              rw [List.append_assoc]
              rfl
            · rw [← toS_add o c]
              rfl
    · rintro δ' μ' ⟨_, q, o, o4, o5, lq, lo, qn, sub, eo, rfl, rfl⟩
      rw [signs_len] at lq
      have qe : q = [] := List.length_eq_zero_iff.mp (by omega)
      subst qe
      rw [ord_nil] at eo
      rw [eo] at h
      have : R (.str (toS (o ++ []))) μ := h
      rw [List.append_nil] at this
      exact fin _ _ this
end
end K10
set_option Elab.async false
set_option linter.all false
set_option maxRecDepth 100000
namespace DL
open PySem PySem.Spec PyProof.Rows L2
/-! ### not in, of a list of bools -/
def gNotInB : G2 := fun x y μ R => match y with
  | .lst ds => ∃ (i : Bool) (ns : List Bool), x = .bl i ∧ ds = ns.map D.bl ∧ R (.bl (!decide (i ∈ ns))) μ
  | _ => False
theorem sim_notInB {K : PySem.W.Frag} : SimO K (rNotInA K) gNotInB := by
  intro x y dx dy H μ Q R rm rx ry q f
  cases dy <;> try exact False.elim q
  obtain ⟨i, ns, rfl, rfl, q⟩ := q
  obtain ⟨p, vs, rfl, i1, n1, l1⟩ := rep_lst ry
  have ev := repL_bls l1
  subst ev
  rw [rep_bl rx]
  refine .inr ⟨p, ns.map V.bl, rfl, .inl (SqL.of i1), rfl, flat_bls ns, ?_⟩
  rw [inV_bl]
  exact fw_now rm to_bl q f
end DL
set_option Elab.async false
set_option linter.all false
set_option maxRecDepth 100000
namespace K10
open PySem PySem.Spec PyProof.Rows L2 DL
section
variable {P : Program} {w : World} {K : PySem.W.Frag} {mg : Str → Option Value} {base : Heap} {A : Ad}
/-! ### the law -/
theorem tup_sameN {ds : List D} {ps : List PyData} {n : Nat} {μ : Mu} {R : KD} (h : LayL ds ps n) (hn : n + 1 ≤ 64) (q : R (.bl false) μ) : gNe (.tup ds) (.tup ds) μ R := (lay_tup h).same (k := not) hn q
theorem okDGF {x qual : Str} {st : Stmt} {f : Addr} {fd : FuncData} {N ps : List Str} {k : Nat} {g : GC} (F : Fun K x qual st f fd) (S : FnScope N ps (defScope st)) (len : ∀ ds μ R, g ds μ R → ds.length = ps.length)
    (h : ∃ gb : GS, (∀ (cdv : Value) (B0 : Around) (outer : List Env) (s : Shared) (H : Hp), Room k (B0.deeper (envOfC qual (defScope st) s.heap.objs.size f cdv)) → B0.guards = some [] →
        DSs (cxOf CX0 P A.w K mg base N qual (defScope st) f cdv B0 outer s H E0).nox (defBody st) gb) ∧
      ∀ ds μ R, g ds μ R → gb { nx := fun _ μ' => freed R .non μ', rt := freed R } (begin_ N ds) μ) : FnG P A.w K mg base (k + 1) f fd ps (toSp K g) := by
  obtain ⟨gb, hb, hg⟩ := h
  refine Fun.okG F S (fun vs H Q E ⟨ds, μ, R, rm, rl, q, fw⟩ => by rw [rl.length]; exact len ds μ R q) fun cdv A outer s H vs Q hr hG ⟨ds, μ, R, rm, rl, q, fw⟩ => ?_
  obtain ⟨t, a, b⟩ := (hb cdv A outer s H hr hG).ex
  have fw' := fw_freed fw
  refine ⟨t, a, b _ H (begin_ N ds) μ _ { nx := fun _ μ' => freed R .non μ', rt := freed R } rm ?_ ⟨fun σ H' δ μ' k rm' _ q' => fw' .non .non H' μ' k rm' (by unfold Rep; rfl) q', fw', fun _ _ _ _ _ _ _ z => z, fun _ _ _ _ _ _ _ z => z⟩ (hg ds μ R q)⟩
  show RepS K H μ (ds.map some ++ List.replicate (N.length - ds.length) none) (vs.map some ++ List.replicate (N.length - vs.length) none)
  rw [rl.length]
  exact repS_some _ rl
theorem lay_herds {p : List Nat} (op : OkPlaces p) {hs : List (List Nat)} (sub : ∀ h ∈ hs, h ∈ subsL p) (n : Nat) : LayL (hs.map dHerd) (hs.map fun h => PyData.str (toS h)) n := layL_map fun h hh => by
  refine lay_str ?_ n
  show h.toArray.all (· < 0x110000) = true
  rw [Array.all_eq_true']
  intro c hc
  have h1 := op.sign c (subs_in (sub h hh) c (by simpa using hc))
  exact decide_eq_true (by omega)
theorem oS_same {x : Option (List Nat)} {ν : Mu} {F : D → Mu → Prop} (h : F (.bl false) ν) : DL.gNe (oS x) (oS x) ν F := by
  cases x with
  | none => exact h
  | some o =>
    show F (.bl (!decide (toS o = toS o))) ν
    rw [decide_eq_true rfl]
    exact h
theorem Sh.bool (b : Bool) : Sh (.bool b) 0 13 := ⟨by unfold PyData.canLay0; rfl, by unfold PyData.intsShort; rfl, by unfold PyData.showable; rfl, by unfold PyData.depth; omega, by unfold PyData.weight; omega⟩
def g_L_ties_right (C : Addr) : GC := fun ds μ R => ∃ (p : List Nat) (ts : List Str) (l : List Bool), ds = [dWeb C p ts, .str (toS p), .lst ((waysL ts l).map D.str), .str (lnS l)] ∧ OkPlaces p ∧ OkT p ts ∧ l.length = ts.length ∧ ts.length ≤ 11 ∧ R (.bl true) μ
def g_L_right18 : GC := fun ds μ R => ∃ (a : Addr) (x y : Int), ds = [.adr a] ∧ μ a = some (pot x y 0) ∧ ∀ (x y : Int) (z' : Nat), R (.bl true) (put μ a (pot x y z'))
def N64 : List Str := ["_law_mine", "_law_places_here", "_law_ways_here", "_law_leaning_here", "_law_k", "_law_told", "_law_herds_here", "_law_herd"]
theorem sc64 : FnScope N64 ["_law_mine", "_law_places_here", "_law_ways_here", "_law_leaning_here"] (defScope (top 64)) := ⟨rfl, rfl, rfl, by decide +kernel, rfl, by decide +kernel, by decide +kernel⟩
theorem ok_L_ties_right (T : Tx K mg A) : FnOk P A.w K mg base CX0 8 A.L_ties_right A.fd_L_ties_right ["_law_mine", "_law_places_here", "_law_ways_here", "_law_leaning_here"] (toSp K (g_L_ties_right A.Web)) := by
  refine okD T.F_L_ties_right sc64 (fun ds μ R h => ?_) ⟨_, fun cdv A0 outer s H E hr =>
    (dss_cons (ds_for PassesOwn.never rfl (di_range (by rfl) T.z_range (da_cons (de_callB cr_len sim_len (by rfl) T.z_len boot_len (da_cons (dv 2) da_nil)) da_nil)) (pg_name (i := 4) sc64.nd rfl (by first | exact Or.inl rfl | exact Or.inr rfl)) (sim_nm (i := 4))
      (dss_cons (ds_set sc64.nd (i := 5) rfl (by first | exact Or.inl rfl | exact Or.inr rfl) (de_if (dt_cmp op_gtA sim_ord (dv 4) de_int (nomark _)) (de_call ((ok_ring_or_cut T).mono (by decide)) hr (by rfl) T.g_ring_or_cut T.F_ring_or_cut.kp T.b_ring_or_cut (da_cons (dv 0) (da_cons (dv 3) (da_cons (dv 4) da_nil)))) (de_callK0 (gD := rev3) ((ok_ring_or_cut T).mono (by decide)) hr (by rfl) T.g_ring_or_cut T.F_ring_or_cut.kp T.kb_ring_or_cut (fun H μ ds vs h l => by exact rev3_rep h l) (dk_cons (dv 4) (dk_cons (dv 3) (dk_cons (dv 0) dk_nil))))))
      (dss_cons (ds_if (dw_or (dt_not (dt_val (de_isi (T := "tuple") (by rfl) T.z_isinstance (by rfl) T.z_tuple (by decide +kernel) (dv 5)))) (dw_or (dt_cmp (op_neA hr.units) sim_ne (de_callB cr_len sim_len (by rfl) T.z_len boot_len (da_cons (dv 5) da_nil)) de_int (nomark _)) (dw_or (dt_not (dt_val (de_isi (T := "tuple") (by rfl) T.z_isinstance (by rfl) T.z_tuple (by decide +kernel) (de_ix ix_any sim_ix (dv 5) de_int (fun _ _ => rfl))))) (dw_or1 (dt_cmp op_notInA sim_notIn (dv 4) (de_ix ix_any sim_ix (dv 5) de_int (fun _ _ => rfl)) rfl))))).dt (dss_one (ds_ret de_bl)) dss_nil)
      (dss_cons (ds_if (dw_or (dt_cmp (op_neA hr.units) sim_ne (de_callTy call_list_of sim_list (by rfl) T.z_list boot_list (da_cons (de_ix ix_any sim_ix (dv 5) de_int (fun _ _ => rfl)) da_nil)) (de_sortSetI (by rfl) (by rfl) T.z_sorted (by rfl) T.z_set (de_ix ix_any sim_ix (dv 5) de_int (fun _ _ => rfl))) (nomark _)) (dw_or1 (dt_cmp (op_neA hr.units) sim_ne (de_ix ix_any sim_ix (dv 5) de_int (fun _ _ => rfl)) (de_if (dt_val (de_call ((ok_L_in_ring T).mono (by decide)) hr (by rfl) T.g_L_in_ring T.F_L_in_ring.kp T.b_L_in_ring (da_cons (dv 2) (da_cons (dv 4) da_nil)))) de_str de_str) (nomark _)))).dt (dss_one (ds_ret de_bl)) dss_nil)
      (dss_cons (ds_setLc (i := 6) (own := [("_law_herd", 7)]) (by rfl) sc64.nd rfl rfl (sw_true rfl rfl rfl (by decide +kernel)) (di_both (de_call ((ok_L_herds T).mono (by decide)) hr (by rfl) T.g_L_herds T.F_L_herds.kp T.b_L_herds (da_cons (dv 1) da_nil))) (blkOk_by (N := N64) (own := [("_law_herd", 7)]) (sc := defScope (top 64)) (by decide +kernel)) (fun _ _ _ _ _ => (pg_name (i := 7) sc64.nd rfl (by first | exact Or.inl rfl | exact Or.inr rfl))) (sim_nm (i := 7)) (fun _ _ _ _ _ => (dts_one (dt_val (de_call ((ok_L_leads_out T).mono (by decide)) hr (by rfl) T.g_L_leads_out T.F_L_leads_out.kp T.b_L_leads_out (da_cons (de_fld T.k_Web T.n_ties (dv 0)) (da_cons (dv 2) (da_cons (dv 7) (da_cons (de_ix ix_any sim_ix (dv 5) de_int (fun _ _ => rfl)) da_nil)))))))) (fun _ _ _ _ _ => (dv 7)))
      (dss_one (ds_if (dw_or (dw_and (dt_cmp (op_eqA hr.units) sim_eq (de_ix ix_any sim_ix (dv 5) de_int (fun _ _ => rfl)) de_str (nomark _)) (dw_and1 (dt_not (dt_val (de_call ((ok_L_goes_round T).mono (by decide)) hr (by rfl) T.g_L_goes_round T.F_L_goes_round.kp T.b_L_goes_round (da_cons (dv 2) (da_cons (de_ix ix_any sim_ix (dv 5) de_int (fun _ _ => rfl)) da_nil))))))).dt (dw_or1 (dw_and (dt_cmp (op_eqA hr.units) sim_eq (de_ix ix_any sim_ix (dv 5) de_int (fun _ _ => rfl)) de_str (nomark _)) (dw_and1 (dt_cmp (op_eqA hr.units) sim_eq (dv 6) (de_lst da_nil) (nomark _)))).dt)).dt (dss_one (ds_ret de_bl)) dss_nil)))))))
      (dss_one (ds_ret de_bl))), fun ds μ R h => ?_⟩
  · obtain ⟨p, ts, l, rfl, _⟩ := h
    rfl
  · obtain ⟨p, ts, l, rfl, op, ot, hl, few, h⟩ := h
    have z0 : 0 ≤ sizeLine := by decide
    have p7 := op.few
    have lw : (waysL ts l).length = ts.length := by
      unfold waysL
      rw [List.length_zipWith]
      omega
    have lwm : ((waysL ts l).map D.str).length = ts.length := by rw [List.length_map, lw]
    refine ⟨⟨by omega, by omega⟩, ?_⟩
    rw [lwm, Int.toNat_natCast]
    refine ⟨fun k δ' μ' => μ' = μ ∧ k ≤ ts.length ∧ ∃ o4 o5 o6, δ' = [some (dWeb A.Web p ts), some (.str (toS p)), some (.lst ((waysL ts l).map D.str)), some (.str (lnS l)), o4, o5, o6, none], ⟨rfl, Nat.zero_le _, none, none, none, rfl⟩, ?_, ?_⟩
    · rintro k it δ' μ' hi ⟨rfl, _, o4, o5, o6, rfl⟩
      obtain ⟨hk2, rfl⟩ := range_at hi
      have hk : k < ts.length := hk2
      refine if_case (c := decide ((1 : Int) < (k : Int))) (fun _ => ?_) (fun _ => ?_)
      · refine ⟨p, ts, l, k, rfl, op, ot, hl, few, hk, fun ring r c asc cyc pr kin inr => ?_, fun noring hd hsub c1 c2 => ?_⟩
        · have rn : r.Nodup := asc.imp fun h => Nat.ne_of_lt h
          have lr : r.length ≤ 11 := by
            have := rn.length_le_of_subset fun x hx => List.mem_range.mpr (inr x hx)
            rw [List.length_range] at this
            omega
          refine ⟨_, true, rfl, by decide +kernel, ?_⟩
          refine ⟨_, true, rfl, by decide +kernel, ?_⟩
          show DL.inDs (.int (k : Nat)) ((r.map Int.ofNat).map D.int) fun b => DL.bK _ (.bl (!b)) μ'
          refine in_lot ?_
          rw [decide_eq_true kin]
          refine ⟨r.map Int.ofNat, rfl, by rw [List.length_map]; omega, fun out as mem => ?_⟩
          have eo : out = r.map Int.ofNat := by
            have ri : (r.map Int.ofNat).Pairwise (· < ·) := List.pairwise_map.mpr (asc.imp fun {x y} h => by show (x : Int) < (y : Int); omega)
            have pe : out.Perm (r.map Int.ofNat) := (List.perm_ext_iff_of_nodup (as.imp fun h => Int.ne_of_lt h) (ri.imp fun h => Int.ne_of_lt h)).mpr mem
            exact pe.eq_of_pairwise (fun a b _ _ h1 h2 => by omega) as ri
          subst eo
          refine lst_sameN (layL_ints (r.map Int.ofNat) 0) (by decide) ?_
          refine ⟨p, ts, l, k, rfl, ot, hl, few, hk, fun b hb => ?_⟩
          have eb : b = true := hb.mpr ring
          subst eb
          refine ⟨p, rfl, by omega, ?_⟩
          show LcB _ _ _ _ _ _ _ _
          refine lcb_eff (fun j ys ν => ν = μ' ∧ j ≤ (subsL p).length ∧ ∃ hs : List (List Nat), ys = hs.map dHerd ∧ hs.length ≤ j ∧ (∀ h ∈ hs, h ∈ subsL p) ∧ ∀ (i : Nat) (h : List Nat), i < j → (subsL p)[i]? = some h → r = crossL ts h → r ≠ [] → (∀ i ∈ r, (arrE ts l i).1 ∈ h) → h ∈ hs) ?_ ⟨rfl, Nat.zero_le _, [], rfl, Nat.le_refl _, (fun h hh => by cases hh), fun i h hi => absurd hi (Nat.not_lt_zero _)⟩ ?_ ?_ ?_
          · rw [List.length_map, subs_few, sizeLine_eq]
            have := Nat.pow_le_pow_right (show 0 < 2 by decide) (show p.length ≤ 8 by omega)
            omega
          · rintro j ys ν ⟨_, _, hs, rfl, lh, _⟩
            rw [List.length_map]
            exact lh
          · rintro j x hj a ys ν N Y na ⟨rfl, _, hs, rfl, lh, hin, good⟩ hN hY
            rw [List.getElem?_map] at hj
            obtain ⟨h2, hj2, rfl⟩ : ∃ h2, (subsL p)[j]? = some h2 ∧ x = dHerd h2 := by
              cases q : (subsL p)[j]? with
              | none => rw [q] at hj; cases hj
              | some h2 => rw [q] at hj; exact ⟨h2, rfl, (Option.some.inj hj).symm⟩
            have jl := (List.getElem?_eq_some_iff.mp hj2).1
            have l8 := subs_len (List.mem_of_getElem? hj2)
            refine ⟨rfl, _, rfl, ?_⟩
            refine ⟨p, ts, l, h2, r, rfl, ot, hl, few, by omega, lr, fun b hb => ?_⟩
            have step : ∀ hs' : List (List Nat), (∀ h ∈ hs, h ∈ hs') → ((r = crossL ts h2 → r ≠ [] → (∀ i ∈ r, (arrE ts l i).1 ∈ h2) → h2 ∈ hs')) → ∀ (i : Nat) (h : List Nat), i < j + 1 → (subsL p)[i]? = some h → r = crossL ts h → r ≠ [] → (∀ i ∈ r, (arrE ts l i).1 ∈ h) → h ∈ hs' := fun hs' s1 s2 i h hi hh g1 g2 g3 => by
              rcases Nat.lt_or_eq_of_le (Nat.le_of_lt_succ hi) with q | q
              · exact s1 h (good i h q hh g1 g2 g3)
              · subst q
                rw [hj2] at hh
                cases hh
                exact s2 g1 g2 g3
            refine if_case (c := b) (fun e => ?_) (fun e => ?_)
            · refine hY _ _ na ⟨rfl, jl, hs ++ [h2], by rw [List.map_append]; rfl, by rw [List.length_append]; show _ + 1 ≤ _; omega, fun h hh => ?_, step _ (fun h hh => List.mem_append_left _ hh) fun _ _ _ => List.mem_append_right _ (List.mem_singleton.mpr rfl)⟩
              rcases List.mem_append.mp hh with q | q
              · exact hin h q
              · rw [List.mem_singleton.mp q]
                exact List.mem_of_getElem? hj2
            · exact hN _ na ⟨rfl, jl, hs, rfl, by omega, hin, step _ (fun h hh => hh) fun g1 g2 g3 => by rw [hb g1 g2 g3] at e; cases e⟩
          · rintro ys ν ⟨rfl, _, hs, rfl, lh, hin, good⟩
            rw [List.length_map] at good
            refine ⟨p, ts, l, r, rfl, ot, hl, few, lr, inr, fun b hb => ?_⟩
            rw [hb ⟨c, cyc, pr⟩]
            exact ⟨rfl, hk, _, _, _, rfl⟩
        · have asc : (crossL ts hd).Pairwise (· < ·) := by
            unfold crossL
            exact List.Pairwise.filter _ List.pairwise_lt_range
          have inr : ∀ i ∈ crossL ts hd, i < ts.length := fun i hi => List.mem_range.mp (List.mem_filter.mp hi).1
          have kin := c1
          have rn : (crossL ts hd).Nodup := asc.imp fun h => Nat.ne_of_lt h
          have lr : (crossL ts hd).length ≤ 11 := by
            have := rn.length_le_of_subset fun x hx => List.mem_range.mpr (inr x hx)
            rw [List.length_range] at this
            omega
          refine ⟨_, true, rfl, by decide +kernel, ?_⟩
          refine ⟨_, true, rfl, by decide +kernel, ?_⟩
          show DL.inDs (.int (k : Nat)) (((crossL ts hd).map Int.ofNat).map D.int) fun b => DL.bK _ (.bl (!b)) μ'
          refine in_lot ?_
          rw [decide_eq_true kin]
          refine ⟨(crossL ts hd).map Int.ofNat, rfl, by rw [List.length_map]; omega, fun out as mem => ?_⟩
          have eo : out = (crossL ts hd).map Int.ofNat := by
            have ri : ((crossL ts hd).map Int.ofNat).Pairwise (· < ·) := List.pairwise_map.mpr (asc.imp fun {x y} h => by show (x : Int) < (y : Int); omega)
            have pe : out.Perm ((crossL ts hd).map Int.ofNat) := (List.perm_ext_iff_of_nodup (as.imp fun h => Int.ne_of_lt h) (ri.imp fun h => Int.ne_of_lt h)).mpr mem
            exact pe.eq_of_pairwise (fun a b _ _ h1 h2 => by omega) as ri
          subst eo
          refine lst_sameN (layL_ints ((crossL ts hd).map Int.ofNat) 0) (by decide) ?_
          refine ⟨p, ts, l, k, rfl, ot, hl, few, hk, fun b hb => ?_⟩
          have eb : b = false := Bool.eq_false_iff.mpr fun z => noring (hb.mp z)
          subst eb
          refine ⟨p, rfl, by omega, ?_⟩
          show LcB _ _ _ _ _ _ _ _
          refine lcb_eff (fun j ys ν => ν = μ' ∧ j ≤ (subsL p).length ∧ ∃ hs : List (List Nat), ys = hs.map dHerd ∧ hs.length ≤ j ∧ (∀ h ∈ hs, h ∈ subsL p) ∧ ∀ (i : Nat) (h : List Nat), i < j → (subsL p)[i]? = some h → (crossL ts hd) = crossL ts h → (crossL ts hd) ≠ [] → (∀ i ∈ (crossL ts hd), (arrE ts l i).1 ∈ h) → h ∈ hs) ?_ ⟨rfl, Nat.zero_le _, [], rfl, Nat.le_refl _, (fun h hh => by cases hh), fun i h hi => absurd hi (Nat.not_lt_zero _)⟩ ?_ ?_ ?_
          · rw [List.length_map, subs_few, sizeLine_eq]
            have := Nat.pow_le_pow_right (show 0 < 2 by decide) (show p.length ≤ 8 by omega)
            omega
          · rintro j ys ν ⟨_, _, hs, rfl, lh, _⟩
            rw [List.length_map]
            exact lh
          · rintro j x hj a ys ν N Y na ⟨rfl, _, hs, rfl, lh, hin, good⟩ hN hY
            rw [List.getElem?_map] at hj
            obtain ⟨h2, hj2, rfl⟩ : ∃ h2, (subsL p)[j]? = some h2 ∧ x = dHerd h2 := by
              cases q : (subsL p)[j]? with
              | none => rw [q] at hj; cases hj
              | some h2 => rw [q] at hj; exact ⟨h2, rfl, (Option.some.inj hj).symm⟩
            have jl := (List.getElem?_eq_some_iff.mp hj2).1
            have l8 := subs_len (List.mem_of_getElem? hj2)
            refine ⟨rfl, _, rfl, ?_⟩
            refine ⟨p, ts, l, h2, (crossL ts hd), rfl, ot, hl, few, by omega, lr, fun b hb => ?_⟩
            have step : ∀ hs' : List (List Nat), (∀ h ∈ hs, h ∈ hs') → (((crossL ts hd) = crossL ts h2 → (crossL ts hd) ≠ [] → (∀ i ∈ (crossL ts hd), (arrE ts l i).1 ∈ h2) → h2 ∈ hs')) → ∀ (i : Nat) (h : List Nat), i < j + 1 → (subsL p)[i]? = some h → (crossL ts hd) = crossL ts h → (crossL ts hd) ≠ [] → (∀ i ∈ (crossL ts hd), (arrE ts l i).1 ∈ h) → h ∈ hs' := fun hs' s1 s2 i h hi hh g1 g2 g3 => by
              rcases Nat.lt_or_eq_of_le (Nat.le_of_lt_succ hi) with q | q
              · exact s1 h (good i h q hh g1 g2 g3)
              · subst q
                rw [hj2] at hh
                cases hh
                exact s2 g1 g2 g3
            refine if_case (c := b) (fun e => ?_) (fun e => ?_)
            · refine hY _ _ na ⟨rfl, jl, hs ++ [h2], by rw [List.map_append]; rfl, by rw [List.length_append]; show _ + 1 ≤ _; omega, fun h hh => ?_, step _ (fun h hh => List.mem_append_left _ hh) fun _ _ _ => List.mem_append_right _ (List.mem_singleton.mpr rfl)⟩
              rcases List.mem_append.mp hh with q | q
              · exact hin h q
              · rw [List.mem_singleton.mp q]
                exact List.mem_of_getElem? hj2
            · exact hN _ na ⟨rfl, jl, hs, rfl, by omega, hin, step _ (fun h hh => hh) fun g1 g2 g3 => by rw [hb g1 g2 g3] at e; cases e⟩
          · rintro ys ν ⟨rfl, _, hs, rfl, lh, hin, good⟩
            rw [List.length_map] at good
            obtain ⟨i, hi, e⟩ := List.getElem_of_mem hsub
            have hin2 := good i hd hi (by rw [List.getElem?_eq_getElem hi, e]) rfl (List.ne_nil_of_mem c1) c2
            refine ⟨z0, ?_⟩
            refine LayL.none (k := id) (lay_herds op hin 0) (by decide) ?_
            have ne : decide (hs.map dHerd = []) = false := decide_eq_false fun z => by
              rw [List.map_eq_nil_iff.mp z] at hin2
              cases hin2
            show if decide (hs.map dHerd = []) = true then _ else _
            rw [ne]
            exact ⟨rfl, hk, _, _, _, rfl⟩
      · refine ⟨rfl, p, ts, l, k, rfl, op, ot, hl, few, hk, fun ring r c asc cyc pr kin inr => ?_, fun noring hd hsub c1 c2 => ?_⟩
        · have rn : r.Nodup := asc.imp fun h => Nat.ne_of_lt h
          have lr : r.length ≤ 11 := by
            have := rn.length_le_of_subset fun x hx => List.mem_range.mpr (inr x hx)
            rw [List.length_range] at this
            omega
          refine ⟨_, true, rfl, by decide +kernel, ?_⟩
          refine ⟨_, true, rfl, by decide +kernel, ?_⟩
          show DL.inDs (.int (k : Nat)) ((r.map Int.ofNat).map D.int) fun b => DL.bK _ (.bl (!b)) μ'
          refine in_lot ?_
          rw [decide_eq_true kin]
          refine ⟨r.map Int.ofNat, rfl, by rw [List.length_map]; omega, fun out as mem => ?_⟩
          have eo : out = r.map Int.ofNat := by
            have ri : (r.map Int.ofNat).Pairwise (· < ·) := List.pairwise_map.mpr (asc.imp fun {x y} h => by show (x : Int) < (y : Int); omega)
            have pe : out.Perm (r.map Int.ofNat) := (List.perm_ext_iff_of_nodup (as.imp fun h => Int.ne_of_lt h) (ri.imp fun h => Int.ne_of_lt h)).mpr mem
            exact pe.eq_of_pairwise (fun a b _ _ h1 h2 => by omega) as ri
          subst eo
          refine lst_sameN (layL_ints (r.map Int.ofNat) 0) (by decide) ?_
          refine ⟨p, ts, l, k, rfl, ot, hl, few, hk, fun b hb => ?_⟩
          have eb : b = true := hb.mpr ring
          subst eb
          refine ⟨p, rfl, by omega, ?_⟩
          show LcB _ _ _ _ _ _ _ _
          refine lcb_eff (fun j ys ν => ν = μ' ∧ j ≤ (subsL p).length ∧ ∃ hs : List (List Nat), ys = hs.map dHerd ∧ hs.length ≤ j ∧ (∀ h ∈ hs, h ∈ subsL p) ∧ ∀ (i : Nat) (h : List Nat), i < j → (subsL p)[i]? = some h → r = crossL ts h → r ≠ [] → (∀ i ∈ r, (arrE ts l i).1 ∈ h) → h ∈ hs) ?_ ⟨rfl, Nat.zero_le _, [], rfl, Nat.le_refl _, (fun h hh => by cases hh), fun i h hi => absurd hi (Nat.not_lt_zero _)⟩ ?_ ?_ ?_
          · rw [List.length_map, subs_few, sizeLine_eq]
            have := Nat.pow_le_pow_right (show 0 < 2 by decide) (show p.length ≤ 8 by omega)
            omega
          · rintro j ys ν ⟨_, _, hs, rfl, lh, _⟩
            rw [List.length_map]
            exact lh
          · rintro j x hj a ys ν N Y na ⟨rfl, _, hs, rfl, lh, hin, good⟩ hN hY
            rw [List.getElem?_map] at hj
            obtain ⟨h2, hj2, rfl⟩ : ∃ h2, (subsL p)[j]? = some h2 ∧ x = dHerd h2 := by
              cases q : (subsL p)[j]? with
              | none => rw [q] at hj; cases hj
              | some h2 => rw [q] at hj; exact ⟨h2, rfl, (Option.some.inj hj).symm⟩
            have jl := (List.getElem?_eq_some_iff.mp hj2).1
            have l8 := subs_len (List.mem_of_getElem? hj2)
            refine ⟨rfl, _, rfl, ?_⟩
            refine ⟨p, ts, l, h2, r, rfl, ot, hl, few, by omega, lr, fun b hb => ?_⟩
            have step : ∀ hs' : List (List Nat), (∀ h ∈ hs, h ∈ hs') → ((r = crossL ts h2 → r ≠ [] → (∀ i ∈ r, (arrE ts l i).1 ∈ h2) → h2 ∈ hs')) → ∀ (i : Nat) (h : List Nat), i < j + 1 → (subsL p)[i]? = some h → r = crossL ts h → r ≠ [] → (∀ i ∈ r, (arrE ts l i).1 ∈ h) → h ∈ hs' := fun hs' s1 s2 i h hi hh g1 g2 g3 => by
              rcases Nat.lt_or_eq_of_le (Nat.le_of_lt_succ hi) with q | q
              · exact s1 h (good i h q hh g1 g2 g3)
              · subst q
                rw [hj2] at hh
                cases hh
                exact s2 g1 g2 g3
            refine if_case (c := b) (fun e => ?_) (fun e => ?_)
            · refine hY _ _ na ⟨rfl, jl, hs ++ [h2], by rw [List.map_append]; rfl, by rw [List.length_append]; show _ + 1 ≤ _; omega, fun h hh => ?_, step _ (fun h hh => List.mem_append_left _ hh) fun _ _ _ => List.mem_append_right _ (List.mem_singleton.mpr rfl)⟩
              rcases List.mem_append.mp hh with q | q
              · exact hin h q
              · rw [List.mem_singleton.mp q]
                exact List.mem_of_getElem? hj2
            · exact hN _ na ⟨rfl, jl, hs, rfl, by omega, hin, step _ (fun h hh => hh) fun g1 g2 g3 => by rw [hb g1 g2 g3] at e; cases e⟩
          · rintro ys ν ⟨rfl, _, hs, rfl, lh, hin, good⟩
            rw [List.length_map] at good
            refine ⟨p, ts, l, r, rfl, ot, hl, few, lr, inr, fun b hb => ?_⟩
            rw [hb ⟨c, cyc, pr⟩]
            exact ⟨rfl, hk, _, _, _, rfl⟩
        · have asc : (crossL ts hd).Pairwise (· < ·) := by
            unfold crossL
            exact List.Pairwise.filter _ List.pairwise_lt_range
          have inr : ∀ i ∈ crossL ts hd, i < ts.length := fun i hi => List.mem_range.mp (List.mem_filter.mp hi).1
          have kin := c1
          have rn : (crossL ts hd).Nodup := asc.imp fun h => Nat.ne_of_lt h
          have lr : (crossL ts hd).length ≤ 11 := by
            have := rn.length_le_of_subset fun x hx => List.mem_range.mpr (inr x hx)
            rw [List.length_range] at this
            omega
          refine ⟨_, true, rfl, by decide +kernel, ?_⟩
          refine ⟨_, true, rfl, by decide +kernel, ?_⟩
          show DL.inDs (.int (k : Nat)) (((crossL ts hd).map Int.ofNat).map D.int) fun b => DL.bK _ (.bl (!b)) μ'
          refine in_lot ?_
          rw [decide_eq_true kin]
          refine ⟨(crossL ts hd).map Int.ofNat, rfl, by rw [List.length_map]; omega, fun out as mem => ?_⟩
          have eo : out = (crossL ts hd).map Int.ofNat := by
            have ri : ((crossL ts hd).map Int.ofNat).Pairwise (· < ·) := List.pairwise_map.mpr (asc.imp fun {x y} h => by show (x : Int) < (y : Int); omega)
            have pe : out.Perm ((crossL ts hd).map Int.ofNat) := (List.perm_ext_iff_of_nodup (as.imp fun h => Int.ne_of_lt h) (ri.imp fun h => Int.ne_of_lt h)).mpr mem
            exact pe.eq_of_pairwise (fun a b _ _ h1 h2 => by omega) as ri
          subst eo
          refine lst_sameN (layL_ints ((crossL ts hd).map Int.ofNat) 0) (by decide) ?_
          refine ⟨p, ts, l, k, rfl, ot, hl, few, hk, fun b hb => ?_⟩
          have eb : b = false := Bool.eq_false_iff.mpr fun z => noring (hb.mp z)
          subst eb
          refine ⟨p, rfl, by omega, ?_⟩
          show LcB _ _ _ _ _ _ _ _
          refine lcb_eff (fun j ys ν => ν = μ' ∧ j ≤ (subsL p).length ∧ ∃ hs : List (List Nat), ys = hs.map dHerd ∧ hs.length ≤ j ∧ (∀ h ∈ hs, h ∈ subsL p) ∧ ∀ (i : Nat) (h : List Nat), i < j → (subsL p)[i]? = some h → (crossL ts hd) = crossL ts h → (crossL ts hd) ≠ [] → (∀ i ∈ (crossL ts hd), (arrE ts l i).1 ∈ h) → h ∈ hs) ?_ ⟨rfl, Nat.zero_le _, [], rfl, Nat.le_refl _, (fun h hh => by cases hh), fun i h hi => absurd hi (Nat.not_lt_zero _)⟩ ?_ ?_ ?_
          · rw [List.length_map, subs_few, sizeLine_eq]
            have := Nat.pow_le_pow_right (show 0 < 2 by decide) (show p.length ≤ 8 by omega)
            omega
          · rintro j ys ν ⟨_, _, hs, rfl, lh, _⟩
            rw [List.length_map]
            exact lh
          · rintro j x hj a ys ν N Y na ⟨rfl, _, hs, rfl, lh, hin, good⟩ hN hY
            rw [List.getElem?_map] at hj
            obtain ⟨h2, hj2, rfl⟩ : ∃ h2, (subsL p)[j]? = some h2 ∧ x = dHerd h2 := by
              cases q : (subsL p)[j]? with
              | none => rw [q] at hj; cases hj
              | some h2 => rw [q] at hj; exact ⟨h2, rfl, (Option.some.inj hj).symm⟩
            have jl := (List.getElem?_eq_some_iff.mp hj2).1
            have l8 := subs_len (List.mem_of_getElem? hj2)
            refine ⟨rfl, _, rfl, ?_⟩
            refine ⟨p, ts, l, h2, (crossL ts hd), rfl, ot, hl, few, by omega, lr, fun b hb => ?_⟩
            have step : ∀ hs' : List (List Nat), (∀ h ∈ hs, h ∈ hs') → (((crossL ts hd) = crossL ts h2 → (crossL ts hd) ≠ [] → (∀ i ∈ (crossL ts hd), (arrE ts l i).1 ∈ h2) → h2 ∈ hs')) → ∀ (i : Nat) (h : List Nat), i < j + 1 → (subsL p)[i]? = some h → (crossL ts hd) = crossL ts h → (crossL ts hd) ≠ [] → (∀ i ∈ (crossL ts hd), (arrE ts l i).1 ∈ h) → h ∈ hs' := fun hs' s1 s2 i h hi hh g1 g2 g3 => by
              rcases Nat.lt_or_eq_of_le (Nat.le_of_lt_succ hi) with q | q
              · exact s1 h (good i h q hh g1 g2 g3)
              · subst q
                rw [hj2] at hh
                cases hh
                exact s2 g1 g2 g3
            refine if_case (c := b) (fun e => ?_) (fun e => ?_)
            · refine hY _ _ na ⟨rfl, jl, hs ++ [h2], by rw [List.map_append]; rfl, by rw [List.length_append]; show _ + 1 ≤ _; omega, fun h hh => ?_, step _ (fun h hh => List.mem_append_left _ hh) fun _ _ _ => List.mem_append_right _ (List.mem_singleton.mpr rfl)⟩
              rcases List.mem_append.mp hh with q | q
              · exact hin h q
              · rw [List.mem_singleton.mp q]
                exact List.mem_of_getElem? hj2
            · exact hN _ na ⟨rfl, jl, hs, rfl, by omega, hin, step _ (fun h hh => hh) fun g1 g2 g3 => by rw [hb g1 g2 g3] at e; cases e⟩
          · rintro ys ν ⟨rfl, _, hs, rfl, lh, hin, good⟩
            rw [List.length_map] at good
            obtain ⟨i, hi, e⟩ := List.getElem_of_mem hsub
            have hin2 := good i hd hi (by rw [List.getElem?_eq_getElem hi, e]) rfl (List.ne_nil_of_mem c1) c2
            refine ⟨z0, ?_⟩
            refine LayL.none (k := id) (lay_herds op hin 0) (by decide) ?_
            have ne : decide (hs.map dHerd = []) = false := decide_eq_false fun z => by
              rw [List.map_eq_nil_iff.mp z] at hin2
              cases hin2
            show if decide (hs.map dHerd = []) = true then _ else _
            rw [ne]
            exact ⟨rfl, hk, _, _, _, rfl⟩
    · rintro δ' μ' ⟨rfl, _, o4, o5, o6, rfl⟩
      exact h
def N65 : List Str := ["_law_purse_here", "_law_places_here", "_law_ties_here", "_law_mine", "_law_turn", "_law_leaning_here", "_law_ways_here", "_law_lot", "_law_rounds", "_law_ends", "_law_free", "_law_due", "_law_said", "_law_k", "_law_way", "_law_place"]
theorem sc65 : FnScope N65 ["_law_purse_here"] (defScope (top 65)) := ⟨rfl, rfl, rfl, by decide +kernel, rfl, by decide +kernel, by decide +kernel⟩
set_option maxHeartbeats 4000000 in
set_option maxHeartbeats 4000000 in
theorem okG_L_right (T : Tx K mg A) : FnG P A.w K mg base 9 A.L_right A.fd_L_right ["_law_purse_here"] (toSp K (g_L_right18)) := by
  refine okDGF T.F_L_right sc65 (fun ds μ R h => ?_) ⟨_, fun cdv A0 outer s H hr hG =>
    (dss_cons (ds_asg (de_call ((ok_L_web T).mono (by decide)) hr (by rfl) T.g_L_web T.F_L_web.kp T.b_L_web (da_cons (dv 0) (da_cons de_int (da_cons de_int da_nil)))) (pg_tup (n := 2) (by rfl) (pgs_cons (pg_name (i := 1) sc65.nd rfl (by first | exact Or.inl rfl | exact Or.inr rfl)) (pgs_cons (pg_name (i := 2) sc65.nd rfl (by first | exact Or.inl rfl | exact Or.inr rfl)) pgs_nil))) (sim_tupT (n := 2) (sim_consT (sim_nm (i := 1)) (sim_consT (sim_nm (i := 2)) sim_nilT))))
      (dss_cons (ds_set sc65.nd (i := 3) rfl (by first | exact Or.inl rfl | exact Or.inr rfl) (de_make T.m_Web ((ok_Web_init T).mono (by decide)) hr (by rfl) T.g_Web T.b_Web_init (da_cons (dv 1) (da_cons (dv 2) da_nil))))
      (dss_cons (ds_for PassesOwn.never rfl (di_range (by rfl) T.z_range (da_cons de_int da_nil)) (pg_name (i := 4) sc65.nd rfl (by first | exact Or.inl rfl | exact Or.inr rfl)) (sim_nm (i := 4))
      (dss_cons (ds_set sc65.nd (i := 5) rfl (by first | exact Or.inl rfl | exact Or.inr rfl) (de_call ((ok_L_lean T).mono (by decide)) hr (by rfl) T.g_L_lean T.F_L_lean.kp T.b_L_lean (da_cons (dv 0) (da_cons (dv 2) da_nil))))
      (dss_cons (ds_set sc65.nd (i := 6) rfl (by first | exact Or.inl rfl | exact Or.inr rfl) (de_call ((ok_L_ways T).mono (by decide)) hr (by rfl) T.g_L_ways T.F_L_ways.kp T.b_L_ways (da_cons (dv 2) (da_cons (dv 5) da_nil))))
      (dss_cons (ds_set sc65.nd (i := 7) rfl (by first | exact Or.inl rfl | exact Or.inr rfl) (de_callTy call_tuple_of sim_tuple (by rfl) T.z_tuple boot_tuple (da_cons (de_lc (own := [("_law_k", 13)]) (by rfl) sc65.nd (di_range (by rfl) T.z_range (da_cons (de_callB cr_len sim_len (by rfl) T.z_len boot_len (da_cons (dv 2) da_nil)) da_nil)) (blkOk_by (N := N65) (own := [("_law_k", 13)]) (sc := defScope (top 65)) (by decide +kernel)) (fun _ _ _ _ _ => (pg_name (i := 13) sc65.nd rfl (by first | exact Or.inl rfl | exact Or.inr rfl))) (sim_nm (i := 13)) (fun _ _ _ _ _ => (dts_one (dt_cmp (op_eqA hr.units) sim_eq (de_call ((ok_L_take T).mono (by decide)) hr (by rfl) T.g_L_take T.F_L_take.kp T.b_L_take (da_cons (dv 0) (da_cons de_int da_nil))) de_int (nomark _)))) (fun _ _ _ _ _ => (dv 13))) da_nil)))
      (dss_cons (ds_if (dt_cmp (op_neA hr.units) sim_ne (de_call ((ok_arrows T).mono (by decide)) hr (by rfl) T.g_arrows T.F_arrows.kp T.b_arrows (da_cons (dv 3) (da_cons (dv 5) da_nil))) (de_callTy call_tuple_of sim_tuple (by rfl) T.z_tuple boot_tuple (da_cons (dv 6) da_nil)) (nomark _)) (dss_one (ds_ret de_bl)) dss_nil)
      (dss_cons (ds_if (dt_cmp (op_neA hr.units) sim_ne (de_call ((ok_turned T).mono (by decide)) hr (by rfl) T.g_turned T.F_turned.kp T.b_turned (da_cons (dv 3) (da_cons (dv 5) (da_cons (dv 7) da_nil)))) (de_call ((ok_L_flip T).mono (by decide)) hr (by rfl) T.g_L_flip T.F_L_flip.kp T.b_L_flip (da_cons (dv 5) (da_cons (dv 7) da_nil))) (nomark _)) (dss_one (ds_ret de_bl)) dss_nil)
      (dss_cons (ds_setLc (i := 8) (own := [("_law_k", 13)]) (by rfl) sc65.nd rfl rfl (sw_true rfl rfl rfl (by decide +kernel)) (di_range (by rfl) T.z_range (da_cons (de_callB cr_len sim_len (by rfl) T.z_len boot_len (da_cons (dv 6) da_nil)) da_nil)) (blkOk_by (N := N65) (own := [("_law_k", 13)]) (sc := defScope (top 65)) (by decide +kernel)) (fun _ _ _ _ _ => (pg_name (i := 13) sc65.nd rfl (by first | exact Or.inl rfl | exact Or.inr rfl))) (sim_nm (i := 13)) (fun _ _ _ _ _ => dts_nil) (fun _ _ _ _ _ => (de_call ((ok_L_in_ring T).mono (by decide)) hr (by rfl) T.g_L_in_ring T.F_L_in_ring.kp T.b_L_in_ring (da_cons (dv 6) (da_cons (dv 13) da_nil)))))
      (dss_cons (ds_set sc65.nd (i := 9) rfl (by first | exact Or.inl rfl | exact Or.inr rfl) (de_lc (own := [("_law_way", 14)]) (by rfl) sc65.nd (di_both (dv 6)) (blkOk_by (N := N65) (own := [("_law_way", 14)]) (sc := defScope (top 65)) (by decide +kernel)) (fun _ _ _ _ _ => (pg_name (i := 14) sc65.nd rfl (by first | exact Or.inl rfl | exact Or.inr rfl))) (sim_nm (i := 14)) (fun _ _ _ _ _ => dts_nil) (fun _ _ _ _ _ => (de_ix ix_any sim_ix (dv 14) de_int (fun _ _ => rfl)))))
      (dss_cons (ds_set sc65.nd (i := 10) rfl (by first | exact Or.inl rfl | exact Or.inr rfl) (de_bm PySem.F.plainAttrs_str PySem.F.slot_str_join PySem.F.type_str_join mt_join sim_join ok_str de_str (da_cons (de_lc (own := [("_law_place", 15)]) (by rfl) sc65.nd (di_str (dv 1)) (blkOk_by (N := N65) (own := [("_law_place", 15)]) (sc := defScope (top 65)) (by decide +kernel)) (fun _ _ _ _ _ => (pg_name (i := 15) sc65.nd rfl (by first | exact Or.inl rfl | exact Or.inr rfl))) (sim_nm (i := 15)) (fun _ _ _ _ _ => (dts_one (dt_cmp op_notInA sim_notIn (dv 15) (dv 9) rfl))) (fun _ _ _ _ _ => (dv 15))) da_nil)))
      (dss_cons (ds_set sc65.nd (i := 11) rfl (by first | exact Or.inl rfl | exact Or.inr rfl) (de_lst (da_cons (de_cmp op_notInA sim_notInB de_bl (dv 8) rfl) (da_cons (de_cmp op_notInA sim_notInB de_bl (dv 8) rfl) (da_cons (dv 10) da_nil)))))
      (dss_cons (ds_set sc65.nd (i := 12) rfl (by first | exact Or.inl rfl | exact Or.inr rfl) (de_lst (da_cons (de_call ((ok_is_ringless T).mono (by decide)) hr (by rfl) T.g_is_ringless T.F_is_ringless.kp T.b_is_ringless (da_cons (dv 3) (da_cons (dv 5) da_nil))) (da_cons (de_call ((ok_is_ringed T).mono (by decide)) hr (by rfl) T.g_is_ringed T.F_is_ringed.kp T.b_is_ringed (da_cons (dv 3) (da_cons (dv 5) da_nil))) (da_cons (de_call ((ok_fronts T).mono (by decide)) hr (by rfl) T.g_fronts T.F_fronts.kp T.b_fronts (da_cons (dv 3) (da_cons (dv 5) da_nil))) da_nil)))))
      (dss_cons (ds_if (dw_or (dt_cmp (op_neA hr.units) sim_ne (de_callB (cr_repr2 hG hr.units) sim_repr2 (by rfl) T.z_repr boot_repr (da_cons (dv 12) da_nil)) (de_callB (cr_repr2 hG hr.units) sim_repr2 (by rfl) T.z_repr boot_repr (da_cons (dv 11) da_nil)) (nomark _)) (dw_or1 (dt_cmp (op_neA hr.units) sim_ne (de_call ((ok_order_of T).mono (by decide)) hr (by rfl) T.g_order_of T.F_order_of.kp T.b_order_of (da_cons (dv 3) (da_cons (dv 5) da_nil))) (de_call ((ok_L_first_order T).mono (by decide)) hr (by rfl) T.g_L_first_order T.F_L_first_order.kp T.b_L_first_order (da_cons (dv 1) (da_cons (dv 6) da_nil))) (nomark _)))).dt (dss_one (ds_ret de_bl)) dss_nil)
      (dss_cons (ds_set sc65.nd (i := 12) rfl (by first | exact Or.inl rfl | exact Or.inr rfl) (de_lst (da_cons (de_callK0 (gD := swp2) ((ok_is_ringless T).mono (by decide)) hr (by rfl) T.g_is_ringless T.F_is_ringless.kp T.kb_is_ringless (fun H μ ds vs h l => by exact swp2_rep h l) (dk_cons (dv 5) (dk_cons (dv 3) dk_nil))) (da_cons (de_callK0 (gD := swp2) ((ok_is_ringed T).mono (by decide)) hr (by rfl) T.g_is_ringed T.F_is_ringed.kp T.kb_is_ringed (fun H μ ds vs h l => by exact swp2_rep h l) (dk_cons (dv 5) (dk_cons (dv 3) dk_nil))) da_nil))))
      (dss_cons (ds_if (dt_cmp (op_neA hr.units) sim_ne (de_callB (cr_repr2 hG hr.units) sim_repr2 (by rfl) T.z_repr boot_repr (da_cons (de_op op_plus sim_plus (dv 12) (de_lst (da_cons (de_callK0 (gD := swp2) ((ok_fronts T).mono (by decide)) hr (by rfl) T.g_fronts T.F_fronts.kp T.kb_fronts (fun H μ ds vs h l => by exact swp2_rep h l) (dk_cons (dv 5) (dk_cons (dv 3) dk_nil))) da_nil))) da_nil)) (de_callB (cr_repr2 hG hr.units) sim_repr2 (by rfl) T.z_repr boot_repr (da_cons (dv 11) da_nil)) (nomark _)) (dss_one (ds_ret de_bl)) dss_nil)
      (dss_one (ds_if (dt_not (dt_val (de_call ((ok_L_ties_right T).mono (by decide)) hr (by rfl) T.g_L_ties_right T.F_L_ties_right.kp T.b_L_ties_right (da_cons (dv 3) (da_cons (dv 1) (da_cons (dv 6) (da_cons (dv 5) da_nil))))))) (dss_one (ds_ret de_bl)) dss_nil))))))))))))))))
      (dss_one (ds_ret de_bl))))), fun ds μ R h => ?_⟩
  · obtain ⟨a, x, y, rfl, _⟩ := h
    rfl
  · obtain ⟨a, x, y, rfl, ha, h⟩ := h
    have s0 : Sn μ μ a 0 := ⟨fun c o _ e => e, ⟨x, y, 0, ha, Nat.le_refl _⟩⟩
    have z0 : 0 ≤ sizeLine := by decide
    have sz1 : 1 ≤ sizeLine := by decide
    have sz2 : 2 ≤ sizeLine := by decide
    have sz3 : 3 ≤ sizeLine := by decide
    have two : ∀ a b : Nat, (yTie a b).length ≤ sizeLine := fun a b => by show 2 ≤ sizeLine; decide
    refine ⟨a, x, y, 0, 4, 6, rfl, ha, by omega, by omega, by omega, by omega, fun p ts x y z1 op ot p4 t6 hz1 => ?_⟩
    have s := s0.draw (m := 100) x y (z := z1) (by omega)
    generalize put μ a (pot x y z1) = μ1 at s ⊢
    have p8 : p.length ≤ 8 := by omega
    have few : ts.length ≤ 11 := by omega
    have pn : p.Nodup := op.asc.imp fun h => Nat.ne_of_lt h
    have lt : (ts.map D.str).length = ts.length := List.length_map _
    refine ⟨rfl, fun b nb => ?_⟩
    refine ⟨b, p, ts, rfl, op, ot.ok few, put_same, ?_⟩
    refine ⟨_, put_same, ?_⟩
    rw [put_put, del_put nb]
    refine ⟨⟨by omega, by omega⟩, ?_⟩
    refine ⟨fun i δ' μ' => i ≤ 3 ∧ Sn μ μ' a (100 + 30 * i) ∧ ∃ o4 o5 o6 o7 o8 o9 o10 o11 o12, δ' = [some (.adr a), some (.str (toS p)), some (.tup (ts.map D.str)), some (dWeb A.Web p ts), o4, o5, o6, o7, o8, o9, o10, o11, o12, none, none, none], ⟨by omega, s, none, none, none, none, none, none, none, none, none, rfl⟩, ?_, ?_⟩
    · rintro i it δ' μ' hi ⟨_, s, o4, o5, o6, o7, o8, o9, o10, o11, o12, rfl⟩
      obtain ⟨hi2, rfl⟩ := range_at hi
      have hi : i < 3 := hi2
      obtain ⟨px, py, pz, hpot, hpz⟩ := s.has
      refine ⟨a, px, py, pz, ts, rfl, hpot, by omega, few, fun l x y z2 hl hz2 => ?_⟩
      have s := s.draw (m := 100 + 30 * i + 6) x y (z := z2) (by omega)
      generalize put μ' a (pot x y z2) = μ2 at s ⊢
      have lw : (waysL ts l).length = ts.length := by
        unfold waysL
        rw [List.length_zipWith]
        omega
      have lwm : ((waysL ts l).map D.str).length = ts.length := by rw [List.length_map, lw]
      refine ⟨p, ts, l, rfl, ot, hl, few, ?_⟩
      refine ⟨⟨by omega, by omega⟩, ?_⟩
      rw [lt, Int.toNat_natCast]
      show LcB _ _ _ _ _ _ _ _
      refine lcb_eff (fun j ys ν => j ≤ ts.length ∧ ∃ q : List Nat, ys = dIdx q ∧ q.length ≤ j ∧ q.Pairwise (· < ·) ∧ (∀ k ∈ q, k < j) ∧ Sn μ ν a (100 + 30 * i + 6 + j)) ?_ ⟨Nat.zero_le _, [], rfl, Nat.le_refl _, .nil, (fun k hk => by cases hk), s⟩ ?_ ?_ ?_
      · rw [List.length_map, List.length_range, sizeLine_eq]
        omega
      · rintro j ys ν ⟨_, q, rfl, lq, _⟩
        rw [dIdx_len]
        exact lq
      · rintro j it2 hj b ys ν N Y nb ⟨_, q, rfl, lq, asc, inq, s⟩ hN hY
        obtain ⟨hj2, rfl⟩ := range_at hj
        have hj : j < ts.length := hj2
        obtain ⟨px, py, pz, hpot, hpz⟩ := s.has
        have ne : b ≠ a := fun e => by rw [e, hpot] at nb; cases nb
        refine ⟨a, px, py, pz, _, rfl, by rw [put_ne ne.symm]; exact hpot, by omega, by omega, by omega, fun w x y hw => ?_⟩
        have s2 := s.draw (m := 100 + 30 * i + 6 + (j + 1)) x y (z := pz + 1) (by omega)
        rw [put_comm ne]
        have nb2 : put ν a (pot x y (pz + 1 : Nat)) b = none := by rw [put_ne ne]; exact nb
        refine if_case (c := decide ((w : Int) = 0)) (fun _ => ?_) (fun _ => ?_)
        · refine hY (.int (j : Nat)) _ nb2 ⟨hj, q ++ [j], ?_, by rw [List.length_append]; show _ + 1 ≤ _; omega, ?_, fun k hk => ?_, s2⟩
          · unfold dIdx
            rw [List.map_append, List.map_append]
            rfl
          · refine List.pairwise_append.mpr ⟨asc, List.pairwise_singleton _ _, fun u hu v hv => ?_⟩
            rw [List.mem_singleton.mp hv]
            exact inq u hu
          · rcases List.mem_append.mp hk with z | z
            · have := inq k z
              omega
            · rw [List.mem_singleton.mp z]; omega
        · exact hN _ nb2 ⟨hj, q, rfl, by omega, asc, fun k hk => by have := inq k hk; omega, s2⟩
      rintro ys ν ⟨_, q, rfl, lq, asc, inq, s⟩
      rw [List.length_map, List.length_range] at lq inq s
      refine ⟨p, ts, l, rfl, ot, hl, few, ?_⟩
      refine tup_sameN (lay_way op ot hl (fun w h => h) 0) (by decide) ?_
      refine ⟨p, ts, l, q, rfl, hl, few, asc, inq, ?_⟩
      refine ⟨l, q, .inl rfl, by omega, ?_⟩
      show if (!decide (lnS (flipL l q) = lnS (flipL l q))) = true then _ else _
      rw [decide_eq_true rfl]
      have pick : ∀ k, ∃ b : Bool, b = true ↔ InRing (arrE ts l) ts.length k := fun k => by
        by_cases z : InRing (arrE ts l) ts.length k
        · exact ⟨true, fun _ => z, fun _ => rfl⟩
        · exact ⟨false, (fun y => by cases y), fun y => absurd y z⟩
      obtain ⟨g, hg⟩ : ∃ g : Nat → Bool, ∀ k, g k = true ↔ InRing (arrE ts l) ts.length k := ⟨fun k => Classical.choose (pick k), fun k => Classical.choose_spec (pick k)⟩
      refine ⟨⟨by omega, by omega⟩, ?_⟩
      rw [lwm, Int.toNat_natCast]
      show LcB _ _ _ _ _ _ _ _
      refine lcb_map (fun d => match d with | .int k => .bl (g k.toNat) | d => d) ?_ ?_ ?_
      · rw [List.length_map, List.length_range, sizeLine_eq]
        omega
      · intro d hd ν2 Y _ hY
        obtain ⟨k, hk, rfl⟩ := List.mem_map.mp hd
        have hk := List.mem_range.mp hk
        have hY : Y (.bl (g k)) ν2 := hY
        refine ⟨p, ts, l, k, rfl, ot, hl, few, hk, fun b hb => ?_⟩
        have : b = g k := Bool.eq_iff_iff.mpr (hb.trans (hg k).symm)
        rw [this]
        exact hY
      have er : ((List.range ts.length).map fun i => D.int (i : Nat)).map (fun d => match d with | .int k => D.bl (g k.toNat) | d => d) = ((List.range ts.length).map g).map D.bl := by
        rw [List.map_map, List.map_map]
        rfl
      rw [er]
      show LcB _ _ _ _ _ _ _ _
      refine lcb_map (fun d => match d with | .str w => .str (sg (ends w).2) | d => d) ?_ ?_ ?_
      · rw [lwm, sizeLine_eq]
        omega
      · intro d hd ν2 Y _ hY
        obtain ⟨w, hw, rfl⟩ := List.mem_map.mp hd
        obtain ⟨_, u, v, _, rfl, _, _, _⟩ := row_at ot hl hw
        exact ⟨two u v, hY⟩
      have ee : ((waysL ts l).map D.str).map (fun d => match d with | .str w => D.str (sg (ends w).2) | d => d) = (((waysL ts l).map fun w => (ends w).2).map sg).map D.str := by
        rw [List.map_map, List.map_map, List.map_map]
        rfl
      rw [ee]
      refine ⟨True.intro, ?_⟩
      show LcB _ _ _ _ _ _ (DL.signs (toS p)) _
      rw [signs_chs]
      refine lcb_pure (fun d => match d with | .str y => !decide (y.cps.toList.getD 0 0 ∈ (waysL ts l).map fun w => (ends w).2) | _ => false) id ?_ ?_ ?_
      · rw [chs_len, sizeLine_eq]
        omega
      · intro d hd ν2 N Y _ hN hY
        obtain ⟨c, hc, rfl⟩ := chs_in hd
        have hN : (!decide (c ∈ (waysL ts l).map fun w => (ends w).2)) = false → N ν2 := hN
        have hY : (!decide (c ∈ (waysL ts l).map fun w => (ends w).2)) = true → Y (.str (sg c)) ν2 := hY
        have em : decide (sg c ∈ ((waysL ts l).map fun w => (ends w).2).map sg) = decide (c ∈ (waysL ts l).map fun w => (ends w).2) := decide_eq_decide.mpr ⟨fun z => by
          obtain ⟨y, hy, e⟩ := List.mem_map.mp z
          rw [← sg_inj e]
          exact hy, fun z => List.mem_map.mpr ⟨c, z, rfl⟩⟩
        refine .inr ⟨sg c, _, rfl, rfl, ?_⟩
        show if (!decide (sg c ∈ ((waysL ts l).map fun w => (ends w).2).map sg)) = true then _ else _
        rw [em]
        exact if_case (fun e => hY e) (fun e => hN e)
      have ef : ((chs p).filter fun d => match d with | .str y => !decide (y.cps.toList.getD 0 0 ∈ (waysL ts l).map fun w => (ends w).2) | _ => false).map id = ((p.filter fun c => decide (c ∉ (waysL ts l).map fun w => (ends w).2)).map sg).map D.str := by
        unfold chs
        rw [List.map_id, List.filter_map, List.map_map]
        congr 1
        refine List.filter_congr fun c _ => ?_
        show (!decide (c ∈ (waysL ts l).map fun w => (ends w).2)) = decide (c ∉ (waysL ts l).map fun w => (ends w).2)
        exact decide_not.symm
      rw [ef]
      have lf := List.length_filter_le (fun c => decide (c ∉ (waysL ts l).map fun w => (ends w).2)) p
      refine ⟨_, rfl, by rw [sum_sg, len_empty]; omega, ?_⟩
      rw [join_sg]
      have frp : ∀ c ∈ p.filter (fun c => decide (c ∉ (waysL ts l).map fun w => (ends w).2)), c < 0x110000 := fun c hc => by
        have := op.sign c (List.mem_filter.mp hc).1
        omega
      have fsz : (p.filter fun c => decide (c ∉ (waysL ts l).map fun w => (ends w).2)).length ≤ 8 := by omega
      refine ⟨true, _, rfl, rfl, ?_⟩
      refine ⟨false, _, rfl, rfl, ?_⟩
      refine ⟨sz3, ?_⟩
      have e1 : (ordL (arrE ts l) ts.length p).isSome = !decide (true ∈ (List.range ts.length).map g) := by
        have oe := ord_ring (E := arrE ts l) (n := ts.length) pn fun i hi => by
          obtain ⟨u, v, _, hu, _, eE, _⟩ := way_at ot hl hi
          rw [eE]
          exact hu
        have mt : true ∈ (List.range ts.length).map g ↔ ∃ k, k < ts.length ∧ InRing (arrE ts l) ts.length k := by
          rw [List.mem_map]
          exact ⟨fun ⟨k, hk, e⟩ => ⟨k, List.mem_range.mp hk, (hg k).mp e⟩, fun ⟨k, hk, e⟩ => ⟨k, List.mem_range.mpr hk, (hg k).mpr e⟩⟩
        cases ho : ordL (arrE ts l) ts.length p with
        | none => rw [decide_eq_true (mt.mpr (oe.mp ho))]; rfl
        | some o =>
          rw [decide_eq_false fun z => by rw [oe.mpr (mt.mp z)] at ho; cases ho]
          rfl
      have e2 : ∀ b : Bool, (b = true ↔ ∀ k, k < ts.length → InRing (arrE ts l) ts.length k) → b = !decide (false ∈ (List.range ts.length).map g) := fun b hb => by
        rw [Bool.eq_iff_iff, hb, Bool.not_eq_true', decide_eq_false_iff_not, List.mem_map]
        constructor
        · rintro all ⟨k, hk, e⟩
          rw [(hg k).mpr (all k (List.mem_range.mp hk))] at e
          cases e
        · intro no k hk
          refine (hg k).mp ?_
          cases q : g k with
          | true => rfl
          | false => exact absurd ⟨k, List.mem_range.mpr hk, q⟩ no
      obtain ⟨fr, efr⟩ : ∃ fr, fr = p.filter (fun c => decide (c ∉ (waysL ts l).map fun w => (ends w).2)) := ⟨_, rfl⟩
      rw [← efr] at frp fsz ⊢
      generalize hB1 : (!decide (true ∈ (List.range ts.length).map g)) = B1 at e1 ⊢
      generalize hB2 : (!decide (false ∈ (List.range ts.length).map g)) = B2 at e2 ⊢
      refine ⟨p, ts, l, rfl, op, ot, hl, few, ?_⟩
      rw [e1]
      refine ⟨p, ts, l, rfl, op, ot, hl, few, fun b hb => ?_⟩
      rw [e2 b hb]
      have frlow : (toS fr).cps.all (· < 0x110000) = true := by
        show fr.toArray.all (· < 0x110000) = true
        rw [Array.all_eq_true']
        intro c hc
        exact decide_eq_true (frp c (by simpa using hc))
      have lay : Lay (.lst [.bl B1, .bl B2, .str (toS fr)]) (.list [.bool B1, .bool B2, .str (toS fr)]) 1 := lay_lst (layL_cons (lay_bl B1 0) (layL_cons (lay_bl B2 0) (layL_cons (lay_str frlow 0) (layL_nil 0))))
      have shok : ShowOk (.list [.bool B1, .bool B2, .str (toS fr)]) := (Sh.lst (k := 0) (w := 13) (n := 3) (fun x hx => by
        rcases List.mem_cons.mp hx with q | q
        · rw [q]; exact Sh.bool B1
        · rcases List.mem_cons.mp q with q | q
          · rw [q]; exact Sh.bool B2
          · rw [List.mem_singleton.mp q]
            exact Sh.str (fun c hc => by rw [toS_list] at hc; exact frp c hc) (by show fr.toArray.size ≤ 13; rw [List.size_toArray]; omega)) (Nat.le_refl _)).ok (by decide) (by decide)
      generalize PyData.list [.bool B1, .bool B2, .str (toS fr)] = pd at lay shok
      refine ⟨p, ts, l, rfl, op, ot, hl, few, ?_⟩
      rw [← efr]
      refine ⟨sz3, ?_⟩
      refine .inl (.inr ⟨pd, rfl, lay.py, shok, ?_⟩)
      refine .inl (.inr ⟨pd, rfl, lay.py, shok, ?_⟩)
      show if (!decide (pd.shown = pd.shown)) = true then _ else _
      rw [decide_eq_true rfl]
      refine ⟨p, ts, l, rfl, op, ot, hl, few, ?_⟩
      refine ⟨p, ts, l, rfl, op, ot, hl, few, ?_⟩
      refine oS_same ?_
      refine ⟨rfl, p, ts, l, rfl, op, ot, hl, few, ?_⟩
      rw [e1]
      refine ⟨rfl, p, ts, l, rfl, op, ot, hl, few, fun b hb => ?_⟩
      rw [e2 b hb]
      refine ⟨sz2, ?_⟩
      refine ⟨rfl, p, ts, l, rfl, op, ot, hl, few, ?_⟩
      rw [← efr]
      refine ⟨sz1, ?_⟩
      refine ⟨sz3, ?_⟩
      refine .inl (.inr ⟨pd, rfl, lay.py, shok, ?_⟩)
      refine .inl (.inr ⟨pd, rfl, lay.py, shok, ?_⟩)
      show if (!decide (pd.shown = pd.shown)) = true then _ else _
      rw [decide_eq_true rfl]
      refine ⟨p, ts, l, rfl, op, ot, hl, few, ?_⟩
      exact ⟨hi, s.up (by omega), _, _, _, _, _, _, _, _, _, rfl⟩
    · rintro δ' μ' ⟨_, s, o4, o5, o6, o7, o8, o9, o10, o11, o12, rfl⟩
      exact s.back fun x y z' _ => h x y z'
def g_law : GC := fun ds μ R => ∃ ns : List Int, ds = [.seq (ns.map D.int)] ∧ ns.length ≤ 63 ∧ ∀ μ', R (.bl true) μ'
def N66 : List Str := ["_law_script", "_law_k"]
theorem sc66 : FnScope N66 ["_law_script"] (defScope (top 66)) := ⟨rfl, rfl, rfl, by decide +kernel, rfl, by decide +kernel, by decide +kernel⟩
set_option maxHeartbeats 4000000 in
theorem okG_law (T : Tx K mg A) : FnG P A.w K mg base 10 A.law A.fd_law ["_law_script"] (toSp K (g_law)) := by
  refine okDG T.F_law sc66 (fun ds μ R h => ?_) ⟨_, fun cdv A0 outer s H hr hG =>
    (dss_one (ds_ret (de_callB (cr_all (by rfl)) sim_all (by rfl) T.z_all boot_all (da_cons (de_lc (own := [("_law_k", 1)]) (by rfl) sc66.nd (di_range (by rfl) T.z_range (da_cons (de_callB (call_max2 (by rfl)) sim_max2 (by rfl) T.z_max boot_max (da_cons de_int (da_cons (de_callB (call_min2 (by rfl)) sim_min2 (by rfl) T.z_min boot_min (da_cons (de_callB cr_len sim_len (by rfl) T.z_len boot_len (da_cons (dv 0) da_nil)) (da_cons de_int da_nil))) da_nil))) da_nil)) (blkOk_by (N := N66) (own := [("_law_k", 1)]) (sc := defScope (top 66)) (by decide +kernel)) (fun _ _ _ _ _ => (pg_name (i := 1) sc66.nd rfl (by first | exact Or.inl rfl | exact Or.inr rfl))) (sim_nm (i := 1)) (fun _ _ _ _ _ => dts_nil) (fun _ _ _ _ _ => (de_callG (okG_L_right T) hG hr (by rfl) T.g_L_right T.F_L_right.kp T.b_L_right (da_cons (de_call ((ok_L_purse T).mono (by decide)) hr (by rfl) T.g_L_purse T.F_L_purse.kp T.b_L_purse (da_cons (dv 0) (da_cons (dv 1) da_nil))) da_nil)))) da_nil)))), fun ds μ R h => ?_⟩
  · obtain ⟨ns, rfl, _⟩ := h
    rfl
  · obtain ⟨ns, rfl, ln, h⟩ := h
    have lm : (ns.map D.int).length = ns.length := List.length_map _
    refine ⟨⟨?_, ?_⟩, ?_⟩
    · split <;> (try split) <;> omega
    · split <;> (try split) <;> omega
    · show LcB _ _ _ _ _ _ _ _
      refine lcb_eff (fun i ys ν => ys = List.replicate i (.bl true)) ?_ rfl ?_ ?_ ?_
      · rw [List.length_map, List.length_range, sizeLine_eq]
        split <;> (try split) <;> omega
      · rintro i ys ν rfl
        rw [List.length_replicate]
        exact Nat.le_refl _
      · rintro i it hi b ys ν N Y nb rfl hN hY
        obtain ⟨hi, rfl⟩ := range_at hi
        refine ⟨ns, i, rfl, by omega, by omega, fun x y a na => ?_⟩
        have ne : b ≠ a := fun e => by
          rw [← e, put_same] at na
          cases na
        refine ⟨a, x, y, rfl, put_same, fun x' y' z' => ?_⟩
        rw [put_put, put_comm ne]
        refine hY (.bl true) _ (by rw [put_ne ne]; exact nb) ?_
        rw [List.replicate_succ']
      · rintro ys ν rfl
        refine ⟨List.replicate _ true, (List.map_replicate).symm, ?_⟩
        show R (.bl ((List.replicate _ true).all id)) ν
        have e : ∀ k, (List.replicate k true).all id = true := fun k => by
          rw [List.all_eq_true]
          intro c hc
          rw [List.eq_of_mem_replicate hc]
          rfl
        rw [e]
        exact h ν
end
end K10
set_option Elab.async false
set_option linter.all false
set_option maxRecDepth 100000
namespace K10
open PySem L2 DL
/-- a def of the module as the top has written it -/
structure DefAt (K : PySem.W.Frag) (x : Str) (st : Stmt) (f : Addr) : Prop where
  ns : PySem.W.nsIn K mainGlobals x = some (some (.ref f))
  fn : ∃ fd, Fun K x x st f fd
theorem def_mk {K : PySem.W.Frag} {x : Str} {st : Stmt} {f : Addr} {oc : Value} {od an : Option Addr} {osl : Array (Option Value)} {kV doc pm cdv ct : Value} (a : PySem.W.nsIn K mainGlobals x = some (some (.ref f)))
    (l : K.lookup f = some ⟨oc, od, .func (PySem.W.fnOf x x (defArgs st) (defBody st) (defScope st) .none kV doc pm an cdv ct), osl⟩) (c : PySem.W.codeIn K cdv x = true) (k : PySem.W.keepIn K (.ref f) = true) : DefAt K x st f := ⟨a, _, fun_mk l c k⟩
/-- a def of the module with one number as the default of its last parameter -/
structure DefAtD (K : PySem.W.Frag) (x : Str) (st : Stmt) (f : Addr) (dvs : List V) : Prop where
  ns : PySem.W.nsIn K mainGlobals x = some (some (.ref f))
  fn : ∃ fd, FunD K x x (defArgs st) (defBody st) (defScope st) dvs [] f fd
theorem def_mkD {K : PySem.W.Frag} {x : Str} {st : Stmt} {f T : Addr} {oc oc2 : Value} {od od2 an : Option Addr} {osl osl2 : Array (Option Value)} {kV doc pm cdv ct : Value} {i : Int} {t : Tok} {n : Nat} (a : PySem.W.nsIn K mainGlobals x = some (some (.ref f)))
    (l : K.lookup f = some ⟨oc, od, .func (PySem.W.fnOf x x (defArgs st) (defBody st) (defScope st) (.ref T) kV doc pm an cdv ct), osl⟩) (c : PySem.W.codeIn K cdv x = true) (k : PySem.W.keepIn K (.ref f) = true)
    (lT : K.lookup T = some ⟨oc2, od2, .seq #[.int i t] n, osl2⟩) : DefAtD K x st f [.int i] :=
  ⟨a, _, ⟨⟨oc, od, .ref T, kV, doc, pm, an, cdv, ct, osl, rfl, l, c, Or.inr ⟨List.cons_ne_nil _ _, T, _, [.int i t], n, rfl, lT, rfl, .cons ⟨t, rfl⟩ .nil⟩, Or.inl rfl⟩, k⟩⟩
theorem init_mk {K : PySem.W.Frag} {st : Stmt} {f : Addr} {oc : Value} {od an : Option Addr} {osl : Array (Option Value)} {kV doc pm cdv ct : Value}
    (l : K.lookup f = some ⟨oc, od, .func (PySem.W.fnOf "__init__" "Web.__init__" (defArgs st) (defBody st) (defScope st) .none kV doc pm an cdv ct), osl⟩) (c : PySem.W.codeIn K cdv "Web.__init__" = true) (k : PySem.W.keepIn K (.ref f) = true) : ∃ fd, Fun K "__init__" "Web.__init__" st f fd := ⟨_, fun_mk l c k⟩
theorem int_mk {K : PySem.W.Frag} {x : Str} {i : Int} {t : Tok} (e : PySem.W.nsIn K mainGlobals x = some (some (.int i t))) : ∃ t, PySem.W.nsIn K mainGlobals x = some (some (.int i t)) := ⟨t, e⟩
theorem str_mk {K : PySem.W.Frag} {x i : Str} {t : Tok} (e : PySem.W.nsIn K mainGlobals x = some (some (.str i t))) : ∃ t, PySem.W.nsIn K mainGlobals x = some (some (.str i t)) := ⟨t, e⟩
structure Facts (K : PySem.W.Frag) (C I f_is_integer f_is_integer_from f_are_letters f_are_places f_is_tie f_first_wrong_tie f_where_no_lot f_check_places f_check_ties f_check_index f_check_lot f_check_leaning f_check_web f_crossing f_check_web_and_leaning f_arrow_of f_arrows_of f_turned_by f_fronts_among f_first_order f_ways_along f_is_each_in_a_ring f_arrows f_turned f_is_ringless f_is_ringed f_fronts f_ring_or_cut f_order_of f_L_purse f_L_take f_L_one f_L_web f_L_lean f_L_ways f_L_reach f_L_in_ring f_L_goes_round f_L_herds f_L_leads_out f_L_flip f_L_first_order f_L_ties_right f_L_right f_law : Addr) : Prop where
  d_is_integer : DefAt K "is_integer" (top 15) f_is_integer
  d_is_integer_from : DefAt K "is_integer_from" (top 16) f_is_integer_from
  d_are_letters : DefAt K "are_letters" (top 17) f_are_letters
  d_are_places : DefAt K "are_places" (top 18) f_are_places
  d_is_tie : DefAt K "is_tie" (top 19) f_is_tie
  d_first_wrong_tie : DefAt K "first_wrong_tie" (top 20) f_first_wrong_tie
  d_where_no_lot : DefAt K "where_no_lot" (top 22) f_where_no_lot
  d_check_places : DefAt K "check_places" (top 23) f_check_places
  d_check_ties : DefAt K "check_ties" (top 24) f_check_ties
  d_check_index : DefAt K "check_index" (top 25) f_check_index
  d_check_lot : DefAtD K "check_lot" (top 26) f_check_lot [.int (11)]
  d_check_leaning : DefAt K "check_leaning" (top 27) f_check_leaning
  d_check_web : DefAt K "check_web" (top 30) f_check_web
  d_crossing : DefAt K "crossing" (top 32) f_crossing
  d_check_web_and_leaning : DefAt K "check_web_and_leaning" (top 35) f_check_web_and_leaning
  d_arrow_of : DefAt K "arrow_of" (top 36) f_arrow_of
  d_arrows_of : DefAt K "arrows_of" (top 37) f_arrows_of
  d_turned_by : DefAt K "turned_by" (top 38) f_turned_by
  d_fronts_among : DefAt K "fronts_among" (top 39) f_fronts_among
  d_first_order : DefAt K "first_order" (top 40) f_first_order
  d_ways_along : DefAt K "ways_along" (top 41) f_ways_along
  d_is_each_in_a_ring : DefAt K "is_each_in_a_ring" (top 42) f_is_each_in_a_ring
  d_arrows : DefAt K "arrows" (top 43) f_arrows
  d_turned : DefAt K "turned" (top 44) f_turned
  d_is_ringless : DefAt K "is_ringless" (top 45) f_is_ringless
  d_is_ringed : DefAt K "is_ringed" (top 46) f_is_ringed
  d_fronts : DefAt K "fronts" (top 47) f_fronts
  d_ring_or_cut : DefAt K "ring_or_cut" (top 48) f_ring_or_cut
  d_order_of : DefAt K "order_of" (top 49) f_order_of
  d_L_purse : DefAt K "_law_purse" (top 51) f_L_purse
  d_L_take : DefAt K "_law_take" (top 52) f_L_take
  d_L_one : DefAt K "_law_one" (top 53) f_L_one
  d_L_web : DefAt K "_law_web" (top 54) f_L_web
  d_L_lean : DefAt K "_law_lean" (top 55) f_L_lean
  d_L_ways : DefAt K "_law_ways" (top 56) f_L_ways
  d_L_reach : DefAt K "_law_reach" (top 57) f_L_reach
  d_L_in_ring : DefAt K "_law_in_ring" (top 58) f_L_in_ring
  d_L_goes_round : DefAt K "_law_goes_round" (top 59) f_L_goes_round
  d_L_herds : DefAt K "_law_herds" (top 60) f_L_herds
  d_L_leads_out : DefAt K "_law_leads_out" (top 61) f_L_leads_out
  d_L_flip : DefAt K "_law_flip" (top 62) f_L_flip
  d_L_first_order : DefAt K "_law_first_order" (top 63) f_L_first_order
  d_L_ties_right : DefAt K "_law_ties_right" (top 64) f_L_ties_right
  d_L_right : DefAt K "_law_right" (top 65) f_L_right
  d_law : DefAt K "law" (top 66) f_law
  i_d : ∃ fd, Fun K "__init__" "Web.__init__" (inClass (top 29) 0) I fd
  c_ns : PySem.W.nsIn K mainGlobals "Web" = some (some (.ref C))
  c_init : PySem.W.findIn K (.ref C) "__init__" = some (some (.ref I))
  c_fn : PySem.W.isFn K (.ref I) = true
  c_pg : PySem.W.plainGet K C Str.empty = true
  c_hd : PySem.W.hasDictIn K C = true
  c_po : PySem.W.plainOver K C = true
  c_sa : PySem.W.findIn K (.ref C) "__setattr__" = some (some (.builtin "object.__setattr__"))
  c_mk : PySem.W.makesIn K C = true
  c_kc : PySem.W.keepIn K (.ref C) = true
  c_pl : PySem.W.findIn K (.ref C) "places" = some none
  c_ti : PySem.W.findIn K (.ref C) "ties" = some none
  c_ha : PySem.W.findIn K (.ref C) "__class__" = some (some (.builtin "object.__class__"))
  c_hn : PySem.W.specialIn K (.builtin "object.__class__") "__get__" = some (some (.builtin "getset_descriptor.__get__"))
  c_ht : PySem.W.takesIn K (.builtin "object.__class__") = some true
  c_hm : PySem.W.mroIn K C (.type "object") = some true
  z_abs : PySem.W.nsIn K mainGlobals "abs" = some none
  z_all : PySem.W.nsIn K mainGlobals "all" = some none
  z_bool : PySem.W.nsIn K mainGlobals "bool" = some none
  z_divmod : PySem.W.nsIn K mainGlobals "divmod" = some none
  z_enumerate : PySem.W.nsIn K mainGlobals "enumerate" = some none
  z_int : PySem.W.nsIn K mainGlobals "int" = some none
  z_isinstance : PySem.W.nsIn K mainGlobals "isinstance" = some none
  z_len : PySem.W.nsIn K mainGlobals "len" = some none
  z_list : PySem.W.nsIn K mainGlobals "list" = some none
  z_max : PySem.W.nsIn K mainGlobals "max" = some none
  z_min : PySem.W.nsIn K mainGlobals "min" = some none
  z_range : PySem.W.nsIn K mainGlobals "range" = some none
  z_repr : PySem.W.nsIn K mainGlobals "repr" = some none
  z_set : PySem.W.nsIn K mainGlobals "set" = some none
  z_sorted : PySem.W.nsIn K mainGlobals "sorted" = some none
  z_str : PySem.W.nsIn K mainGlobals "str" = some none
  z_tuple : PySem.W.nsIn K mainGlobals "tuple" = some none
  z_zip : PySem.W.nsIn K mainGlobals "zip" = some none
  k_MOST_PLACES : ∃ t, PySem.W.nsIn K mainGlobals "MOST_PLACES" = some (some (.int (7) t))
  k_MOST_TIES : ∃ t, PySem.W.nsIn K mainGlobals "MOST_TIES" = some (some (.int (11) t))
  k_LETTERS : ∃ t, PySem.W.nsIn K mainGlobals "LETTERS" = some (some (.str "abcdefgh" t))
  k_SIGNS : ∃ t, PySem.W.nsIn K mainGlobals "SIGNS" = some (some (.str "+-" t))
  k_NOWHERE : ∃ t, PySem.W.nsIn K mainGlobals "NOWHERE" = some (some (.int (-1) t))
structure DF_OPPOSITE (K : PySem.W.Frag) (w : World) (dc : Addr) : Prop where
  ns : PySem.W.nsIn K mainGlobals "OPPOSITE" = some (some (.ref dc))
  kd : ∀ z v : Str, (z, v) ∈ ([("+", "-"), ("-", "+")] : List (Str × Str)) → KDct K w dc z (.str v)
theorem df_OPPOSITE {K : PySem.W.Frag} {w : World} {dc : Addr} {es : Array DictEntry} {n : Nat} {t0 t1 : Tok} (ns : PySem.W.nsIn K mainGlobals "OPPOSITE" = some (some (.ref dc))) (l : K.lookup dc = some ⟨.type "dict", none, .dict es n, #[]⟩) (kl : PySem.W.KeysLit w.params es.toList) (v0 : PySem.W.nsIn K dc "+" = some (some (.str "-" t0))) (v1 : PySem.W.nsIn K dc "-" = some (some (.str "+" t1))) : DF_OPPOSITE K w dc := by
  refine ⟨ns, fun z v h => ?_⟩
  rcases List.mem_cons.mp h with e | h
  · cases e
    exact ⟨es, n, _, l, kl, v0, ⟨_, rfl⟩⟩
  have e := List.mem_singleton.mp h
  cases e
  exact ⟨es, n, _, l, kl, v1, ⟨_, rfl⟩⟩
set_option maxHeartbeats 4000000 in
theorem all_mk {K : PySem.W.Frag} {h : Heap} {mg : Str → Option Value} {fa C I f_is_integer f_is_integer_from f_are_letters f_are_places f_is_tie f_first_wrong_tie f_where_no_lot f_check_places f_check_ties f_check_index f_check_lot f_check_leaning f_check_web f_crossing f_check_web_and_leaning f_arrow_of f_arrows_of f_turned_by f_fronts_among f_first_order f_ways_along f_is_each_in_a_ring f_arrows f_turned f_is_ringless f_is_ringed f_fronts f_ring_or_cut f_order_of f_L_purse f_L_take f_L_one f_L_web f_L_lean f_L_ways f_L_reach f_L_in_ring f_L_goes_round f_L_herds f_L_leads_out f_L_flip f_L_first_order f_L_ties_right f_L_right f_law dc_OPPOSITE : Addr} {w : World} (X : K.In h) (G : h.Ns mainGlobals mg) (hfa : mg "law" = some (.ref fa)) (F : Facts K C I f_is_integer f_is_integer_from f_are_letters f_are_places f_is_tie f_first_wrong_tie f_where_no_lot f_check_places f_check_ties f_check_index f_check_lot f_check_leaning f_check_web f_crossing f_check_web_and_leaning f_arrow_of f_arrows_of f_turned_by f_fronts_among f_first_order f_ways_along f_is_each_in_a_ring f_arrows f_turned f_is_ringless f_is_ringed f_fronts f_ring_or_cut f_order_of f_L_purse f_L_take f_L_one f_L_web f_L_lean f_L_ways f_L_reach f_L_in_ring f_L_goes_round f_L_herds f_L_leads_out f_L_flip f_L_first_order f_L_ties_right f_L_right f_law) (D_OPPOSITE : DF_OPPOSITE K w dc_OPPOSITE) :
    ∃ A : Ad, A.law = fa ∧ A.w = w ∧ Tx K mg A := by
  have e := hfa.symm.trans (PySem.W.mg_of X G F.d_law.ns)
  cases e
  obtain ⟨fd_is_integer, F_is_integer⟩ := F.d_is_integer.fn
  obtain ⟨fd_is_integer_from, F_is_integer_from⟩ := F.d_is_integer_from.fn
  obtain ⟨fd_are_letters, F_are_letters⟩ := F.d_are_letters.fn
  obtain ⟨fd_are_places, F_are_places⟩ := F.d_are_places.fn
  obtain ⟨fd_is_tie, F_is_tie⟩ := F.d_is_tie.fn
  obtain ⟨fd_first_wrong_tie, F_first_wrong_tie⟩ := F.d_first_wrong_tie.fn
  obtain ⟨fd_where_no_lot, F_where_no_lot⟩ := F.d_where_no_lot.fn
  obtain ⟨fd_check_places, F_check_places⟩ := F.d_check_places.fn
  obtain ⟨fd_check_ties, F_check_ties⟩ := F.d_check_ties.fn
  obtain ⟨fd_check_index, F_check_index⟩ := F.d_check_index.fn
  obtain ⟨fd_check_lot, F_check_lot⟩ := F.d_check_lot.fn
  obtain ⟨fd_check_leaning, F_check_leaning⟩ := F.d_check_leaning.fn
  obtain ⟨fd_check_web, F_check_web⟩ := F.d_check_web.fn
  obtain ⟨fd_crossing, F_crossing⟩ := F.d_crossing.fn
  obtain ⟨fd_check_web_and_leaning, F_check_web_and_leaning⟩ := F.d_check_web_and_leaning.fn
  obtain ⟨fd_arrow_of, F_arrow_of⟩ := F.d_arrow_of.fn
  obtain ⟨fd_arrows_of, F_arrows_of⟩ := F.d_arrows_of.fn
  obtain ⟨fd_turned_by, F_turned_by⟩ := F.d_turned_by.fn
  obtain ⟨fd_fronts_among, F_fronts_among⟩ := F.d_fronts_among.fn
  obtain ⟨fd_first_order, F_first_order⟩ := F.d_first_order.fn
  obtain ⟨fd_ways_along, F_ways_along⟩ := F.d_ways_along.fn
  obtain ⟨fd_is_each_in_a_ring, F_is_each_in_a_ring⟩ := F.d_is_each_in_a_ring.fn
  obtain ⟨fd_arrows, F_arrows⟩ := F.d_arrows.fn
  obtain ⟨fd_turned, F_turned⟩ := F.d_turned.fn
  obtain ⟨fd_is_ringless, F_is_ringless⟩ := F.d_is_ringless.fn
  obtain ⟨fd_is_ringed, F_is_ringed⟩ := F.d_is_ringed.fn
  obtain ⟨fd_fronts, F_fronts⟩ := F.d_fronts.fn
  obtain ⟨fd_ring_or_cut, F_ring_or_cut⟩ := F.d_ring_or_cut.fn
  obtain ⟨fd_order_of, F_order_of⟩ := F.d_order_of.fn
  obtain ⟨fd_L_purse, F_L_purse⟩ := F.d_L_purse.fn
  obtain ⟨fd_L_take, F_L_take⟩ := F.d_L_take.fn
  obtain ⟨fd_L_one, F_L_one⟩ := F.d_L_one.fn
  obtain ⟨fd_L_web, F_L_web⟩ := F.d_L_web.fn
  obtain ⟨fd_L_lean, F_L_lean⟩ := F.d_L_lean.fn
  obtain ⟨fd_L_ways, F_L_ways⟩ := F.d_L_ways.fn
  obtain ⟨fd_L_reach, F_L_reach⟩ := F.d_L_reach.fn
  obtain ⟨fd_L_in_ring, F_L_in_ring⟩ := F.d_L_in_ring.fn
  obtain ⟨fd_L_goes_round, F_L_goes_round⟩ := F.d_L_goes_round.fn
  obtain ⟨fd_L_herds, F_L_herds⟩ := F.d_L_herds.fn
  obtain ⟨fd_L_leads_out, F_L_leads_out⟩ := F.d_L_leads_out.fn
  obtain ⟨fd_L_flip, F_L_flip⟩ := F.d_L_flip.fn
  obtain ⟨fd_L_first_order, F_L_first_order⟩ := F.d_L_first_order.fn
  obtain ⟨fd_L_ties_right, F_L_ties_right⟩ := F.d_L_ties_right.fn
  obtain ⟨fd_L_right, F_L_right⟩ := F.d_L_right.fn
  obtain ⟨fd_law, F_law⟩ := F.d_law.fn
  obtain ⟨fd_i, F_i⟩ := F.i_d
  have b_is_integer := F_is_integer.binds (ps := ["value"]) fun _ _ _ _ _ _ us hl => match us, hl with | [_], _ => rfl
  have b_is_integer_from := F_is_integer_from.binds (ps := ["value", "low", "high"]) fun _ _ _ _ _ _ us hl => match us, hl with | [_, _, _], _ => rfl
  have b_are_letters := F_are_letters.binds (ps := ["value"]) fun _ _ _ _ _ _ us hl => match us, hl with | [_], _ => rfl
  have b_are_places := F_are_places.binds (ps := ["value"]) fun _ _ _ _ _ _ us hl => match us, hl with | [_], _ => rfl
  have b_is_tie := F_is_tie.binds (ps := ["places", "value"]) fun _ _ _ _ _ _ us hl => match us, hl with | [_, _], _ => rfl
  have b_first_wrong_tie := F_first_wrong_tie.binds (ps := ["places", "ties"]) fun _ _ _ _ _ _ us hl => match us, hl with | [_, _], _ => rfl
  have b_where_no_lot := F_where_no_lot.binds (ps := ["web", "values", "most"]) fun _ _ _ _ _ _ us hl => match us, hl with | [_, _, _], _ => rfl
  have b_check_places := F_check_places.binds (ps := ["places"]) fun _ _ _ _ _ _ us hl => match us, hl with | [_], _ => rfl
  have b_check_ties := F_check_ties.binds (ps := ["places", "ties"]) fun _ _ _ _ _ _ us hl => match us, hl with | [_, _], _ => rfl
  have b_check_index := F_check_index.binds (ps := ["web", "index"]) fun _ _ _ _ _ _ us hl => match us, hl with | [_, _], _ => rfl
  have b_check_lot : ∃ ds, Vals [.int (11)] ds ∧ Binds K fd_check_lot ["web", "lot", "most"] ds := F_check_lot.binds1 (ps := ["web", "lot", "most"]) 2 0 (List.cons_ne_nil _ _) rfl fun _ _ _ _ _ _ _ us its hl hi => match us, hl, its, hi with | [_, _], _, [_], _ => ⟨_, rfl, rfl⟩
  have b_check_leaning := F_check_leaning.binds (ps := ["web", "leaning"]) fun _ _ _ _ _ _ us hl => match us, hl with | [_, _], _ => rfl
  have b_check_web := F_check_web.binds (ps := ["web"]) fun _ _ _ _ _ _ us hl => match us, hl with | [_], _ => rfl
  have b_crossing := F_crossing.binds (ps := ["web", "herd"]) fun _ _ _ _ _ _ us hl => match us, hl with | [_, _], _ => rfl
  have b_check_web_and_leaning := F_check_web_and_leaning.binds (ps := ["web", "leaning"]) fun _ _ _ _ _ _ us hl => match us, hl with | [_, _], _ => rfl
  have b_arrow_of := F_arrow_of.binds (ps := ["tie", "sign"]) fun _ _ _ _ _ _ us hl => match us, hl with | [_, _], _ => rfl
  have b_arrows_of := F_arrows_of.binds (ps := ["web", "leaning"]) fun _ _ _ _ _ _ us hl => match us, hl with | [_, _], _ => rfl
  have b_turned_by := F_turned_by.binds (ps := ["leaning", "lot"]) fun _ _ _ _ _ _ us hl => match us, hl with | [_, _], _ => rfl
  have b_fronts_among := F_fronts_among.binds (ps := ["places", "row"]) fun _ _ _ _ _ _ us hl => match us, hl with | [_, _], _ => rfl
  have b_first_order := F_first_order.binds (ps := ["web", "leaning"]) fun _ _ _ _ _ _ us hl => match us, hl with | [_, _], _ => rfl
  have b_ways_along := F_ways_along.binds (ps := ["row", "start"]) fun _ _ _ _ _ _ us hl => match us, hl with | [_, _], _ => rfl
  have b_is_each_in_a_ring := F_is_each_in_a_ring.binds (ps := ["web", "leaning"]) fun _ _ _ _ _ _ us hl => match us, hl with | [_, _], _ => rfl
  have b_arrows := F_arrows.binds (ps := ["web", "leaning"]) fun _ _ _ _ _ _ us hl => match us, hl with | [_, _], _ => rfl
  have b_turned := F_turned.binds (ps := ["web", "leaning", "lot"]) fun _ _ _ _ _ _ us hl => match us, hl with | [_, _, _], _ => rfl
  have b_is_ringless := F_is_ringless.binds (ps := ["web", "leaning"]) fun _ _ _ _ _ _ us hl => match us, hl with | [_, _], _ => rfl
  have b_is_ringed := F_is_ringed.binds (ps := ["web", "leaning"]) fun _ _ _ _ _ _ us hl => match us, hl with | [_, _], _ => rfl
  have b_fronts := F_fronts.binds (ps := ["web", "leaning"]) fun _ _ _ _ _ _ us hl => match us, hl with | [_, _], _ => rfl
  have b_ring_or_cut := F_ring_or_cut.binds (ps := ["web", "leaning", "index"]) fun _ _ _ _ _ _ us hl => match us, hl with | [_, _, _], _ => rfl
  have b_order_of := F_order_of.binds (ps := ["web", "leaning"]) fun _ _ _ _ _ _ us hl => match us, hl with | [_, _], _ => rfl
  have b_L_purse := F_L_purse.binds (ps := ["_law_script", "_law_k"]) fun _ _ _ _ _ _ us hl => match us, hl with | [_, _], _ => rfl
  have b_L_take := F_L_take.binds (ps := ["_law_purse_here", "_law_many"]) fun _ _ _ _ _ _ us hl => match us, hl with | [_, _], _ => rfl
  have b_L_one := F_L_one.binds (ps := ["_law_purse_here", "_law_things"]) fun _ _ _ _ _ _ us hl => match us, hl with | [_, _], _ => rfl
  have b_L_web := F_L_web.binds (ps := ["_law_purse_here", "_law_most_places", "_law_most_ties"]) fun _ _ _ _ _ _ us hl => match us, hl with | [_, _, _], _ => rfl
  have b_L_lean := F_L_lean.binds (ps := ["_law_purse_here", "_law_ties_here"]) fun _ _ _ _ _ _ us hl => match us, hl with | [_, _], _ => rfl
  have b_L_ways := F_L_ways.binds (ps := ["_law_ties_here", "_law_leaning_here"]) fun _ _ _ _ _ _ us hl => match us, hl with | [_, _], _ => rfl
  have b_L_reach := F_L_reach.binds (ps := ["_law_ways_here", "_law_start"]) fun _ _ _ _ _ _ us hl => match us, hl with | [_, _], _ => rfl
  have b_L_in_ring := F_L_in_ring.binds (ps := ["_law_ways_here", "_law_k"]) fun _ _ _ _ _ _ us hl => match us, hl with | [_, _], _ => rfl
  have b_L_goes_round := F_L_goes_round.binds (ps := ["_law_ways_here", "_law_lot"]) fun _ _ _ _ _ _ us hl => match us, hl with | [_, _], _ => rfl
  have b_L_herds := F_L_herds.binds (ps := ["_law_places_here"]) fun _ _ _ _ _ _ us hl => match us, hl with | [_], _ => rfl
  have b_L_leads_out := F_L_leads_out.binds (ps := ["_law_ties_here", "_law_ways_here", "_law_herd", "_law_lot"]) fun _ _ _ _ _ _ us hl => match us, hl with | [_, _, _, _], _ => rfl
  have b_L_flip := F_L_flip.binds (ps := ["_law_leaning_here", "_law_lot"]) fun _ _ _ _ _ _ us hl => match us, hl with | [_, _], _ => rfl
  have b_L_first_order := F_L_first_order.binds (ps := ["_law_places_here", "_law_ways_here"]) fun _ _ _ _ _ _ us hl => match us, hl with | [_, _], _ => rfl
  have b_L_ties_right := F_L_ties_right.binds (ps := ["_law_mine", "_law_places_here", "_law_ways_here", "_law_leaning_here"]) fun _ _ _ _ _ _ us hl => match us, hl with | [_, _, _, _], _ => rfl
  have b_L_right := F_L_right.binds (ps := ["_law_purse_here"]) fun _ _ _ _ _ _ us hl => match us, hl with | [_], _ => rfl
  have b_law := F_law.binds (ps := ["_law_script"]) fun _ _ _ _ _ _ us hl => match us, hl with | [_], _ => rfl
  have b_i := F_i.binds (ps := ["self", "places", "ties"]) fun _ _ _ _ _ _ us hl => match us, hl with | [_, _, _], _ => rfl
  have kb_ring_or_cut : KBn K fd_ring_or_cut ["web", "leaning", "index"] 0 ["index", "leaning", "web"] (fun _ ws => rev3 ws) (fun _ zs => rev3 zs) := by
    obtain ⟨oc, od, kV, doc, pm, an, cdv, ct, osl, rfl, lk, hcd⟩ := F_ring_or_cut.ex
    exact ⟨fun s us ws _ h1 h2 => match us, ws, h1, h2 with | [], [_, _, _], _, _ => .of_eq (by first | kernel_rfl | rfl), fun _ r => rev3_vals r⟩
  have kb_is_ringless : KBn K fd_is_ringless ["web", "leaning"] 0 ["leaning", "web"] (fun _ ws => swp2 ws) (fun _ zs => swp2 zs) := by
    obtain ⟨oc, od, kV, doc, pm, an, cdv, ct, osl, rfl, lk, hcd⟩ := F_is_ringless.ex
    exact ⟨fun s us ws _ h1 h2 => match us, ws, h1, h2 with | [], [_, _], _, _ => .of_eq (by first | kernel_rfl | rfl), fun _ r => swp2_vals r⟩
  have kb_is_ringed : KBn K fd_is_ringed ["web", "leaning"] 0 ["leaning", "web"] (fun _ ws => swp2 ws) (fun _ zs => swp2 zs) := by
    obtain ⟨oc, od, kV, doc, pm, an, cdv, ct, osl, rfl, lk, hcd⟩ := F_is_ringed.ex
    exact ⟨fun s us ws _ h1 h2 => match us, ws, h1, h2 with | [], [_, _], _, _ => .of_eq (by first | kernel_rfl | rfl), fun _ r => swp2_vals r⟩
  have kb_fronts : KBn K fd_fronts ["web", "leaning"] 0 ["leaning", "web"] (fun _ ws => swp2 ws) (fun _ zs => swp2 zs) := by
    obtain ⟨oc, od, kV, doc, pm, an, cdv, ct, osl, rfl, lk, hcd⟩ := F_fronts.ex
    exact ⟨fun s us ws _ h1 h2 => match us, ws, h1, h2 with | [], [_, _], _, _ => .of_eq (by first | kernel_rfl | rfl), fun _ r => swp2_vals r⟩
  have kc : Cls K C := ⟨F.c_pg, F.c_hd, F.c_po, F.c_sa⟩
  refine ⟨{ is_integer := f_is_integer, fd_is_integer := fd_is_integer, is_integer_from := f_is_integer_from, fd_is_integer_from := fd_is_integer_from, are_letters := f_are_letters, fd_are_letters := fd_are_letters, are_places := f_are_places, fd_are_places := fd_are_places, is_tie := f_is_tie, fd_is_tie := fd_is_tie, first_wrong_tie := f_first_wrong_tie, fd_first_wrong_tie := fd_first_wrong_tie, where_no_lot := f_where_no_lot, fd_where_no_lot := fd_where_no_lot, check_places := f_check_places, fd_check_places := fd_check_places, check_ties := f_check_ties, fd_check_ties := fd_check_ties, check_index := f_check_index, fd_check_index := fd_check_index, check_lot := f_check_lot, fd_check_lot := fd_check_lot, check_leaning := f_check_leaning, fd_check_leaning := fd_check_leaning, check_web := f_check_web, fd_check_web := fd_check_web, crossing := f_crossing, fd_crossing := fd_crossing, check_web_and_leaning := f_check_web_and_leaning, fd_check_web_and_leaning := fd_check_web_and_leaning, arrow_of := f_arrow_of, fd_arrow_of := fd_arrow_of, arrows_of := f_arrows_of, fd_arrows_of := fd_arrows_of, turned_by := f_turned_by, fd_turned_by := fd_turned_by, fronts_among := f_fronts_among, fd_fronts_among := fd_fronts_among, first_order := f_first_order, fd_first_order := fd_first_order, ways_along := f_ways_along, fd_ways_along := fd_ways_along, is_each_in_a_ring := f_is_each_in_a_ring, fd_is_each_in_a_ring := fd_is_each_in_a_ring, arrows := f_arrows, fd_arrows := fd_arrows, turned := f_turned, fd_turned := fd_turned, is_ringless := f_is_ringless, fd_is_ringless := fd_is_ringless, is_ringed := f_is_ringed, fd_is_ringed := fd_is_ringed, fronts := f_fronts, fd_fronts := fd_fronts, ring_or_cut := f_ring_or_cut, fd_ring_or_cut := fd_ring_or_cut, order_of := f_order_of, fd_order_of := fd_order_of, L_purse := f_L_purse, fd_L_purse := fd_L_purse, L_take := f_L_take, fd_L_take := fd_L_take, L_one := f_L_one, fd_L_one := fd_L_one, L_web := f_L_web, fd_L_web := fd_L_web, L_lean := f_L_lean, fd_L_lean := fd_L_lean, L_ways := f_L_ways, fd_L_ways := fd_L_ways, L_reach := f_L_reach, fd_L_reach := fd_L_reach, L_in_ring := f_L_in_ring, fd_L_in_ring := fd_L_in_ring, L_goes_round := f_L_goes_round, fd_L_goes_round := fd_L_goes_round, L_herds := f_L_herds, fd_L_herds := fd_L_herds, L_leads_out := f_L_leads_out, fd_L_leads_out := fd_L_leads_out, L_flip := f_L_flip, fd_L_flip := fd_L_flip, L_first_order := f_L_first_order, fd_L_first_order := fd_L_first_order, L_ties_right := f_L_ties_right, fd_L_ties_right := fd_L_ties_right, L_right := f_L_right, fd_L_right := fd_L_right, law := fa, fd_law := fd_law, Web := C, Web_init := I, fd_Web_init := fd_i, OPPOSITE := dc_OPPOSITE, w := w }, rfl, rfl, ?_⟩
  exact {
    F_is_integer := F_is_integer,
    b_is_integer := b_is_integer,
    g_is_integer := PySem.W.mg_of X G F.d_is_integer.ns,
    F_is_integer_from := F_is_integer_from,
    b_is_integer_from := b_is_integer_from,
    g_is_integer_from := PySem.W.mg_of X G F.d_is_integer_from.ns,
    F_are_letters := F_are_letters,
    b_are_letters := b_are_letters,
    g_are_letters := PySem.W.mg_of X G F.d_are_letters.ns,
    F_are_places := F_are_places,
    b_are_places := b_are_places,
    g_are_places := PySem.W.mg_of X G F.d_are_places.ns,
    F_is_tie := F_is_tie,
    b_is_tie := b_is_tie,
    g_is_tie := PySem.W.mg_of X G F.d_is_tie.ns,
    F_first_wrong_tie := F_first_wrong_tie,
    b_first_wrong_tie := b_first_wrong_tie,
    g_first_wrong_tie := PySem.W.mg_of X G F.d_first_wrong_tie.ns,
    F_where_no_lot := F_where_no_lot,
    b_where_no_lot := b_where_no_lot,
    g_where_no_lot := PySem.W.mg_of X G F.d_where_no_lot.ns,
    F_check_places := F_check_places,
    b_check_places := b_check_places,
    g_check_places := PySem.W.mg_of X G F.d_check_places.ns,
    F_check_ties := F_check_ties,
    b_check_ties := b_check_ties,
    g_check_ties := PySem.W.mg_of X G F.d_check_ties.ns,
    F_check_index := F_check_index,
    b_check_index := b_check_index,
    g_check_index := PySem.W.mg_of X G F.d_check_index.ns,
    F_check_lot := F_check_lot,
    b_check_lot := b_check_lot,
    g_check_lot := PySem.W.mg_of X G F.d_check_lot.ns,
    F_check_leaning := F_check_leaning,
    b_check_leaning := b_check_leaning,
    g_check_leaning := PySem.W.mg_of X G F.d_check_leaning.ns,
    F_check_web := F_check_web,
    b_check_web := b_check_web,
    g_check_web := PySem.W.mg_of X G F.d_check_web.ns,
    F_crossing := F_crossing,
    b_crossing := b_crossing,
    g_crossing := PySem.W.mg_of X G F.d_crossing.ns,
    F_check_web_and_leaning := F_check_web_and_leaning,
    b_check_web_and_leaning := b_check_web_and_leaning,
    g_check_web_and_leaning := PySem.W.mg_of X G F.d_check_web_and_leaning.ns,
    F_arrow_of := F_arrow_of,
    b_arrow_of := b_arrow_of,
    g_arrow_of := PySem.W.mg_of X G F.d_arrow_of.ns,
    F_arrows_of := F_arrows_of,
    b_arrows_of := b_arrows_of,
    g_arrows_of := PySem.W.mg_of X G F.d_arrows_of.ns,
    F_turned_by := F_turned_by,
    b_turned_by := b_turned_by,
    g_turned_by := PySem.W.mg_of X G F.d_turned_by.ns,
    F_fronts_among := F_fronts_among,
    b_fronts_among := b_fronts_among,
    g_fronts_among := PySem.W.mg_of X G F.d_fronts_among.ns,
    F_first_order := F_first_order,
    b_first_order := b_first_order,
    g_first_order := PySem.W.mg_of X G F.d_first_order.ns,
    F_ways_along := F_ways_along,
    b_ways_along := b_ways_along,
    g_ways_along := PySem.W.mg_of X G F.d_ways_along.ns,
    F_is_each_in_a_ring := F_is_each_in_a_ring,
    b_is_each_in_a_ring := b_is_each_in_a_ring,
    g_is_each_in_a_ring := PySem.W.mg_of X G F.d_is_each_in_a_ring.ns,
    F_arrows := F_arrows,
    b_arrows := b_arrows,
    g_arrows := PySem.W.mg_of X G F.d_arrows.ns,
    F_turned := F_turned,
    b_turned := b_turned,
    g_turned := PySem.W.mg_of X G F.d_turned.ns,
    F_is_ringless := F_is_ringless,
    b_is_ringless := b_is_ringless,
    g_is_ringless := PySem.W.mg_of X G F.d_is_ringless.ns,
    F_is_ringed := F_is_ringed,
    b_is_ringed := b_is_ringed,
    g_is_ringed := PySem.W.mg_of X G F.d_is_ringed.ns,
    F_fronts := F_fronts,
    b_fronts := b_fronts,
    g_fronts := PySem.W.mg_of X G F.d_fronts.ns,
    F_ring_or_cut := F_ring_or_cut,
    b_ring_or_cut := b_ring_or_cut,
    g_ring_or_cut := PySem.W.mg_of X G F.d_ring_or_cut.ns,
    F_order_of := F_order_of,
    b_order_of := b_order_of,
    g_order_of := PySem.W.mg_of X G F.d_order_of.ns,
    F_L_purse := F_L_purse,
    b_L_purse := b_L_purse,
    g_L_purse := PySem.W.mg_of X G F.d_L_purse.ns,
    F_L_take := F_L_take,
    b_L_take := b_L_take,
    g_L_take := PySem.W.mg_of X G F.d_L_take.ns,
    F_L_one := F_L_one,
    b_L_one := b_L_one,
    g_L_one := PySem.W.mg_of X G F.d_L_one.ns,
    F_L_web := F_L_web,
    b_L_web := b_L_web,
    g_L_web := PySem.W.mg_of X G F.d_L_web.ns,
    F_L_lean := F_L_lean,
    b_L_lean := b_L_lean,
    g_L_lean := PySem.W.mg_of X G F.d_L_lean.ns,
    F_L_ways := F_L_ways,
    b_L_ways := b_L_ways,
    g_L_ways := PySem.W.mg_of X G F.d_L_ways.ns,
    F_L_reach := F_L_reach,
    b_L_reach := b_L_reach,
    g_L_reach := PySem.W.mg_of X G F.d_L_reach.ns,
    F_L_in_ring := F_L_in_ring,
    b_L_in_ring := b_L_in_ring,
    g_L_in_ring := PySem.W.mg_of X G F.d_L_in_ring.ns,
    F_L_goes_round := F_L_goes_round,
    b_L_goes_round := b_L_goes_round,
    g_L_goes_round := PySem.W.mg_of X G F.d_L_goes_round.ns,
    F_L_herds := F_L_herds,
    b_L_herds := b_L_herds,
    g_L_herds := PySem.W.mg_of X G F.d_L_herds.ns,
    F_L_leads_out := F_L_leads_out,
    b_L_leads_out := b_L_leads_out,
    g_L_leads_out := PySem.W.mg_of X G F.d_L_leads_out.ns,
    F_L_flip := F_L_flip,
    b_L_flip := b_L_flip,
    g_L_flip := PySem.W.mg_of X G F.d_L_flip.ns,
    F_L_first_order := F_L_first_order,
    b_L_first_order := b_L_first_order,
    g_L_first_order := PySem.W.mg_of X G F.d_L_first_order.ns,
    F_L_ties_right := F_L_ties_right,
    b_L_ties_right := b_L_ties_right,
    g_L_ties_right := PySem.W.mg_of X G F.d_L_ties_right.ns,
    F_L_right := F_L_right,
    b_L_right := b_L_right,
    g_L_right := PySem.W.mg_of X G F.d_L_right.ns,
    F_law := F_law,
    b_law := b_law,
    g_law := PySem.W.mg_of X G F.d_law.ns,
    z_abs := PySem.W.mg_none_of X G F.z_abs,
    z_all := PySem.W.mg_none_of X G F.z_all,
    z_bool := PySem.W.mg_none_of X G F.z_bool,
    z_divmod := PySem.W.mg_none_of X G F.z_divmod,
    z_enumerate := PySem.W.mg_none_of X G F.z_enumerate,
    z_int := PySem.W.mg_none_of X G F.z_int,
    z_isinstance := PySem.W.mg_none_of X G F.z_isinstance,
    z_len := PySem.W.mg_none_of X G F.z_len,
    z_list := PySem.W.mg_none_of X G F.z_list,
    z_max := PySem.W.mg_none_of X G F.z_max,
    z_min := PySem.W.mg_none_of X G F.z_min,
    z_range := PySem.W.mg_none_of X G F.z_range,
    z_repr := PySem.W.mg_none_of X G F.z_repr,
    z_set := PySem.W.mg_none_of X G F.z_set,
    z_sorted := PySem.W.mg_none_of X G F.z_sorted,
    z_str := PySem.W.mg_none_of X G F.z_str,
    z_tuple := PySem.W.mg_none_of X G F.z_tuple,
    z_zip := PySem.W.mg_none_of X G F.z_zip,
    c_MOST_PLACES := F.k_MOST_PLACES.elim fun t e => ⟨t, PySem.W.mg_of X G e⟩,
    c_MOST_TIES := F.k_MOST_TIES.elim fun t e => ⟨t, PySem.W.mg_of X G e⟩,
    c_LETTERS := F.k_LETTERS.elim fun t e => ⟨t, PySem.W.mg_of X G e⟩,
    c_SIGNS := F.k_SIGNS.elim fun t e => ⟨t, PySem.W.mg_of X G e⟩,
    c_NOWHERE := F.k_NOWHERE.elim fun t e => ⟨t, PySem.W.mg_of X G e⟩,
    g_OPPOSITE := PySem.W.mg_of X G D_OPPOSITE.ns,
    k_OPPOSITE := D_OPPOSITE.kd,
    g_Web := PySem.W.mg_of X G F.c_ns,
    k_Web := kc,
    i_Web := ⟨kc, F.c_ha, F.c_hn, F.c_ht, F.c_hm⟩,
    n_places := F.c_pl,
    n_ties := F.c_ti,
    m_Web := ⟨F.c_mk, F.c_init, F.c_fn, F.c_kc⟩,
    F_Web_init := F_i,
    b_Web_init := b_i,
    kb_ring_or_cut := kb_ring_or_cut,
    kb_is_ringless := kb_is_ringless,
    kb_is_ringed := kb_is_ringed,
    kb_fronts := kb_fronts }
theorem law_fn {P : Program} {w : World} {K : PySem.W.Frag} {mg : Str → Option Value} {fa : Addr} {h : Heap} (X : K.In h) (G : h.Ns mainGlobals mg) (H : ∃ A : Ad, A.law = fa ∧ A.w = w ∧ Tx K mg A) :
    ∃ fd : FuncData, (∀ (s : Shared) (u : Value), BindsTo s fd ⟨[u], []⟩ [("_law_script", u)]) ∧ ∀ base : Heap, K.In base → base.Ns mainGlobals mg → FnG P w K mg base 10 fa fd ["_law_script"] (toSp K g_law) := by
  obtain ⟨A, rfl, rfl, T⟩ := H
  refine ⟨A.fd_law, fun s u => ?_, fun base _ _ => okG_law T⟩
  obtain ⟨oc, od, kV, doc, pm, an, cdv, ct, osl, e, lk, hcd⟩ := T.F_law.ex
  rw [e]
  exact .of_eq rfl
end K10
set_option Elab.async false
set_option linter.all false
open PySem PySem.W PyProof.Rows
set_option maxRecDepth 100000 in
set_option maxHeartbeats 0 in
theorem PySem.Challenge.cw_webreckon_k18_whole_single_leanings_holds : PySem.Challenge.rw_webreckon_k18_whole_single_leanings.Holds := by
  w_on; o_law; k_head; (case hw => w_witness2)
  k_fill
  refine DL.walk_ofD (l := PySem.Challenge.rw_webreckon_k18_whole_single_leanings) (n := 63) (k := 10) (x := "_law_script") (g := K10.g_law) rfl (by decide) rfl ⟨rfl, by decide, by decide⟩ (fun w h Y => PySem.W.kIn_of Y) ?F ?hsp
  case hsp => exact fun ns hl _ => ⟨ns, rfl, hl, fun _ => rfl⟩
  case F =>
    intro w mg fa h KX G hmg
    refine' K10.law_fn KX G (K10.all_mk KX G hmg ?FF ?DD_OPPOSITE)
    case FF =>
      refine' K10.Facts.mk ?d_is_integer ?d_is_integer_from ?d_are_letters ?d_are_places ?d_is_tie ?d_first_wrong_tie ?d_where_no_lot ?d_check_places ?d_check_ties ?d_check_index ?d_check_lot ?d_check_leaning ?d_check_web ?d_crossing ?d_check_web_and_leaning ?d_arrow_of ?d_arrows_of ?d_turned_by ?d_fronts_among ?d_first_order ?d_ways_along ?d_is_each_in_a_ring ?d_arrows ?d_turned ?d_is_ringless ?d_is_ringed ?d_fronts ?d_ring_or_cut ?d_order_of ?d_L_purse ?d_L_take ?d_L_one ?d_L_web ?d_L_lean ?d_L_ways ?d_L_reach ?d_L_in_ring ?d_L_goes_round ?d_L_herds ?d_L_leads_out ?d_L_flip ?d_L_first_order ?d_L_ties_right ?d_L_right ?d_law ?i_d ?c_ns ?c_init ?c_fn ?c_pg ?c_hd ?c_po ?c_sa ?c_mk ?c_kc ?c_pl ?c_ti ?c_ha ?c_hn ?c_ht ?c_hm ?z_abs ?z_all ?z_bool ?z_divmod ?z_enumerate ?z_int ?z_isinstance ?z_len ?z_list ?z_max ?z_min ?z_range ?z_repr ?z_set ?z_sorted ?z_str ?z_tuple ?z_zip ?k_MOST_PLACES ?k_MOST_TIES ?k_LETTERS ?k_SIGNS ?k_NOWHERE
      (case d_is_integer => refine' K10.def_mk ?a ?l ?c ?k; (case a => k_is); (case l => k_is); (case c => k_is); (case k => k_is))
      (case d_is_integer_from => refine' K10.def_mk ?a ?l ?c ?k; (case a => k_is); (case l => k_is); (case c => k_is); (case k => k_is))
      (case d_are_letters => refine' K10.def_mk ?a ?l ?c ?k; (case a => k_is); (case l => k_is); (case c => k_is); (case k => k_is))
      (case d_are_places => refine' K10.def_mk ?a ?l ?c ?k; (case a => k_is); (case l => k_is); (case c => k_is); (case k => k_is))
      (case d_is_tie => refine' K10.def_mk ?a ?l ?c ?k; (case a => k_is); (case l => k_is); (case c => k_is); (case k => k_is))
      (case d_first_wrong_tie => refine' K10.def_mk ?a ?l ?c ?k; (case a => k_is); (case l => k_is); (case c => k_is); (case k => k_is))
      (case d_where_no_lot => refine' K10.def_mk ?a ?l ?c ?k; (case a => k_is); (case l => k_is); (case c => k_is); (case k => k_is))
      (case d_check_places => refine' K10.def_mk ?a ?l ?c ?k; (case a => k_is); (case l => k_is); (case c => k_is); (case k => k_is))
      (case d_check_ties => refine' K10.def_mk ?a ?l ?c ?k; (case a => k_is); (case l => k_is); (case c => k_is); (case k => k_is))
      (case d_check_index => refine' K10.def_mk ?a ?l ?c ?k; (case a => k_is); (case l => k_is); (case c => k_is); (case k => k_is))
      (case d_check_lot => refine' K10.def_mkD ?a ?l ?c ?k ?lT; (case a => k_is); (case l => k_is); (case c => k_is); (case k => k_is); (case lT => k_is))
      (case d_check_leaning => refine' K10.def_mk ?a ?l ?c ?k; (case a => k_is); (case l => k_is); (case c => k_is); (case k => k_is))
      (case d_check_web => refine' K10.def_mk ?a ?l ?c ?k; (case a => k_is); (case l => k_is); (case c => k_is); (case k => k_is))
      (case d_crossing => refine' K10.def_mk ?a ?l ?c ?k; (case a => k_is); (case l => k_is); (case c => k_is); (case k => k_is))
      (case d_check_web_and_leaning => refine' K10.def_mk ?a ?l ?c ?k; (case a => k_is); (case l => k_is); (case c => k_is); (case k => k_is))
      (case d_arrow_of => refine' K10.def_mk ?a ?l ?c ?k; (case a => k_is); (case l => k_is); (case c => k_is); (case k => k_is))
      (case d_arrows_of => refine' K10.def_mk ?a ?l ?c ?k; (case a => k_is); (case l => k_is); (case c => k_is); (case k => k_is))
      (case d_turned_by => refine' K10.def_mk ?a ?l ?c ?k; (case a => k_is); (case l => k_is); (case c => k_is); (case k => k_is))
      (case d_fronts_among => refine' K10.def_mk ?a ?l ?c ?k; (case a => k_is); (case l => k_is); (case c => k_is); (case k => k_is))
      (case d_first_order => refine' K10.def_mk ?a ?l ?c ?k; (case a => k_is); (case l => k_is); (case c => k_is); (case k => k_is))
      (case d_ways_along => refine' K10.def_mk ?a ?l ?c ?k; (case a => k_is); (case l => k_is); (case c => k_is); (case k => k_is))
      (case d_is_each_in_a_ring => refine' K10.def_mk ?a ?l ?c ?k; (case a => k_is); (case l => k_is); (case c => k_is); (case k => k_is))
      (case d_arrows => refine' K10.def_mk ?a ?l ?c ?k; (case a => k_is); (case l => k_is); (case c => k_is); (case k => k_is))
      (case d_turned => refine' K10.def_mk ?a ?l ?c ?k; (case a => k_is); (case l => k_is); (case c => k_is); (case k => k_is))
      (case d_is_ringless => refine' K10.def_mk ?a ?l ?c ?k; (case a => k_is); (case l => k_is); (case c => k_is); (case k => k_is))
      (case d_is_ringed => refine' K10.def_mk ?a ?l ?c ?k; (case a => k_is); (case l => k_is); (case c => k_is); (case k => k_is))
      (case d_fronts => refine' K10.def_mk ?a ?l ?c ?k; (case a => k_is); (case l => k_is); (case c => k_is); (case k => k_is))
      (case d_ring_or_cut => refine' K10.def_mk ?a ?l ?c ?k; (case a => k_is); (case l => k_is); (case c => k_is); (case k => k_is))
      (case d_order_of => refine' K10.def_mk ?a ?l ?c ?k; (case a => k_is); (case l => k_is); (case c => k_is); (case k => k_is))
      (case d_L_purse => refine' K10.def_mk ?a ?l ?c ?k; (case a => k_is); (case l => k_is); (case c => k_is); (case k => k_is))
      (case d_L_take => refine' K10.def_mk ?a ?l ?c ?k; (case a => k_is); (case l => k_is); (case c => k_is); (case k => k_is))
      (case d_L_one => refine' K10.def_mk ?a ?l ?c ?k; (case a => k_is); (case l => k_is); (case c => k_is); (case k => k_is))
      (case d_L_web => refine' K10.def_mk ?a ?l ?c ?k; (case a => k_is); (case l => k_is); (case c => k_is); (case k => k_is))
      (case d_L_lean => refine' K10.def_mk ?a ?l ?c ?k; (case a => k_is); (case l => k_is); (case c => k_is); (case k => k_is))
      (case d_L_ways => refine' K10.def_mk ?a ?l ?c ?k; (case a => k_is); (case l => k_is); (case c => k_is); (case k => k_is))
      (case d_L_reach => refine' K10.def_mk ?a ?l ?c ?k; (case a => k_is); (case l => k_is); (case c => k_is); (case k => k_is))
      (case d_L_in_ring => refine' K10.def_mk ?a ?l ?c ?k; (case a => k_is); (case l => k_is); (case c => k_is); (case k => k_is))
      (case d_L_goes_round => refine' K10.def_mk ?a ?l ?c ?k; (case a => k_is); (case l => k_is); (case c => k_is); (case k => k_is))
      (case d_L_herds => refine' K10.def_mk ?a ?l ?c ?k; (case a => k_is); (case l => k_is); (case c => k_is); (case k => k_is))
      (case d_L_leads_out => refine' K10.def_mk ?a ?l ?c ?k; (case a => k_is); (case l => k_is); (case c => k_is); (case k => k_is))
      (case d_L_flip => refine' K10.def_mk ?a ?l ?c ?k; (case a => k_is); (case l => k_is); (case c => k_is); (case k => k_is))
      (case d_L_first_order => refine' K10.def_mk ?a ?l ?c ?k; (case a => k_is); (case l => k_is); (case c => k_is); (case k => k_is))
      (case d_L_ties_right => refine' K10.def_mk ?a ?l ?c ?k; (case a => k_is); (case l => k_is); (case c => k_is); (case k => k_is))
      (case d_L_right => refine' K10.def_mk ?a ?l ?c ?k; (case a => k_is); (case l => k_is); (case c => k_is); (case k => k_is))
      (case d_law => refine' K10.def_mk ?a ?l ?c ?k; (case a => k_is); (case l => k_is); (case c => k_is); (case k => k_is))
      (case c_ns => k_is)
      (case c_init => k_is)
      (case i_d => refine' K10.init_mk ?l ?c ?k; (case l => k_is); (case c => k_is); (case k => k_is))
      (case c_fn => k_is)
      (case c_pg => k_is)
      (case c_hd => k_is)
      (case c_po => k_is)
      (case c_sa => k_is)
      (case c_mk => k_is)
      (case c_kc => k_is)
      (case c_pl => k_is)
      (case c_ti => k_is)
      (case c_ha => k_is)
      (case c_hn => k_is)
      (case c_ht => k_is)
      (case c_hm => k_is)
      (case z_abs => k_is)
      (case z_all => k_is)
      (case z_bool => k_is)
      (case z_divmod => k_is)
      (case z_enumerate => k_is)
      (case z_int => k_is)
      (case z_isinstance => k_is)
      (case z_len => k_is)
      (case z_list => k_is)
      (case z_max => k_is)
      (case z_min => k_is)
      (case z_range => k_is)
      (case z_repr => k_is)
      (case z_set => k_is)
      (case z_sorted => k_is)
      (case z_str => k_is)
      (case z_tuple => k_is)
      (case z_zip => k_is)
      (case k_MOST_PLACES => refine' K10.int_mk ?e; (case e => k_is))
      (case k_MOST_TIES => refine' K10.int_mk ?e; (case e => k_is))
      (case k_LETTERS => refine' K10.str_mk ?e; (case e => k_is))
      (case k_SIGNS => refine' K10.str_mk ?e; (case e => k_is))
      (case k_NOWHERE => refine' K10.int_mk ?e; (case e => k_is))
    (case DD_OPPOSITE => refine' K10.df_OPPOSITE ?ns ?l ?kl ?v0 ?v1; (case ns => k_is); (case l => k_is); (case kl => exact ⟨⟨_, _, rfl, rfl⟩, ⟨_, _, rfl, rfl⟩, trivial⟩); (case v0 => k_is); (case v1 => k_is))
