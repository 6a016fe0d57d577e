import PyProof.Rows.All
import Wide.All
import OpenK.AllK
import Wide.FinOn
import PySem.Challenge.RW_escheat_k17_integer_operations
import HandS.ForMost
import HandS.ForExc
import HandS.Walk
import HandS.Flow
import HandS.IsInst
import HandS.StrMore
import HandS.ExcCtx
import HandS.HotCalls
import HandS.Wide
import HandS.TupAny
import HandS.Zip
import HandS.Codes
import HandS.ExcOwn
import PyProof.AutoSeq1
import HandS.More
import KE.IntTextLaws
import HandS.Star
import HandS.Small
import HandS.SortInts
import HandS.RaiseMore
import PyProof.DictUpdate
import PyProof.DictDisplay
import PyProof.ZipIter
import PyProof.ListNew
import HandS.Conv
import HandS.ExcValue
import HandS.TupLe
import HandS.FStr
import KE.KSuper
import KE.KExcSuper
import HandS.ExcInit
import HandS.Nested
import HandS.ExcField
import HandS.ExcIs
import KE.KExcIs
import HandS.ExcInitHot
import KE.GoesMore
import HandS.Property
import HandS.Dict
import HandS.GenList
import HandS.OwnIter
import PyProof.RulesDelMore
import HandS.DictComp
import HandS.CallSlots
import HandS.MakeKwOnly
import HandS.Rev
set_option Elab.async false
set_option linter.all false
set_option maxRecDepth 100000
set_option exponentiation.threshold 3000
/-! values with their depth, a small heap of what changes, and readings that follow a plain function over them -/
namespace MM
open PySem PySem.Spec PyProof.Rows L2

inductive D where
  | non | bl (b : Bool) | int (i : Int) | str (s : Str) | tup (ds : List D) | rol (ds : List D) | ref (n : Nat) | obj (a : Addr) | ty (n : String) | kon (n : Str) | rdc (ks : List Key) (ds : List D) | xo (a d : Addr) (fl : List Str) (ds : List D)
deriving Inhabited

inductive MO where
  | lst (ds : List D) | dic (kvs : List (Key × D)) | ldc (kvs : List (Key × D)) | ins (C : Str) (fs : List (Str × D)) | dead
abbrev MH := List MO
abbrev MS := List (Option D)
abbrev TL := List (Option Addr)
/-- an exception of a class of the top -/
def EV (K : PySem.W.Frag) (c : Str) (v : Value) : Prop := ∃ a, v = .ref a ∧ PySem.W.nsIn K mainGlobals c = some (some (.ref a))

def NL (L : TL) (a : Addr) : Prop := ∀ n : Nat, L[n]? ≠ some (some a)
def KL (K : PySem.W.Frag) (a : Addr) (xs : List V) : Prop :=
  ∃ (o : Obj) (its : Array Value) (n : Nat), K.lookup a = some o ∧ o.cls = .type "list" ∧ o.dict = none ∧ o.data = .seq its n ∧ its.size ≤ sizeLine ∧ Vals xs its.toList
def KT (K : PySem.W.Frag) (a : Addr) (xs : List V) : Prop :=
  ∃ (o : Obj) (its : Array Value) (n : Nat), K.lookup a = some o ∧ o.cls = .type "tuple" ∧ o.data = .seq its n ∧ its.size ≤ sizeLine ∧ Vals xs its.toList
def SF (K : PySem.W.Frag) (L : TL) (H : Hp) (a : Addr) (xs : List V) : Prop := (Rd H a (.lst xs) ∧ NL L a) ∨ KL K a xs
def SU (K : PySem.W.Frag) (L : TL) (H : Hp) (a : Addr) (xs : List V) : Prop := (Rd H a (.tup xs) ∧ NL L a) ∨ KT K a xs

section
variable (K : PySem.W.Frag) (L : TL) (H : Hp)
mutual
def Rep : D → V → Prop
  | .non, v => v = .non
  | .bl b, v => v = .bl b
  | .int i, v => v = .int i
  | .str s, v => v = .str s
  | .obj a, v => v = .ref a
  | .ty n, v => v = .ty n
  | .kon n, v => ∃ a, v = .ref a ∧ PySem.W.nsIn K mainGlobals n = some (some (.ref a))
  | .rdc ks ds, v => ∃ a xs, v = .ref a ∧ Rd H a (.dK (ks.zip xs)) ∧ NL L a ∧ (ks.length = ds.length ∧ ks ≠ []) ∧ RepL ds xs
  | .xo a d fl ds, v => v = .ref a ∧ ∃ xs, Rd H d (.xd (fl.zip xs)) ∧ NL L d ∧ fl.length = ds.length ∧ RepL ds xs
  | .tup ds, v => ∃ a xs, v = .ref a ∧ SU K L H a xs ∧ RepL ds xs
  | .rol ds, v => ∃ a xs, v = .ref a ∧ SF K L H a xs ∧ RepL ds xs
  | .ref n, v => ∃ a, v = .ref a ∧ (L[n]? = some (some a) ∨ L[n]? = some none)
def RepL : List D → List V → Prop
  | [], xs => xs = []
  | d :: ds, xs => ∃ v vs, xs = v :: vs ∧ Rep d v ∧ RepL ds vs
end
def RepK : List (Key × D) → List (Key × V) → Prop
  | [], xs => xs = []
  | d :: ds, xs => ∃ v vs, xs = (d.1, v) :: vs ∧ Rep K L H d.2 v ∧ RepK ds vs
def RepF : List (Str × D) → List (Str × V) → Prop
  | [], xs => xs = []
  | d :: ds, xs => ∃ v vs, xs = (d.1, v) :: vs ∧ Rep K L H d.2 v ∧ RepF ds vs
/-- the slots -/
structure RepS (δ : MS) (σ : L2.St) : Prop where
  len : δ.length = σ.length
  at' : ∀ (i : Nat) (d : D), δ[i]? = some (some d) → ∃ v, σ[i]? = some (some v) ∧ Rep K L H d v
def OAt (l : Option (Option Addr)) : MO → Prop
  | .dead => l = some none
  | .lst ds => ∃ a xs, l = some (some a) ∧ H a = some (.lst xs) ∧ RepL K L H ds xs
  | .dic kvs => ∃ a ws, l = some (some a) ∧ H a = some (.dK ws) ∧ RepK K L H kvs ws
  | .ldc kvs => ∃ a o ws, l = some (some a) ∧ H a = some (.frz o (.dK ws)) ∧ RepK K L H kvs ws
  | .ins C fs => ∃ a dx Ca ws, l = some (some a) ∧ H a = some (.ins Ca dx ws) ∧ RepF K L H fs ws ∧ PySem.W.nsIn K mainGlobals C = some (some (.ref Ca))
structure Rel (h : MH) : Prop where
  len : L.length = h.length
  at' : ∀ (n : Nat) (o : MO), h[n]? = some o → OAt K L H L[n]? o
  inj : ∀ (n m : Nat) (a : Addr), L[n]? = some (some a) → L[m]? = some (some a) → n = m
end
/-- what stands behind stands as it was -/
structure Ext (L : TL) (H : Hp) (L' : TL) (H' : Hp) : Prop where
  live : ∀ (n : Nat) (o : Option Addr), L[n]? = some o → L'[n]? = some o ∨ L'[n]? = some none
  kept : ∀ a o, H a = some o → NL L a → H' a = some o ∧ NL L' a
  lkd : ∀ a o u, H a = some (.frz o u) → H' a = some (.frz o u)
section
variable {K : PySem.W.Frag} {L L' : TL} {H H' : Hp} {h h' : MH} {a p : Addr}
theorem Ext.refl (L : TL) (H : Hp) : Ext L H L H := ⟨fun _ _ e => .inl e, fun _ _ e n => ⟨e, n⟩, fun _ _ _ e => e⟩
theorem Ext.trans {L₁ L₂ L₃ : TL} {H₁ H₂ H₃ : Hp} (x : Ext L₁ H₁ L₂ H₂) (y : Ext L₂ H₂ L₃ H₃) : Ext L₁ H₁ L₃ H₃ := by
  refine ⟨fun n o e => ?_, fun a o e n => ?_, fun a o u e => y.lkd a o u (x.lkd a o u e)⟩
  · rcases x.live n o e with e1 | e1
    · exact y.live n o e1
    · rcases y.live n _ e1 with e2 | e2 <;> exact .inr e2
  · obtain ⟨e1, n1⟩ := x.kept a o e n
    exact y.kept a o e1 n1
theorem Ext.rd (x : Ext L H L' H') {u : HO} (r : Rd H a u) (n : NL L a) : Rd H' a u ∧ NL L' a := by
  rcases r with r | ⟨o, r⟩
  · obtain ⟨e, m⟩ := x.kept a _ r n
    exact ⟨.inl e, m⟩
  · obtain ⟨e, m⟩ := x.kept a _ r n
    exact ⟨.inr ⟨o, e⟩, m⟩
theorem Ext.sf (x : Ext L H L' H') {xs : List V} (r : SF K L H a xs) : SF K L' H' a xs := by
  rcases r with ⟨r, n⟩ | r
  · exact .inl (x.rd r n)
  · exact .inr r
theorem Ext.su (x : Ext L H L' H') {xs : List V} (r : SU K L H a xs) : SU K L' H' a xs := by
  rcases r with ⟨r, n⟩ | r
  · exact .inl (x.rd r n)
  · exact .inr r
mutual
theorem Rep.mono (x : Ext L H L' H') : ∀ {d : D} {v : V}, Rep K L H d v → Rep K L' H' d v
  | .non, _, r => by unfold Rep at r ⊢; exact r
  | .bl _, _, r => by unfold Rep at r ⊢; exact r
  | .int _, _, r => by unfold Rep at r ⊢; exact r
  | .str _, _, r => by unfold Rep at r ⊢; exact r
  | .obj _, _, r => by unfold Rep at r ⊢; exact r
  | .ty _, _, r => by unfold Rep at r ⊢; exact r
  | .kon _, _, r => by unfold Rep at r ⊢; exact r
  | .rdc ks ds, _, r => by
    unfold Rep at r ⊢
    obtain ⟨a, xs, e, s, n, l, q⟩ := r
    exact ⟨a, xs, e, (x.rd s n).1, (x.rd s n).2, l, RepL.mono x q⟩
  | .xo a d fl ds, _, r => by
    unfold Rep at r ⊢
    obtain ⟨e, xs, s, n, l, q⟩ := r
    exact ⟨e, xs, (x.rd s n).1, (x.rd s n).2, l, RepL.mono x q⟩
  | .tup ds, _, r => by
    unfold Rep at r ⊢
    obtain ⟨a, xs, e, s, q⟩ := r
    exact ⟨a, xs, e, x.su s, RepL.mono x q⟩
  | .rol ds, _, r => by
    unfold Rep at r ⊢
    obtain ⟨a, xs, e, s, q⟩ := r
    exact ⟨a, xs, e, x.sf s, RepL.mono x q⟩
  | .ref n, _, r => by
    unfold Rep at r ⊢
    obtain ⟨a, e, q⟩ := r
    refine ⟨a, e, ?_⟩
    rcases q with q | q
    · exact x.live n _ q
    · rcases x.live n _ q with z | z <;> exact .inr z
theorem RepL.mono (x : Ext L H L' H') : ∀ {ds : List D} {vs : List V}, RepL K L H ds vs → RepL K L' H' ds vs
  | [], _, r => by unfold RepL at r ⊢; exact r
  | d :: ds, _, r => by
    unfold RepL at r ⊢
    obtain ⟨v, vs, e, q, w⟩ := r
    exact ⟨v, vs, e, Rep.mono x q, RepL.mono x w⟩
end
theorem RepK.mono (x : Ext L H L' H') : ∀ {ds : List (Key × D)} {vs}, RepK K L H ds vs → RepK K L' H' ds vs
  | [], _, r => r
  | d :: ds, _, ⟨v, vs, e, q, w⟩ => ⟨v, vs, e, q.mono x, RepK.mono x w⟩
theorem RepF.mono (x : Ext L H L' H') : ∀ {ds : List (Str × D)} {vs}, RepF K L H ds vs → RepF K L' H' ds vs
  | [], _, r => r
  | d :: ds, _, ⟨v, vs, e, q, w⟩ => ⟨v, vs, e, q.mono x, RepF.mono x w⟩
theorem RepS.mono {δ : MS} {σ : L2.St} (x : Ext L H L' H') (r : RepS K L H δ σ) : RepS K L' H' δ σ :=
  ⟨r.len, fun i d e => let ⟨v, e1, q⟩ := r.at' i d e; ⟨v, e1, q.mono x⟩⟩
theorem RepS.set {δ : MS} {σ : L2.St} {i : Nat} {d : D} {v : V} (r : RepS K L H δ σ) (q : Rep K L H d v) : RepS K L H (δ.set i (some d)) (σ.set i (some v)) := by
  refine ⟨by rw [List.length_set, List.length_set]; exact r.len, fun j c e => ?_⟩
  by_cases hj : i = j
  · subst hj
    have hi : i < δ.length := by
      have := (List.getElem?_eq_some_iff.mp e).1
      rwa [List.length_set] at this
    rw [List.getElem?_set_self hi] at e
    cases e
    exact ⟨v, List.getElem?_set_self (by rw [← r.len]; exact hi), q⟩
  · rw [List.getElem?_set_ne hj] at e
    rw [List.getElem?_set_ne hj]
    exact r.at' j c e
theorem RepS.setNone {δ : MS} {σ : L2.St} {i : Nat} (r : RepS K L H δ σ) : RepS K L H (δ.set i none) (σ.set i none) := by
  refine ⟨by rw [List.length_set, List.length_set]; exact r.len, fun j c e => ?_⟩
  by_cases hj : i = j
  · subst hj
    have hi : i < δ.length := by
      have := (List.getElem?_eq_some_iff.mp e).1
      rwa [List.length_set] at this
    rw [List.getElem?_set_self hi] at e
    cases e
  · rw [List.getElem?_set_ne hj] at e
    rw [List.getElem?_set_ne hj]
    exact r.at' j c e

/-! ### lists of values -/
theorem RepL.length : ∀ {ds : List D} {vs : List V}, RepL K L H ds vs → ds.length = vs.length
  | [], _, r => by unfold RepL at r; subst r; rfl
  | d :: ds, _, r => by
    unfold RepL at r
    obtain ⟨v, vs, rfl, _, w⟩ := r
    rw [List.length_cons, List.length_cons, RepL.length w]
theorem RepL.nil : RepL K L H [] [] := by unfold RepL; rfl
theorem RepL.cons {d : D} {v : V} {ds vs} (q : Rep K L H d v) (r : RepL K L H ds vs) : RepL K L H (d :: ds) (v :: vs) := by
  unfold RepL; exact ⟨v, vs, rfl, q, r⟩
theorem RepL.cons_inv {d : D} {ds vs} (r : RepL K L H (d :: ds) vs) : ∃ v ws, vs = v :: ws ∧ Rep K L H d v ∧ RepL K L H ds ws := by
  unfold RepL at r; exact r
theorem RepL.nil_inv {vs} (r : RepL K L H [] vs) : vs = [] := by unfold RepL at r; exact r
theorem RepL.get : ∀ {ds : List D} {vs : List V} {i : Nat} {d : D}, RepL K L H ds vs → ds[i]? = some d → ∃ v, vs[i]? = some v ∧ Rep K L H d v
  | [], _, _, _, _, e => by simp at e
  | d :: ds, _, 0, _, r, e => by
    obtain ⟨v, ws, rfl, q, _⟩ := r.cons_inv
    simp at e; subst e
    exact ⟨v, rfl, q⟩
  | d :: ds, _, i + 1, _, r, e => by
    obtain ⟨v, ws, rfl, _, w⟩ := r.cons_inv
    exact RepL.get (i := i) w (by simpa using e)
theorem RepL.get' : ∀ {ds : List D} {vs : List V} {i : Nat} {v : V}, RepL K L H ds vs → vs[i]? = some v → ∃ d, ds[i]? = some d ∧ Rep K L H d v := fun {ds vs i v} r e => by
  have hl := r.length
  have hi := (List.getElem?_eq_some_iff.mp e).1
  have hd : i < ds.length := by omega
  obtain ⟨u, e1, q⟩ := r.get (List.getElem?_eq_getElem hd)
  rw [e] at e1; cases e1
  exact ⟨_, List.getElem?_eq_getElem hd, q⟩
theorem RepL.append : ∀ {ds es : List D} {vs ws : List V}, RepL K L H ds vs → RepL K L H es ws → RepL K L H (ds ++ es) (vs ++ ws)
  | [], _, _, _, r, s => by rw [r.nil_inv]; exact s
  | d :: ds, _, _, _, r, s => by
    obtain ⟨v, vs, rfl, q, w⟩ := r.cons_inv
    exact .cons q (RepL.append w s)
theorem RepL.take : ∀ {ds : List D} {vs : List V} (n : Nat), RepL K L H ds vs → RepL K L H (ds.take n) (vs.take n)
  | _, _, 0, _ => .nil
  | [], _, _ + 1, r => by rw [r.nil_inv]; exact .nil
  | d :: ds, _, n + 1, r => by
    obtain ⟨v, vs, rfl, q, w⟩ := r.cons_inv
    exact .cons q (RepL.take n w)
theorem RepL.drop : ∀ {ds : List D} {vs : List V} (n : Nat), RepL K L H ds vs → RepL K L H (ds.drop n) (vs.drop n)
  | _, _, 0, r => r
  | [], _, _ + 1, r => by rw [r.nil_inv]; exact .nil
  | d :: ds, _, n + 1, r => by
    obtain ⟨v, vs, rfl, _, w⟩ := r.cons_inv
    exact RepL.drop n w
theorem RepL.set {d : D} {v : V} (q : Rep K L H d v) : ∀ {ds : List D} {vs : List V} (n : Nat), RepL K L H ds vs → RepL K L H (ds.set n d) (vs.set n v)
  | [], _, _, r => by rw [r.nil_inv]; exact .nil
  | c :: ds, _, 0, r => by
    obtain ⟨u, vs, rfl, _, w⟩ := r.cons_inv
    exact .cons q w
  | c :: ds, _, n + 1, r => by
    obtain ⟨u, vs, rfl, p, w⟩ := r.cons_inv
    exact .cons p (RepL.set q n w)
theorem RepL.reverse : ∀ {ds : List D} {vs : List V}, RepL K L H ds vs → RepL K L H ds.reverse vs.reverse
  | [], _, r => by rw [r.nil_inv]; exact .nil
  | d :: ds, _, r => by
    obtain ⟨v, vs, rfl, q, w⟩ := r.cons_inv
    rw [List.reverse_cons, List.reverse_cons]
    exact (RepL.reverse w).append (.cons q .nil)
theorem RepL.of_get : ∀ {ds : List D} {vs : List V}, ds.length = vs.length → (∀ (i : Nat) (d : D) (v : V), ds[i]? = some d → vs[i]? = some v → Rep K L H d v) → RepL K L H ds vs
  | [], [], _, _ => .nil
  | [], _ :: _, e, _ => by simp at e
  | _ :: _, [], e, _ => by simp at e
  | d :: ds, v :: vs, e, f => .cons (f 0 d v rfl rfl) (RepL.of_get (by simpa using e) fun i c u h1 h2 => f (i + 1) c u (by simpa using h1) (by simpa using h2))

/-! ### the heap: what may happen -/
theorem Rel.ltL (r : Rel K L H h) {n : Nat} {o : Option Addr} (e : L[n]? = some o) : n < h.length := by
  rw [← r.len]; exact (List.getElem?_eq_some_iff.mp e).1
/-- a live address is tracked, by no tuple and no lock -/
theorem Rel.live (r : Rel K L H h) {n : Nat} (e : L[n]? = some (some a)) : ∃ o, H a = some o := by
  have hn := r.ltL e
  have q := r.at' n h[n] (List.getElem?_eq_getElem hn)
  generalize h[n] = o at q
  cases o with
  | dead => rw [show OAt K L H L[n]? .dead = (L[n]? = some none) from rfl, e] at q; cases q
  | lst ds =>
    obtain ⟨b, xs, e1, e2, _⟩ := q
    rw [e] at e1; cases e1
    exact ⟨_, e2⟩
  | dic ds =>
    obtain ⟨b, xs, e1, e2, _⟩ := q
    rw [e] at e1; cases e1
    exact ⟨_, e2⟩
  | ldc ds =>
    obtain ⟨b, o, xs, e1, e2, _⟩ := q
    rw [e] at e1; cases e1
    exact ⟨_, e2⟩
  | ins C ds =>
    obtain ⟨b, dx, Ca, xs, e1, e2, _⟩ := q
    rw [e] at e1; cases e1
    exact ⟨_, e2⟩
theorem Rel.nl_new (r : Rel K L H h) (hp : H p = none) : NL L p := fun n e => by
  obtain ⟨o, e1⟩ := r.live e
  rw [hp] at e1; cases e1
theorem OAt.mono (x : Ext L H L' H') {l : Option (Option Addr)} {o : MO} (same : ∀ a, l = some (some a) → H' a = H a) (q : OAt K L H l o) : OAt K L' H' l o := by
  cases o with
  | dead => exact q
  | lst ds =>
    obtain ⟨b, xs, e1, e2, w⟩ := q
    exact ⟨b, xs, e1, (same b e1).trans e2, w.mono x⟩
  | dic ds =>
    obtain ⟨b, xs, e1, e2, w⟩ := q
    exact ⟨b, xs, e1, (same b e1).trans e2, w.mono x⟩
  | ldc ds =>
    obtain ⟨b, o, xs, e1, e2, w⟩ := q
    exact ⟨b, o, xs, e1, (same b e1).trans e2, w.mono x⟩
  | ins C ds =>
    obtain ⟨b, dx, Ca, xs, e1, e2, w, hC⟩ := q
    exact ⟨b, dx, Ca, xs, e1, (same b e1).trans e2, w.mono x, hC⟩
/-- something new that is not tracked here -/
theorem Rel.fresh (r : Rel K L H h) {o : HO} (hp : H p = none) : Ext L H L (upd H p o) ∧ Rel K L (upd H p o) h := by
  have x : Ext L H L (upd H p o) := ⟨fun _ _ e => .inl e, fun a u e n => ⟨by rw [upd_ne (ne_of_none e hp)]; exact e, n⟩, fun a ob u e => by rw [upd_ne (ne_of_none e hp)]; exact e⟩
  refine ⟨x, r.len, fun n u e => ?_, r.inj⟩
  refine (r.at' n u e).mono x fun a ea => ?_
  obtain ⟨v, ev⟩ := r.live ea
  exact upd_ne (ne_of_none ev hp)
theorem getElem?_snoc {α : Type} (l : List α) (x : α) (n : Nat) : (l ++ [x])[n]? = if n = l.length then some x else l[n]? := by
  split
  · rename_i e; subst e; simp
  · rename_i e
    by_cases hn : n < l.length
    · rw [List.getElem?_append_left hn]
    · rw [List.getElem?_append_right (by omega), List.getElem?_eq_none (by simp; omega), List.getElem?_eq_none (by omega)]
theorem ext_alloc {o : HO} (hp : H p = none) : Ext L H (L ++ [some p]) (upd H p o) := by
  refine ⟨fun n u e => .inl ?_, fun a u e n => ⟨by rw [upd_ne (ne_of_none e hp)]; exact e, fun k z => ?_⟩, fun a ob u e => by rw [upd_ne (ne_of_none e hp)]; exact e⟩
  · rw [List.getElem?_append_left (List.getElem?_eq_some_iff.mp e).1]; exact e
  · rw [getElem?_snoc] at z
    split at z
    · have e1 : p = a := by simpa using z
      subst e1; rw [hp] at e; cases e
    · exact n k z
/-- a new tracked object -/
theorem Rel.alloc (r : Rel K L H h) {o : HO} {m : MO} (hp : H p = none) (q : OAt K (L ++ [some p]) (upd H p o) (some (some p)) m) : Ext L H (L ++ [some p]) (upd H p o) ∧ Rel K (L ++ [some p]) (upd H p o) (h ++ [m]) := by
  have x : Ext L H (L ++ [some p]) (upd H p o) := ext_alloc hp
  have low : ∀ n : Nat, n ≠ L.length → (L ++ [some p])[n]? = L[n]? := fun n hn => by rw [getElem?_snoc, if_neg hn]
  refine ⟨x, by rw [List.length_append, List.length_append, r.len]; rfl, fun n u e => ?_, fun n k b e1 e2 => ?_⟩
  · rw [getElem?_snoc] at e
    by_cases hn : n = h.length
    · rw [if_pos hn] at e; cases e
      rw [getElem?_snoc, if_pos (by rw [r.len]; exact hn)]
      exact q
    · rw [if_neg hn] at e
      rw [low n (by rw [r.len]; exact hn)]
      refine (r.at' n u e).mono x fun a ea => ?_
      obtain ⟨v, ev⟩ := r.live ea
      exact upd_ne (ne_of_none ev hp)
  · rw [getElem?_snoc] at e1 e2
    split at e1 <;> split at e2
    · rename_i z1 z2; rw [z1, z2]
    · have : p = b := by simpa using e1
      subst this
      exact absurd e2 (r.nl_new hp k)
    · have : p = b := by simpa using e2
      subst this
      exact absurd e1 (r.nl_new hp n)
    · exact r.inj n k b e1 e2
/-- a tracked object is written -/
theorem ext_write {n : Nat} {o : HO} (en : L[n]? = some (some a)) (nf : ∀ o u, H a ≠ some (.frz o u)) : Ext L H L (upd H a o) := ⟨fun _ _ e => .inl e, fun b u e k => ⟨by rw [upd_ne (fun z => k n (by rw [z]; exact en))]; exact e, k⟩, fun b ob u e => by rw [upd_ne (fun z => by subst z; exact nf _ _ e)]; exact e⟩
theorem Rel.write (r : Rel K L H h) {n : Nat} {o : HO} {m : MO} (en : L[n]? = some (some a)) (nf : ∀ o u, H a ≠ some (.frz o u)) (q : OAt K L (upd H a o) (some (some a)) m) : Ext L H L (upd H a o) ∧ Rel K L (upd H a o) (h.set n m) := by
  have x : Ext L H L (upd H a o) := ext_write en nf
  refine ⟨x, by rw [List.length_set]; exact r.len, fun k u e => ?_, r.inj⟩
  by_cases hk : n = k
  · subst hk
    rw [List.getElem?_set_self (r.ltL en)] at e
    cases e
    rw [en]; exact q
  · rw [List.getElem?_set_ne hk] at e
    refine (r.at' k u e).mono x fun b eb => upd_ne fun z => hk (r.inj n k a en (by rw [← z]; exact eb))
/-- a tracked object is tracked no longer -/
theorem Rel.kill (r : Rel K L H h) {n : Nat} (hn : n < h.length) : Ext L H (L.set n none) H ∧ Rel K (L.set n none) H (h.set n .dead) := by
  have hl : n < L.length := by rw [r.len]; exact hn
  have x : Ext L H (L.set n none) H := by
    refine ⟨fun k o e => ?_, fun a o e k => ⟨e, fun j z => ?_⟩, fun _ _ _ e => e⟩
    · by_cases hk : n = k
      · subst hk; exact .inr (List.getElem?_set_self hl)
      · rw [List.getElem?_set_ne hk]; exact .inl e
    · by_cases hj : n = j
      · subst hj; rw [List.getElem?_set_self hl] at z; cases z
      · rw [List.getElem?_set_ne hj] at z; exact k j z
  refine ⟨x, by rw [List.length_set, List.length_set]; exact r.len, fun k o e => ?_, fun k j a e1 e2 => ?_⟩
  · by_cases hk : n = k
    · subst hk
      rw [List.getElem?_set_self hn] at e
      cases e
      exact List.getElem?_set_self hl
    · rw [List.getElem?_set_ne hk] at e
      rw [List.getElem?_set_ne hk]
      exact (r.at' k o e).mono x fun _ _ => rfl
  · have f : ∀ i : Nat, (L.set n none)[i]? = some (some a) → L[i]? = some (some a) := fun i z => by
      by_cases hi : n = i
      · subst hi; rw [List.getElem?_set_self hl] at z; cases z
      · rw [List.getElem?_set_ne hi] at z; exact z
    exact r.inj k j a (f k e1) (f j e2)
theorem NL.kill {n : Nat} (r : Rel K L H h) (e : L[n]? = some (some a)) : NL (L.set n none) a := fun k z => by
  have hl : n < L.length := (List.getElem?_eq_some_iff.mp e).1
  by_cases hk : n = k
  · subst hk; rw [List.getElem?_set_self hl] at z; cases z
  · rw [List.getElem?_set_ne hk] at z
    exact hk (r.inj n k a e z)

/-! ### below -/
mutual
def D.lows (n : Nat) : D → Bool
  | .ref k => decide (k < n)
  | .tup ds => lowsL n ds
  | .rol ds => lowsL n ds
  | .rdc _ ds => lowsL n ds
  | .xo _ _ _ ds => lowsL n ds
  | _ => true
def lowsL (n : Nat) : List D → Bool
  | [] => true
  | d :: ds => d.lows n && lowsL n ds
end
def MO.lows (n : Nat) : MO → Bool
  | .lst ds => lowsL n ds
  | .dic kvs => kvs.all fun p => p.2.lows n
  | .ldc kvs => kvs.all fun p => p.2.lows n
  | .ins _ fs => fs.all fun p => p.2.lows n
  | .dead => true
theorem take_at {L : TL} {k n : Nat} (hn : n < k) : (L.take k)[n]? = L[n]? := List.getElem?_take_of_lt hn
theorem NL.take (k : Nat) (n : NL L a) : NL (L.take k) a := fun i z => by
  by_cases hi : i < k
  · rw [take_at hi] at z; exact n i z
  · rw [List.getElem?_eq_none (by rw [List.length_take]; omega)] at z; cases z
mutual
theorem Rep.take {k : Nat} : ∀ {d : D} {v : V}, d.lows k = true → Rep K L H d v → Rep K (L.take k) H d v
  | .non, _, _, r => by unfold Rep at r ⊢; exact r
  | .bl _, _, _, r => by unfold Rep at r ⊢; exact r
  | .int _, _, _, r => by unfold Rep at r ⊢; exact r
  | .str _, _, _, r => by unfold Rep at r ⊢; exact r
  | .obj _, _, _, r => by unfold Rep at r ⊢; exact r
  | .ty _, _, _, r => by unfold Rep at r ⊢; exact r
  | .kon _, _, _, r => by unfold Rep at r ⊢; exact r
  | .rdc ks ds, _, b, r => by
    unfold Rep at r ⊢
    unfold D.lows at b
    obtain ⟨a, xs, e, s, n, l, q⟩ := r
    exact ⟨a, xs, e, s, n.take k, l, RepL.takeB b q⟩
  | .xo a d fl ds, _, b, r => by
    unfold Rep at r ⊢
    unfold D.lows at b
    obtain ⟨e, xs, s, n, l, q⟩ := r
    exact ⟨e, xs, s, n.take k, l, RepL.takeB b q⟩
  | .tup ds, _, b, r => by
    unfold Rep at r ⊢
    unfold D.lows at b
    obtain ⟨a, xs, e, s, q⟩ := r
    refine ⟨a, xs, e, ?_, RepL.takeB b q⟩
    rcases s with ⟨s, n⟩ | s
    · exact .inl ⟨s, n.take k⟩
    · exact .inr s
  | .rol ds, _, b, r => by
    unfold Rep at r ⊢
    unfold D.lows at b
    obtain ⟨a, xs, e, s, q⟩ := r
    refine ⟨a, xs, e, ?_, RepL.takeB b q⟩
    rcases s with ⟨s, n⟩ | s
    · exact .inl ⟨s, n.take k⟩
    · exact .inr s
  | .ref n, _, b, r => by
    unfold Rep at r ⊢
    unfold D.lows at b
    obtain ⟨a, e, q⟩ := r
    refine ⟨a, e, ?_⟩
    rw [take_at (of_decide_eq_true b)]
    exact q
theorem RepL.takeB {k : Nat} : ∀ {ds : List D} {vs : List V}, lowsL k ds = true → RepL K L H ds vs → RepL K (L.take k) H ds vs
  | [], _, _, r => by unfold RepL at r ⊢; exact r
  | d :: ds, _, b, r => by
    unfold RepL at r ⊢
    unfold lowsL at b
    obtain ⟨v, vs, e, q, w⟩ := r
    rw [Bool.and_eq_true] at b
    exact ⟨v, vs, e, Rep.take b.1 q, RepL.takeB b.2 w⟩
end
mutual
theorem Rep.lows : ∀ {d : D} {v : V}, Rep K L H d v → d.lows L.length = true
  | .non, _, _ => rfl
  | .bl _, _, _ => rfl
  | .int _, _, _ => rfl
  | .str _, _, _ => rfl
  | .obj _, _, _ => rfl
  | .ty _, _, _ => rfl
  | .kon _, _, _ => rfl
  | .rdc ks ds, _, r => by
    unfold Rep at r
    unfold D.lows
    obtain ⟨a, xs, e, s, n, l, q⟩ := r
    exact RepL.lows q
  | .xo a d fl ds, _, r => by
    unfold Rep at r
    unfold D.lows
    obtain ⟨e, xs, s, n, l, q⟩ := r
    exact RepL.lows q
  | .tup ds, _, r => by
    unfold Rep at r
    unfold D.lows
    obtain ⟨a, xs, e, s, q⟩ := r
    exact RepL.lows q
  | .rol ds, _, r => by
    unfold Rep at r
    unfold D.lows
    obtain ⟨a, xs, e, s, q⟩ := r
    exact RepL.lows q
  | .ref n, _, r => by
    unfold Rep at r
    unfold D.lows
    obtain ⟨a, e, q⟩ := r
    rcases q with q | q <;> exact decide_eq_true (List.getElem?_eq_some_iff.mp q).1
theorem RepL.lows : ∀ {ds : List D} {vs : List V}, RepL K L H ds vs → lowsL L.length ds = true
  | [], _, _ => rfl
  | d :: ds, _, r => by
    unfold RepL at r
    unfold lowsL
    obtain ⟨v, vs, e, q, w⟩ := r
    rw [Rep.lows q, RepL.lows w]; rfl
end
theorem RepK.lows : ∀ {ds : List (Key × D)} {vs}, RepK K L H ds vs → (ds.all fun p => p.2.lows L.length) = true
  | [], _, _ => rfl
  | d :: ds, _, ⟨v, vs, e, q, w⟩ => by rw [List.all_cons, q.lows, RepK.lows w]; rfl
theorem RepF.lows : ∀ {ds : List (Str × D)} {vs}, RepF K L H ds vs → (ds.all fun p => p.2.lows L.length) = true
  | [], _, _ => rfl
  | d :: ds, _, ⟨v, vs, e, q, w⟩ => by rw [List.all_cons, q.lows, RepF.lows w]; rfl
theorem RepK.take {k : Nat} : ∀ {ds : List (Key × D)} {vs}, (ds.all fun p => p.2.lows k) = true → RepK K L H ds vs → RepK K (L.take k) H ds vs
  | [], _, _, r => r
  | d :: ds, _, b, ⟨v, vs, e, q, w⟩ => by
    rw [List.all_cons, Bool.and_eq_true] at b
    exact ⟨v, vs, e, q.take b.1, RepK.take b.2 w⟩
theorem RepF.take {k : Nat} : ∀ {ds : List (Str × D)} {vs}, (ds.all fun p => p.2.lows k) = true → RepF K L H ds vs → RepF K (L.take k) H ds vs
  | [], _, _, r => r
  | d :: ds, _, b, ⟨v, vs, e, q, w⟩ => by
    rw [List.all_cons, Bool.and_eq_true] at b
    exact ⟨v, vs, e, q.take b.1, RepF.take b.2 w⟩
theorem OAt.lows {l : Option (Option Addr)} {o : MO} (q : OAt K L H l o) : o.lows L.length = true := by
  cases o with
  | dead => rfl
  | lst ds => obtain ⟨_, _, _, _, w⟩ := q; exact w.lows
  | dic ds => obtain ⟨_, _, _, _, w⟩ := q; exact w.lows
  | ldc ds => obtain ⟨_, _, _, _, _, w⟩ := q; exact w.lows
  | ins C ds => obtain ⟨_, _, _, _, _, _, w, _⟩ := q; exact w.lows
theorem OAt.take {k : Nat} {l : Option (Option Addr)} {o : MO} (b : o.lows k = true) (q : OAt K L H l o) : OAt K (L.take k) H l o := by
  cases o with
  | dead => exact q
  | lst ds => obtain ⟨a, xs, e1, e2, w⟩ := q; exact ⟨a, xs, e1, e2, w.takeB b⟩
  | dic ds => obtain ⟨a, xs, e1, e2, w⟩ := q; exact ⟨a, xs, e1, e2, w.take b⟩
  | ldc ds => obtain ⟨a, o, xs, e1, e2, w⟩ := q; exact ⟨a, o, xs, e1, e2, w.take b⟩
  | ins C ds => obtain ⟨a, dx, Ca, xs, e1, e2, w, hC⟩ := q; exact ⟨a, dx, Ca, xs, e1, e2, w.take b, hC⟩
/-- what a call leaves of its heap: as long as the caller's, each object as it was or of what the caller knows -/
def LeftOf (h h' : MH) : Prop := h.length ≤ h'.length ∧ ∀ (n : Nat) (o : MO), n < h.length → h'[n]? = some o → h[n]? = some o ∨ o.lows h.length = true
theorem Rel.leave (r : Rel K L H h) (r' : Rel K L' H' h') (x : Ext L H L' H') (l : LeftOf h h') : Ext L H (L'.take h.length) H' ∧ Rel K (L'.take h.length) H' (h'.take h.length) := by
  refine ⟨⟨fun n o e => ?_, fun a o e n => let ⟨e1, n1⟩ := x.kept a o e n; ⟨e1, n1.take _⟩, x.lkd⟩, by rw [List.length_take, List.length_take, r'.len], fun n o e => ?_, fun n m a e1 e2 => ?_⟩
  · rw [take_at (r.ltL e)]; exact x.live n o e
  · have hn : n < h.length := by
      have := (List.getElem?_eq_some_iff.mp e).1
      rw [List.length_take] at this; omega
    rw [List.getElem?_take_of_lt hn] at e
    rw [take_at hn]
    refine (r'.at' n o e).take ?_
    rcases l.2 n o hn e with z | z
    · rw [← r.len]; exact (r.at' n o z).lows
    · exact z
  · have f : ∀ i : Nat, (L'.take h.length)[i]? = some (some a) → L'[i]? = some (some a) := fun i z => by
      by_cases hi : i < h.length
      · rw [take_at hi] at z; exact z
      · rw [List.getElem?_eq_none (by rw [List.length_take]; omega)] at z; cases z
    exact r'.inj n m a (f n e1) (f m e2)
end
end MM

namespace MM
open PySem PySem.Spec PyProof.Rows L2

/-- what a plain function over the small heap gives -/
inductive R (α : Type) where
  | ok (a : α) (h : MH)
  | exc (c : Str) (fs : List (Str × D)) (h : MH)
  | stuck
def R.bnd {α β : Type} (r : R α) (f : α → MH → R β) : R β := match r with
  | .ok a h => f a h
  | .exc c fs h => .exc c fs h
  | .stuck => .stuck
@[simp] theorem R.bnd_ok {α β : Type} (a : α) (h : MH) (f : α → MH → R β) : (R.ok a h).bnd f = f a h := rfl
@[simp] theorem R.bnd_exc {α β : Type} (c fs) (h : MH) (f : α → MH → R β) : (R.exc c fs h).bnd f = .exc c fs h := rfl
@[simp] theorem R.bnd_stuck {α β : Type} (f : α → MH → R β) : (R.stuck).bnd f = .stuck := rfl
theorem R.bnd_assoc {α β γ : Type} (r : R α) (f : α → MH → R β) (g : β → MH → R γ) : (r.bnd f).bnd g = r.bnd fun a h => (f a h).bnd g := by cases r <;> rfl
abbrev ME := MS → MH → R D
abbrev MT := MS → MH → R Bool
abbrev MA := MS → MH → R (List D)
abbrev RP (α β : Type) := TL → Hp → α → β → Prop
def rpB : RP Bool Bool := fun _ _ a b => a = b

def Ans {α β : Type} (K : PySem.W.Frag) (rp : RP α β) (L : TL) (H : Hp) (r : R α) (Q : β → Hp → Prop) (E : XK) : Prop := match r with
  | .ok d h' => ∀ L' H' v, Ext L H L' H' → Rel K L' H' h' → rp L' H' d v → Q v H'
  | .exc c fs h' => ∀ L' H' dx xs, Ext L H L' H' → Rel K L' H' h' → H' dx = some (.xd xs) → RepF K L' H' fs xs → ∀ ev, EV K c ev → E ev (some dx) H'
  | .stuck => False
section
variable {α β γ δ' : Type} {K : PySem.W.Frag} {rp : RP α β} {rp2 : RP γ δ'} {L L' : TL} {H H' : Hp} {E : XK}
theorem Ans.mono {r : R α} {Q : β → Hp → Prop} (x : Ext L H L' H') (a : Ans K rp L H r Q E) : Ans K rp L' H' r Q E := by
  cases r with
  | ok d h => exact fun L2 H2 v e => a L2 H2 v (x.trans e)
  | exc c fs h => exact fun L2 H2 dx xs e => a L2 H2 dx xs (x.trans e)
  | stuck => exact a
theorem Ans.imp {r : R α} {Q Q' : β → Hp → Prop} (a : Ans K rp L H r Q E) (f : ∀ v H', Q v H' → Q' v H') : Ans K rp L H r Q' E := by
  cases r with
  | ok d h => exact fun L2 H2 v e r q => f _ _ (a L2 H2 v e r q)
  | exc c fs h => exact a
  | stuck => exact a
theorem Ans.bind {r : R α} {k : α → MH → R γ} {Q : δ' → Hp → Prop} (a : Ans K rp2 L H (r.bnd k) Q E) :
    Ans K rp L H r (fun v H1 => ∃ L1 h1 d, Ext L H L1 H1 ∧ Rel K L1 H1 h1 ∧ rp L1 H1 d v ∧ Ans K rp2 L1 H1 (k d h1) Q E) E := by
  cases r with
  | ok d h => exact fun L2 H2 v e r q => ⟨L2, h, d, e, r, q, Ans.mono e a⟩
  | exc c fs h => exact a
  | stuck => exact a
end

def tE (K : PySem.W.Frag) (W : WX) (m : ME) : TE := fun σ H Q => ∃ L h δ, Rel K L H h ∧ RepS K L H δ σ ∧ Ans K (Rep K) L H (m δ h) Q (WE W σ)
def tT (K : PySem.W.Frag) (W : WX) (m : MT) : TT := fun σ H Q => ∃ L h δ, Rel K L H h ∧ RepS K L H δ σ ∧ Ans K rpB L H (m δ h) Q (WE W σ)
def tA (K : PySem.W.Frag) (W : WX) (m : MA) : TA := fun σ H Q => ∃ L h δ, Rel K L H h ∧ RepS K L H δ σ ∧ Ans K (RepL K) L H (m δ h) Q (WE W σ)
def PEM (X : Cx) (W : WX) (e : Expr) (m : ME) : Prop := PE X e (tE X.K W m)
def PTM (X : Cx) (W : WX) (e : Expr) (m : MT) : Prop := PT X e (tT X.K W m)
def PWM (X : Cx) (W : WX) (e : Expr) (m : MT) : Prop := PW X e (tT X.K W m)
def PAM (X : Cx) (W : WX) (es : List Expr) (m : MA) : Prop := PA X es (tA X.K W m)
theorem _root_.L2.PE.imp {X : Cx} {e : Expr} {t t' : TE} (p : PE X e t) (h : ∀ σ H Q, t' σ H Q → t σ H Q) : PE X e t' := ⟨fun pins s σ H Q I q => p.run pins s σ H Q I (h σ H Q q)⟩
theorem _root_.L2.PT.imp {X : Cx} {e : Expr} {t t' : TT} (p : PT X e t) (h : ∀ σ H Q, t' σ H Q → t σ H Q) : PT X e t' := ⟨fun pins s σ H Q I q => p.run pins s σ H Q I (h σ H Q q)⟩
theorem _root_.L2.PW.imp {X : Cx} {e : Expr} {t t' : TT} (p : PW X e t) (h : ∀ σ H Q, t' σ H Q → t σ H Q) : PW X e t' := ⟨fun wh pins s σ H Q I q => p.run wh pins s σ H Q I (h σ H Q q)⟩
theorem _root_.L2.PA.imp {X : Cx} {e : List Expr} {t t' : TA} (p : PA X e t) (h : ∀ σ H Q, t' σ H Q → t σ H Q) : PA X e t' := ⟨fun wh pins s σ H Q I q => p.run wh pins s σ H Q I (h σ H Q q)⟩
theorem _root_.L2.PS.imp {X : Cx} {e : Stmt} {t t' : TS} (p : PS X e t) (h : ∀ D σ H, t' D σ H → t D σ H) : PS X e t' := ⟨fun pins s σ H Q I q => p.run pins s σ H Q I (h Q σ H q)⟩
theorem _root_.L2.PSs.imp {X : Cx} {e : List Stmt} {t t' : TS} (p : PSs X e t) (h : ∀ D σ H, t' D σ H → t D σ H) : PSs X e t' := ⟨fun pins s σ H Q I q => p.run pins s σ H Q I (h Q σ H q)⟩

/-! ### names, constants -/
def mVar (i : Nat) : ME := fun δ h => match δ[i]? with
  | some (some d) => .ok d h
  | _ => .stuck
def mC (d : D) : ME := fun _ h => .ok d h
section
variable {X : Cx} {W : WX} {pos : Pos} {a b c : Expr} {ma mb mc : ME}
theorem tE_val {K : PySem.W.Frag} {L : TL} {H : Hp} {h : MH} {d : D} {v : V} {Q : VK} {E : XK} (r : Rel K L H h) (q : Rep K L H d v) (a : Ans K (Rep K) L H (.ok d h) Q E) : Q v H := a L H v (Ext.refl L H) r q
theorem rep_none {K L H} : Rep K L H .non .non := by unfold Rep; rfl
theorem rep_bl {K L H} {b : Bool} : Rep K L H (.bl b) (.bl b) := by unfold Rep; rfl
theorem rep_int {K L H} {i : Int} : Rep K L H (.int i) (.int i) := by unfold Rep; rfl
theorem rep_str {K L H} {s : Str} : Rep K L H (.str s) (.str s) := by unfold Rep; rfl
theorem rep_obj {K L H} {a : Addr} : Rep K L H (.obj a) (.ref a) := by unfold Rep; rfl
theorem rep_ty {K L H} {n : String} : Rep K L H (.ty n) (.ty n) := by unfold Rep; rfl
theorem pem_var {i : Nat} {x : Str} (h : PE X (.Name x pos) (tVar i)) : PEM X W (.Name x pos) (mVar i) := by
  refine PE.imp h fun σ H Q ⟨L, h, δ, r, s, a⟩ => ?_
  unfold mVar at a
  split at a
  · rename_i d e
    obtain ⟨v, e1, q⟩ := s.at' i d e
    exact ⟨v, e1, tE_val r q a⟩
  · exact a.elim
theorem pem_c {e : Expr} {d : D} {v : V} (h : PE X e (tC v)) (q : ∀ L H, Rep X.K L H d v) : PEM X W e (mC d) :=
  PE.imp h fun σ H Q ⟨L, h, δ, r, s, a⟩ => tE_val r (q L H) a
theorem pem_int {i j} : PEM X W (.Constant (.int i) j pos) (mC (.int i)) := pem_c pe_int fun _ _ => rep_int
theorem pem_bl {i j} : PEM X W (.Constant (.bool i) j pos) (mC (.bl i)) := pem_c pe_bl fun _ _ => rep_bl
theorem pem_non {j} : PEM X W (.Constant .none j pos) (mC .non) := pem_c pe_non fun _ _ => rep_none
theorem pem_str {i j} : PEM X W (.Constant (.str i) j pos) (mC (.str i)) := pem_c pe_str fun _ _ => rep_str

/-! ### operators -/
def mOp (f : D → D → MH → R D) (a b : ME) : ME := fun δ h => (a δ h).bnd fun x h1 => (b δ h1).bnd fun y h2 => f x y h2
def mUn (f : D → MH → R D) (a : ME) : ME := fun δ h => (a δ h).bnd fun x h1 => f x h1
def OpM (K : PySem.W.Frag) (r : R2) (f : D → D → MH → R D) : Prop := ∀ (L : TL) (H : Hp) (h : MH) (dx dy : D) (x y : V) (Q : VK) (E : XK), Rel K L H h → Rep K L H dx x → Rep K L H dy y → Ans K (Rep K) L H (f dx dy h) Q E → r x y H Q
def UnM (K : PySem.W.Frag) (r : V → Hp → VK → Prop) (f : D → MH → R D) : Prop := ∀ (L : TL) (H : Hp) (h : MH) (dx : D) (x : V) (Q : VK) (E : XK), Rel K L H h → Rep K L H dx x → Ans K (Rep K) L H (f dx h) Q E → r x H Q
theorem tOp_of {K : PySem.W.Frag} {W : WX} {r : R2} {f : D → D → MH → R D} (hm : OpM K r f) {σ : L2.St} {H : Hp} {Q : VK} (t : tE K W (mOp f ma mb) σ H Q) : tOp r (tE K W ma) (tE K W mb) σ H Q := by
  obtain ⟨L, h, δ, r0, s, a⟩ := t
  refine ⟨L, h, δ, r0, s, Ans.imp a.bind fun v H1 ⟨L1, h1, d, x1, r1, p1, a1⟩ => ⟨L1, h1, δ, r1, s.mono x1, Ans.imp a1.bind fun u H2 ⟨L2, h2, d2, x2, r2, p2, a2⟩ => ?_⟩⟩
  exact hm L2 H2 h2 d d2 v u Q _ r2 (p1.mono x2) p2 a2
theorem pem_op {op : Operator} {r : R2} {f : D → D → MH → R D} (ho : OpR X (binaryOp op) r) (hm : OpM X.K r f) (ha : PEM X W a ma) (hb : PEM X W b mb) : PEM X W (.BinOp a op b pos) (mOp f ma mb) :=
  PE.imp (pe_op ho ha hb) fun _ _ _ t => tOp_of hm t
theorem pem_cmp {op : CmpOp} {r : R2} {f : D → D → MH → R D} (ho : OpR X (compareOp op) r) (hm : OpM X.K r f) (hn : behindInMarks op b = false) (ha : PEM X W a ma) (hb : PEM X W b mb) : PEM X W (.Compare a [op] [b] pos) (mOp f ma mb) :=
  PE.imp (pe_cmpR ho ha hb hn) fun _ _ _ t => tOp_of hm t
theorem pem_un {op : UnaryOp} {r : V → Hp → VK → Prop} {f : D → MH → R D} (ho : UnR X (unaryOp op) r) (hm : UnM X.K r f) (ha : PEM X W a ma) : PEM X W (.UnaryOp op a pos) (mUn f ma) := by
  refine PE.imp (pe_un ho ha) fun σ H Q ⟨L, h, δ, r0, s, a⟩ => ?_
  exact ⟨L, h, δ, r0, s, Ans.imp a.bind fun v H1 ⟨L1, h1, d, x1, r1, p1, a1⟩ => hm L1 H1 h1 d v Q _ r1 p1 a1⟩
/-- a test that is a comparison -/
def isB (d : D) (h : MH) : R Bool := match d with
  | .bl b => .ok b h
  | _ => .stuck
def mB (m : ME) : MT := fun δ h => (m δ h).bnd isB
theorem ans_isB {K L H h d v} {Q : Bool → Hp → Prop} {E : XK} (r : Rel K L H h) (q : Rep K L H d v) (a : Ans K rpB L H (isB d h) Q E) : ∃ k, v = .bl k ∧ Q k H := by
  cases d with
  | bl b =>
    unfold Rep at q
    exact ⟨b, q, a L H b (Ext.refl _ _) r rfl⟩
  | _ => exact a.elim
theorem ptm_cmp {op : CmpOp} {r : R2} {f : D → D → MH → R D} (ho : OpR X (compareOp op) r) (hm : OpM X.K r f) (hn : behindInMarks op b = false) (ha : PEM X W a ma) (hb : PEM X W b mb) : PTM X W (.Compare a [op] [b] pos) (mB (mOp f ma mb)) := by
  refine PT.imp (pt_cmpR ho ha hb hn) fun σ H Q ⟨L, h, δ, r0, s, a⟩ => ?_
  refine tOp_of hm (K := X.K) (W := W) ⟨L, h, δ, r0, s, Ans.imp (Ans.bind (rp := Rep X.K) a) fun v H1 ⟨L1, h1, d, x1, r1, p1, a1⟩ => ?_⟩
  exact ans_isB r1 p1 a1
/-- a list, wherever it lies; a dict -/
def lst? (h : MH) (n : Nat) : Option (List D) := match h[n]? with
  | some (.lst ds) => some ds
  | _ => none
def dic? (h : MH) (n : Nat) : Option (List (Key × D)) := match h[n]? with
  | some (.dic ds) => some ds
  | _ => none
def lstD (d : D) (h : MH) : Option (List D) := match d with
  | .rol ds => some ds
  | .ref n => lst? h n
  | _ => none
def dicD (d : D) (h : MH) : Option (List (Key × D)) := match d with
  | .ref n => dic? h n
  | _ => none
theorem lst?_at {h : MH} {n : Nat} {ds} (e : lst? h n = some ds) : h[n]? = some (.lst ds) := by
  unfold lst? at e
  split at e
  · rename_i z; cases e; exact z
  · cases e
theorem dic?_at {h : MH} {n : Nat} {ds} (e : dic? h n = some ds) : h[n]? = some (.dic ds) := by
  unfold dic? at e
  split at e
  · rename_i z; cases e; exact z
  · cases e
/-- any value as a test -/
def truD (d : D) (h : MH) : R Bool := match d with
  | .non => .ok false h
  | .bl b => .ok b h
  | .int i => .ok (i != 0) h
  | .str s => if s.length ≤ 16777216 then .ok ((s.length : Int) != 0) h else .stuck
  | .tup ds => .ok (!ds.isEmpty) h
  | d => match lstD d h with
    | some ds => .ok (!ds.isEmpty) h
    | none => match dicD d h with
      | some kvs => .ok (!kvs.isEmpty) h
      | none => .stuck
def mTru (m : ME) : MT := fun δ h => (m δ h).bnd truD
theorem SF.sq {K L H a xs} (s : SF K L H a xs) : SqL K H a xs := by
  rcases s with ⟨s, _⟩ | s
  · exact .inl s
  · exact .inr s
theorem SU.sq {K L H a xs} (s : SU K L H a xs) : SqT K H a xs := by
  rcases s with ⟨s, _⟩ | s
  · exact .inl s
  · exact .inr s
theorem RepL.empty {K L H ds vs} (r : RepL K L H ds vs) : ds.isEmpty = vs.isEmpty := by
  have := r.length
  cases ds <;> cases vs <;> simp_all
theorem RepK.empty {K L H} : ∀ {ds : List (Key × D)} {vs}, RepK K L H ds vs → ds.isEmpty = vs.isEmpty
  | [], _, r => by cases r; rfl
  | d :: ds, _, ⟨v, vs, e, _, _⟩ => by subst e; rfl
theorem Rel.lst {K L H} {h : MH} {n : Nat} {ds} (r : Rel K L H h) (e : h[n]? = some (.lst ds)) : ∃ a xs, L[n]? = some (some a) ∧ H a = some (.lst xs) ∧ RepL K L H ds xs := r.at' n _ e
theorem Rel.dic {K L H} {h : MH} {n : Nat} {ds} (r : Rel K L H h) (e : h[n]? = some (.dic ds)) : ∃ a xs, L[n]? = some (some a) ∧ H a = some (.dK xs) ∧ RepK K L H ds xs := r.at' n _ e
theorem Rep.ref {K L H} {n : Nat} {v a} (q : Rep K L H (.ref n) v) (e : L[n]? = some (some a)) : v = .ref a := by
  unfold Rep at q
  obtain ⟨b, e1, z | z⟩ := q
  · rw [e] at z; cases z; exact e1
  · rw [e] at z; cases z
theorem lstD_of {K L H} {h : MH} {d v ds} (r : Rel K L H h) (q : Rep K L H d v) (e : lstD d h = some ds) : ∃ p xs, v = .ref p ∧ SqL K H p xs ∧ RepL K L H ds xs := by
  cases d with
  | rol es =>
    cases e
    unfold Rep at q
    obtain ⟨p, xs, rfl, s, w⟩ := q
    exact ⟨p, xs, rfl, s.sq, w⟩
  | ref n =>
    obtain ⟨p, xs, e1, e2, w⟩ := r.lst (lst?_at e)
    exact ⟨p, xs, q.ref e1, SqL.of e2, w⟩
  | _ => cases e
theorem dicD_of {K L H} {h : MH} {d v ds} (r : Rel K L H h) (q : Rep K L H d v) (e : dicD d h = some ds) : ∃ p xs, v = .ref p ∧ H p = some (.dK xs) ∧ RepK K L H ds xs := by
  cases d with
  | ref n =>
    obtain ⟨p, xs, e1, e2, w⟩ := r.dic (dic?_at e)
    exact ⟨p, xs, q.ref e1, e2, w⟩
  | _ => cases e
theorem tup_of {K L H} {v ds} (q : Rep K L H (.tup ds) v) : ∃ p xs, v = .ref p ∧ SqT K H p xs ∧ RepL K L H ds xs := by
  unfold Rep at q
  obtain ⟨p, xs, rfl, s, w⟩ := q
  exact ⟨p, xs, rfl, s.sq, w⟩
theorem ans_okB {K L H} {h : MH} {b : Bool} {Q : Bool → Hp → Prop} {E : XK} (r : Rel K L H h) (a : Ans K rpB L H (.ok b h) Q E) : Q b H := a L H b (Ext.refl _ _) r rfl
theorem ans_tru {K L H} {h : MH} {d v} {Q : Bool → Hp → Prop} {E : XK} (r : Rel K L H h) (q : Rep K L H d v) (a : Ans K rpB L H (truD d h) Q E) : ∃ k, TruV K v H k ∧ Q k H := by
  have big : ∀ d, truD d h = (match lstD d h with
    | some ds => .ok (!ds.isEmpty) h
    | none => match dicD d h with
      | some kvs => .ok (!kvs.isEmpty) h
      | none => .stuck) → Rep K L H d v → Ans K rpB L H (truD d h) Q E → ∃ k, TruV K v H k ∧ Q k H := fun d e q a => by
    rw [e] at a
    cases e1 : lstD d h with
    | some ds =>
      rw [e1] at a
      obtain ⟨p, xs, rfl, s, w⟩ := lstD_of r q e1
      exact ⟨_, .inl ⟨xs, s, rfl⟩, by rw [← w.empty]; exact ans_okB r a⟩
    | none =>
      rw [e1] at a
      cases e2 : dicD d h with
      | some ds =>
        rw [e2] at a
        obtain ⟨p, xs, rfl, s, w⟩ := dicD_of r q e2
        exact ⟨_, .inr (.inr ⟨xs, s, rfl⟩), by rw [← w.empty]; exact ans_okB r a⟩
      | none => rw [e2] at a; exact a.elim
  cases d with
  | non => unfold Rep at q; subst q; exact ⟨_, rfl, ans_okB r a⟩
  | bl b => unfold Rep at q; subst q; exact ⟨_, rfl, ans_okB r a⟩
  | int b => unfold Rep at q; subst q; exact ⟨_, rfl, ans_okB r a⟩
  | str s =>
    unfold Rep at q; subst q
    by_cases hs : s.length ≤ 16777216
    · rw [show truD (.str s) h = .ok ((s.length : Int) != 0) h from if_pos hs] at a
      exact ⟨_, ⟨by rw [sizeLine_eq]; exact hs, rfl⟩, ans_okB r a⟩
    · rw [show truD (.str s) h = .stuck from if_neg hs] at a; exact a.elim
  | tup ds =>
    obtain ⟨p, xs, rfl, s, w⟩ := tup_of q
    exact ⟨_, .inr (.inl ⟨xs, s, rfl⟩), by rw [← w.empty]; exact ans_okB r a⟩
  | rol ds => exact big _ rfl q a
  | ref n => exact big _ rfl q a
  | obj _ => exact a.elim
  | ty _ => exact a.elim
  | kon _ => exact a.elim
  | rdc _ _ => exact a.elim
  | xo _ _ _ _ => exact a.elim
theorem ptm_val (ha : PEM X W a ma) (he : ∀ whole, isTrue a X.env whole = (do let v ← whole; standAt a.pos; holding [v] (truthy v)) := by intro _; rfl) : PTM X W a (mTru ma) := by
  refine PT.imp (pt_truth ha he) fun σ H Q ⟨L, h, δ, r0, s, a⟩ => ?_
  exact ⟨L, h, δ, r0, s, Ans.imp a.bind fun v H1 ⟨L1, h1, d, x1, r1, p1, a1⟩ => ans_tru r1 p1 a1⟩
def mNot (m : MT) : MT := fun δ h => (m δ h).bnd fun b h1 => .ok (!b) h1
def mAnd (m n : MT) : MT := fun δ h => (m δ h).bnd fun b h1 => if b then n δ h1 else .ok false h1
def mOr (m n : MT) : MT := fun δ h => (m δ h).bnd fun b h1 => if b then .ok true h1 else n δ h1
variable {na nb : MT} {rest : List Expr}
theorem tT_ok {K L H h} {b : Bool} {Q : Bool → Hp → Prop} {E : XK} (r : Rel K L H h) (a : Ans K rpB L H (.ok b h) Q E) : Q b H := a L H b (Ext.refl _ _) r rfl
theorem ptm_not (ha : PTM X W a na) : PTM X W (.UnaryOp .Not a pos) (mNot na) := by
  refine PT.imp (pt_not ha) fun σ H Q ⟨L, h, δ, r0, s, a⟩ => ?_
  refine ⟨L, h, δ, r0, s, Ans.imp (Ans.bind (rp := rpB) a) fun v H1 ⟨L1, h1, d, x1, r1, p1, a1⟩ => ?_⟩
  cases p1
  exact tT_ok r1 a1
theorem pwm_and1 (ha : PTM X W a na) : PWM X W (.BoolOp .And [a] pos) na := pw_and1 ha
theorem pwm_or1 (ha : PTM X W a na) : PWM X W (.BoolOp .Or [a] pos) na := pw_or1 ha
theorem pwm_and (ha : PTM X W a na) (hb : PWM X W (.BoolOp .And (b :: rest) pos) nb) : PWM X W (.BoolOp .And (a :: b :: rest) pos) (mAnd na nb) := by
  refine PW.imp (pw_and ha hb) fun σ H Q ⟨L, h, δ, r0, s, a⟩ => ?_
  refine ⟨L, h, δ, r0, s, Ans.imp (Ans.bind (rp := rpB) a) fun v H1 ⟨L1, h1, d, x1, r1, p1, a1⟩ => ?_⟩
  cases p1
  cases v with
  | true => exact ⟨L1, h1, δ, r1, s.mono x1, a1⟩
  | false => exact tT_ok r1 a1
theorem pwm_or (ha : PTM X W a na) (hb : PWM X W (.BoolOp .Or (b :: rest) pos) nb) : PWM X W (.BoolOp .Or (a :: b :: rest) pos) (mOr na nb) := by
  refine PW.imp (pw_or ha hb) fun σ H Q ⟨L, h, δ, r0, s, a⟩ => ?_
  refine ⟨L, h, δ, r0, s, Ans.imp (Ans.bind (rp := rpB) a) fun v H1 ⟨L1, h1, d, x1, r1, p1, a1⟩ => ?_⟩
  cases p1
  cases v with
  | false => exact ⟨L1, h1, δ, r1, s.mono x1, a1⟩
  | true => exact tT_ok r1 a1
theorem ptm_w (h : PWM X W a na) : PTM X W a na := PW.pt h
def mIf (t : MT) (a b : ME) : ME := fun δ h => (t δ h).bnd fun c h1 => if c then a δ h1 else b δ h1
theorem pem_if (hc : PTM X W c na) (ha : PEM X W a ma) (hb : PEM X W b mb) : PEM X W (.IfExp c a b pos) (mIf na ma mb) := by
  refine PE.imp (pe_ifExp hc ha hb) fun σ H Q ⟨L, h, δ, r0, s, a⟩ => ?_
  refine ⟨L, h, δ, r0, s, Ans.imp (Ans.bind (rp := rpB) a) fun v H1 ⟨L1, h1, d, x1, r1, p1, a1⟩ => ?_⟩
  cases p1
  cases v with
  | true => exact ⟨L1, h1, δ, r1, s.mono x1, a1⟩
  | false => exact ⟨L1, h1, δ, r1, s.mono x1, a1⟩
theorem isB_inv {α β : Type} {rp : RP α β} {K L H} {h : MH} {d : D} {k : Bool → MH → R α} {Q : β → Hp → Prop} {E : XK} (a : Ans K rp L H ((isB d h).bnd k) Q E) : ∃ b, d = .bl b ∧ Ans K rp L H (k b h) Q E := by
  cases d with
  | bl b => exact ⟨b, rfl, a⟩
  | _ => exact a.elim
theorem rep_bl_inv {K L H b v} (q : Rep K L H (.bl b) v) : v = .bl b := by unfold Rep at q; exact q
theorem ans_okE {K L H} {h : MH} {d : D} {v : V} {Q : VK} {E : XK} (r : Rel K L H h) (q : Rep K L H d v) (a : Ans K (Rep K) L H (.ok d h) Q E) : Q v H := a L H v (Ext.refl L H) r q
/-- and, or, not as values: all but the last are bools -/
def mAndV (m n : ME) : ME := fun δ h => (m δ h).bnd fun x h1 => (isB x h1).bnd fun b h2 => if b then n δ h2 else .ok (.bl false) h2
def mOrV (m n : ME) : ME := fun δ h => (m δ h).bnd fun x h1 => (isB x h1).bnd fun b h2 => if b then .ok (.bl true) h2 else n δ h2
def mNotV (m : ME) : ME := fun δ h => (m δ h).bnd fun x h1 => (isB x h1).bnd fun b h2 => .ok (.bl (!b)) h2
theorem pem_one {op} (ha : PEM X W a ma) : PEM X W (.BoolOp op [a] pos) ma := pe_one ha
theorem pem_and (ha : PEM X W a ma) (hb : PEM X W (.BoolOp .And (b :: rest) pos) mb) : PEM X W (.BoolOp .And (a :: b :: rest) pos) (mAndV ma mb) := by
  refine PE.imp (pe_and ha hb) fun σ H Q ⟨L, h, δ, r0, s, a⟩ => ?_
  refine ⟨L, h, δ, r0, s, Ans.imp (Ans.bind (rp := Rep X.K) a) fun v H1 ⟨L1, h1, d, x1, r1, p1, a1⟩ => ?_⟩
  obtain ⟨b, rfl, a2⟩ := isB_inv a1
  refine ⟨b, rep_bl_inv p1, ?_⟩
  cases b with
  | true => exact iteT (show tE X.K W mb σ H1 Q from ⟨L1, h1, δ, r1, s.mono x1, a2⟩)
  | false => exact iteF (ans_okE r1 rep_bl a2)
theorem pem_or (ha : PEM X W a ma) (hb : PEM X W (.BoolOp .Or (b :: rest) pos) mb) : PEM X W (.BoolOp .Or (a :: b :: rest) pos) (mOrV ma mb) := by
  refine PE.imp (pe_or ha hb) fun σ H Q ⟨L, h, δ, r0, s, a⟩ => ?_
  refine ⟨L, h, δ, r0, s, Ans.imp (Ans.bind (rp := Rep X.K) a) fun v H1 ⟨L1, h1, d, x1, r1, p1, a1⟩ => ?_⟩
  obtain ⟨b, rfl, a2⟩ := isB_inv a1
  refine ⟨b, rep_bl_inv p1, ?_⟩
  cases b with
  | true => exact iteT (ans_okE r1 rep_bl a2)
  | false => exact iteF (show tE X.K W mb σ H1 Q from ⟨L1, h1, δ, r1, s.mono x1, a2⟩)
theorem pem_not (ha : PEM X W a ma) : PEM X W (.UnaryOp .Not a pos) (mNotV ma) := by
  refine PE.imp (pe_not ha) fun σ H Q ⟨L, h, δ, r0, s, a⟩ => ?_
  refine ⟨L, h, δ, r0, s, Ans.imp (Ans.bind (rp := Rep X.K) a) fun v H1 ⟨L1, h1, d, x1, r1, p1, a1⟩ => ?_⟩
  obtain ⟨b, rfl, a2⟩ := isB_inv a1
  exact ⟨b, rep_bl_inv p1, ans_okE r1 rep_bl a2⟩
/-- a < b < c -/
def mChain (f g : D → D → MH → R D) (a b c : ME) : ME := fun δ h => (a δ h).bnd fun x h1 => (b δ h1).bnd fun y h2 => (f x y h2).bnd fun z h3 => (isB z h3).bnd fun t h4 =>
  if t then (c δ h4).bnd fun w h5 => g y w h5 else .ok (.bl false) h4
theorem tChain_of {K : PySem.W.Frag} {r r' : R2} {f g : D → D → MH → R D} (hm : OpM K r f) (hm' : OpM K r' g) {σ : L2.St} {H : Hp} {Q : VK} (t : tE K W (mChain f g ma mb mc) σ H Q) : tChain r r' (tE K W ma) (tE K W mb) (tE K W mc) σ H Q := by
  obtain ⟨L, h, δ, r0, s, a⟩ := t
  refine ⟨L, h, δ, r0, s, Ans.imp (Ans.bind (rp := Rep K) a) fun v H1 ⟨L1, h1, d, x1, r1, p1, a1⟩ => ⟨L1, h1, δ, r1, s.mono x1, Ans.imp (Ans.bind (rp := Rep K) a1) fun u H2 ⟨L2, h2, d2, x2, r2, p2, a2⟩ => ?_⟩⟩
  refine hm L2 H2 h2 d d2 v u _ _ r2 (p1.mono x2) p2 (Ans.imp (Ans.bind (rp := Rep K) a2) fun z H3 ⟨L3, h3, d3, x3, r3, p3, a3⟩ => ?_)
  obtain ⟨b, rfl, a4⟩ := isB_inv a3
  refine ⟨b, rep_bl_inv p3, ?_⟩
  cases b with
  | false => exact iteF (ans_okE r3 rep_bl a4)
  | true =>
    refine iteT (show tE K W mc σ H3 _ from ?_)
    refine ⟨L3, h3, δ, r3, s.mono (x1.trans (x2.trans x3)), Ans.imp (Ans.bind (rp := Rep K) a4) fun w H4 ⟨L4, h4, d4, x4, r4, p4, a5⟩ => ?_⟩
    exact hm' L4 H4 h4 d2 d4 u w Q _ r4 (p2.mono (x3.trans x4)) p4 a5
theorem pem_chain {op op' : CmpOp} {r r' : R2} {f g : D → D → MH → R D} (ho : OpR X (compareOp op) r) (ho' : OpR X (compareOp op') r') (hm : OpM X.K r f) (hm' : OpM X.K r' g) (ha : PEM X W a ma) (hb : PEM X W b mb) (hc : PEM X W c mc)
    (h1 : lastMarks [op, op'] [b, c] = false) : PEM X W (.Compare a [op, op'] [b, c] pos) (mChain f g ma mb mc) :=
  PE.imp (pe_chain ho ho' ha hb hc h1) fun _ _ _ t => tChain_of hm hm' t
theorem ptm_chain {op op' : CmpOp} {r r' : R2} {f g : D → D → MH → R D} (ho : OpR X (compareOp op) r) (ho' : OpR X (compareOp op') r') (hm : OpM X.K r f) (hm' : OpM X.K r' g) (ha : PEM X W a ma) (hb : PEM X W b mb) (hc : PEM X W c mc)
    (h1 : lastMarks [op, op'] [b, c] = false) : PTM X W (.Compare a [op, op'] [b, c] pos) (mB (mChain f g ma mb mc)) := by
  refine PT.imp (pt_chain ho ho' ha hb hc h1) fun σ H Q ⟨L, h, δ, r0, s, a⟩ => ?_
  refine tChain_of hm hm' (K := X.K) (W := W) ⟨L, h, δ, r0, s, Ans.imp (Ans.bind (rp := Rep X.K) a) fun v H1 ⟨L1, h1, d, x1, r1, p1, a1⟩ => ?_⟩
  exact ans_isB r1 p1 a1
end
end MM

namespace MM
open PySem PySem.Spec PyProof.Rows L2

inductive Fl where
  | next (δ : MS) | ret (d : D) | brk (δ : MS) | cont (δ : MS)
inductive SR where
  | ok (f : Fl) (h : MH)
  | exc (c : Str) (fs : List (Str × D)) (δ : MS) (h : MH)
  | stuck
abbrev MSt := MS → MH → SR
def AnsF (K : PySem.W.Frag) (D : Ends) (L : TL) (H : Hp) (f : Fl) (h' : MH) : Prop := match f with
  | .next δ => ∀ L' H' σ', Ext L H L' H' → Rel K L' H' h' → RepS K L' H' δ σ' → D.nx σ' H'
  | .ret d => ∀ L' H' v, Ext L H L' H' → Rel K L' H' h' → Rep K L' H' d v → D.rt v H'
  | .brk δ => ∀ L' H' σ', Ext L H L' H' → Rel K L' H' h' → RepS K L' H' δ σ' → D.bk σ' H'
  | .cont δ => ∀ L' H' σ', Ext L H L' H' → Rel K L' H' h' → RepS K L' H' δ σ' → D.ct σ' H'
def AnsS (K : PySem.W.Frag) (D : Ends) (W : WX) (L : TL) (H : Hp) (r : SR) : Prop := match r with
  | .ok f h' => AnsF K D L H f h'
  | .exc c fs δ h' => ∀ L' H' σ' dx xs, Ext L H L' H' → Rel K L' H' h' → RepS K L' H' δ σ' → H' dx = some (.xd xs) → RepF K L' H' fs xs → ∀ ev, EV K c ev → W ev (some dx) σ' H'
  | .stuck => False
def tS (K : PySem.W.Frag) (W : WX) (m : MSt) : TS := fun D σ H => ∃ L h δ, Rel K L H h ∧ RepS K L H δ σ ∧ AnsS K D W L H (m δ h)
def PSM (X : Cx) (W : WX) (st : Stmt) (m : MSt) : Prop := PS X st (tS X.K W m)
def PSsM (X : Cx) (W : WX) (st : List Stmt) (m : MSt) : Prop := PSs X st (tS X.K W m)
def R.st {α : Type} (r : R α) (δ : MS) (k : α → MH → SR) : SR := match r with
  | .ok a h => k a h
  | .exc c fs h => .exc c fs δ h
  | .stuck => .stuck
@[simp] theorem R.st_ok {α : Type} (a : α) (h : MH) (δ) (k : α → MH → SR) : (R.ok a h).st δ k = k a h := rfl
@[simp] theorem R.st_exc {α : Type} (c fs) (h : MH) (δ) (k : α → MH → SR) : (R.exc c fs h).st δ k = .exc c fs δ h := rfl
@[simp] theorem R.st_stuck {α : Type} (δ) (k : α → MH → SR) : (R.stuck).st δ k = .stuck := rfl
section
variable {α β : Type} {K : PySem.W.Frag} {rp : RP α β} {L L' : TL} {H H' : Hp} {D D' : Ends} {W : WX}
theorem AnsF.mono {f : Fl} {h : MH} (x : Ext L H L' H') (a : AnsF K D L H f h) : AnsF K D L' H' f h := by
  cases f with
  | next δ => exact fun L2 H2 v e => a L2 H2 v (x.trans e)
  | ret δ => exact fun L2 H2 v e => a L2 H2 v (x.trans e)
  | brk δ => exact fun L2 H2 v e => a L2 H2 v (x.trans e)
  | cont δ => exact fun L2 H2 v e => a L2 H2 v (x.trans e)
theorem AnsS.mono {r : SR} (x : Ext L H L' H') (a : AnsS K D W L H r) : AnsS K D W L' H' r := by
  cases r with
  | ok f h => exact AnsF.mono x a
  | exc c fs δ h => exact fun L2 H2 s dx xs e => a L2 H2 s dx xs (x.trans e)
  | stuck => exact a
/-- an expression, then what a statement does with its value -/
theorem AnsS.bind {r : R α} {δ : MS} {σ : L2.St} {k : α → MH → SR} (s : RepS K L H δ σ) (a : AnsS K D W L H (r.st δ k)) :
    Ans K rp L H r (fun v H1 => ∃ L1 h1 d, Ext L H L1 H1 ∧ Rel K L1 H1 h1 ∧ rp L1 H1 d v ∧ RepS K L1 H1 δ σ ∧ AnsS K D W L1 H1 (k d h1)) (WE W σ) := by
  cases r with
  | ok d h => exact fun L2 H2 v e r q => ⟨L2, h, d, e, r, q, s.mono e, AnsS.mono e a⟩
  | exc c fs h => exact fun L2 H2 dx xs e r q1 q2 => a L2 H2 σ dx xs e r (s.mono e) q1 q2
  | stuck => exact a
theorem AnsS.nx {δ : MS} {h : MH} {σ : L2.St} (r : Rel K L H h) (s : RepS K L H δ σ) (a : AnsS K D W L H (.ok (.next δ) h)) : D.nx σ H := a L H σ (Ext.refl _ _) r s
theorem AnsS.rt {d : MM.D} {h : MH} {v : V} (r : Rel K L H h) (s : Rep K L H d v) (a : AnsS K D W L H (.ok (.ret d) h)) : D.rt v H := a L H v (Ext.refl _ _) r s
end

/-! ### blocks -/
def mNext : MSt := fun δ h => .ok (.next δ) h
def SR.seq (r : SR) (k : MSt) : SR := match r with
  | .ok (.next δ) h => k δ h
  | r => r
def mSeq (a b : MSt) : MSt := fun δ h => (a δ h).seq b
@[simp] theorem SR.seq_next (δ h k) : (SR.ok (.next δ) h).seq k = k δ h := rfl
@[simp] theorem SR.seq_ret (δ h k) : (SR.ok (.ret δ) h).seq k = .ok (.ret δ) h := rfl
@[simp] theorem SR.seq_brk (δ h k) : (SR.ok (.brk δ) h).seq k = .ok (.brk δ) h := rfl
@[simp] theorem SR.seq_cont (δ h k) : (SR.ok (.cont δ) h).seq k = .ok (.cont δ) h := rfl
@[simp] theorem SR.seq_exc (c fs δ h k) : (SR.exc c fs δ h).seq k = .exc c fs δ h := rfl
section
variable {X : Cx} {W : WX} {pos : Pos} {e : Expr} {me : ME} {st : Stmt} {rest body : List Stmt} {ma mb : MSt}
theorem pssm_nil : PSsM X W [] mNext := PSs.imp pss_nil fun D σ H ⟨L, h, δ, r, s, a⟩ => a.nx r s
theorem tSeq_of {K : PySem.W.Frag} {D : Ends} {σ : L2.St} {H : Hp} (t : tS K W (mSeq ma mb) D σ H) : tSeq (tS K W ma) (tS K W mb) D σ H := by
  obtain ⟨L, h, δ, r, s, a⟩ := t
  refine ⟨L, h, δ, r, s, ?_⟩
  unfold mSeq at a
  generalize ma δ h = m at a
  cases m with
  | ok f h1 =>
    cases f with
    | next δ1 => exact fun L1 H1 σ1 x1 r1 s1 => ⟨L1, h1, δ1, r1, s1, a.mono x1⟩
    | ret d => exact a
    | brk d => exact a
    | cont d => exact a
  | exc c fs δ h1 => exact a
  | stuck => exact a
theorem pssm_cons (h1 : PSM X W st ma) (h2 : PSsM X W rest mb) : PSsM X W (st :: rest) (mSeq ma mb) := PSs.imp (pss_cons h1 h2) fun _ _ _ t => tSeq_of t
theorem pssm_one (h1 : PSM X W st ma) : PSsM X W [st] ma := pss_one h1
def mBrk : MSt := fun δ h => .ok (.brk δ) h
def mCont : MSt := fun δ h => .ok (.cont δ) h
theorem psm_pass : PSM X W (.Pass pos) mNext := PS.imp ps_pass fun D σ H ⟨L, h, δ, r, s, a⟩ => a.nx r s
theorem psm_break : PSM X W (.Break pos) mBrk := PS.imp ps_break fun D σ H ⟨L, h, δ, r, s, a⟩ => a L H σ (Ext.refl _ _) r s
theorem psm_continue : PSM X W (.Continue pos) mCont := PS.imp ps_continue fun D σ H ⟨L, h, δ, r, s, a⟩ => a L H σ (Ext.refl _ _) r s
/-! ### simple statements -/
def mDrop (m : ME) : MSt := fun δ h => (m δ h).st δ fun _ h1 => .ok (.next δ) h1
theorem psm_expr (he : PEM X W e me) (hs : swapsWith e none pos.line X.env = pure false := by rfl) : PSM X W (.Expr e pos) (mDrop me) :=
  PS.imp (ps_expr he hs) fun D σ H ⟨L, h, δ, r, s, a⟩ => ⟨L, h, δ, r, s, Ans.imp (AnsS.bind (rp := Rep X.K) s a) fun v H1 ⟨L1, h1, d, x1, r1, p1, s1, a1⟩ => a1.nx r1 s1⟩
def mRet (m : ME) : MSt := fun δ h => (m δ h).st δ fun d h1 => .ok (.ret d) h1
theorem psm_ret (he : PEM X W e me) : PSM X W (.Return (some e) pos) (mRet me) :=
  PS.imp (ps_ret he) fun D σ H ⟨L, h, δ, r, s, a⟩ => ⟨L, h, δ, r, s, Ans.imp (AnsS.bind (rp := Rep X.K) s a) fun v H1 ⟨L1, h1, d, x1, r1, p1, s1, a1⟩ => a1.rt r1 p1⟩
theorem psm_retN : PSM X W (.Return none pos) (mRet (mC .non)) :=
  PS.imp ps_retN fun D σ H ⟨L, h, δ, r, s, a⟩ => AnsS.rt r rep_none a
def mIfS (t : MT) (a b : MSt) : MSt := fun δ h => (t δ h).st δ fun c h1 => if c then a δ h1 else b δ h1
theorem psm_if {c : Expr} {a b : List Stmt} {mt : MT} (hc : PTM X W c mt) (ha : PSsM X W a ma) (hb : PSsM X W b mb) : PSM X W (.If c a b pos) (mIfS mt ma mb) := by
  refine PS.imp (ps_if hc ha hb) fun D σ H ⟨L, h, δ, r, s, a⟩ => ?_
  refine ⟨L, h, δ, r, s, Ans.imp (AnsS.bind (rp := rpB) s a) fun v H1 ⟨L1, h1, d, x1, r1, p1, s1, a1⟩ => ?_⟩
  cases p1
  cases v with
  | true => exact iteT (show tS X.K W ma D σ H1 from ⟨L1, h1, δ, r1, s1, a1⟩)
  | false => exact iteF (show tS X.K W mb D σ H1 from ⟨L1, h1, δ, r1, s1, a1⟩)
/-! ### targets -/
abbrev MG := D → MS → Option MS
abbrev MGs := List D → MS → Option MS
/-- a target stores at the slots S alone -/
def Only (S : List Nat) (σ σ' : L2.St) : Prop := σ'.length = σ.length ∧ ∀ i : Nat, i ∉ S → σ'[i]? = σ[i]?
def tG (K : PySem.W.Frag) (S : List Nat) (g : MG) : TG := fun v σ H Q => ∃ L h δ d, Rel K L H h ∧ RepS K L H δ σ ∧ Rep K L H d v ∧ ∃ δ', g d δ = some δ' ∧ ∀ σ', RepS K L H δ' σ' → Only S σ σ' → Q σ' H
def tGs (K : PySem.W.Frag) (S : List Nat) (g : MGs) : TGs := fun vs σ H Q => ∃ L h δ ds, Rel K L H h ∧ RepS K L H δ σ ∧ RepL K L H ds vs ∧ ∃ δ', g ds δ = some δ' ∧ ∀ σ', RepS K L H δ' σ' → Only S σ σ' → Q σ' H
theorem _root_.L2.PG.imp {X : Cx} {e : Expr} {t t' : TG} (p : PG X e t) (h : ∀ v σ H Q, t' v σ H Q → t v σ H Q) : PG X e t' :=
  ⟨fun pins s σ H v u Q I r q => p.run pins s σ H v u Q I r (h _ _ _ _ q)⟩
theorem _root_.L2.PGs.imp {X : Cx} {e : List Expr} {t t' : TGs} (p : PGs X e t) (h : ∀ v σ H Q, t' v σ H Q → t v σ H Q) : PGs X e t' :=
  ⟨fun pins s σ H v u Q I r q => p.run pins s σ H v u Q I r (h _ _ _ _ q)⟩
def PGM (X : Cx) (e : Expr) (S : List Nat) (g : MG) : Prop := PG X e (tG X.K S g)
def PGsM (X : Cx) (e : List Expr) (S : List Nat) (g : MGs) : Prop := PGs X e (tGs X.K S g)
def mgName (i : Nat) : MG := fun d δ => some (δ.set i (some d))
theorem Only.set {σ : L2.St} {i : Nat} {v : Option V} : Only [i] σ (σ.set i v) := ⟨List.length_set .., fun j hj => List.getElem?_set_ne (fun e => hj (by simp [e]))⟩
theorem Only.refl {S : List Nat} {σ : L2.St} : Only S σ σ := ⟨rfl, fun _ _ => rfl⟩
theorem Only.trans {S T : List Nat} {a b c : L2.St} (x : Only S a b) (y : Only T b c) : Only (S ++ T) a c := ⟨y.1.trans x.1, fun i hi => (y.2 i fun z => hi (List.mem_append_right _ z)).trans (x.2 i fun z => hi (List.mem_append_left _ z))⟩
theorem pgm_name {i : Nat} {x : Str} (h : PG X (.Name x pos) (gName i)) : PGM X (.Name x pos) [i] (mgName i) :=
  PG.imp h fun v σ H Q ⟨L, h, δ, d, r, s, p, δ', e, q⟩ => by
    cases e
    exact q _ (s.set p) Only.set
def mgNil : MGs := fun ds δ => match ds with
  | [] => some δ
  | _ => none
def mgCons (g : MG) (gs : MGs) : MGs := fun ds δ => match ds with
  | [] => none
  | d :: ds => (g d δ).bind fun δ' => gs ds δ'
theorem pgsm_nil : PGsM X [] [] mgNil := PGs.imp pgs_nil fun v σ H Q ⟨L, h, δ, ds, r, s, p, δ', e, q⟩ => by
  cases ds with
  | nil => cases e; exact ⟨p.nil_inv, q σ s Only.refl⟩
  | cons _ _ => cases e
theorem pgsm_cons {S T : List Nat} {es : List Expr} {g : MG} {gs : MGs} (h1 : PGM X e S g) (h2 : PGsM X es T gs)
    (hs : (assignEach (e :: es) X.env).map (·.2) = assign e X.env :: (assignEach es X.env).map (·.2) := by rfl) : PGsM X (e :: es) (S ++ T) (mgCons g gs) :=
  PGs.imp (pgs_cons h1 h2 hs) fun v σ H Q ⟨L, h, δ, ds, r, s, p, δ', e, q⟩ => by
    cases ds with
    | nil => cases e
    | cons d ds =>
      obtain ⟨v, ws, rfl, p1, p2⟩ := p.cons_inv
      unfold mgCons at e
      obtain ⟨δ1, e1, e2⟩ := Option.bind_eq_some_iff.mp e
      exact ⟨v, ws, rfl, L, h, δ, d, r, s, p1, δ1, e1, fun σ1 s1 o1 => ⟨L, h, δ1, ds, r, s1, p2, δ', e2, fun σ2 s2 o2 => q σ2 s2 (o1.trans o2)⟩⟩
/-- (a, b, ..) = a tuple -/
def mgTup (n : Nat) (gs : MGs) : MG := fun d δ => match d with
  | .tup ds => if ds.length = n then gs ds δ else none
  | _ => none
theorem pgm_tup {S : List Nat} {es : List Expr} {k n : Nat} {gs : MGs} (hc : X.calm = true) (h : PGsM X es S gs)
    (hn : (assignEach es X.env).length = n := by rfl) (hst : (assignEach es X.env).findIdx? (·.1) = none := by rfl) : PGM X (.Tuple es k pos) S (mgTup n gs) :=
  PG.imp (pg_tup hc h hn hst) fun v σ H Q ⟨L, h, δ, d, r, s, p, δ', e, q⟩ => by
    cases d with
    | tup ds =>
      obtain ⟨a, xs, rfl, st, w⟩ := tup_of p
      replace e : (if ds.length = n then gs ds δ else none) = some δ' := e
      by_cases hl : ds.length = n
      · rw [if_pos hl] at e
        exact ⟨a, xs, rfl, st, by rw [← w.length]; exact hl, L, h, δ, ds, r, s, w, δ', e, q⟩
      · rw [if_neg hl] at e; cases e
    | _ => cases e
/-- x = e -/
def mAsg (m : ME) (g : MG) : MSt := fun δ h => (m δ h).st δ fun d h1 => match g d δ with
  | some δ' => .ok (.next δ') h1
  | none => .stuck
abbrev mSet (i : Nat) (m : ME) : MSt := fun δ h => (m δ h).st δ fun d h1 => .ok (.next (δ.set i (some d))) h1
theorem psm_asg {S : List Nat} {tg : Expr} {g : MG} (he : PEM X W e me) (hg : PGM X tg S g) (hs : swapsWithSole [tg] e pos.line X.env = pure false := by rfl) (hw : swappedStores [tg] e X.env = pure none := by rfl) (h1 : (assignEach [tg] X.env).map (·.2) = [assign tg X.env] := by rfl) : PSM X W (.Assign [tg] e pos) (mAsg me g) :=
  PS.imp (ps_asg he hg hs hw h1) fun D σ H ⟨L, h, δ, r, s, a⟩ => ⟨L, h, δ, r, s, Ans.imp (AnsS.bind (rp := Rep X.K) s a) fun v H1 ⟨L1, h1, d, x1, r1, p1, s1, a1⟩ => by
    cases e : g d δ with
    | none => rw [e] at a1; exact a1.elim
    | some δ' =>
      rw [e] at a1
      exact ⟨L1, h1, δ, d, r1, s1, p1, δ', e, fun σ' s' _ => a1.nx r1 s'⟩⟩
theorem psm_set {i : Nat} {x : Str} {pos' : Pos} (h : PS X (.Assign [.Name x pos'] e pos) (tAsg (tE X.K W me) (gName i))) : PSM X W (.Assign [.Name x pos'] e pos) (mSet i me) :=
  PS.imp h fun D σ H ⟨L, h, δ, r, s, a⟩ => ⟨L, h, δ, r, s, Ans.imp (AnsS.bind (rp := Rep X.K) s a) fun v H1 ⟨L1, h1, d, x1, r1, p1, s1, a1⟩ => a1.nx r1 (s1.set p1)⟩
end
end MM

namespace MM
open PySem PySem.Spec PyProof.Rows L2
open Classical in
/-- a call's end, as its caller sees it -/
noncomputable def leave (h : MH) (d : D) (h' : MH) : R D := if LeftOf h h' ∧ d.lows h.length = true then .ok d (h'.take h.length) else .stuck
theorem ans_leave {K L H L' H'} {h h' : MH} {d : D} {v : V} {Q : VK} {E : XK} (r : Rel K L H h) (x : Ext L H L' H') (r' : Rel K L' H' h') (q : Rep K L' H' d v) (a : Ans K (Rep K) L H (leave h d h') Q E) : Q v H' := by
  unfold leave at a
  split at a
  · rename_i z
    obtain ⟨x1, r1⟩ := r.leave r' x z.1
    exact a _ H' v x1 r1 (q.take z.2)
  · exact a.elim

/-! ### what is walked -/
structure Trod (K : PySem.W.Frag) (L : TL) (H : Hp) (J : It) (ds : List D) (g : MH → Prop) : Prop where
  go : ∀ L' H' h' (i : Nat), Ext L H L' H' → Rel K L' H' h' → g h' → i < ds.length → J.go i H'
  stop : ∀ L' H' h', Ext L H L' H' → Rel K L' H' h' → g h' → J.stop ds.length H'
  yld : ∀ L' H' h' (i : Nat) x H'', Ext L H L' H' → Rel K L' H' h' → g h' → i < ds.length → J.yld i H' x H'' → Ext L' H' L' H'' ∧ Rel K L' H'' h' ∧ ∃ d, ds[i]? = some d ∧ Rep K L' H'' d x
structure Src where
  ds : List D
  g : MH → Prop
abbrev MI := MS → MH → R Src
def AnsI (K : PySem.W.Frag) (W : WX) (σ : L2.St) (L : TL) (H : Hp) (r : R Src) (Q : It → Hp → Prop) : Prop := match r with
  | .ok S h1 => ∀ L1 H1 J, Ext L H L1 H1 → Rel K L1 H1 h1 → Trod K L1 H1 J S.ds S.g → Q J H1
  | .exc c fs h1 => ∀ L' H' dx xs, Ext L H L' H' → Rel K L' H' h1 → H' dx = some (.xd xs) → RepF K L' H' fs xs → ∀ ev, EV K c ev → W ev (some dx) σ H'
  | .stuck => False
def tI (K : PySem.W.Frag) (W : WX) (m : MI) : TI := fun σ H Q => ∃ L h δ, Rel K L H h ∧ RepS K L H δ σ ∧ AnsI K W σ L H (m δ h) Q
def PIM (X : Cx) (W : WX) (tg iter : Expr) (m : MI) : Prop := PI X tg iter (tI X.K W m)
theorem _root_.L2.PI.imp {X : Cx} {tg e : Expr} {t t' : TI} (p : PI X tg e t) (h : ∀ σ H Q, t' σ H Q → t σ H Q) : PI X tg e t' := ⟨fun pins s σ H R I q => p.run pins s σ H R I (h σ H R q)⟩
theorem _root_.L2.PI.or {X : Cx} {tg e : Expr} {t t' : TI} (p : PI X tg e t) (p' : PI X tg e t') : PI X tg e (fun σ H Q => t σ H Q ∨ t' σ H Q) := ⟨fun pins s σ H R I q => q.elim (p.run pins s σ H R I) (p'.run pins s σ H R I)⟩

open Classical in
noncomputable def forM (g : MH → Prop) (tgt : MG) (body : MSt) : List D → MS → MH → SR
  | [], δ, h => if g h then .ok (.next δ) h else .stuck
  | x :: r, δ, h => if g h then (match tgt x δ with
      | some δ1 => (match body δ1 h with
        | .ok (.next δ2) h2 => forM g tgt body r δ2 h2
        | .ok (.cont δ2) h2 => forM g tgt body r δ2 h2
        | .ok (.brk δ2) h2 => .ok (.next δ2) h2
        | .ok (.ret d) h2 => .ok (.ret d) h2
        | .exc c fs δ2 h2 => .exc c fs δ2 h2
        | .stuck => .stuck)
      | none => .stuck) else .stuck
noncomputable def mFor (src : MI) (tgt : MG) (body : MSt) : MSt := fun δ h => (src δ h).st δ fun S h1 => forM S.g tgt body S.ds δ h1
section
variable {X : Cx} {W : WX} {pos : Pos} {tg iter : Expr} {body : List Stmt} {mi : MI} {S : List Nat} {g : MG} {mb : MSt}
theorem psm_for (hp : PassesOwn (model X.prog X.w) X.A X.env X.xe) (hc : X.calm = true) (hi : PIM X W tg iter mi) (hg : PGM X tg S g) (hb : PSsM X W body mb) (hs : ∀ x, foldedSetIterable iter X.env x = pure x := by intro _; rfl) :
    PSM X W (.For tg iter body [] pos) (mFor mi g mb) := by
  refine PS.imp (ps_for hp hc hi hg hb hs) fun D σ H ⟨L, h, δ, r, s, a⟩ => ?_
  refine ⟨L, h, δ, r, s, ?_⟩
  unfold mFor at a
  generalize mi δ h = m at a
  cases m with
  | stuck => exact a
  | exc c fs h1 => exact fun L' H' dx xs x r q1 q2 => a L' H' σ dx xs x r (s.mono x) q1 q2
  | ok Sr h1 =>
    intro L1 H1 J x1 r1 tr
    replace a : AnsS X.K D W L H (forM Sr.g g mb Sr.ds δ h1) := a
    refine ⟨fun i m σ' H' => ∃ L' h' δ', Ext L1 H1 L' H' ∧ Rel X.K L' H' h' ∧ RepS X.K L' H' δ' σ' ∧ m = Sr.ds.length - i ∧ i ≤ Sr.ds.length ∧ AnsS X.K D W L' H' (forM Sr.g g mb (Sr.ds.drop i) δ' h'),
      ⟨Sr.ds.length, L1, h1, δ, Ext.refl _ _, r1, s.mono x1, by simp, Nat.zero_le _, by rw [List.drop_zero]; exact a.mono x1⟩, ?_⟩
    rintro i m σ' H' ⟨L', h', δ', x', r', s', rfl, hi, a'⟩
    by_cases hlt : i < Sr.ds.length
    · rw [List.drop_eq_getElem_cons hlt] at a'
      unfold forM at a'
      split at a'
      case isFalse => exact a'.elim
      rename_i hg'
      refine .inr ⟨tr.go L' H' h' i x' r' hg' hlt, fun σ2 H2 => ∃ L2 h2 δ2, Ext L1 H1 L2 H2 ∧ Rel X.K L2 H2 h2 ∧ RepS X.K L2 H2 δ2 σ2 ∧ AnsS X.K D W L2 H2 (forM Sr.g g mb (Sr.ds.drop (i + 1)) δ2 h2), fun σ2 H2 ⟨L2, h2, δ2, e1, e2, e3, e4⟩ => ⟨Sr.ds.length - (i + 1), by omega, L2, h2, δ2, e1, e2, e3, rfl, hlt, e4⟩, fun x H'' hy => ?_⟩
      obtain ⟨x2, r2, d, hd, pd⟩ := tr.yld L' H' h' i x H'' x' r' hg' hlt hy
      have hd' : Sr.ds[i] = d := by
        rw [List.getElem?_eq_getElem hlt] at hd
        exact Option.some.inj hd
      rw [hd'] at a'
      cases et : g d δ' with
      | none => rw [et] at a'; exact a'.elim
      | some δ1 =>
        simp only [et] at a'
        refine ⟨L', h', δ', d, r2, s'.mono x2, pd, δ1, et, fun σ2 s2 _ => ?_⟩
        refine ⟨L', h', δ1, r2, s2, ?_⟩
        replace a' := a'.mono x2
        have x3 := x'.trans x2
        generalize mb δ1 h' = res at a' ⊢
        cases res with
        | stuck => exact a'.elim
        | exc c fs δ2 h2 => exact a'
        | ok f h2 =>
          cases f with
          | next δ2 => exact fun L3 H3 σ3 y r3 s3 => ⟨L3, h2, δ2, x3.trans y, r3, s3, a'.mono y⟩
          | cont δ2 => exact fun L3 H3 σ3 y r3 s3 => ⟨L3, h2, δ2, x3.trans y, r3, s3, a'.mono y⟩
          | brk δ2 => exact a'
          | ret v => exact a'
    · have e : i = Sr.ds.length := by omega
      subst e
      rw [List.drop_length] at a'
      unfold forM at a'
      split at a'
      case isFalse => exact a'.elim
      rename_i hg'
      exact .inl ⟨tr.stop L' H' h' x' r' hg', a'.nx r' s'⟩
end

/-! ### while -/
def whileM (t : MT) (b : MSt) : Nat → MS → MH → SR
  | 0, _, _ => .stuck
  | n + 1, δ, h => (t δ h).st δ fun c h1 => if c then (match b δ h1 with
      | .ok (.next δ2) h2 => whileM t b n δ2 h2
      | .ok (.cont δ2) h2 => whileM t b n δ2 h2
      | .ok (.brk δ2) h2 => .ok (.next δ2) h2
      | .ok (.ret d) h2 => .ok (.ret d) h2
      | .exc c fs δ2 h2 => .exc c fs δ2 h2
      | .stuck => .stuck) else .ok (.next δ) h1
theorem whileM_more {t : MT} {b : MSt} : ∀ {n : Nat} {δ : MS} {h : MH} {r : SR}, whileM t b n δ h = r → r ≠ .stuck → whileM t b (n + 1) δ h = r
  | 0, _, _, _, e, ne => absurd e.symm ne
  | n + 1, δ, h, r, e, ne => by
    subst e
    unfold whileM at ne ⊢
    generalize t δ h = m at ne ⊢
    cases m with
    | stuck => rfl
    | exc _ _ _ => rfl
    | ok c h1 =>
      cases c with
      | false => rfl
      | true =>
        simp only [R.st_ok, if_true] at ne ⊢
        generalize b δ h1 = q at ne ⊢
        cases q with
        | stuck => rfl
        | exc _ _ _ _ => rfl
        | ok f h2 =>
          cases f with
          | next δ2 => exact whileM_more rfl ne
          | cont δ2 => exact whileM_more rfl ne
          | brk _ => rfl
          | ret _ => rfl
theorem whileM_add {t : MT} {b : MSt} {δ : MS} {h : MH} {r : SR} (n : Nat) (e : whileM t b n δ h = r) (ne : r ≠ .stuck) : ∀ k, whileM t b (n + k) δ h = r
  | 0 => e
  | k + 1 => whileM_more (whileM_add n e ne k) ne
open Classical in
noncomputable def mWhile (t : MT) (b : MSt) : MSt := fun δ h => if z : ∃ n, whileM t b n δ h ≠ .stuck then whileM t b (choose z) δ h else .stuck
theorem mWhile_eq {t : MT} {b : MSt} {δ : MS} {h : MH} {r : SR} (n : Nat) (e : whileM t b n δ h = r) (ne : r ≠ .stuck) : mWhile t b δ h = r := by
  have z : ∃ n, whileM t b n δ h ≠ .stuck := ⟨n, by rw [e]; exact ne⟩
  unfold mWhile
  rw [dif_pos z]
  have ne' := Classical.choose_spec z
  have e1 := whileM_add n e ne (Classical.choose z)
  have e2 := whileM_add (Classical.choose z) rfl ne' n
  rw [← e2, Nat.add_comm, e1]
section
variable {X : Cx} {W : WX} {pos : Pos} {c : Expr} {body : List Stmt} {mt : MT} {mb : MSt}
theorem psm_while (hp : PassesOwn (model X.prog X.w) X.A X.env X.xe) (hc : PTM X W c mt) (hb : PSsM X W body mb) : PSM X W (.While c body [] pos) (mWhile mt mb) := by
  refine PS.imp (ps_while hp hc hb) fun D σ H ⟨L, h, δ, r, s, a⟩ => ?_
  unfold mWhile at a
  split at a
  case isFalse => exact a.elim
  rename_i z
  generalize Classical.choose z = n0 at a
  refine ⟨fun n σ' H' => ∃ L' h' δ', Rel X.K L' H' h' ∧ RepS X.K L' H' δ' σ' ∧ AnsS X.K D W L' H' (whileM mt mb n δ' h'), ⟨n0, L, h, δ, r, s, a⟩, ?_⟩
  rintro n σ' H' ⟨L', h', δ', r', s', a'⟩
  cases n with
  | zero => exact a'.elim
  | succ n =>
    refine ⟨L', h', δ', r', s', Ans.imp (AnsS.bind (rp := rpB) s' a') fun v H1 ⟨L1, h1, d, x1, r1, p1, s1, a1⟩ => ?_⟩
    cases p1
    cases v with
    | false => exact iteF (a1.nx r1 s1)
    | true =>
      refine iteT ⟨fun σ2 H2 => ∃ L2 h2 δ2, Rel X.K L2 H2 h2 ∧ RepS X.K L2 H2 δ2 σ2 ∧ AnsS X.K D W L2 H2 (whileM mt mb n δ2 h2), fun σ2 H2 q => ⟨n, Nat.lt_succ_self n, q⟩, ?_⟩
      refine ⟨L1, h1, δ', r1, s1, ?_⟩
      simp only [if_true] at a1
      generalize mb δ' h1 = res at a1 ⊢
      cases res with
      | stuck => exact a1.elim
      | exc c fs δ2 h2 => exact a1
      | ok f h2 =>
        cases f with
        | next δ2 => exact fun L3 H3 σ3 y r3 s3 => ⟨L3, h2, δ2, r3, s3, a1.mono y⟩
        | cont δ2 => exact fun L3 H3 σ3 y r3 s3 => ⟨L3, h2, δ2, r3, s3, a1.mono y⟩
        | brk δ2 => exact a1
        | ret v => exact a1
end

/-! ### list comprehensions -/
def R.nx {α : Type} (r : R α) : R α := match r with
  | .exc _ _ _ => .stuck
  | r => r
@[simp] theorem R.nx_ok {α : Type} (a : α) (h) : (R.ok a h).nx = .ok a h := rfl
@[simp] theorem R.nx_exc {α : Type} (c fs h) : (R.exc c fs h : R α).nx = .stuck := rfl
@[simp] theorem R.nx_stuck {α : Type} : (R.stuck : R α).nx = .stuck := rfl
def W0 : WX := fun _ _ _ _ => False
theorem Ans.nx {α β : Type} {K : PySem.W.Frag} {rp : RP α β} {L H} {r : R α} {Q : β → Hp → Prop} {E E' : XK} (a : Ans K rp L H r.nx Q E) : Ans K rp L H r Q E' := by
  cases r with
  | ok d h => exact a
  | exc c fs h => exact a.elim
  | stuck => exact a
def wipeM (δ : MS) : List Nat → MS
  | [] => δ
  | v :: vs => (wipeM δ vs).set v none
theorem RepS.wipe {K L H} {δ : MS} {σ : L2.St} (s : RepS K L H δ σ) : ∀ vs, RepS K L H (wipeM δ vs) (wipe σ vs)
  | [] => s
  | v :: vs => (RepS.wipe s vs).setNone
theorem wipe_at (σ : L2.St) : ∀ (vs : List Nat) (i : Nat), (wipe σ vs)[i]? = if i ∈ vs then (if i < σ.length then some none else none) else σ[i]?
  | [], i => by simp [wipe]
  | v :: vs, i => by
    unfold L2.wipe
    by_cases hv : v = i
    · subst hv
      rw [if_pos (List.mem_cons_self ..)]
      by_cases hl : v < σ.length
      · rw [if_pos hl, List.getElem?_set_self (by rw [wipe_length]; exact hl)]
      · rw [if_neg hl, List.getElem?_eq_none (by rw [List.length_set, wipe_length]; omega)]
    · rw [List.getElem?_set_ne hv, wipe_at σ vs i]
      have : (i ∈ v :: vs) ↔ i ∈ vs := by simp [show ¬ i = v from fun z => hv z.symm]
      simp only [this]
theorem wipe_eq {σ σ' : L2.St} {S vs : List Nat} (o : Only S σ σ') (hs : ∀ i ∈ S, i ∈ vs) : wipe σ' vs = wipe σ vs := by
  apply List.ext_getElem?
  intro i
  rw [wipe_at, wipe_at, o.1]
  split
  · rfl
  · rename_i hi; exact o.2 i fun z => hi (hs i z)
theorem wipe_wipe (σ : L2.St) (vs : List Nat) : wipe (wipe σ vs) vs = wipe σ vs := by
  apply List.ext_getElem?
  intro i
  rw [wipe_at, wipe_at, wipe_length]
  split <;> rfl
open Classical in
noncomputable def compM (g : MH → Prop) (tgt : MG) (cond : MT) (elt : ME) (n : Nat) (δ0 : MS) : List D → MH → R Unit
  | [], h => if g h then .ok () h else .stuck
  | x :: r, h => if g h then (match tgt x δ0 with
      | some δ1 => (cond δ1 h).nx.bnd fun b h1 => if b then (elt δ1 h1).nx.bnd fun y h2 => (match lst? h2 n with
          | some acc => if acc.length < 16777216 then compM g tgt cond elt n δ0 r (h2.set n (.lst (acc ++ [y]))) else .stuck
          | none => .stuck) else compM g tgt cond elt n δ0 r h1
      | none => .stuck) else .stuck
/-- a list that nobody changes from now on; a list that may change -/
noncomputable def mLc (src : MI) (tgt : MG) (cond : MT) (elt : ME) (vs : List Nat) : ME := fun δ h => (src δ h).bnd fun S h1 => (compM S.g tgt cond elt h1.length (wipeM δ vs) S.ds (h1 ++ [.lst []])).bnd fun _ h2 => match lst? h2 h1.length with
  | some acc => leave h1 (.rol acc) (h2.set h1.length .dead)
  | none => .stuck
noncomputable def mLcN (src : MI) (tgt : MG) (cond : MT) (elt : ME) (vs : List Nat) : ME := fun δ h => (src δ h).bnd fun S h1 => (compM S.g tgt cond elt h1.length (wipeM δ vs) S.ds (h1 ++ [.lst []])).bnd fun _ h2 => match lst? h2 h1.length with
  | some acc => .ok (.ref h1.length) h2
  | none => .stuck
def mYes : MT := fun _ h => .ok true h
def PTsM (X : Cx) (W : WX) (ifs : List Expr) (m : MT) : Prop := PTs X ifs (tT X.K W m)
theorem ptsm_nil {X : Cx} {W : WX} : PTsM X W [] mYes := ⟨fun pins s σ H Q I ⟨L, h, δ, r, s', a⟩ => pts_nil.run pins s σ H Q I (ans_okB r a)⟩
theorem ptsm_one {X : Cx} {W : WX} {c : Expr} {m : MT} (h : PTM X W c m) : PTsM X W [c] m := pts_one h
theorem oat_nil {K L H a} : OAt K L (upd H a (.lst [])) (some (some a)) (.lst []) := ⟨a, [], rfl, upd_same, .nil⟩
theorem Ans.bind0 {α β γ δ' : Type} {K : PySem.W.Frag} {rp : RP α β} {rp2 : RP γ δ'} {L0 L : TL} {H0 H : Hp} {E : XK} {r : R α} {k : α → MH → R γ} {Q : δ' → Hp → Prop} (x0 : Ext L0 H0 L H) (a : Ans K rp2 L0 H0 (r.bnd k) Q E) :
    Ans K rp L H r (fun v H1 => ∃ L1 h1 d, Ext L H L1 H1 ∧ Rel K L1 H1 h1 ∧ rp L1 H1 d v ∧ Ans K rp2 L0 H0 (k d h1) Q E) E := by
  cases r with
  | ok d h => exact fun L2 H2 v e r q => ⟨L2, h, d, e, r, q, a⟩
  | exc c fs h => exact fun L2 H2 dx xs e => a L2 H2 dx xs (x0.trans e)
  | stuck => exact a
/-- the turns of a comprehension -/
theorem lc_turns {K : PySem.W.Frag} {J : It} {S : List Nat} {g : MG} {cond : MT} {elt : ME} {vs : List Nat} (hs : ∀ i ∈ S, i ∈ vs) {L1 : TL} {H1 : Hp} {h1 : MH} {Sr : Src} {δ : MS} {σ : L2.St} {Dl : Addr} {k : Unit → MH → R D} {Q : VK} {E : XK}
    (r1 : Rel K L1 H1 h1) (s1 : RepS K L1 H1 δ σ) (tr : Trod K L1 H1 J Sr.ds Sr.g) (hD : H1 Dl = none)
    (a : Ans K (Rep K) L1 H1 ((compM Sr.g g cond elt h1.length (wipeM δ vs) Sr.ds (h1 ++ [.lst []])).bnd k) Q E)
    (hd : ∀ L' H' h', Ext L1 H1 L' H' → Rel K L' H' h' → (∃ o, L'[h1.length]? = some o ∧ ∀ b, o = some b → b = Dl) → Ans K (Rep K) L1 H1 (k () h') Q E → Q (.ref Dl) H') :
    ∃ W : Nat → Nat → Hp → Prop, (∃ m, W 0 m (upd H1 Dl (.lst []))) ∧ ∀ i m H, W i m H →
      (J.stop i H ∧ Q (.ref Dl) H) ∨ (J.go i H ∧ ∃ Nx : Hp → Prop, (∀ H', Nx H' → ∃ m', m' < m ∧ W (i + 1) m' H') ∧ ∀ x H', J.yld i H x H' → tG K S g x (wipe σ vs) H' fun σ2 H2 => wipe σ2 vs = wipe σ vs ∧ tT K W0 cond σ2 H2 fun b H3 =>
        if b = true then tE K W0 elt σ2 H3 fun y H4 => ∃ acc, H4 Dl = some (.lst acc) ∧ acc.length < sizeLine ∧ Nx (upd H4 Dl (.lst (acc ++ [y]))) else Nx H3) := by
  obtain ⟨xa, ra⟩ := r1.alloc (m := .lst []) hD oat_nil
  have at0 : (L1 ++ [some Dl])[h1.length]? = some (some Dl) := by rw [getElem?_snoc, if_pos r1.len.symm]
  have own : ∀ {L' : TL} {H' : Hp}, Ext (L1 ++ [some Dl]) (upd H1 Dl (.lst [])) L' H' → ∃ o, L'[h1.length]? = some o ∧ ∀ b, o = some b → b = Dl := fun x => by
    rcases x.live _ _ at0 with z | z
    · exact ⟨_, z, fun b e => (Option.some.inj e).symm⟩
    · exact ⟨_, z, fun b e => by cases e⟩
  refine ⟨fun i m H' => ∃ L' h', Ext (L1 ++ [some Dl]) (upd H1 Dl (.lst [])) L' H' ∧ Rel K L' H' h' ∧ m = Sr.ds.length - i ∧ i ≤ Sr.ds.length ∧ Ans K (Rep K) L1 H1 ((compM Sr.g g cond elt h1.length (wipeM δ vs) (Sr.ds.drop i) h').bnd k) Q E,
    ⟨Sr.ds.length, _, _, Ext.refl _ _, ra, by simp, Nat.zero_le _, by rw [List.drop_zero]; exact a⟩, ?_⟩
  rintro i m H' ⟨L', h', x', r', rfl, hi, a'⟩
  have x1' := xa.trans x'
  by_cases hlt : i < Sr.ds.length
  · rw [List.drop_eq_getElem_cons hlt] at a'
    unfold compM at a'
    split at a'
    case isFalse => exact a'.elim
    rename_i hg'
    refine .inr ⟨tr.go L' H' h' i x1' r' hg' hlt, fun H2 => ∃ L2 h2, Ext (L1 ++ [some Dl]) (upd H1 Dl (.lst [])) L2 H2 ∧ Rel K L2 H2 h2 ∧ Ans K (Rep K) L1 H1 ((compM Sr.g g cond elt h1.length (wipeM δ vs) (Sr.ds.drop (i + 1)) h2).bnd k) Q E,
      fun H2 ⟨L2, h2, e1, e2, e3⟩ => ⟨Sr.ds.length - (i + 1), by omega, L2, h2, e1, e2, rfl, hlt, e3⟩, fun x H'' hy => ?_⟩
    obtain ⟨x2, r2, d, hd', pd⟩ := tr.yld L' H' h' i x H'' x1' r' hg' hlt hy
    have hdd : Sr.ds[i] = d := by
      rw [List.getElem?_eq_getElem hlt] at hd'
      exact Option.some.inj hd'
    rw [hdd] at a'
    cases et : g d (wipeM δ vs) with
    | none => rw [et] at a'; exact a'.elim
    | some δ1 =>
      simp only [et] at a'
      refine ⟨L', h', wipeM δ vs, d, r2, (s1.wipe vs).mono (x1'.trans x2), pd, δ1, et, fun σ2 s2 o2 => ⟨?_, ?_⟩⟩
      · rw [wipe_eq o2 hs, wipe_wipe]
      · rw [R.bnd_assoc] at a'
        refine ⟨L', h', δ1, r2, s2, Ans.imp (Ans.nx (Ans.bind0 (rp := rpB) (x1'.trans x2) a')) fun b H3 ⟨L3, h3, b', x3, r3, p3, a3⟩ => ?_⟩
        cases p3
        cases b with
        | false => exact iteF ⟨L3, h3, (x'.trans x2).trans x3, r3, a3⟩
        | true =>
          refine iteT ?_
          simp only [if_true] at a3
          rw [R.bnd_assoc] at a3
          refine ⟨L3, h3, δ1, r3, s2.mono x3, Ans.imp (Ans.nx (Ans.bind0 (rp := Rep K) ((x1'.trans x2).trans x3) a3)) fun y H4 ⟨L4, h4, dy, x4, r4, p4, a4⟩ => ?_⟩
          have x5 := (x'.trans x2).trans (x3.trans x4)
          cases el : lst? h4 h1.length with
          | none => rw [el] at a4; exact a4.elim
          | some acc =>
            simp only [el] at a4
            obtain ⟨ad, xs, e1, e2, w⟩ := r4.lst (lst?_at el)
            obtain ⟨o, eo, ho⟩ := own x5
            rw [e1] at eo; cases eo
            have : ad = Dl := ho ad rfl
            subst this
            by_cases hz : acc.length < 16777216
            · rw [if_pos hz] at a4
              refine ⟨xs, e2, by rw [sizeLine_eq, ← w.length]; exact hz, ?_⟩
              have nf : ∀ o u, H4 ad ≠ some (.frz o u) := fun o u z => by rw [e2] at z; cases z
              obtain ⟨x6, r6⟩ := r4.write (m := .lst (acc ++ [dy])) e1 nf (o := .lst (xs ++ [y])) ⟨ad, xs ++ [y], rfl, upd_same, (w.mono (ext_write e1 nf)).append (.cons (p4.mono (ext_write e1 nf)) .nil)⟩
              exact ⟨L4, _, x5.trans x6, r6, a4⟩
            · rw [if_neg hz] at a4; exact a4.elim
  · have e : i = Sr.ds.length := by omega
    subst e
    rw [List.drop_length] at a'
    unfold compM at a'
    split at a'
    case isFalse => exact a'.elim
    rename_i hg'
    exact .inl ⟨tr.stop L' H' h' x1' r' hg', hd L' H' h' x1' r' (own x') a'⟩
theorem lc_end {K : PySem.W.Frag} {L1 L' : TL} {H1 H' : Hp} {h1 h' : MH} {acc : List D} {Dl : Addr} {Q : VK} {E : XK} (r1 : Rel K L1 H1 h1) (x : Ext L1 H1 L' H') (r' : Rel K L' H' h') (o : ∃ o, L'[h1.length]? = some o ∧ ∀ b, o = some b → b = Dl) (e : lst? h' h1.length = some acc)
    (a : Ans K (Rep K) L1 H1 (leave h1 (.rol acc) (h'.set h1.length .dead)) Q E) : Q (.ref Dl) H' := by
  obtain ⟨ad, xs, e1, e2, w⟩ := r'.lst (lst?_at e)
  obtain ⟨o, eo, ho⟩ := o
  rw [e1] at eo; cases eo
  have : ad = Dl := ho ad rfl
  subst this
  obtain ⟨xk, rk⟩ := r'.kill (n := h1.length) (List.getElem?_eq_some_iff.mp (lst?_at e)).1
  refine ans_leave r1 (x.trans xk) rk ?_ a
  unfold Rep
  exact ⟨ad, xs, rfl, .inl ⟨.inl e2, NL.kill r' e1⟩, w.mono xk⟩
theorem lc_endN {K : PySem.W.Frag} {L1 L' : TL} {H1 H' : Hp} {h1 h' : MH} {acc : List D} {Dl : Addr} {Q : VK} {E : XK} (r1 : Rel K L1 H1 h1) (x : Ext L1 H1 L' H') (r' : Rel K L' H' h') (o : ∃ o, L'[h1.length]? = some o ∧ ∀ b, o = some b → b = Dl) (e : lst? h' h1.length = some acc)
    (a : Ans K (Rep K) L1 H1 (.ok (.ref h1.length) h') Q E) : Q (.ref Dl) H' := by
  obtain ⟨ad, xs, e1, e2, w⟩ := r'.lst (lst?_at e)
  obtain ⟨o, eo, ho⟩ := o
  rw [e1] at eo; cases eo
  have : ad = Dl := ho ad rfl
  subst this
  refine ans_okE r' ?_ (a.mono x)
  unfold Rep
  exact ⟨ad, rfl, .inl e1⟩
theorem tLc_of {K : PySem.W.Frag} {W : WX} {S : List Nat} {mi : MI} {g : MG} {cond : MT} {elt : ME} {vs : List Nat} (hs : ∀ i ∈ S, i ∈ vs) {σ : L2.St} {H : Hp} {Q : VK} (t : tE K W (mLc mi g cond elt vs) σ H Q) : tLc (tI K W mi) (tG K S g) (tT K W0 cond) (tE K W0 elt) vs σ H Q := by
  obtain ⟨L, h, δ, r, s, a⟩ := t
  refine ⟨L, h, δ, r, s, ?_⟩
  unfold mLc at a
  generalize mi δ h = m at a
  cases m with
  | stuck => exact a.elim
  | exc c fs h1 => exact a
  | ok Sr h1 =>
    intro L1 H1 J x1 r1 tr Dl hD
    refine lc_turns hs r1 (s.mono x1) tr hD (Ans.mono x1 a) fun L' H' h' x' r' o a' => ?_
    cases el : lst? h' h1.length with
    | none => rw [el] at a'; exact a'.elim
    | some acc => simp only [el] at a'; exact lc_end r1 x' r' o el a'
theorem tLcN_of {K : PySem.W.Frag} {W : WX} {S : List Nat} {mi : MI} {g : MG} {cond : MT} {elt : ME} {vs : List Nat} (hs : ∀ i ∈ S, i ∈ vs) {σ : L2.St} {H : Hp} {Q : VK} (t : tE K W (mLcN mi g cond elt vs) σ H Q) : tLc (tI K W mi) (tG K S g) (tT K W0 cond) (tE K W0 elt) vs σ H Q := by
  obtain ⟨L, h, δ, r, s, a⟩ := t
  refine ⟨L, h, δ, r, s, ?_⟩
  unfold mLcN at a
  generalize mi δ h = m at a
  cases m with
  | stuck => exact a.elim
  | exc c fs h1 => exact a
  | ok Sr h1 =>
    intro L1 H1 J x1 r1 tr Dl hD
    refine lc_turns hs r1 (s.mono x1) tr hD (Ans.mono x1 a) fun L' H' h' x' r' o a' => ?_
    cases el : lst? h' h1.length with
    | none => rw [el] at a'; exact a'.elim
    | some acc => simp only [el] at a'; exact lc_endN r1 x' r' o el a'
section
variable {X : Cx} {W : WX} {elt tg iter : Expr} {ifs : List Expr} {scope : Scope} {own : List (Str × Nat)} {pos : Pos} {mi : MI} {S : List Nat} {g : MG} {cond : MT} {me : ME}
theorem pem_lc (hc : X.calm = true) (hN : X.N.Nodup) (hi : PIM X W tg iter mi) (ok : BlkOk X.N X.env.scope scope own) (hS : ∀ i ∈ S, i ∈ own.map (·.2))
    (hg : ∀ (s : Shared) (H : Hp) (C : Addr) (cl : List (Str × Addr)) (fp : List Addr), PGM (X.blk s H scope (compEnvC scope cl C X.env) fp) tg S g)
    (ht : ∀ (s : Shared) (H : Hp) (C : Addr) (cl : List (Str × Addr)) (fp : List Addr), PTsM (X.blk s H scope (compEnvC scope cl C X.env) fp) W0 ifs cond)
    (he : ∀ (s : Shared) (H : Hp) (C : Addr) (cl : List (Str × Addr)) (fp : List Addr), PEM (X.blk s H scope (compEnvC scope cl C X.env) fp) W0 elt me) (hs : ∀ x, foldedSetIterable iter X.env x = pure x := by intro _; rfl) :
    PEM X W (.ListComp elt [⟨tg, iter, ifs, 0⟩] scope pos) (mLc mi g cond me (own.map (·.2))) :=
  PE.imp (pe_lc (wi := tI X.K W mi) (g := tG X.K S g) (tt := tT X.K W0 cond) (te := tE X.K W0 me) hc hN hi ok hg ht he hs) fun _ _ _ t => tLc_of hS t
theorem pem_lcN (hc : X.calm = true) (hN : X.N.Nodup) (hi : PIM X W tg iter mi) (ok : BlkOk X.N X.env.scope scope own) (hS : ∀ i ∈ S, i ∈ own.map (·.2))
    (hg : ∀ (s : Shared) (H : Hp) (C : Addr) (cl : List (Str × Addr)) (fp : List Addr), PGM (X.blk s H scope (compEnvC scope cl C X.env) fp) tg S g)
    (ht : ∀ (s : Shared) (H : Hp) (C : Addr) (cl : List (Str × Addr)) (fp : List Addr), PTsM (X.blk s H scope (compEnvC scope cl C X.env) fp) W0 ifs cond)
    (he : ∀ (s : Shared) (H : Hp) (C : Addr) (cl : List (Str × Addr)) (fp : List Addr), PEM (X.blk s H scope (compEnvC scope cl C X.env) fp) W0 elt me) (hs : ∀ x, foldedSetIterable iter X.env x = pure x := by intro _; rfl) :
    PEM X W (.ListComp elt [⟨tg, iter, ifs, 0⟩] scope pos) (mLcN mi g cond me (own.map (·.2))) :=
  PE.imp (pe_lc (wi := tI X.K W mi) (g := tG X.K S g) (tt := tT X.K W0 cond) (te := tE X.K W0 me) hc hN hi ok hg ht he hs) fun _ _ _ t => tLcN_of hS t
/-- y = [..], the same list -/
theorem psm_setLcN {i : Nat} {y : Str} {py spos : Pos} (hc : X.calm = true) (hN : X.N.Nodup) (hy : X.N[i]? = some y) (hyl : X.env.scope.names.lookup y = some .local)
    (hsw : swapsWith (.ListComp elt [⟨tg, iter, ifs, 0⟩] scope pos) (some (.Name y py)) spos.line X.env = pure true) (hi : PIM X W tg iter mi) (ok : BlkOk X.N X.env.scope scope own) (hS : ∀ i ∈ S, i ∈ own.map (·.2))
    (hg : ∀ (s : Shared) (H : Hp) (C : Addr) (cl : List (Str × Addr)) (fp : List Addr), PGM (X.blk s H scope (compEnvC scope cl C X.env) fp) tg S g)
    (ht : ∀ (s : Shared) (H : Hp) (C : Addr) (cl : List (Str × Addr)) (fp : List Addr), PTsM (X.blk s H scope (compEnvC scope cl C X.env) fp) W0 ifs cond)
    (he : ∀ (s : Shared) (H : Hp) (C : Addr) (cl : List (Str × Addr)) (fp : List Addr), PEM (X.blk s H scope (compEnvC scope cl C X.env) fp) W0 elt me) (hs : ∀ x, foldedSetIterable iter X.env x = pure x := by intro _; rfl) :
    PSM X W (.Assign [.Name y py] (.ListComp elt [⟨tg, iter, ifs, 0⟩] scope pos) spos) (mSet i (mLcN mi g cond me (own.map (·.2)))) := by
  refine PS.imp (ps_setLc (wi := tI X.K W mi) (g := tG X.K S g) (tt := tT X.K W0 cond) (te := tE X.K W0 me) hc hN hy hyl hsw hi ok hg ht he hs) fun D σ H ⟨L, h, δ, r, s, a⟩ => ?_
  exact tLcN_of hS ⟨L, h, δ, r, s, Ans.imp (AnsS.bind (rp := Rep X.K) s a) fun v H1 ⟨L1, h1, d, x1, r1, p1, s1, a1⟩ => a1.nx r1 (s1.set p1)⟩
theorem psm_setLc {i : Nat} {y : Str} {py spos : Pos} (hc : X.calm = true) (hN : X.N.Nodup) (hy : X.N[i]? = some y) (hyl : X.env.scope.names.lookup y = some .local)
    (hsw : swapsWith (.ListComp elt [⟨tg, iter, ifs, 0⟩] scope pos) (some (.Name y py)) spos.line X.env = pure true) (hi : PIM X W tg iter mi) (ok : BlkOk X.N X.env.scope scope own) (hS : ∀ i ∈ S, i ∈ own.map (·.2))
    (hg : ∀ (s : Shared) (H : Hp) (C : Addr) (cl : List (Str × Addr)) (fp : List Addr), PGM (X.blk s H scope (compEnvC scope cl C X.env) fp) tg S g)
    (ht : ∀ (s : Shared) (H : Hp) (C : Addr) (cl : List (Str × Addr)) (fp : List Addr), PTsM (X.blk s H scope (compEnvC scope cl C X.env) fp) W0 ifs cond)
    (he : ∀ (s : Shared) (H : Hp) (C : Addr) (cl : List (Str × Addr)) (fp : List Addr), PEM (X.blk s H scope (compEnvC scope cl C X.env) fp) W0 elt me) (hs : ∀ x, foldedSetIterable iter X.env x = pure x := by intro _; rfl) :
    PSM X W (.Assign [.Name y py] (.ListComp elt [⟨tg, iter, ifs, 0⟩] scope pos) spos) (mSet i (mLc mi g cond me (own.map (·.2)))) := by
  refine PS.imp (ps_setLc (wi := tI X.K W mi) (g := tG X.K S g) (tt := tT X.K W0 cond) (te := tE X.K W0 me) hc hN hy hyl hsw hi ok hg ht he hs) fun D σ H ⟨L, h, δ, r, s, a⟩ => ?_
  exact tLc_of hS ⟨L, h, δ, r, s, Ans.imp (AnsS.bind (rp := Rep X.K) s a) fun v H1 ⟨L1, h1, d, x1, r1, p1, s1, a1⟩ => a1.nx r1 (s1.set p1)⟩
end
end MM

namespace MM
open PySem PySem.Spec PyProof.Rows L2
section
variable {X : Cx} {W : WX} {pos : Pos} {a b c e : Expr} {ma mb mc me : ME} {es : List Expr} {mas : MA}
/-! ### argument lists, displays -/
def mNil : MA := fun _ h => .ok [] h
def mCons (m : ME) (ms : MA) : MA := fun δ h => (m δ h).bnd fun d h1 => (ms δ h1).bnd fun ds h2 => .ok (d :: ds) h2
theorem pam_nil : PAM X W [] mNil := PA.imp pa_nil fun σ H Q ⟨L, h, δ, r, s, a⟩ => a L H [] (Ext.refl _ _) r .nil
theorem pam_cons (ha : PEM X W e me) (hr : PAM X W es mas) (hs : starEach (e :: es) X.env = (false, eval e X.env) :: starEach es X.env := by rfl) : PAM X W (e :: es) (mCons me mas) :=
  PA.imp (pa_cons ha hr hs) fun σ H Q ⟨L, h, δ, r, s, a⟩ => ⟨L, h, δ, r, s, Ans.imp (Ans.bind (rp := Rep X.K) a) fun v H1 ⟨L1, h1, d, x1, r1, p1, a1⟩ =>
    ⟨L1, h1, δ, r1, s.mono x1, Ans.imp (Ans.bind (rp := RepL X.K) a1) fun vs H2 ⟨L2, h2, ds, x2, r2, p2, a2⟩ => a2 L2 H2 (v :: vs) (Ext.refl _ _) r2 (.cons (p1.mono x2) p2)⟩⟩
def mTup (ms : MA) : ME := fun δ h => (ms δ h).bnd fun ds h1 => if ds.length ≤ 16777216 then .ok (.tup ds) h1 else .stuck
theorem rep_tup {K L H} {h : MH} {ds vs p} (r : Rel K L H h) (hp : H p = none) (w : RepL K L H ds vs) : Ext L H L (upd H p (.tup vs)) ∧ Rel K L (upd H p (.tup vs)) h ∧ Rep K L (upd H p (.tup vs)) (.tup ds) (.ref p) := by
  obtain ⟨x, r'⟩ := r.fresh (o := .tup vs) hp
  refine ⟨x, r', ?_⟩
  unfold Rep
  exact ⟨p, vs, rfl, .inl ⟨.inl upd_same, r.nl_new hp⟩, w.mono x⟩
theorem rep_rol {K L H} {h : MH} {ds vs p} (r : Rel K L H h) (hp : H p = none) (w : RepL K L H ds vs) : Ext L H L (upd H p (.lst vs)) ∧ Rel K L (upd H p (.lst vs)) h ∧ Rep K L (upd H p (.lst vs)) (.rol ds) (.ref p) := by
  obtain ⟨x, r'⟩ := r.fresh (o := .lst vs) hp
  refine ⟨x, r', ?_⟩
  unfold Rep
  exact ⟨p, vs, rfl, .inl ⟨.inl upd_same, r.nl_new hp⟩, w.mono x⟩
theorem rep_new {K L H} {h : MH} {ds vs p} (r : Rel K L H h) (hp : H p = none) (w : RepL K L H ds vs) : Ext L H (L ++ [some p]) (upd H p (.lst vs)) ∧ Rel K (L ++ [some p]) (upd H p (.lst vs)) (h ++ [.lst ds]) ∧ Rep K (L ++ [some p]) (upd H p (.lst vs)) (.ref h.length) (.ref p) := by
  obtain ⟨x, r'⟩ := r.alloc (m := .lst ds) (o := .lst vs) hp ⟨p, vs, rfl, upd_same, w.mono (ext_alloc hp)⟩
  refine ⟨x, r', ?_⟩
  unfold Rep
  exact ⟨p, rfl, .inl (by rw [getElem?_snoc, if_pos r.len.symm])⟩
theorem ans_of {K L H L1 H1} {h1 : MH} {d v} {Q : VK} {E : XK} (x : Ext L H L1 H1 ∧ Rel K L1 H1 h1 ∧ Rep K L1 H1 d v) (a : Ans K (Rep K) L H (.ok d h1) Q E) : Q v H1 := a L1 H1 v x.1 x.2.1 x.2.2
theorem szl {n : Nat} (h : n ≤ 16777216) : n ≤ sizeLine := by rw [sizeLine_eq]; exact h
theorem pem_tup {x1} (hs : PAM X W es mas) : PEM X W (.Tuple es x1 pos) (mTup mas) :=
  PE.imp (pe_tup hs) fun σ H Q ⟨L, h, δ, r, s, a⟩ => ⟨L, h, δ, r, s, Ans.imp (Ans.bind (rp := RepL X.K) a) fun vs H1 ⟨L1, h1, ds, x1, r1, p1, a1⟩ => by
    by_cases z : ds.length ≤ 16777216
    · rw [if_pos z] at a1
      exact ⟨by rw [← p1.length]; exact szl z, fun p hp => ans_of (rep_tup r1 hp p1) a1⟩
    · rw [if_neg z] at a1; exact a1.elim⟩
/-- a list that nobody changes; one that may be changed -/
def mLst (ms : MA) : ME := fun δ h => (ms δ h).bnd fun ds h1 => if ds.length ≤ 16777216 then .ok (.rol ds) h1 else .stuck
def mLstN (ms : MA) : ME := fun δ h => (ms δ h).bnd fun ds h1 => if ds.length ≤ 16777216 then .ok (.ref h1.length) (h1 ++ [.lst ds]) else .stuck
theorem pem_lst (hs : PAM X W es mas) : PEM X W (.List es pos) (mLst mas) :=
  PE.imp (pe_lst hs) fun σ H Q ⟨L, h, δ, r, s, a⟩ => ⟨L, h, δ, r, s, Ans.imp (Ans.bind (rp := RepL X.K) a) fun vs H1 ⟨L1, h1, ds, x1, r1, p1, a1⟩ => by
    by_cases z : ds.length ≤ 16777216
    · rw [if_pos z] at a1
      exact ⟨by rw [← p1.length]; exact szl z, fun p hp => ans_of (rep_rol r1 hp p1) a1⟩
    · rw [if_neg z] at a1; exact a1.elim⟩
theorem pem_lstN (hs : PAM X W es mas) : PEM X W (.List es pos) (mLstN mas) :=
  PE.imp (pe_lst hs) fun σ H Q ⟨L, h, δ, r, s, a⟩ => ⟨L, h, δ, r, s, Ans.imp (Ans.bind (rp := RepL X.K) a) fun vs H1 ⟨L1, h1, ds, x1, r1, p1, a1⟩ => by
    by_cases z : ds.length ≤ 16777216
    · rw [if_pos z] at a1
      exact ⟨by rw [← p1.length]; exact szl z, fun p hp => ans_of (rep_new r1 hp p1) a1⟩
    · rw [if_neg z] at a1; exact a1.elim⟩
/-! ### subscripts -/
theorem pem_ix {r : R2} {f : D → D → MH → R D} (hr : IxR X r) (hm : OpM X.K r f) (ha : PEM X W a ma) (hb : PEM X W b mb) (hs : PlainIx b) : PEM X W (.Subscript a b pos) (mOp f ma mb) :=
  PE.imp (pe_ix hr ha hb hs) fun _ _ _ t => tOp_of hm t
def rpO : RP (Option Int) (Option Int) := fun _ _ a b => a = b
abbrev MOp := MS → MH → R (Option Int)
def tOm (K : PySem.W.Frag) (W : WX) (m : MOp) : TO := fun σ H Q => ∃ L h δ, Rel K L H h ∧ RepS K L H δ σ ∧ Ans K rpO L H (m δ h) Q (WE W σ)
def POM (X : Cx) (W : WX) (e : Option Expr) (m : MOp) : Prop := PO X e (tOm X.K W m)
theorem _root_.L2.PO.imp {X : Cx} {e : Option Expr} {t t' : TO} (p : PO X e t) (h : ∀ σ H Q, t' σ H Q → t σ H Q) : PO X e t' := ⟨fun pins s σ H Q I q => p.run pins s σ H Q I (h σ H Q q)⟩
def mNoP : MOp := fun _ h => .ok none h
def mPart (m : ME) : MOp := fun δ h => (m δ h).bnd fun d h1 => match d with
  | .int i => .ok (some i) h1
  | _ => .stuck
theorem pom_none : POM X W none mNoP := PO.imp po_none fun σ H Q ⟨L, h, δ, r, s, a⟩ => a L H none (Ext.refl _ _) r rfl
theorem pom_some (ha : PEM X W a ma) : POM X W (some a) (mPart ma) :=
  PO.imp (po_some ha) fun σ H Q ⟨L, h, δ, r, s, a⟩ => ⟨L, h, δ, r, s, Ans.imp (Ans.bind (rp := Rep X.K) a) fun v H1 ⟨L1, h1, d, x1, r1, p1, a1⟩ => by
    cases d with
    | int i =>
      unfold Rep at p1
      exact ⟨i, p1, a1 L1 H1 (some i) (Ext.refl _ _) r1 rfl⟩
    | _ => exact a1.elim⟩
def mSl (f : D → Option Int → Option Int → MH → R D) (m : ME) (lo hi : MOp) : ME := fun δ h => (m δ h).bnd fun d h1 => (lo δ h1).bnd fun l h2 => (hi δ h2).bnd fun u h3 => f d l u h3
def SlM (K : PySem.W.Frag) (r : V → Option Int → Option Int → Hp → VK → Prop) (f : D → Option Int → Option Int → MH → R D) : Prop := ∀ (L : TL) (H : Hp) (h : MH) (d : D) (x : V) (lo hi : Option Int) (Q : VK) (E : XK), Rel K L H h → Rep K L H d x → Ans K (Rep K) L H (f d lo hi h) Q E → r x lo hi H Q
theorem pem_slice {r : V → Option Int → Option Int → Hp → VK → Prop} {f : D → Option Int → Option Int → MH → R D} {lo hi : Option Expr} {ml mh : MOp} {p2 : Pos} (hr : SlR X r) (hm : SlM X.K r f) (ha : PEM X W a ma) (hl : POM X W lo ml) (hu : POM X W hi mh) :
    PEM X W (.Subscript a (.Slice lo hi none p2) pos) (mSl f ma ml mh) :=
  PE.imp (pe_slice hr ha hl hu) fun σ H Q ⟨L, h, δ, r0, s, a⟩ => ⟨L, h, δ, r0, s, Ans.imp (Ans.bind (rp := Rep X.K) a) fun v H1 ⟨L1, h1, d, x1, r1, p1, a1⟩ => ⟨L1, h1, δ, r1, s.mono x1,
    Ans.imp (Ans.bind (rp := rpO) a1) fun l H2 ⟨L2, h2, l', x2, r2, p2, a2⟩ => ⟨L2, h2, δ, r2, s.mono (x1.trans x2), Ans.imp (Ans.bind (rp := rpO) a2) fun u H3 ⟨L3, h3, u', x3, r3, p3, a3⟩ => by
      cases p2; cases p3
      exact hm L3 H3 h3 d v l u Q _ r3 (p1.mono (x2.trans x3)) a3⟩⟩⟩
/-! ### calls of what is built in -/
def CallM (K : PySem.W.Frag) (r : List V → Hp → VK → Prop) (f : List D → MH → R D) : Prop := ∀ (L : TL) (H : Hp) (h : MH) (ds : List D) (vs : List V) (Q : VK) (E : XK), Rel K L H h → RepL K L H ds vs → Ans K (Rep K) L H (f ds h) Q E → r vs H Q
def mCall (f : List D → MH → R D) (ms : MA) : ME := fun δ h => (ms δ h).bnd f
theorem pem_callB {x : Str} {id : String} {r : List V → Hp → VK → Prop} {f : List D → MH → R D} {p : Pos} (hc : CallR X (.builtin id) r) (hm : CallM X.K r f) (hg : Gl X x) (hmg : X.mg x = none) (hv : bootBuiltins x = some (.builtin id)) (ha : PAM X W (e :: es) mas)
    (hn : x ≠ "__name__" := by decide) (hdb : (x == ("__debug__" : Str)) = false := by decide) (he : starEach (e :: es) X.env = (false, eval e X.env) :: starEach es X.env := by rfl) (hpl : (backTo pos (starEach es X.env)).any (·.1) = false := by rfl) :
    PEM X W (.Call (.Name x p) (e :: es) [] pos) (mCall f mas) :=
  PE.imp (pe_callB hc hg hmg hv ha hn hdb he hpl) fun σ H Q ⟨L, h, δ, r0, s, a⟩ => ⟨L, h, δ, r0, s, Ans.imp (Ans.bind (rp := RepL X.K) a) fun vs H1 ⟨L1, h1, ds, x1, r1, p1, a1⟩ => hm L1 H1 h1 ds vs Q _ r1 p1 a1⟩
theorem pem_callTy {x : Str} {id : String} {r : List V → Hp → VK → Prop} {f : List D → MH → R D} {p : Pos} (hc : CallR X (.type id) r) (hm : CallM X.K r f) (hg : Gl X x) (hmg : X.mg x = none) (hv : bootBuiltins x = some (.type id)) (ha : PAM X W (e :: es) mas)
    (hn : x ≠ "__name__" := by decide) (hdb : (x == ("__debug__" : Str)) = false := by decide) (he : starEach (e :: es) X.env = (false, eval e X.env) :: starEach es X.env := by rfl) (hpl : (backTo pos (starEach es X.env)).any (·.1) = false := by rfl) :
    PEM X W (.Call (.Name x p) (e :: es) [] pos) (mCall f mas) :=
  PE.imp (pe_callTy hc hg hmg hv ha hn hdb he hpl) fun σ H Q ⟨L, h, δ, r0, s, a⟩ => ⟨L, h, δ, r0, s, Ans.imp (Ans.bind (rp := RepL X.K) a) fun vs H1 ⟨L1, h1, ds, x1, r1, p1, a1⟩ => hm L1 H1 h1 ds vs Q _ r1 p1 a1⟩
/-! ### methods of what is built in -/
def isTy (T : String) (d : D) (h : MH) : Bool := match d with
  | .str _ => T == "str"
  | .int _ => T == "int"
  | .rol _ => T == "list"
  | .ref n => match h[n]? with
    | some (.lst _) => T == "list"
    | some (.dic _) => T == "dict"
    | _ => false
  | _ => false
theorem tyV_of {K L H} {h : MH} {T : String} {d v} (r : Rel K L H h) (q : Rep K L H d v) (e : isTy T d h = true) : tyV K T v H := by
  cases d with
  | str s => unfold Rep at q; subst q; exact beq_iff_eq.mp e
  | int s => unfold Rep at q; subst q; exact beq_iff_eq.mp e
  | rol ds =>
    unfold Rep at q
    obtain ⟨p, xs, rfl, s, w⟩ := q
    exact .inl ⟨beq_iff_eq.mp e, xs, s.sq⟩
  | ref n =>
    unfold isTy at e
    simp only at e
    split at e
    · rename_i ds z
      obtain ⟨p, xs, e1, e2, w⟩ := r.lst z
      rw [q.ref e1]
      exact .inl ⟨beq_iff_eq.mp e, xs, SqL.of e2⟩
    · rename_i ds z
      obtain ⟨p, xs, e1, e2, w⟩ := r.dic z
      rw [q.ref e1]
      exact .inr (.inr (.inl ⟨beq_iff_eq.mp e, .inl ⟨xs, e2⟩⟩))
    · cases e
  | _ => cases e
def MtdM (K : PySem.W.Frag) (r : V → List V → Hp → VK → Prop) (f : D → List D → MH → R D) : Prop := ∀ (L : TL) (H : Hp) (h : MH) (d : D) (x : V) (ds : List D) (vs : List V) (Q : VK) (E : XK), Rel K L H h → Rep K L H d x → RepL K L H ds vs → Ans K (Rep K) L H (f d ds h) Q E → r x vs H Q
def mMtd (T : String) (f : D → List D → MH → R D) (m : ME) (ms : MA) : ME := fun δ h => (m δ h).bnd fun d h1 => if isTy T d h1 = true then (ms δ h1).bnd fun ds h2 => f d ds h2 else .stuck
theorem pem_bm {o : Expr} {mo : ME} {name : Str} {apos cpos : Pos} {T id : String} {r : V → List V → Hp → VK → Prop} {f : D → List D → MH → R D} (pa : PlainAttrs T) (slot : Slot T name id) (hty : typeOf (.builtin id) = pure (.type "method_descriptor")) (hmt : MtR X id r) (hm : MtdM X.K r f) (ho : PEM X W o mo) (ha : PAM X W (e :: es) mas)
    (hbase : attributeBase o name X.env (eval o X.env) = eval o X.env := by rfl)
    (hfew : ((backTo cpos (starEach (e :: es) X.env)).all (fun x => !x.1) && (backToKw cpos (keywordEach [] X.env)).all (fun x => x.1.isSome)
      && decide ((e :: es).length + ([] : List Keyword).length + (if ([] : List Keyword).isEmpty then 0 else 1) < 30)) = true := by rfl)
    (hline : (apos.endLine == cpos.line) = true := by rfl) (hs : starEach (e :: es) X.env = (false, eval e X.env) :: starEach es X.env := by rfl) (hplain : (backTo cpos (starEach es X.env)).any (·.1) = false := by rfl) :
    PEM X W (.Call (.Attribute o name apos) (e :: es) [] cpos) (mMtd T f mo mas) :=
  PE.imp (pe_bm pa slot hty hmt ho ha hbase hfew hline hs hplain) fun σ H Q ⟨L, h, δ, r0, s, a⟩ => ⟨L, h, δ, r0, s, Ans.imp (Ans.bind (rp := Rep X.K) a) fun v H1 ⟨L1, h1, d, x1, r1, p1, a1⟩ => by
    by_cases z : isTy T d h1 = true
    · rw [if_pos z] at a1
      exact ⟨tyV_of r1 p1 z, L1, h1, δ, r1, s.mono x1, Ans.imp (Ans.bind (rp := RepL X.K) a1) fun vs H2 ⟨L2, h2, ds, x2, r2, p2, a2⟩ => hm L2 H2 h2 d v ds vs Q _ r2 (p1.mono x2) p2 a2⟩
    · rw [if_neg z] at a1; exact a1.elim⟩
theorem pem_bm0 {o : Expr} {mo : ME} {name : Str} {apos cpos : Pos} {T id : String} {r : V → List V → Hp → VK → Prop} {f : D → List D → MH → R D} (pa : PlainAttrs T) (slot : Slot T name id) (hty : typeOf (.builtin id) = pure (.type "method_descriptor")) (hmt : MtR X id r) (hm : MtdM X.K r f) (ho : PEM X W o mo)
    (hbase : attributeBase o name X.env (eval o X.env) = eval o X.env := by rfl) (hline : (apos.endLine == cpos.line) = true := by rfl) :
    PEM X W (.Call (.Attribute o name apos) [] [] cpos) (mMtd T f mo mNil) :=
  PE.imp (pe_bm0 pa slot hty hmt ho hbase hline) fun σ H Q ⟨L, h, δ, r0, s, a⟩ => ⟨L, h, δ, r0, s, Ans.imp (Ans.bind (rp := Rep X.K) a) fun v H1 ⟨L1, h1, d, x1, r1, p1, a1⟩ => by
    by_cases z : isTy T d h1 = true
    · rw [if_pos z] at a1
      exact ⟨tyV_of r1 p1 z, hm L1 H1 h1 d v [] [] Q _ r1 p1 .nil a1⟩
    · rw [if_neg z] at a1; exact a1.elim⟩
end

/-! ### defs -/
def spOf (K : PySem.W.Frag) (m : List D → MH → R D) : Sp := fun vs H Q E => ∃ L h ds, Rel K L H h ∧ RepL K L H ds vs ∧ Ans K (Rep K) L H (m ds h) Q E
def FnM (P : Program) (w : World) (K : PySem.W.Frag) (mg : Str → Option Value) (base : Heap) (k : Nat) (f : Addr) (fd : FuncData) (ps : List Str) (m : List D → MH → R D) : Prop := FnOk P w K mg base (L2N.CX P w) k f fd ps (spOf K m)
/-- where a def of the text stands -/
structure DefAt (K : PySem.W.Frag) (mg : Str → Option Value) (x : Str) (st : Stmt) (f : Addr) (fd : FuncData) (ps : List Str) : Prop where
  fn : Fun K x x st f fd
  mg' : mg x = some (.ref f)
  bi : Binds K fd ps []
def mStart (N : Nat) (ds : List D) : MS := ds.map some ++ List.replicate (N - ds.length) none
open Classical in
noncomputable def leaveX (h : MH) (c : Str) (fs : List (Str × D)) (h' : MH) : R D := if LeftOf h h' ∧ (fs.all fun p => p.2.lows h.length) = true then .exc c fs (h'.take h.length) else .stuck
noncomputable def mEnd (h : MH) : SR → R D
  | .ok (.ret d) h' => leave h d h'
  | .ok (.next _) h' => leave h .non h'
  | .ok _ _ => .stuck
  | .exc c fs _ h' => leaveX h c fs h'
  | .stuck => .stuck
/-- .. of a def that hands a new thing back -/
def mEndN : SR → R D
  | .ok (.ret d) h' => .ok d h'
  | .ok (.next _) h' => .ok .non h'
  | .ok _ _ => .stuck
  | .exc c fs _ h' => .exc c fs h'
  | .stuck => .stuck
noncomputable def mFn (n N : Nat) (ms : MSt) : List D → MH → R D := fun ds h => if ds.length = n then mEnd h (ms (mStart N ds) h) else .stuck
def mFnN (n N : Nat) (ms : MSt) : List D → MH → R D := fun ds h => if ds.length = n then mEndN (ms (mStart N ds) h) else .stuck
theorem repS_start {K L H} {N : List Str} {ds : List D} {vs : List V} (w : RepL K L H ds vs) : RepS K L H (mStart N.length ds) (L2.start N vs) := by
  have hl := w.length
  refine ⟨by unfold mStart L2.start; simp [hl], fun i d e => ?_⟩
  unfold mStart at e
  by_cases hi : i < ds.length
  · rw [List.getElem?_append_left (by simpa using hi), List.getElem?_map] at e
    rw [List.getElem?_eq_getElem hi] at e
    simp only [Option.map_some, Option.some.injEq] at e
    obtain ⟨v, e1, q⟩ := w.get (List.getElem?_eq_getElem hi)
    refine ⟨v, ?_, by rw [← e]; exact q⟩
    unfold L2.start
    rw [List.getElem?_append_left (by simpa [← hl] using hi), List.getElem?_map, e1]; rfl
  · rw [List.getElem?_append_right (by simpa using hi)] at e
    have := List.getElem?_eq_some_iff.mp e
    obtain ⟨h1, h2⟩ := this
    rw [List.getElem_replicate] at h2
    cases h2
section
variable {P : Program} {w : World} {K : PySem.W.Frag} {mg : Str → Option Value} {base : Heap}
theorem FnM.mono {j k : Nat} {f fd ps m} (F : FnM P w K mg base j f fd ps m) (h : j ≤ k) : FnM P w K mg base k f fd ps m := FnOk.mono F h
theorem fnM_stuck {k : Nat} {f fd ps} : FnM P w K mg base k f fd ps (fun _ _ => .stuck) :=
  ⟨fun vs H Q E ⟨L, h, ds, r, q, a⟩ => a.elim, fun A outer s H args us vs Q E hr e0 hb hv ⟨L, h, ds, r, q, a⟩ => a.elim⟩
theorem okN {x qual : Str} {st : Stmt} {f : Addr} {fd : FuncData} {N ps : List Str} {k : Nat} {sp : Sp} (F : Fun K x qual st f fd) (S : FnScope N ps (defScope st)) (len : ∀ vs H Q E, sp vs H Q E → vs.length = ps.length)
    (hbody : ∀ (cdv : Value) (A : Around) (outer : List Env) (s : Shared) (H : Hp) (vs : List V) (Q : VK) (E : XK), Room k (A.deeper (envOfC qual (defScope st) s.heap.objs.size f cdv)) → sp vs H Q E →
      ∃ t, PSs (cxOf (L2N.CX P w) P w K mg base N qual (defScope st) f cdv A outer s H E) (defBody st) t ∧ t { nx := fun _ H' => Q .non H', rt := Q } (start N vs) H) : FnOk P w K mg base (L2N.CX P w) (k + 1) f fd ps sp := by
  obtain ⟨oc, od, kV, doc, pm, an, cdv, ct, osl, rfl, lk, hcd⟩ := F.ex
  exact fn_of lk hcd S len fun A outer s H vs Q E hr hsp => hbody cdv A outer s H vs Q E hr hsp
theorem fnM_body {x qn : Str} {st : Stmt} {f : Addr} {fd : FuncData} {N ps : List Str} {k : Nat} {m : MSt} {g : List D → MH → R D} (F : Fun K x qn st f fd) (S : FnScope N ps (defScope st))
    (hg : ∀ ds h, g ds h = .stuck ∨ (ds.length = ps.length ∧ (g ds h = mEnd h (m (mStart N.length ds) h) ∨ g ds h = mEndN (m (mStart N.length ds) h))))
    (body : ∀ (cdv : Value) (A : Around) (outer : List Env) (s : Shared) (H : Hp) (E : XK), Room k (A.deeper (envOfC qn (defScope st) s.heap.objs.size f cdv)) →
      L2N.Takes (cxOf (L2N.CX P w) P w K mg base N qn (defScope st) f cdv A outer s H E) (fun c d _ H => E c d H) →
      PassesOwn (model P w) (A.deeper (envOfC qn (defScope st) s.heap.objs.size f cdv)) (envOfC qn (defScope st) s.heap.objs.size f cdv) (cxOf (L2N.CX P w) P w K mg base N qn (defScope st) f cdv A outer s H E).xe →
      PSsM (cxOf (L2N.CX P w) P w K mg base N qn (defScope st) f cdv A outer s H E) (fun c d _ H => E c d H) (defBody st) m) :
    FnM P w K mg base (k + 1) f fd ps g := by
  refine okN F S (fun vs H Q E ⟨L, h, ds, r, q, a⟩ => ?_) (fun cdv A outer s H vs Q E hr ⟨L, h, ds, r, q, a⟩ => ?_)
  · rcases hg ds h with z | ⟨z, _⟩
    · rw [z] at a; exact a.elim
    · rw [← q.length]; exact z
  · refine ⟨_, body cdv A outer s H E hr (L2N.takes_of rfl rfl rfl rfl) (passes_of rfl), ?_⟩
    refine ⟨L, h, mStart N.length ds, r, repS_start q, ?_⟩
    have hx : ∀ (c : Str) (fs : List (Str × D)) (h' : MH) (δ : MS), Ans K (Rep K) L H (.exc c fs h') Q E → AnsS K { nx := fun _ H' => Q .non H', rt := Q } (fun c d _ H => E c d H) L H (.exc c fs δ h') := fun c fs h' δ a L' H' σ' dx xs e r _ q1 q2 => a L' H' dx xs e r q1 q2
    rcases hg ds h with z | ⟨_, z | z⟩
    · rw [z] at a; exact a.elim
    · rw [z] at a
      generalize m (mStart N.length ds) h = res at a ⊢
      cases res with
      | stuck => exact a.elim
      | exc c fs δ h' =>
        unfold mEnd leaveX at a
        simp only at a
        split at a
        case isFalse => exact a.elim
        rename_i zz
        intro L' H' σ' dx xs e r' _ q1 q2
        obtain ⟨x1, r1⟩ := r.leave r' e zz.1
        exact a _ H' dx xs x1 r1 q1 (q2.take zz.2)
      | ok fl h' =>
        cases fl with
        | next δ => exact fun L' H' σ' e r' s' => ans_leave r e r' rep_none a
        | ret d => exact fun L' H' v e r' s' => ans_leave r e r' s' a
        | brk _ => exact a.elim
        | cont _ => exact a.elim
    · rw [z] at a
      generalize m (mStart N.length ds) h = res at a ⊢
      cases res with
      | stuck => exact a.elim
      | exc c fs δ h' => exact hx c fs h' δ a
      | ok fl h' =>
        cases fl with
        | next δ => exact fun L' H' σ' e r' s' => a L' H' .non e r' rep_none
        | ret d => exact fun L' H' v e r' s' => a L' H' v e r' s'
        | brk _ => exact a.elim
        | cont _ => exact a.elim
theorem hg_fn {n N : Nat} {m : MSt} : ∀ ds h, mFn n N m ds h = .stuck ∨ (ds.length = n ∧ (mFn n N m ds h = mEnd h (m (mStart N ds) h) ∨ mFn n N m ds h = mEndN (m (mStart N ds) h))) := fun ds h => by
  by_cases z : ds.length = n
  · exact .inr ⟨z, .inl (if_pos z)⟩
  · exact .inl (if_neg z)
theorem hg_fnN {n N : Nat} {m : MSt} : ∀ ds h, mFnN n N m ds h = .stuck ∨ (ds.length = n ∧ (mFnN n N m ds h = mEnd h (m (mStart N ds) h) ∨ mFnN n N m ds h = mEndN (m (mStart N ds) h))) := fun ds h => by
  by_cases z : ds.length = n
  · exact .inr ⟨z, .inr (if_pos z)⟩
  · exact .inl (if_neg z)
end
section
variable {X : Cx} {W : WX} {pos : Pos} {e : Expr} {es : List Expr} {mas : MA}
theorem pem_call {x : Str} {st : Stmt} {f : Addr} {fd : FuncData} {ps : List Str} {k : Nat} {m : List D → MH → R D} {p : Pos} (F : FnM X.prog X.w X.K X.mg X.base k f fd ps m) (DA : DefAt X.K X.mg x st f fd ps) (hr : Room k X.A) (tk : L2N.Takes X W) (hg : Gl X x) (ha : PAM X W (e :: es) mas)
    (hdb : (x == ("__debug__" : Str)) = false := by decide) (he : starEach (e :: es) X.env = (false, eval e X.env) :: starEach es X.env := by rfl) (hpl : (backTo pos (starEach es X.env)).any (·.1) = false := by rfl) :
    PEM X W (.Call (.Name x p) (e :: es) [] pos) (mCall m mas) :=
  PE.imp (pe_callS (E := WE W) F hr hg DA.mg' DA.fn.kp DA.bi (fun σ => L2N.passAt tk σ) ha hdb he hpl) fun σ H Q ⟨L, h, δ, r0, s, a⟩ => ⟨L, h, δ, r0, s, Ans.imp (Ans.bind (rp := RepL X.K) a) fun vs H1 ⟨L1, h1, ds, x1, r1, p1, a1⟩ => ⟨L1, h1, ds, r1, p1, a1⟩⟩
end
/-! ### the words of a term -/
section
variable {X : Cx} {W : WX} {pos : Pos} {e : Expr} {me : ME}
theorem mv (i : Nat) {x : Str} (hN : X.N[i]? = some x := by rfl) (hv : Vis X.env.scope x := by first | exact Or.inl rfl | exact Or.inr (Or.inl rfl) | exact Or.inr (Or.inr rfl)) (hd : (x == ("__debug__" : Str)) = false := by decide)
    (hcd : (x == ("__classdict__" : Str)) = false := by decide) : PEM X W (.Name x pos) (mVar i) := pem_var (pe_var hN hv hd hcd)
theorem gn (i : Nat) {x : Str} (hN : X.N.Nodup) (hi : X.N[i]? = some x := by rfl) (hx : Loc X.env.scope x := by first | exact Or.inl rfl | exact Or.inr rfl) (hf : X.fn x = true ∨ X.env.scope.names.lookup x = some .local := by first | exact .inl rfl | exact .inr rfl) : PGM X (.Name x pos) [i] (mgName i) := pgm_name (pg_name hN hi hx hf)
theorem ss (i : Nat) {x : Str} {pos' : Pos} (hN : X.N.Nodup) (he : PEM X W e me) (hi : X.N[i]? = some x := by rfl) (hx : Loc X.env.scope x := by first | exact Or.inl rfl | exact Or.inr rfl) (hs : swapsWith e (some (.Name x pos')) pos.line X.env = pure false := by rfl)
    (hf : X.fn x = true ∨ X.env.scope.names.lookup x = some .local := by first | exact .inl rfl | exact .inr rfl) : PSM X W (.Assign [.Name x pos'] e pos) (mSet i me) := psm_set (ps_set hN hi hx he hs hf)
/-- a constant of the module -/
def CAt (K : PySem.W.Frag) (mg : Str → Option Value) (x : Str) (d : D) : Prop := ∃ u v, mg x = some u ∧ RelV v u ∧ ∀ L H, Rep K L H d v
theorem mk {x : Str} {d : D} (c : CAt X.K X.mg x d) (hg : Gl X x := by rfl) (hd : (x == ("__debug__" : Str)) = false := by decide) : PEM X W (.Name x pos) (mC d) := by
  obtain ⟨u, v, h1, h2, h3⟩ := c
  exact pem_c (pe_glob hg h1 h2 hd) h3
theorem mty (n : String) {x : Str} (hm : X.mg x = none) (hv : bootBuiltins x = some (.type n)) (hg : Gl X x := by rfl) (hn : x ≠ "__name__" := by decide) (hd : (x == ("__debug__" : Str)) = false := by decide) : PEM X W (.Name x pos) (mC (.ty n)) :=
  pem_c (pe_bltn hg hm hv (v := .ty n) rfl hn hd) fun _ _ => rep_ty
theorem takes0N {X : Cx} : L2N.Takes X (fun _ _ _ _ => False) := fun _ _ x => by
  obtain ⟨_, _, _, _, _, _, _, _, _, _, _, _, _, _, _, _, z⟩ := x
  exact z.elim
theorem takesW0 {X : Cx} : L2N.Takes X W0 := takes0N
end
section
theorem no_exc {P : Program} {w : World} {l : List Env} {H : Hp} {s s' : Shared} {e : Value} (q : L2N.CX P w l H s (fun _ _ _ => False) e s') : False := by
  obtain ⟨_, _, _, _, _, _, _, _, _, _, _, _, z⟩ := q
  exact z.elim
theorem repL_ints {K L H} : ∀ ns : List Int, RepL K L H (ns.map D.int) (ns.map V.int)
  | [] => .nil
  | n :: ns => .cons rep_int (repL_ints ns)
theorem rel_nil {K H} : Rel K [] H [] := ⟨rfl, fun n o e => by simp at e, fun n m a e => by simp at e⟩
theorem law_end {K : PySem.W.Frag} {m : List D → MH → R D} {H : Hp} {a : Addr} {ns : List Int} {E : XK} (hS : SqL K H a (ns.map V.int)) (h : ∃ h', m [.rol (ns.map D.int)] [] = .ok (.bl true) h') : spOf K m [.ref a] H (fun v _ => v = .bl true) E := by
  obtain ⟨h', e⟩ := h
  refine ⟨[], [], [.rol (ns.map D.int)], rel_nil, .cons ?_ .nil, ?_⟩
  · unfold Rep
    refine ⟨a, ns.map V.int, rfl, ?_, repL_ints ns⟩
    rcases hS with hS | hS
    · exact .inl ⟨hS, fun n z => by simp at z⟩
    · exact .inr hS
  · rw [e]
    intro L' H' v _ _ q
    unfold Rep at q
    exact q
end
end MM

namespace MM
open PySem PySem.Spec PyProof.Rows L2
section
variable {K : PySem.W.Frag}
theorem rep_int_inv {L H i v} (q : Rep K L H (.int i) v) : v = .int i := by unfold Rep at q; exact q
theorem rep_str_inv {L H i v} (q : Rep K L H (.str i) v) : v = .str i := by unfold Rep at q; exact q
theorem rep_non_inv {L H v} (q : Rep K L H .non v) : v = .non := by unfold Rep at q; exact q
theorem rep_ty_inv {L H i v} (q : Rep K L H (.ty i) v) : v = .ty i := by unfold Rep at q; exact q
theorem rep_obj_inv {L H i v} (q : Rep K L H (.obj i) v) : v = .ref i := by unfold Rep at q; exact q
/-! ### + - * // % -/
def rAdd3 (K : PySem.W.Frag) : R2 := fun x y H Q => (rI0 (fun i j => .int (i + j)) x y H Q ∨ (∃ i j, x = .str i ∧ y = .str j ∧ i.length + j.length ≤ sizeLine ∧ Q (.str (i ++ j)) H)) ∨ rCatA K x y H Q
theorem op_add3 {X : Cx} : OpR X (binaryOp .Add) (rAdd3 X.K) := (op_add.or op_add_str).or op_catA
def opAdd (x y : D) (h : MH) : R D := match x, y with
  | .int a, .int b => .ok (.int (a + b)) h
  | .str a, .str b => if a.length + b.length ≤ 16777216 then .ok (.str (a ++ b)) h else .stuck
  | .tup a, .tup b => if a.length + b.length ≤ 16777216 then .ok (.tup (a ++ b)) h else .stuck
  | _, _ => .stuck
theorem RepL.nil_iff {L H ds vs} (w : RepL K L H ds vs) : vs = [] ↔ ds = [] := by
  have := w.length
  cases ds <;> cases vs <;> simp_all
theorem opAdd_ok : OpM K (rAdd3 K) opAdd := by
  intro L H h dx dy x y Q E r px py a
  unfold opAdd at a
  split at a
  · rename_i i j
    exact .inl (.inl ⟨i, j, rep_int_inv px, rep_int_inv py, ans_okE r rep_int a⟩)
  · rename_i i j
    split at a
    · rename_i z
      exact .inl (.inr ⟨i, j, rep_str_inv px, rep_str_inv py, szl z, ans_okE r rep_str a⟩)
    · exact a.elim
  · rename_i ds es
    split at a
    · rename_i z
      obtain ⟨p, xs, rfl, s, w⟩ := tup_of px
      obtain ⟨q, ys, rfl, s', w'⟩ := tup_of py
      refine .inr ⟨p, q, xs, ys, rfl, rfl, s, s', by rw [← w.length, ← w'.length]; exact szl z, fun e => ?_, fun e e' => ?_, fun e e' p hp => ?_⟩
      · have : ds = [] := w.nil_iff.mp e
        subst this
        exact ans_okE r py a
      · have : es = [] := w'.nil_iff.mp e'
        subst this
        rw [List.append_nil] at a
        exact ans_okE r px a
      · exact ans_of (rep_tup r hp (w.append w')) a
    · exact a.elim
  · exact a.elim
def opSub (x y : D) (h : MH) : R D := match x, y with
  | .int a, .int b => .ok (.int (a - b)) h
  | _, _ => .stuck
theorem opSub_ok : OpM K (rI0 fun i j => .int (i - j)) opSub := by
  intro L H h dx dy x y Q E r px py a
  unfold opSub at a
  split at a
  · rename_i i j
    exact ⟨i, j, rep_int_inv px, rep_int_inv py, ans_okE r rep_int a⟩
  · exact a.elim
/-- a text times an int -/
def strRep (n : Int) (x : Str) : Str := if n < 1 then Str.empty else if (n == 1 || x.length == 0) = true then x else ⟨(List.replicate n.toNat x.cps).foldl (· ++ ·) #[]⟩
def rStrRep : R2 := fun x y H Q => ∃ z n, x = .str z ∧ y = .int n ∧ (-(2 ^ 63 : Int) ≤ n ∧ n < 2 ^ 63 ∧ (z.length : Int) * n ≤ 16777216) ∧ Q (.str (strRep n z)) H
theorem foldl_size (c : Array Nat) : ∀ (k : Nat) (acc : Array Nat), ((List.replicate k c).foldl (· ++ ·) acc).size = acc.size + k * c.size
  | 0, acc => by simp
  | k + 1, acc => by
    rw [List.replicate_succ, List.foldl_cons, foldl_size c k, Array.size_append, Nat.succ_mul]
    omega
theorem op_strRep {X : Cx} : OpR X (binaryOp .Mult) rStrRep := by
  intro pins s σ H x y v u Q I rx ry h
  obtain ⟨z, n, rfl, rfl, ⟨h0, h2, h1⟩, q⟩ := h
  obtain ⟨t, rfl⟩ := rx
  obtain ⟨t', rfl⟩ := ry
  refine PySem.P.mul_str (by rw [decide_eq_false (by omega), decide_eq_false (by omega)]; rfl) (fun a b => ?_) (fun a b => ?_) ?_
  · rw [Bool.or_eq_false_iff] at b
    have hn : 1 ≤ n := by omega
    have : (z.length : Int) ≤ (2 ^ 63 - 1) / n := by
      rw [Int.le_ediv_iff_mul_le (by omega)]
      omega
    omega
  · have hn : 1 ≤ n := by omega
    have : z.length * n.toNat ≤ 16777216 := by
      have h3 : (n.toNat : Int) = n := Int.toNat_of_nonneg (by omega)
      have : ((z.length * n.toNat : Nat) : Int) ≤ 16777216 := by rw [Int.natCast_mul, h3]; exact h1
      omega
    unfold Builtin.Str.tooLong
    rw [sizeLine_eq]
    exact decide_eq_false (by omega)
  · unfold strRep at q
    by_cases hn : n < 1
    · rw [if_pos hn] at q ⊢
      exact ⟨Nat.zero_le _, .str _, H, I.tok _, ⟨_, rfl⟩, q⟩
    · rw [if_neg hn] at q ⊢
      split at q
      · rename_i z1
        rw [if_pos z1]
        exact ⟨.str _, H, I, ⟨_, rfl⟩, q⟩
      · rename_i z1
        rw [if_neg z1]
        refine ⟨?_, .str _, H, I.tok _, ⟨_, rfl⟩, q⟩
        show ((List.replicate n.toNat z.cps).foldl (· ++ ·) #[]).size ≤ _
        rw [foldl_size, sizeLine_eq]
        have h3 : (n.toNat : Int) = n := Int.toNat_of_nonneg (by omega)
        have : ((z.length * n.toNat : Nat) : Int) ≤ 16777216 := by rw [Int.natCast_mul, h3]; exact h1
        show 0 + n.toNat * z.length ≤ _
        rw [Nat.mul_comm]
        omega
def rMul2 : R2 := fun x y H Q => rI CMulW (fun i j => .int (i * j)) x y H Q ∨ rStrRep x y H Q
theorem op_mul2 {X : Cx} : OpR X (binaryOp .Mult) rMul2 := op_mulW.or op_strRep
def opMul (x y : D) (h : MH) : R D := match x, y with
  | .int a, .int b => if a.natAbs.log2 + b.natAbs.log2 < 1000000 then .ok (.int (a * b)) h else .stuck
  | .str a, .int b => if -(2 ^ 63 : Int) ≤ b ∧ b < 2 ^ 63 ∧ (a.length : Int) * b ≤ 16777216 then .ok (.str (strRep b a)) h else .stuck
  | _, _ => .stuck
theorem opMul_ok : OpM K rMul2 opMul := by
  intro L H h dx dy x y Q E r px py a
  unfold opMul at a
  split at a
  · rename_i i j
    split at a
    · rename_i z
      exact .inl ⟨i, j, rep_int_inv px, rep_int_inv py, z, ans_okE r rep_int a⟩
    · exact a.elim
  · rename_i i j
    split at a
    · rename_i z
      exact .inr ⟨i, j, rep_str_inv px, rep_int_inv py, z, ans_okE r rep_str a⟩
    · exact a.elim
  · exact a.elim
def opDiv (x y : D) (h : MH) : R D := match x, y with
  | .int a, .int b => if 0 < b ∧ b < 2 ^ 2000 then .ok (.int (a / b)) h else .stuck
  | _, _ => .stuck
theorem opDiv_ok : OpM K (rI CDivW fun i j => .int (i / j)) opDiv := by
  intro L H h dx dy x y Q E r px py a
  unfold opDiv at a
  split at a
  · rename_i i j
    split at a
    · rename_i z
      exact ⟨i, j, rep_int_inv px, rep_int_inv py, wide_div (b := 2000) z.1 (by
        have := z.2
        have h2 : (j.natAbs : Int) < 2 ^ 2000 := by rw [Int.natAbs_of_nonneg (by omega)]; exact this
        exact_mod_cast h2) (by decide) (by decide), ans_okE r rep_int a⟩
    · exact a.elim
  · exact a.elim
def opMod (x y : D) (h : MH) : R D := match x, y with
  | .int a, .int b => if 0 < b then .ok (.int (a % b)) h else .stuck
  | _, _ => .stuck
theorem opMod_ok : OpM K (rI (fun _ j => 0 < j) fun i j => .int (i % j)) opMod := by
  intro L H h dx dy x y Q E r px py a
  unfold opMod at a
  split at a
  · rename_i i j
    split at a
    · rename_i z
      exact ⟨i, j, rep_int_inv px, rep_int_inv py, z, ans_okE r rep_int a⟩
    · exact a.elim
  · exact a.elim
def opNeg (x : D) (h : MH) : R D := match x with
  | .int a => .ok (.int (-a)) h
  | _ => .stuck
theorem opNeg_ok : UnM K (rU fun i => .int (-i)) opNeg := by
  intro L H h dx x Q E r px a
  unfold opNeg at a
  split at a
  · rename_i i
    exact ⟨i, rep_int_inv px, ans_okE r rep_int a⟩
  · exact a.elim

/-! ### comparisons -/
def opCmp (p : Int → Int → Bool) (q : Str → Str → Bool) (x y : D) (h : MH) : R D := match x, y with
  | .int a, .int b => .ok (.bl (p a b)) h
  | .str a, .str b => .ok (.bl (q a b)) h
  | _, _ => .stuck
def rCmp2 (p : Int → Int → Bool) (q : Str → Str → Bool) : R2 := fun x y H Q => rI0 (fun i j => .bl (p i j)) x y H Q ∨ ∃ i j, x = .str i ∧ y = .str j ∧ Q (.bl (q i j)) H
theorem opCmp_ok {p q} : OpM K (rCmp2 p q) (opCmp p q) := by
  intro L H h dx dy x y Q E r px py a
  unfold opCmp at a
  split at a
  · rename_i i j
    exact .inl ⟨i, j, rep_int_inv px, rep_int_inv py, ans_okE r rep_bl a⟩
  · rename_i i j
    exact .inr ⟨i, j, rep_str_inv px, rep_str_inv py, ans_okE r rep_bl a⟩
  · exact a.elim
abbrev opLt := opCmp (fun i j => decide (i < j)) (fun i j => decide (i.cps.toList < j.cps.toList))
theorem op_lt2 {X : Cx} : OpR X (compareOp .Lt) (rCmp2 (fun i j => decide (i < j)) (fun i j => decide (i.cps.toList < j.cps.toList))) := op_lt.or op_lt_str
abbrev opLe := opCmp (fun i j => decide (i ≤ j)) (fun i j => !decide (j.cps.toList < i.cps.toList))
theorem op_le2 {X : Cx} : OpR X (compareOp .LtE) (rCmp2 (fun i j => decide (i ≤ j)) (fun i j => !decide (j.cps.toList < i.cps.toList))) := op_le.or op_le_str
abbrev opGt := opCmp (fun i j => decide (j < i)) (fun i j => decide (j.cps.toList < i.cps.toList))
theorem op_gt2 {X : Cx} : OpR X (compareOp .Gt) (rCmp2 (fun i j => decide (j < i)) (fun i j => decide (j.cps.toList < i.cps.toList))) := op_gt.or op_gt_str
abbrev opGe := opCmp (fun i j => decide (j ≤ i)) (fun i j => !decide (i.cps.toList < j.cps.toList))
theorem op_ge2 {X : Cx} : OpR X (compareOp .GtE) (rCmp2 (fun i j => decide (j ≤ i)) (fun i j => !decide (i.cps.toList < j.cps.toList))) := op_ge.or op_ge_str
/-- += of ints, of texts -/
def opAddI (x y : D) (h : MH) : R D := match x, y with
  | .int a, .int b => .ok (.int (a + b)) h
  | .str a, .str b => if a.length + b.length ≤ 16777216 then .ok (.str (a ++ b)) h else .stuck
  | _, _ => .stuck
def rAddI : R2 := fun x y H Q => rI0 (fun i j => .int (i + j)) x y H Q ∨ (∃ i j, x = .str i ∧ y = .str j ∧ i.length + j.length ≤ sizeLine ∧ Q (.str (i ++ j)) H)
theorem iop_addI {X : Cx} : OpR X (inplaceOp .Add) rAddI := iop_add.or iop_add_str
theorem opAddI_ok : OpM K rAddI opAddI := by
  intro L H h dx dy x y Q E r px py a
  unfold opAddI at a
  split at a
  · rename_i i j
    exact .inl ⟨i, j, rep_int_inv px, rep_int_inv py, ans_okE r rep_int a⟩
  · rename_i i j
    split at a
    · rename_i z
      exact .inr ⟨i, j, rep_str_inv px, rep_str_inv py, szl z, ans_okE r rep_str a⟩
    · exact a.elim
  · exact a.elim
/-- == by values -/
def eqS : D → D → Option Bool
  | .non, .non => some true
  | .int a, .int b => some (decide (a = b))
  | .bl a, .bl b => some (decide (a = b))
  | .str a, .str b => some (decide (a = b))
  | .non, .int _ => some false
  | .int _, .non => some false
  | .non, .bl _ => some false
  | .bl _, .non => some false
  | .non, .str _ => some false
  | .str _, .non => some false
  | .int _, .str _ => some false
  | .str _, .int _ => some false
  | .bl _, .str _ => some false
  | .str _, .bl _ => some false
  | _, _ => none
theorem eqS_ok {L H dx dy x y b} (px : Rep K L H dx x) (py : Rep K L H dy y) (e : eqS dx dy = some b) : scal x y = true ∧ decide (x = y) = b := by
  cases dx <;> cases dy <;> first
    | (cases e; done)
    | (unfold Rep at px py; subst px; subst py; cases e; refine ⟨rfl, ?_⟩; simp)
mutual
def toPy : D → Option PyData
  | .non => some .none
  | .bl b => some (.bool b)
  | .int i => some (.int i)
  | .str s => some (.str s)
  | .tup ds => (toPyL ds).map .tuple
  | .rol ds => (toPyL ds).map .list
  | _ => none
def toPyL : List D → Option (List PyData)
  | [] => some []
  | d :: ds => (toPy d).bind fun x => (toPyL ds).map fun xs => x :: xs
end
mutual
theorem toPy_dp {L H} : ∀ {d : D} {v : V} {p : PyData}, Rep K L H d v → toPy d = some p → Dp K H v p
  | .non, _, _, q, e => by rw [rep_non_inv q]; cases e; exact .non
  | .bl _, _, _, q, e => by rw [rep_bl_inv q]; cases e; exact .bl _
  | .int _, _, _, q, e => by rw [rep_int_inv q]; cases e; exact .int _
  | .str _, _, _, q, e => by rw [rep_str_inv q]; cases e; exact .str _
  | .tup ds, _, _, q, e => by
    obtain ⟨p, xs, rfl, s, w⟩ := tup_of q
    unfold toPy at e
    obtain ⟨ps, e1, rfl⟩ := Option.map_eq_some_iff.mp e
    exact .tup s (toPyL_dp w e1)
  | .rol ds, _, _, q, e => by
    unfold Rep at q
    obtain ⟨p, xs, rfl, s, w⟩ := q
    unfold toPy at e
    obtain ⟨ps, e1, rfl⟩ := Option.map_eq_some_iff.mp e
    exact .lst s.sq (toPyL_dp w e1)
  | .ref _, _, _, _, e => by unfold toPy at e; cases e
  | .obj _, _, _, _, e => by unfold toPy at e; cases e
  | .ty _, _, _, _, e => by unfold toPy at e; cases e
  | .kon _, _, _, _, e => by unfold toPy at e; cases e
  | .rdc _ _, _, _, _, e => by unfold toPy at e; cases e
  | .xo _ _ _ _, _, _, _, e => by unfold toPy at e; cases e
theorem toPyL_dp {L H} : ∀ {ds : List D} {vs : List V} {ps : List PyData}, RepL K L H ds vs → toPyL ds = some ps → DpAll K H vs ps
  | [], _, _, w, e => by rw [w.nil_inv]; unfold toPyL at e; cases e; exact .nil
  | d :: ds, _, _, w, e => by
    obtain ⟨v, vs, rfl, q, w⟩ := w.cons_inv
    unfold toPyL at e
    obtain ⟨x, e1, e2⟩ := Option.bind_eq_some_iff.mp e
    obtain ⟨xs, e3, rfl⟩ := Option.map_eq_some_iff.mp e2
    exact .cons (toPy_dp q e1) (toPyL_dp w e3)
end
/-- the same, a list that changes too -/
def toPyH (d : D) (h : MH) : Option PyData := match d with
  | .ref n => (lst? h n).bind fun ds => (toPyL ds).map .list
  | d => toPy d
theorem toPyH_dp {L H} {h : MH} {d v p} (r : Rel K L H h) (q : Rep K L H d v) (e : toPyH d h = some p) : Dp K H v p := by
  cases d with
  | ref n =>
    obtain ⟨ds, e1, e2⟩ := Option.bind_eq_some_iff.mp e
    obtain ⟨ps, e3, rfl⟩ := Option.map_eq_some_iff.mp e2
    obtain ⟨a, xs, z1, z2, w⟩ := r.lst (lst?_at e1)
    rw [q.ref z1]
    exact .lst (SqL.of z2) (toPyL_dp w e3)
  | _ => exact toPy_dp q e
def eqG (x y : D) (h : MH) : Option Bool := match eqS x y with
  | some b => some b
  | none => (toPyH x h).bind fun p => (toPyH y h).bind fun q => if SeqAt.shaped p && SeqAt.shaped q then some (PyData.eqv p q) else none
def opEq (x y : D) (h : MH) : R D := match eqG x y h with
  | some b => .ok (.bl b) h
  | none => .stuck
def opNe (x y : D) (h : MH) : R D := match eqG x y h with
  | some b => .ok (.bl (!b)) h
  | none => .stuck
def rEq2 (K : PySem.W.Frag) : R2 := fun x y H Q => rEq x y H Q ∨ rEqD K x y H Q
def rNe2 (K : PySem.W.Frag) : R2 := fun x y H Q => rNe x y H Q ∨ rNeD K x y H Q
theorem op_eq2 {X : Cx} (hu : X.A.units + 64 < cLine) : OpR X (compareOp .Eq) (rEq2 X.K) := op_eq.or (op_eqD hu)
theorem op_ne2 {X : Cx} (hu : X.A.units + 64 < cLine) : OpR X (compareOp .NotEq) (rNe2 X.K) := op_ne.or (op_neD hu)
theorem eqG_ok {L H} {h : MH} {dx dy x y b} (r : Rel K L H h) (px : Rep K L H dx x) (py : Rep K L H dy y) (e : eqG dx dy h = some b) :
    (scal x y = true ∧ decide (x = y) = b) ∨ ∃ d e', Dp K H x d ∧ Dp K H y e' ∧ SeqAt.shaped d = true ∧ SeqAt.shaped e' = true ∧ PyData.eqv d e' = b := by
  unfold eqG at e
  split at e
  · rename_i c z
    cases e
    exact .inl (eqS_ok px py z)
  · obtain ⟨p, e1, e2⟩ := Option.bind_eq_some_iff.mp e
    obtain ⟨q, e3, e4⟩ := Option.bind_eq_some_iff.mp e2
    split at e4
    · rename_i z
      rw [Bool.and_eq_true] at z
      exact .inr ⟨p, q, toPyH_dp r px e1, toPyH_dp r py e3, z.1, z.2, Option.some.inj e4⟩
    · cases e4
theorem opEq_ok : OpM K (rEq2 K) opEq := by
  intro L H h dx dy x y Q E r px py a
  unfold opEq at a
  split at a
  · rename_i b z
    have q := ans_okE (K := K) (v := .bl b) r rep_bl a
    rcases eqG_ok r px py z with ⟨h1, h2⟩ | ⟨d, e, h1, h2, h3, h4, h5⟩
    · exact .inl ⟨h1, by rw [h2]; exact q⟩
    · exact .inr ⟨d, e, h1, h2, h3, h4, by rw [h5]; exact q⟩
  · exact a.elim
theorem opNe_ok : OpM K (rNe2 K) opNe := by
  intro L H h dx dy x y Q E r px py a
  unfold opNe at a
  split at a
  · rename_i b z
    have q := ans_okE (K := K) (v := .bl (!b)) r rep_bl a
    rcases eqG_ok r px py z with ⟨h1, h2⟩ | ⟨d, e, h1, h2, h3, h4, h5⟩
    · exact .inl ⟨h1, by rw [h2]; exact q⟩
    · exact .inr ⟨d, e, h1, h2, h3, h4, by rw [h5]; exact q⟩
  · exact a.elim
/-- is None -/
def isNon : D → Bool
  | .non => true
  | _ => false
def opIsN (x y : D) (h : MH) : R D := match y with
  | .non => .ok (.bl (isNon x)) h
  | _ => .stuck
def opNotN (x y : D) (h : MH) : R D := match y with
  | .non => .ok (.bl (!isNon x)) h
  | _ => .stuck
theorem isN_ok {L H d v} (q : Rep K L H d v) : decide (v = .non) = isNon d := by
  cases d <;> unfold Rep at q <;> first
    | (subst q; simp [isNon]; done)
    | (obtain ⟨a, xs, rfl, _⟩ := q; simp [isNon]; done)
    | (obtain ⟨a, rfl, _⟩ := q; simp [isNon]; done)
    | (rw [q.1]; simp [isNon]; done)
theorem opIsN_ok : OpM K (fun x y H Q => y = .non ∧ Q (.bl (decide (x = .non))) H) opIsN := by
  intro L H h dx dy x y Q E r px py a
  unfold opIsN at a
  split at a
  · exact ⟨rep_non_inv py, by rw [isN_ok px]; exact ans_okE r rep_bl a⟩
  · exact a.elim
theorem opNotN_ok : OpM K (fun x y H Q => y = .non ∧ Q (.bl (!decide (x = .non))) H) opNotN := by
  intro L H h dx dy x y Q E r px py a
  unfold opNotN at a
  split at a
  · exact ⟨rep_non_inv py, by rw [isN_ok px]; exact ans_okE r rep_bl a⟩
  · exact a.elim
/-- in -/
def flatD : D → Option V
  | .non => some .non
  | .bl b => some (.bl b)
  | .int i => some (.int i)
  | .str s => some (.str s)
  | _ => none
theorem flatD_ok {L H d v w} (q : Rep K L H d v) (e : flatD d = some w) : v = w ∧ flatV w = true := by
  cases d <;> first
    | (cases e; done)
    | (unfold Rep at q; cases e; exact ⟨q, rfl⟩)
def flatL : List D → Option (List V)
  | [] => some []
  | d :: ds => (flatD d).bind fun x => (flatL ds).map fun xs => x :: xs
theorem flatL_ok {L H} : ∀ {ds : List D} {vs ws}, RepL K L H ds vs → flatL ds = some ws → vs = ws ∧ ws.all flatV = true
  | [], _, _, w, e => by cases e; exact ⟨w.nil_inv, rfl⟩
  | d :: ds, _, _, w, e => by
    obtain ⟨v, vs, rfl, q, w⟩ := w.cons_inv
    unfold flatL at e
    obtain ⟨x, e1, e2⟩ := Option.bind_eq_some_iff.mp e
    obtain ⟨xs, e3, rfl⟩ := Option.map_eq_some_iff.mp e2
    obtain ⟨h1, h2⟩ := flatD_ok q e1
    obtain ⟨h3, h4⟩ := flatL_ok w e3
    refine ⟨by rw [h1, h3], ?_⟩
    rw [List.all_cons, h2, h4]; rfl
def subStr (a b : Str) : Bool := !(Builtin.Str.occurrences b a 0 b.length 1).isEmpty
def inG (x y : D) (h : MH) : Option Bool := match y with
  | .str b => (match x with | .str a => some (subStr a b) | _ => none)
  | .tup ds => (flatD x).bind fun v => (flatL ds).map fun vs => inV v vs
  | y => (lstD y h).bind fun ds => (flatD x).bind fun v => (flatL ds).map fun vs => inV v vs
def opIn (x y : D) (h : MH) : R D := match inG x y h with
  | some b => .ok (.bl b) h
  | none => .stuck
def opNin (x y : D) (h : MH) : R D := match inG x y h with
  | some b => .ok (.bl (!b)) h
  | none => .stuck
def rIn2 (K : PySem.W.Frag) : R2 := fun x y H Q => rIn K false x y H Q ∨ ∃ i j, x = .str i ∧ y = .str j ∧ Q (.bl (!(Builtin.Str.occurrences j i 0 j.length 1).isEmpty)) H
def rNin2 (K : PySem.W.Frag) : R2 := fun x y H Q => rIn K true x y H Q ∨ ∃ i j, x = .str i ∧ y = .str j ∧ Q (.bl (!(!(Builtin.Str.occurrences j i 0 j.length 1).isEmpty))) H
theorem op_in2 {X : Cx} : OpR X (compareOp .In) (rIn2 X.K) := op_in_seq.or op_in_str
theorem op_nin2 {X : Cx} : OpR X (compareOp .NotIn) (rNin2 X.K) := op_notIn_seq.or op_notin_str
theorem inG_ok {L H} {h : MH} {dx dy x y b} (r : Rel K L H h) (px : Rep K L H dx x) (py : Rep K L H dy y) (e : inG dx dy h = some b) :
    (∃ p xs, y = .ref p ∧ (SqL K H p xs ∨ SqT K H p xs) ∧ flatV x = true ∧ xs.all flatV = true ∧ inV x xs = b) ∨ ∃ i j, x = .str i ∧ y = .str j ∧ subStr i j = b := by
  have big : (lstD dy h).bind (fun ds => (flatD dx).bind fun v => (flatL ds).map fun vs => inV v vs) = some b → ∃ p xs, y = .ref p ∧ (SqL K H p xs ∨ SqT K H p xs) ∧ flatV x = true ∧ xs.all flatV = true ∧ inV x xs = b := fun e => by
    obtain ⟨ds, e1, e2⟩ := Option.bind_eq_some_iff.mp e
    obtain ⟨v, e3, e4⟩ := Option.bind_eq_some_iff.mp e2
    obtain ⟨vs, e5, rfl⟩ := Option.map_eq_some_iff.mp e4
    obtain ⟨p, xs, rfl, s, w⟩ := lstD_of r py e1
    obtain ⟨rfl, f1⟩ := flatD_ok px e3
    obtain ⟨rfl, f2⟩ := flatL_ok w e5
    exact ⟨p, xs, rfl, .inl s, f1, f2, rfl⟩
  cases dy with
  | str b =>
    unfold inG at e
    simp only at e
    split at e
    · rename_i a
      cases e
      exact .inr ⟨a, b, rep_str_inv px, rep_str_inv py, rfl⟩
    · cases e
  | tup ds =>
    obtain ⟨v, e3, e4⟩ := Option.bind_eq_some_iff.mp e
    obtain ⟨vs, e5, rfl⟩ := Option.map_eq_some_iff.mp e4
    obtain ⟨p, xs, rfl, s, w⟩ := tup_of py
    obtain ⟨rfl, f1⟩ := flatD_ok px e3
    obtain ⟨rfl, f2⟩ := flatL_ok w e5
    exact .inl ⟨p, xs, rfl, .inr s, f1, f2, rfl⟩
  | rol ds => exact .inl (big e)
  | ref n => exact .inl (big e)
  | non => exact .inl (big e)
  | bl _ => exact .inl (big e)
  | int _ => exact .inl (big e)
  | obj _ => exact .inl (big e)
  | ty _ => exact .inl (big e)
  | kon _ => exact .inl (big e)
  | rdc _ _ => exact .inl (big e)
  | xo _ _ _ _ => exact .inl (big e)
theorem opIn_ok : OpM K (rIn2 K) opIn := by
  intro L H h dx dy x y Q E r px py a
  unfold opIn at a
  split at a
  · rename_i b z
    have q := ans_okE (K := K) (v := .bl b) r rep_bl a
    rcases inG_ok r px py z with ⟨p, xs, h1, h2, h3, h4, h5⟩ | ⟨i, j, h1, h2, h3⟩
    · exact .inl ⟨p, xs, h1, h2, h3, h4, by rw [← h5] at q; exact q⟩
    · exact .inr ⟨i, j, h1, h2, by rw [← h3] at q; exact q⟩
  · exact a.elim
theorem opNin_ok : OpM K (rNin2 K) opNin := by
  intro L H h dx dy x y Q E r px py a
  unfold opNin at a
  split at a
  · rename_i b z
    have q := ans_okE (K := K) (v := .bl (!b)) r rep_bl a
    rcases inG_ok r px py z with ⟨p, xs, h1, h2, h3, h4, h5⟩ | ⟨i, j, h1, h2, h3⟩
    · exact .inl ⟨p, xs, h1, h2, h3, h4, by rw [← h5] at q; exact q⟩
    · exact .inr ⟨i, j, h1, h2, by rw [← h3] at q; exact q⟩
  · exact a.elim
end
end MM

namespace MM
open PySem PySem.Spec PyProof.Rows L2
section
variable {K : PySem.W.Frag}
/-! ### items -/
theorem RepL.atI {L H ds vs} {i : Int} {d : D} (w : RepL K L H ds vs) (e : L2.atI ds i = some d) : ∃ v, L2.atI vs i = some v ∧ Rep K L H d v := by
  unfold L2.atI at e ⊢
  obtain ⟨j, e1, e2⟩ := Option.bind_eq_some_iff.mp e
  rw [← w.length, e1]
  exact w.get e2
def ixG (x y : D) (h : MH) : Option D := match y with
  | .int i => (match x with
    | .tup ds => L2.atI ds i
    | .str s => if s.length ≤ 16777216 then (L2.atI s.cps.toList i).map fun c => .str ⟨#[c]⟩ else none
    | x => (lstD x h).bind fun ds => L2.atI ds i)
  | _ => none
def opIx0 (x y : D) (h : MH) : R D := match ixG x y h with
  | some d => .ok d h
  | none => .stuck
def rIx3 (K : PySem.W.Frag) : R2 := fun x y H Q => rIxL K x y H Q ∨ (rIxT K x y H Q ∨ rIxS x y H Q)
theorem ix_all {X : Cx} : IxR X (rIx3 X.K) := ix_list.or (ix_tup.or ix_str)
theorem opIx0_ok : OpM K (rIx3 K) opIx0 := by
  intro L H h dx dy x y Q E r px py a
  unfold opIx0 at a
  cases e : ixG dx dy h with
  | none => rw [e] at a; exact a.elim
  | some d =>
    rw [e] at a
    cases dy with
    | int i =>
      have big : (lstD dx h).bind (fun ds => L2.atI ds i) = some d → rIxL K x y H Q := fun e => by
        obtain ⟨ds, e1, e2⟩ := Option.bind_eq_some_iff.mp e
        obtain ⟨p, xs, rfl, s, w⟩ := lstD_of r px e1
        obtain ⟨v, e3, q⟩ := w.atI e2
        exact ⟨p, xs, i, v, rfl, rep_int_inv py, s, e3, ans_okE r q a⟩
      cases dx with
      | tup ds =>
        obtain ⟨p, xs, rfl, s, w⟩ := tup_of px
        obtain ⟨v, e3, q⟩ := w.atI (show L2.atI ds i = some d from e)
        exact .inr (.inl ⟨p, xs, i, v, rfl, rep_int_inv py, s, e3, ans_okE r q a⟩)
      | str s =>
        replace e : (if s.length ≤ 16777216 then (L2.atI s.cps.toList i).map fun c => D.str ⟨#[c]⟩ else none) = some d := e
        split at e
        · rename_i z
          obtain ⟨c, e1, rfl⟩ := Option.map_eq_some_iff.mp e
          exact .inr (.inr ⟨s, i, c, rep_str_inv px, rep_int_inv py, szl z, e1, ans_okE r rep_str a⟩)
        · cases e
      | rol _ => exact .inl (big e)
      | ref _ => exact .inl (big e)
      | non => cases e
      | bl _ => cases e
      | int _ => cases e
      | obj _ => cases e
      | ty _ => cases e
      | kon _ => cases e
      | rdc _ _ => cases e
      | xo _ _ _ _ => cases e
    | _ => cases e
/-! ### dicts by key -/
def keyD : D → Option Key
  | .int i => some (.inl i)
  | .str s => some (.inr s)
  | _ => none
theorem keyD_ok {L H} {d : D} {v : V} {k : Key} (q : Rep K L H d v) (e : keyD d = some k) : v = kV k := by
  unfold keyD at e
  split at e
  · cases e; rw [rep_int_inv q]; rfl
  · cases e; rw [rep_str_inv q]; rfl
  · cases e
def valD (kvs : List (Key × D)) (k : Key) : Option D := (kvs.find? fun p => decide (p.1 = k)).map (·.2)
def dG (x y : D) (h : MH) : Option (Option D) := match x with
  | .rdc ks ds => (keyD y).map fun k => valD (ks.zip ds) k
  | .ref n => (dic? h n).bind fun kvs => (keyD y).map fun k => valD kvs k
  | _ => none
def RepO (K : PySem.W.Frag) (L : TL) (H : Hp) (o : Option D) (w : Option V) : Prop := match o with
  | some d => ∃ v, w = some v ∧ Rep K L H d v
  | none => w = none
theorem repO_K {L H} {k : Key} : ∀ {kvs : List (Key × D)} {ws : List (Key × V)}, RepK K L H kvs ws → RepO K L H (valD kvs k) (valV ws k)
  | [], _, r => by cases r; rfl
  | p :: r, _, ⟨v, vs, e, q, w⟩ => by
    subst e
    unfold valD valV
    rw [List.find?_cons, List.find?_cons]
    by_cases hk : p.1 = k
    · rw [decide_eq_true hk]
      exact ⟨v, rfl, q⟩
    · rw [decide_eq_false hk]
      exact repO_K w
theorem repK_zip {L H} : ∀ {ks : List Key} {ds : List D} {xs : List V}, RepL K L H ds xs → RepK K L H (ks.zip ds) (ks.zip xs)
  | [], _, _, _ => by show RepK K L H [] _; exact rfl
  | _ :: _, [], _, w => by rw [w.nil_inv]; exact rfl
  | k :: ks, d :: ds, _, w => by
    obtain ⟨v, vs, rfl, q, w⟩ := w.cons_inv
    exact ⟨v, ks.zip vs, rfl, q, repK_zip w⟩
theorem dG_ok {L H} {h : MH} {dx dy : D} {x y : V} {o : Option D} (r : Rel K L H h) (px : Rep K L H dx x) (py : Rep K L H dy y) (e : dG dx dy h = some o) :
    ∃ a ov, x = .ref a ∧ IsD H a ∧ DGet H a y ov ∧ RepO K L H o ov := by
  unfold dG at e
  split at e
  · rename_i ks ds
    obtain ⟨k, e1, rfl⟩ := Option.map_eq_some_iff.mp e
    unfold Rep at px
    obtain ⟨a, xs, rfl, s, n, l, w⟩ := px
    exact ⟨a, _, rfl, .inl ⟨_, s⟩, .inl ⟨_, k, s, keyD_ok py e1, rfl⟩, repO_K (repK_zip w)⟩
  · rename_i n
    obtain ⟨kvs, e1, e2⟩ := Option.bind_eq_some_iff.mp e
    obtain ⟨k, e3, rfl⟩ := Option.map_eq_some_iff.mp e2
    obtain ⟨p, xs, z1, z2, w⟩ := r.dic (dic?_at e1)
    exact ⟨p, _, px.ref z1, .inl ⟨_, .inl z2⟩, .inl ⟨_, k, .inl z2, keyD_ok py e3, rfl⟩, repO_K w⟩
  · cases e
def rIxG : R2 := fun x y H Q => ∃ a v, x = .ref a ∧ DGet H a y (some v) ∧ Q v H
theorem ix_dict {X : Cx} (hu : X.A.units + 64 < cLine) : IxR X rIxG := by
  intro value slice pins s σ H x y v u Q I rx ry h hs
  obtain ⟨a, z, rfl, g, q⟩ := h
  obtain rfl : v = Value.ref a := rx
  exact tail_any (dict_typeIs I g) PySem.F.slot_dict_getitem.lookup (d_getItem (by omega) I g ry fun w' s' I' rw' => ⟨z, H, I', rw', q⟩) hs
def opIx (x y : D) (h : MH) : R D := match dG x y h with
  | some (some d) => .ok d h
  | _ => opIx0 x y h
def rIx4 (K : PySem.W.Frag) : R2 := fun x y H Q => rIxG x y H Q ∨ rIx3 K x y H Q
theorem ix_all2 {X : Cx} (hu : X.A.units + 64 < cLine) : IxR X (rIx4 X.K) := (ix_dict hu).or ix_all
theorem opIx_ok : OpM K (rIx4 K) opIx := by
  intro L H h dx dy x y Q E r px py a
  unfold opIx at a
  split at a
  · rename_i d e
    obtain ⟨p, ov, rfl, _, g, v, rfl, q⟩ := dG_ok r px py e
    exact .inl ⟨p, v, rfl, g, ans_okE r q a⟩
  · exact .inr (opIx0_ok L H h dx dy x y Q E r px py a)
/-! ### slices -/
def cutD (xs : List D) (lo hi : Option Int) : List D := (xs.drop (HT.sIx xs.length 0 lo)).take (HT.sIx xs.length xs.length hi - HT.sIx xs.length 0 lo)
theorem RepL.cut {L H ds vs} {lo hi : Option Int} (w : RepL K L H ds vs) : RepL K L H (cutD ds lo hi) (cutV vs lo hi) := by
  unfold cutD cutV
  rw [w.length]
  exact (w.drop _).take _
def slG (x : D) (lo hi : Option Int) (h : MH) : Option D := match x with
  | .str s => if s.length ≤ 16777216 then some (.str (cutS s lo hi)) else none
  | .tup ds => some (.tup (cutD ds lo hi))
  | x => (lstD x h).map fun ds => .rol (cutD ds lo hi)
def opSl (x : D) (lo hi : Option Int) (h : MH) : R D := match slG x lo hi h with
  | some d => .ok d h
  | none => .stuck
def rSl3 (K : PySem.W.Frag) : V → Option Int → Option Int → Hp → VK → Prop := fun x lo hi H Q => rSlL K x lo hi H Q ∨ (rSlA K x lo hi H Q ∨ rSlS x lo hi H Q)
theorem sl_all {X : Cx} : SlR X (rSl3 X.K) := sl_list.or (sl_tupA.or sl_str)
theorem opSl_ok : SlM K (rSl3 K) opSl := by
  intro L H h dx x lo hi Q E r px a
  unfold opSl at a
  cases e : slG dx lo hi h with
  | none => rw [e] at a; exact a.elim
  | some d =>
    rw [e] at a
    have big : (lstD dx h).map (fun ds => D.rol (cutD ds lo hi)) = some d → rSlL K x lo hi H Q := fun e => by
      obtain ⟨ds, e1, rfl⟩ := Option.map_eq_some_iff.mp e
      obtain ⟨p, xs, rfl, s, w⟩ := lstD_of r px e1
      exact ⟨p, xs, rfl, s, fun q hq => ans_of (rep_rol r hq w.cut) a⟩
    cases dx with
    | str s =>
      replace e : (if s.length ≤ 16777216 then some (D.str (cutS s lo hi)) else none) = some d := e
      split at e
      · rename_i z
        cases e
        exact .inr (.inr ⟨s, rep_str_inv px, szl z, ans_okE r rep_str a⟩)
      · cases e
    | tup ds =>
      cases e
      obtain ⟨p, xs, rfl, s, w⟩ := tup_of px
      refine .inr (.inl ⟨p, xs, rfl, s, fun z => ?_, fun z q hq => ans_of (rep_tup r hq w.cut) a⟩)
      have : cutD ds lo hi = ds := by
        unfold cutD
        rw [w.length, z.1, z.2, List.drop_zero, Nat.sub_zero, ← w.length, List.take_length]
      rw [this] at a
      exact ans_okE r px a
    | rol _ => exact .inl (big e)
    | ref _ => exact .inl (big e)
    | non => cases e
    | bl _ => cases e
    | int _ => cases e
    | obj _ => cases e
    | ty _ => cases e
    | kon _ => cases e
    | rdc _ _ => cases e
    | xo _ _ _ _ => cases e
/-! ### built-in calls -/
def lenG (d : D) (h : MH) : Option Nat := match d with
  | .str s => if s.length ≤ 16777216 then some s.length else none
  | .tup ds => some ds.length
  | d => (match lstD d h with
    | some ds => some ds.length
    | none => (dicD d h).map (·.length))
def fLen (ds : List D) (h : MH) : R D := match ds with
  | [d] => (match lenG d h with | some n => .ok (.int n) h | none => .stuck)
  | _ => .stuck
def rLen2 (K : PySem.W.Frag) : List V → Hp → VK → Prop := fun xs H Q => (∃ x n, xs = [x] ∧ LenV K x H n ∧ Q (.int n) H) ∨ ∃ a kvs, xs = [V.ref a] ∧ H a = some (.dK kvs) ∧ Q (.int kvs.length) H
theorem call_len2 {X : Cx} : CallR X (.builtin "len") (rLen2 X.K) := call_len.or call_lenD
theorem RepL.one {L H d vs} (w : RepL K L H [d] vs) : ∃ v, vs = [v] ∧ Rep K L H d v := by
  obtain ⟨v, ws, rfl, q, w⟩ := w.cons_inv
  rw [w.nil_inv]
  exact ⟨v, rfl, q⟩
theorem RepL.two {L H d e vs} (w : RepL K L H [d, e] vs) : ∃ v u, vs = [v, u] ∧ Rep K L H d v ∧ Rep K L H e u := by
  obtain ⟨v, ws, rfl, q, w⟩ := w.cons_inv
  obtain ⟨u, rfl, q2⟩ := w.one
  exact ⟨v, u, rfl, q, q2⟩
theorem RepK.length {L H} : ∀ {ds : List (Key × D)} {vs}, RepK K L H ds vs → ds.length = vs.length
  | [], _, r => by cases r; rfl
  | d :: ds, _, ⟨v, vs, e, _, w⟩ => by subst e; rw [List.length_cons, List.length_cons, RepK.length w]
theorem fLen_ok : CallM K (rLen2 K) fLen := by
  intro L H h ds vs Q E r w a
  unfold fLen at a
  split at a
  · rename_i d
    obtain ⟨v, rfl, q⟩ := w.one
    cases e : lenG d h with
    | none => rw [e] at a; exact a.elim
    | some n =>
      simp only [e] at a
      have big : (match lstD d h with
        | some ds => some ds.length
        | none => (dicD d h).map (·.length)) = some n → rLen2 K [v] H Q := fun e => by
        split at e
        · rename_i ds e1
          cases e
          obtain ⟨p, xs, rfl, s, w⟩ := lstD_of r q e1
          exact .inl ⟨_, xs.length, rfl, .inl ⟨xs, s, rfl⟩, by rw [← w.length]; exact ans_okE r rep_int a⟩
        · obtain ⟨ds, e1, rfl⟩ := Option.map_eq_some_iff.mp e
          obtain ⟨p, xs, rfl, s, w⟩ := dicD_of r q e1
          exact .inr ⟨p, xs, rfl, s, by rw [← w.length]; exact ans_okE r rep_int a⟩
      cases d with
      | str s =>
        replace e : (if s.length ≤ 16777216 then some s.length else none) = some n := e
        split at e
        · rename_i z
          cases e
          exact .inl ⟨_, _, rfl, by rw [rep_str_inv q]; exact ⟨szl z, rfl⟩, ans_okE r rep_int a⟩
        · cases e
      | tup ds =>
        cases e
        obtain ⟨p, xs, rfl, s, w⟩ := tup_of q
        exact .inl ⟨_, xs.length, rfl, .inr ⟨xs, s, rfl⟩, by rw [← w.length]; exact ans_okE r rep_int a⟩
      | rol _ => exact big e
      | ref _ => exact big e
      | non => cases e
      | bl _ => cases e
      | int _ => cases e
      | obj _ => cases e
      | ty _ => cases e
      | kon _ => cases e
      | rdc _ _ => cases e
      | xo _ _ _ _ => cases e
  · exact a.elim
def fAbs (ds : List D) (h : MH) : R D := match ds with
  | [.int i] => .ok (.int (if i < 0 then -i else i)) h
  | _ => .stuck
theorem fAbs_ok : CallM K (fun xs H Q => ∃ i, xs = [.int i] ∧ Q (.int (if i < 0 then -i else i)) H) fAbs := by
  intro L H h ds vs Q E r w a
  unfold fAbs at a
  split at a
  · rename_i i
    obtain ⟨v, rfl, q⟩ := w.one
    exact ⟨i, by rw [rep_int_inv q], ans_okE r rep_int a⟩
  · exact a.elim
def rInt2 : List V → Hp → VK → Prop := fun xs H Q => ((∃ i, xs = [.int i] ∧ Q (.int i) H) ∨ ∃ k, xs = [.bl k] ∧ Q (.int (if k then 1 else 0)) H) ∨ ∃ a n, xs = [.str a] ∧ PySem.intText? a = some n ∧ a.length ≤ 640 ∧ Q (.int n) H
theorem call_int2 {X : Cx} : CallR X (.type "int") rInt2 := call_int1.or call_int_str
def fInt (ds : List D) (h : MH) : R D := match ds with
  | [.int i] => .ok (.int i) h
  | [.bl k] => .ok (.int (if k then 1 else 0)) h
  | [.str s] => if s.length ≤ 640 then (match PySem.intText? s with | some n => .ok (.int n) h | none => .stuck) else .stuck
  | _ => .stuck
theorem fInt_ok : CallM K rInt2 fInt := by
  intro L H h ds vs Q E r w a
  unfold fInt at a
  split at a
  · rename_i i
    obtain ⟨v, rfl, q⟩ := w.one
    exact .inl (.inl ⟨i, by rw [rep_int_inv q], ans_okE r rep_int a⟩)
  · rename_i i
    obtain ⟨v, rfl, q⟩ := w.one
    exact .inl (.inr ⟨i, by rw [rep_bl_inv q], ans_okE r rep_int a⟩)
  · rename_i s
    obtain ⟨v, rfl, q⟩ := w.one
    split at a
    · rename_i z
      split at a
      · rename_i n e
        exact .inr ⟨s, n, by rw [rep_str_inv q], e, z, ans_okE r rep_int a⟩
      · exact a.elim
    · exact a.elim
  · exact a.elim
def fStr (ds : List D) (h : MH) : R D := match ds with
  | [.int i] => if i.natAbs.log2 < 1920 then .ok (.str (toString i)) h else .stuck
  | _ => .stuck
theorem fStr_ok : CallM K (fun xs H Q => ∃ i, xs = [.int i] ∧ i.natAbs.log2 < 1920 ∧ Q (.str (toString i)) H) fStr := by
  intro L H h ds vs Q E r w a
  unfold fStr at a
  split at a
  · rename_i i
    obtain ⟨v, rfl, q⟩ := w.one
    split at a
    · rename_i z
      exact ⟨i, by rw [rep_int_inv q], z, ans_okE r rep_str a⟩
    · exact a.elim
  · exact a.elim
/-- list(x), nobody changes it -/
def seqG (d : D) (h : MH) : Option (List D) := match d with
  | .tup ds => some ds
  | d => lstD d h
theorem seqG_of {L H} {h : MH} {d v ds} (r : Rel K L H h) (q : Rep K L H d v) (e : seqG d h = some ds) : ∃ p xs, v = .ref p ∧ (SqL K H p xs ∨ SqT K H p xs) ∧ RepL K L H ds xs := by
  cases d with
  | tup es =>
    cases e
    obtain ⟨p, xs, rfl, s, w⟩ := tup_of q
    exact ⟨p, xs, rfl, .inr s, w⟩
  | _ =>
    obtain ⟨p, xs, e1, s, w⟩ := lstD_of r q e
    exact ⟨p, xs, e1, .inl s, w⟩
def fList (ds : List D) (h : MH) : R D := match ds with
  | [d] => (match seqG d h with | some es => .ok (.rol es) h | none => .stuck)
  | _ => .stuck
def fListN (ds : List D) (h : MH) : R D := match ds with
  | [d] => (match seqG d h with | some es => .ok (.ref h.length) (h ++ [.lst es]) | none => .stuck)
  | _ => .stuck
def rListOf (K : PySem.W.Frag) : List V → Hp → VK → Prop := fun xs H Q => ∃ p ys, xs = [.ref p] ∧ (SqL K H p ys ∨ SqT K H p ys) ∧ ∀ l, H l = none → Q (.ref l) (upd H l (.lst ys))
theorem fList_ok : CallM K (rListOf K) fList := by
  intro L H h ds vs Q E r w a
  unfold fList at a
  split at a
  · rename_i d
    obtain ⟨v, rfl, q⟩ := w.one
    cases e : seqG d h with
    | none => rw [e] at a; exact a.elim
    | some es =>
      simp only [e] at a
      obtain ⟨p, xs, rfl, s, w2⟩ := seqG_of r q e
      exact ⟨p, xs, rfl, s, fun l hl => ans_of (rep_rol r hl w2) a⟩
  · exact a.elim
theorem fListN_ok : CallM K (rListOf K) fListN := by
  intro L H h ds vs Q E r w a
  unfold fListN at a
  split at a
  · rename_i d
    obtain ⟨v, rfl, q⟩ := w.one
    cases e : seqG d h with
    | none => rw [e] at a; exact a.elim
    | some es =>
      simp only [e] at a
      obtain ⟨p, xs, rfl, s, w2⟩ := seqG_of r q e
      exact ⟨p, xs, rfl, s, fun l hl => ans_of (rep_new r hl w2) a⟩
  · exact a.elim
def fTuple (ds : List D) (h : MH) : R D := match ds with
  | [d] => (match seqG d h with | some es => .ok (.tup es) h | none => .stuck)
  | _ => .stuck
def rTupOf (K : PySem.W.Frag) : List V → Hp → VK → Prop := fun xs H Q => ∃ p ys, xs = [.ref p] ∧ ((SqL K H p ys ∧ ∀ l, H l = none → Q (.ref l) (upd H l (.tup ys))) ∨ (SqT K H p ys ∧ Q (.ref p) H))
theorem fTuple_ok : CallM K (rTupOf K) fTuple := by
  intro L H h ds vs Q E r w a
  unfold fTuple at a
  split at a
  · rename_i d
    obtain ⟨v, rfl, q⟩ := w.one
    cases e : seqG d h with
    | none => rw [e] at a; exact a.elim
    | some es =>
      simp only [e] at a
      cases d with
      | tup fs =>
        cases e
        obtain ⟨p, xs, rfl, s, w2⟩ := tup_of q
        exact ⟨p, xs, rfl, .inr ⟨s, ans_okE r q a⟩⟩
      | _ =>
        obtain ⟨p, xs, rfl, s, w2⟩ := lstD_of r q e
        exact ⟨p, xs, rfl, .inl ⟨s, fun l hl => ans_of (rep_tup r hl w2) a⟩⟩
  · exact a.elim
def blsL : List D → Option (List Bool)
  | [] => some []
  | .bl b :: ds => (blsL ds).map fun bs => b :: bs
  | _ :: _ => none
theorem blsL_ok {L H} : ∀ {ds : List D} {vs bs}, RepL K L H ds vs → blsL ds = some bs → vs = bs.map V.bl
  | [], _, _, w, e => by cases e; rw [w.nil_inv]; rfl
  | d :: ds, _, _, w, e => by
    obtain ⟨v, vs, rfl, q, w2⟩ := w.cons_inv
    cases d with
    | bl b =>
      obtain ⟨bs, e1, rfl⟩ := Option.map_eq_some_iff.mp e
      rw [rep_bl_inv q, blsL_ok w2 e1]; rfl
    | _ => cases e
def fAll (ds : List D) (h : MH) : R D := match ds with
  | [d] => (match (lstD d h).bind blsL with | some bs => .ok (.bl (bs.all id)) h | none => .stuck)
  | _ => .stuck
def fAny (ds : List D) (h : MH) : R D := match ds with
  | [d] => (match (lstD d h).bind blsL with | some bs => .ok (.bl (bs.any id)) h | none => .stuck)
  | _ => .stuck
theorem fAll_ok : CallM K (rAll K) fAll := by
  intro L H h ds vs Q E r w a
  unfold fAll at a
  split at a
  · rename_i d
    obtain ⟨v, rfl, q⟩ := w.one
    cases e : (lstD d h).bind blsL with
    | none => rw [e] at a; exact a.elim
    | some bs =>
      simp only [e] at a
      obtain ⟨es, e1, e2⟩ := Option.bind_eq_some_iff.mp e
      obtain ⟨p, xs, rfl, s, w2⟩ := lstD_of r q e1
      rw [blsL_ok w2 e2] at s
      exact ⟨p, bs, rfl, s, ans_okE r rep_bl a⟩
  · exact a.elim
theorem fAny_ok : CallM K (rAny K) fAny := by
  intro L H h ds vs Q E r w a
  unfold fAny at a
  split at a
  · rename_i d
    obtain ⟨v, rfl, q⟩ := w.one
    cases e : (lstD d h).bind blsL with
    | none => rw [e] at a; exact a.elim
    | some bs =>
      simp only [e] at a
      obtain ⟨es, e1, e2⟩ := Option.bind_eq_some_iff.mp e
      obtain ⟨p, xs, rfl, s, w2⟩ := lstD_of r q e1
      rw [blsL_ok w2 e2] at s
      exact ⟨p, bs, rfl, s, ans_okE r rep_bl a⟩
  · exact a.elim
def intsL : List D → Option (List Int)
  | [] => some []
  | .int b :: ds => (intsL ds).map fun bs => b :: bs
  | _ :: _ => none
theorem intsL_ok {L H} : ∀ {ds : List D} {vs bs}, RepL K L H ds vs → intsL ds = some bs → vs = bs.map V.int
  | [], _, _, w, e => by cases e; rw [w.nil_inv]; rfl
  | d :: ds, _, _, w, e => by
    obtain ⟨v, vs, rfl, q, w2⟩ := w.cons_inv
    cases d with
    | int b =>
      obtain ⟨bs, e1, rfl⟩ := Option.map_eq_some_iff.mp e
      rw [rep_int_inv q, intsL_ok w2 e1]; rfl
    | _ => cases e
def fSum (ds : List D) (h : MH) : R D := match ds with
  | [d] => (match (lstD d h).bind intsL with | some bs => .ok (.int bs.sum) h | none => .stuck)
  | _ => .stuck
theorem fSum_ok : CallM K (rSum K) fSum := by
  intro L H h ds vs Q E r w a
  unfold fSum at a
  split at a
  · rename_i d
    obtain ⟨v, rfl, q⟩ := w.one
    cases e : (lstD d h).bind intsL with
    | none => rw [e] at a; exact a.elim
    | some bs =>
      simp only [e] at a
      obtain ⟨es, e1, e2⟩ := Option.bind_eq_some_iff.mp e
      obtain ⟨p, xs, rfl, s, w2⟩ := lstD_of r q e1
      rw [intsL_ok w2 e2] at s
      exact ⟨p, bs, rfl, s, ans_okE r rep_int a⟩
  · exact a.elim
/-! ### isinstance -/
def tyName (d : D) (h : MH) : Option String := match d with
  | .non => some "NoneType"
  | .bl _ => some "bool"
  | .int _ => some "int"
  | .str _ => some "str"
  | .tup _ => some "tuple"
  | .rol _ => some "list"
  | .ref n => (match h[n]? with
    | some (.lst _) => some "list"
    | some (.dic _) => some "dict"
    | _ => none)
  | _ => none
theorem tyName_of {L H} {h : MH} {d v n} (r : Rel K L H h) (q : Rep K L H d v) (e : tyName d h = some n) : TyX K H v (.type n) := by
  cases d with
  | non => cases e; rw [rep_non_inv q]; exact .base .non
  | bl _ => cases e; rw [rep_bl_inv q]; exact .base (.bl _)
  | int _ => cases e; rw [rep_int_inv q]; exact .base (.int _)
  | str _ => cases e; rw [rep_str_inv q]; exact .base (.str _)
  | tup ds =>
    cases e
    unfold Rep at q
    obtain ⟨p, xs, rfl, s, w⟩ := q
    rcases s with ⟨s | ⟨o, s⟩, _⟩ | ⟨o, its, k, h1, h2, _⟩
    · exact .base (.tup s)
    · exact .fTuple s
    · exact .kTuple h1 h2
  | rol ds =>
    cases e
    unfold Rep at q
    obtain ⟨p, xs, rfl, s, w⟩ := q
    rcases s with ⟨s | ⟨o, s⟩, _⟩ | ⟨o, its, k, h1, h2, _⟩
    · exact .base (.lst s)
    · exact .base (.frz s)
    · exact .kList h1 h2
  | ref k =>
    unfold tyName at e
    simp only at e
    split at e
    · rename_i ds z
      cases e
      obtain ⟨p, xs, e1, e2, w⟩ := r.lst z
      rw [q.ref e1]
      exact .base (.lst e2)
    · rename_i ds z
      cases e
      obtain ⟨p, xs, e1, e2, w⟩ := r.dic z
      rw [q.ref e1]
      exact .base (.dK e2)
    · cases e
  | obj _ => cases e
  | ty _ => cases e
  | kon _ => cases e
  | rdc _ _ => cases e
  | xo _ _ _ _ => cases e
def tyNames : List String := ["NoneType", "bool", "int", "str", "tuple", "list", "dict"]
def isTyB (a b : String) : Option Bool := if a ∈ tyNames ∧ b ∈ tyNames then some (a == b || (a == "bool" && b == "int")) else none
theorem kitB_tab : (tyNames.all fun a => tyNames.all fun b => b == "NoneType" || decide (kitB a b = some (a == b || (a == "bool" && b == "int")))) = true := by decide +kernel
theorem isTyB_ok {a b : String} {k : Bool} (e : isTyB a b = some k) (hb : b ≠ "NoneType") : kitB a b = some k := by
  unfold isTyB at e
  split at e
  · rename_i z
    have h1 := List.all_eq_true.mp kitB_tab a z.1
    have h2 := List.all_eq_true.mp h1 b z.2
    rw [Bool.or_eq_true] at h2
    rcases h2 with h2 | h2
    · exact absurd (beq_iff_eq.mp h2) hb
    · rw [← e]; exact of_decide_eq_true h2
  · cases e
def fIsi (ds : List D) (h : MH) : R D := match ds with
  | [d, .ty b] => if b = "NoneType" then .stuck else (match (tyName d h).bind fun a => isTyB a b with | some k => .ok (.bl k) h | none => .stuck)
  | _ => .stuck
theorem fIsi_ok : CallM K (rIsi K) fIsi := by
  intro L H h ds vs Q E r w a
  unfold fIsi at a
  split at a
  · rename_i d b
    obtain ⟨v, u, rfl, q1, q2⟩ := w.two
    split at a
    · exact a.elim
    rename_i hb
    cases e : (tyName d h).bind fun a => isTyB a b with
    | none => rw [e] at a; exact a.elim
    | some k =>
      simp only [e] at a
      obtain ⟨t, e1, e2⟩ := Option.bind_eq_some_iff.mp e
      rw [rep_ty_inv q2]
      exact ⟨v, .ty b, .type t, .type b, k, rfl, .ty b, tyName_of r q1 e1, kit_ty (isTyB_ok e2 hb), ans_okE r rep_bl a⟩
  · exact a.elim
end
end MM
namespace MM
open PySem PySem.Spec PyProof.Rows L2
/-! ### methods of lists -/
section
variable {K : PySem.W.Frag}
def Rel.wr {L H} {h : MH} {n : Nat} {a : Addr} {ds vs} (r : Rel K L H h) (e : L[n]? = some (some a)) {xs0 : List V} (e0 : H a = some (.lst xs0)) (w : RepL K L H ds vs) : Ext L H L (upd H a (.lst vs)) ∧ Rel K L (upd H a (.lst vs)) (h.set n (.lst ds)) := by
  have nf : ∀ o u, H a ≠ some (.frz o u) := fun o u z => by rw [e0] at z; cases z
  exact r.write e nf ⟨a, vs, rfl, upd_same, w.mono (ext_write e nf)⟩
def fAppend (d : D) (ds : List D) (h : MH) : R D := match d, ds with
  | .ref n, [x] => (match lst? h n with
    | some es => if es.length < 16777216 then .ok .non (h.set n (.lst (es ++ [x]))) else .stuck
    | none => .stuck)
  | _, _ => .stuck
theorem fAppend_ok : MtdM K rAppend fAppend := by
  intro L H h d x ds vs Q E r q w a
  unfold fAppend at a
  split at a
  · rename_i n e
    obtain ⟨v, rfl, qv⟩ := w.one
    cases z : lst? h n with
    | none => rw [z] at a; exact a.elim
    | some es =>
      simp only [z] at a
      by_cases hz : es.length < 16777216
      · rw [if_pos hz] at a
        obtain ⟨p, xs, e1, e2, w1⟩ := r.lst (lst?_at z)
        obtain ⟨x1, r1⟩ := r.wr e1 e2 (w1.append (.cons qv .nil))
        exact ⟨p, xs, v, q.ref e1, rfl, e2, by rw [sizeLine_eq, ← w1.length]; exact hz, ans_of ⟨x1, r1, rep_none⟩ a⟩
      · rw [if_neg hz] at a; exact a.elim
  · exact a.elim
def fPop (d : D) (ds : List D) (h : MH) : R D := match d, ds with
  | .ref n, [] => (match lst? h n with
    | some es => (match es[es.length - 1]? with
      | some x => .ok x (h.set n (.lst es.dropLast))
      | none => .stuck)
    | none => .stuck)
  | _, _ => .stuck
theorem RepL.dropLast {L H ds vs} (w : RepL K L H ds vs) : RepL K L H ds.dropLast vs.dropLast := by
  rw [List.dropLast_eq_take, List.dropLast_eq_take, w.length]
  exact w.take _
theorem fPop_ok : MtdM K rPop fPop := by
  intro L H h d x ds vs Q E r q w a
  unfold fPop at a
  split at a
  · rename_i n
    cases z : lst? h n with
    | none => rw [z] at a; exact a.elim
    | some es =>
      simp only [z] at a
      cases z2 : es[es.length - 1]? with
      | none => rw [z2] at a; exact a.elim
      | some y =>
        simp only [z2] at a
        obtain ⟨p, xs, e1, e2, w1⟩ := r.lst (lst?_at z)
        obtain ⟨x1, r1⟩ := r.wr e1 e2 w1.dropLast
        obtain ⟨v, e3, qv⟩ := w1.get z2
        exact ⟨p, xs, v, q.ref e1, w.nil_inv, e2, by rw [← w1.length]; exact e3, ans_of ⟨x1, r1, qv.mono x1⟩ a⟩
  · exact a.elim
/-- xs.extend(a list or a tuple) -/
def ExtPost (l b : Addr) (o2 : Obj) (items items2 : Array Value) (n : Nat) (R : Result → Shared → Prop) (s : Shared) : Prop :=
  s.heap.get? l = some { cls := .type "list", data := .seq items n } ∧ s.heap.get? b = some o2 ∧
    R (.ok (.ret Value.none)) { s with heap := s.heap.update l (Obj.mapSeq fun x => x ++ items2), toks := s.toks }
theorem ext_tup (l b : Addr) (items items2 : Array Value) (n n2 : Nat) (dd : Option Addr) (sl : Array (Option Value)) (z : Builtin.List.listTooLong (items.size + items2.size) = false) (hs1 : items.size ≤ sizeLine) (hs2 : items.size + items2.size ≤ sizeLine + 1) :
    Meets (Builtin.«list.extend» ⟨[.ref l, .ref b], []⟩) (fun _ R s => ExtPost l b { cls := .type "tuple", dict := dd, data := .seq items2 n2, slots := sl } items items2 n R s) := by
  have big : ¬ (!items.isEmpty && Builtin.List.listTooLong (items.size + items2.size)) = true := by rw [z, Bool.and_false]; exact Bool.false_ne_true
  refine .of_wp fun prog w A R s q => ?_
  obtain ⟨hp, g, d, tk, os⟩ := s
  obtain ⟨q1, q2, q3⟩ := q
  have k1 := PySem.AutoSeq1.idx_int
  have k2 := PySem.AutoSeq1.sub_tuple_tuple
  have k3 := PySem.AutoSeq1.sub_list_list
  have k4 := PySem.AutoSeq1.sub_tuple_list
  have k5 := PySem.AutoSeq1.sub_list_tuple
  have sz : (items ++ items2).size ≤ sizeLine + 1 := by rw [Array.size_append]; exact hs2
  wp_walk using (wpAny_updateSeq q1 rfl (hz := hs1) (_hz' := sz)), PySem.AutoSeq1.wpAny_loadPart' q1, PySem.AutoSeq1.wpAny_loadPart' q2
  exact ⟨_, rfl, q3⟩
theorem ext_lst (l b : Addr) (items items2 : Array Value) (n n2 : Nat) (dd : Option Addr) (sl : Array (Option Value)) (z : Builtin.List.listTooLong (items.size + items2.size) = false) (hs1 : items.size ≤ sizeLine) (hs2 : items.size + items2.size ≤ sizeLine + 1) :
    Meets (Builtin.«list.extend» ⟨[.ref l, .ref b], []⟩) (fun _ R s => ExtPost l b { cls := .type "list", dict := dd, data := .seq items2 n2, slots := sl } items items2 n R s) := by
  have big : ¬ (!items.isEmpty && Builtin.List.listTooLong (items.size + items2.size)) = true := by rw [z, Bool.and_false]; exact Bool.false_ne_true
  refine .of_wp fun prog w A R s q => ?_
  obtain ⟨hp, g, d, tk, os⟩ := s
  obtain ⟨q1, q2, q3⟩ := q
  have k1 := PySem.AutoSeq1.idx_int
  have k2 := PySem.AutoSeq1.sub_tuple_tuple
  have k3 := PySem.AutoSeq1.sub_list_list
  have k4 := PySem.AutoSeq1.sub_tuple_list
  have k5 := PySem.AutoSeq1.sub_list_tuple
  have sz : (items ++ items2).size ≤ sizeLine + 1 := by rw [Array.size_append]; exact hs2
  wp_walk using (wpAny_updateSeq q1 rfl (hz := hs1) (_hz' := sz)), PySem.AutoSeq1.wpAny_loadPart' q1, PySem.AutoSeq1.wpAny_loadPart' q2
  exact ⟨_, rfl, q3⟩
def rExtend2 (K : PySem.W.Frag) : V → List V → Hp → VK → Prop := fun x vs H Q => ∃ l b xs zs, x = .ref l ∧ vs = [.ref b] ∧ H l = some (.lst xs) ∧ (SqL K H b zs ∨ SqT K H b zs) ∧ xs.length + zs.length ≤ sizeLine ∧ Q .non (upd H l (.lst (xs ++ zs)))
theorem mt_extend2 {X : Cx} : MtR X "list.extend" (rExtend2 X.K) := by
  intro pins s σ H x vs v us Q I rx rv h
  obtain ⟨l, b, xs, zs, rfl, rfl, hH, hB, hz, q⟩ := h
  obtain rfl : v = .ref l := rx
  obtain ⟨u, rfl, ru⟩ := vals1 rv
  obtain rfl : u = .ref b := ru
  obtain ⟨z, its, n, r, hl, e⟩ := I.lstM hH
  have fin : ∀ its2 : List Value, Vals zs its2 → its.toArray.size + its2.toArray.size ≤ sizeLine ∧ EP X pins σ Q .none { s with heap := s.heap.update l (Obj.mapSeq fun x => x ++ its2.toArray) } := fun its2 r2 => by
    have h2 := r2.length
    refine ⟨by rw [List.size_toArray, List.size_toArray]; omega, .non, _, I.lset (its' := its ++ its2) (t' := s.toks) hH e (by simp) (r.append r2) ?_, rfl, q⟩
    rw [List.length_append]; omega
  rcases hB with hB | hB
  · obtain ⟨its2, r2, ⟨o2, n2, e2, c2, dn2, d2⟩, _⟩ := I.list hB
    obtain ⟨f1, f2⟩ := fin its2 r2
    obtain ⟨oc, od, odt, osl⟩ := o2
    simp only at c2 dn2 d2
    subst c2 d2
    exact call_meets F.slot_list_extend ⟨_, e, rfl⟩ F.entry_list_extend (F.args_list_extend_2 _ _) (ext_lst l b its.toArray its2.toArray n n2 od osl (notLongL f1) (by rw [List.size_toArray]; omega) (by omega)) ⟨e, e2, f2⟩
  · obtain ⟨its2, r2, ⟨o2, e2, c2, n2, d2⟩, _⟩ := I.tuple hB
    obtain ⟨f1, f2⟩ := fin its2 r2
    obtain ⟨oc, od, odt, osl⟩ := o2
    simp only at c2 d2
    subst c2 d2
    exact call_meets F.slot_list_extend ⟨_, e, rfl⟩ F.entry_list_extend (F.args_list_extend_2 _ _) (ext_tup l b its.toArray its2.toArray n n2 od osl (notLongL f1) (by rw [List.size_toArray]; omega) (by omega)) ⟨e, e2, f2⟩
def fExtend (d : D) (ds : List D) (h : MH) : R D := match d, ds with
  | .ref n, [x] => (match lst? h n, seqG x h with
    | some es, some fs => if es.length + fs.length ≤ 16777216 then .ok .non (h.set n (.lst (es ++ fs))) else .stuck
    | _, _ => .stuck)
  | _, _ => .stuck
theorem fExtend_ok : MtdM K (rExtend2 K) fExtend := by
  intro L H h d x ds vs Q E r q w a
  unfold fExtend at a
  split at a
  · rename_i n e
    obtain ⟨v, rfl, qv⟩ := w.one
    split at a
    · rename_i es fs z1 z2
      split at a
      · rename_i hz
        obtain ⟨p, xs, e1, e2, w1⟩ := r.lst (lst?_at z1)
        obtain ⟨p2, ys, rfl, s2, w2⟩ := seqG_of r qv z2
        obtain ⟨x1, r1⟩ := r.wr e1 e2 (w1.append w2)
        exact ⟨p, p2, xs, ys, q.ref e1, rfl, e2, s2, by rw [sizeLine_eq, ← w1.length, ← w2.length]; exact hz, ans_of ⟨x1, r1, rep_none⟩ a⟩
      · exact a.elim
    · exact a.elim
  · exact a.elim
end
end MM

namespace MM
open PySem PySem.Spec PyProof.Rows L2
/-- .. what is walked is a value -/
theorem Trod.lst {K L H} {h : MH} {d v ds p} (r : Rel K L H h) (q : Rep K L H d v) (e : lstD d h = some ds) (ev : v = .ref p) : Trod K L H (Itl K p) ds (fun h' => lstD d h' = some ds) := by
  have at' : ∀ L' H' h', Ext L H L' H' → Rel K L' H' h' → lstD d h' = some ds → ∃ ys, SqL K H' p ys ∧ RepL K L' H' ds ys := fun L' H' h' x r' e' => by
    obtain ⟨p', ys, e1, s, w⟩ := lstD_of r' (q.mono x) e'
    rw [ev] at e1; cases e1
    exact ⟨ys, s, w⟩
  refine ⟨fun L' H' h' i x r' e' hi => ?_, fun L' H' h' x r' e' => ?_, fun L' H' h' i x H'' y r' e' hi hy => ?_⟩
  · obtain ⟨ys, s, w⟩ := at' L' H' h' x r' e'
    obtain ⟨u, e1, _⟩ := w.get (List.getElem?_eq_getElem hi)
    exact ⟨ys, u, s, e1⟩
  · obtain ⟨ys, s, w⟩ := at' L' H' h' x r' e'
    exact ⟨ys, s, by rw [w.length]; exact Nat.le_refl _⟩
  · obtain ⟨ys, s, w⟩ := at' L' H' h' y r' e'
    obtain ⟨rfl, f⟩ := hy
    obtain ⟨c, e1, q1⟩ := w.get' (f ys s)
    exact ⟨Ext.refl _ _, r', c, e1, q1⟩
theorem Trod.tup {K L H} {h : MH} {v ds p} (q : Rep K L H (.tup ds) v) (ev : v = .ref p) (g : MH → Prop) : Trod K L H (Itt K p) ds g := by
  have at' : ∀ L' H', Ext L H L' H' → ∃ ys, SqT K H' p ys ∧ RepL K L' H' ds ys := fun L' H' x => by
    obtain ⟨p', ys, e1, s, w⟩ := tup_of (q.mono x)
    rw [ev] at e1; cases e1
    exact ⟨ys, s, w⟩
  refine ⟨fun L' H' h' i x r' e' hi => ?_, fun L' H' h' x r' e' => ?_, fun L' H' h' i x H'' y r' e' hi hy => ?_⟩
  · obtain ⟨ys, s, w⟩ := at' L' H' x
    obtain ⟨u, e1, _⟩ := w.get (List.getElem?_eq_getElem hi)
    exact ⟨ys, u, s, e1⟩
  · obtain ⟨ys, s, w⟩ := at' L' H' x
    exact ⟨ys, s, by rw [w.length]; exact Nat.le_refl _⟩
  · obtain ⟨ys, s, w⟩ := at' L' H' y
    obtain ⟨rfl, f⟩ := hy
    obtain ⟨c, e1, q1⟩ := w.get' (f ys s)
    exact ⟨Ext.refl _ _, r', c, e1, q1⟩
def charsD (s : Str) : List D := s.cps.toList.map fun c => .str ⟨#[c]⟩
theorem Trod.str {K L H} {s : Str} (g : MH → Prop) : Trod K L H (Its s) (charsD s) g := by
  refine ⟨fun L' H' h' i x r' e' hi => ?_, fun L' H' h' x r' e' => ?_, fun L' H' h' i x H'' y r' e' hi hy => ?_⟩
  · show i < s.cps.size
    simpa [charsD] using hi
  · show s.cps.size ≤ (charsD s).length
    simp [charsD]
  · obtain ⟨rfl, c, e1, rfl⟩ := hy
    refine ⟨Ext.refl _ _, r', .str ⟨#[c]⟩, ?_, rep_str⟩
    unfold charsD
    rw [List.getElem?_map, Array.getElem?_toList, e1]; rfl
def srcG (d : D) (h : MH) : Option Src := match d with
  | .str s => some ⟨charsD s, fun _ => True⟩
  | .tup ds => some ⟨ds, fun _ => True⟩
  | .rol ds => some ⟨ds, fun _ => True⟩
  | d => (lstD d h).map fun ds => ⟨ds, fun h' => lstD d h' = some ds⟩
def srcOf (d : D) (h : MH) : R Src := match srcG d h with
  | some S => .ok S h
  | none => .stuck
def mCallI (f : List D → MH → R Src) (m : MA) : MI := fun δ h => (m δ h).bnd f
def mSrc (m : ME) : MI := fun δ h => (m δ h).bnd srcOf
section
variable {X : Cx} {W : WX} {pos : Pos} {tg a e : Expr} {ma : ME} {es : List Expr} {mas : MA}
theorem Trod.weak {K L H J ds} {g g' : MH → Prop} (t : Trod K L H J ds g) (h : ∀ h, g' h → g h) : Trod K L H J ds g' :=
  ⟨fun L' H' h' i x r e => t.go L' H' h' i x r (h _ e), fun L' H' h' x r e => t.stop L' H' h' x r (h _ e), fun L' H' h' i x H'' y r e => t.yld L' H' h' i x H'' y r (h _ e)⟩
theorem pim_src (ha : PEM X W a ma) : PIM X W tg a (mSrc ma) := by
  refine PI.imp ((pi_list ha).or ((pi_tup ha).or (pi_str ha))) fun σ H R ⟨L, h, δ, r, s, q⟩ => ?_
  unfold mSrc at q
  have build : ∀ (G : VK), (match ma δ h with
      | .ok d h1 => ∀ L' H' v, Ext L H L' H' → Rel X.K L' H' h1 → Rep X.K L' H' d v → G v H'
      | .exc c fs h1 => ∀ L' H' dx xs, Ext L H L' H' → Rel X.K L' H' h1 → H' dx = some (.xd xs) → RepF X.K L' H' fs xs → ∀ ev, EV X.K c ev → W ev (some dx) σ H'
      | .stuck => False) → tE X.K W ma σ H G := fun G g => ⟨L, h, δ, r, s, by
    generalize ma δ h = m at g ⊢
    cases m <;> exact g⟩
  replace q : AnsI X.K W σ L H ((ma δ h).bnd srcOf) R := q
  generalize em : ma δ h = m at q build
  cases m with
  | stuck => exact q.elim
  | exc c fs h1 => exact .inl (build _ q)
  | ok d h1 =>
    have q' : ∀ S, srcOf d h1 = .ok S h1 → ∀ L1 H1 J, Ext L H L1 H1 → Rel X.K L1 H1 h1 → Trod X.K L1 H1 J S.ds S.g → R J H1 := fun S e => by
      rw [MM.R.bnd_ok, e] at q; exact q
    have no : srcOf d h1 = .stuck → False := fun e => by
      rw [MM.R.bnd_ok, e] at q; exact q
    have lst : ∀ ds (S : Src), lstD d h1 = some ds → srcOf d h1 = .ok S h1 → S.ds = ds → (∀ h, S.g h → lstD d h = some ds) → iList X.K (tE X.K W ma) σ H R := fun ds S e1 e2 e3 e4 => build _ fun L' H' v x r' p => by
      obtain ⟨ad, xs, ev, sq, w⟩ := lstD_of r' p e1
      exact ⟨ad, ev, ⟨xs, sq⟩, q' S e2 L' H' _ x r' (by rw [e3]; exact (Trod.lst r' p e1 ev).weak e4)⟩
    cases d with
    | str z => exact .inr (.inr (build _ fun L' H' v x r' p => ⟨z, rep_str_inv p, q' _ rfl L' H' _ x r' (Trod.str _)⟩))
    | tup ds =>
      exact .inr (.inl (build _ fun L' H' v x r' p => by
        obtain ⟨ad, xs, ev, sq, w⟩ := tup_of p
        exact ⟨ad, ev, ⟨xs, sq⟩, q' _ rfl L' H' _ x r' (Trod.tup (h := h1) p ev _)⟩))
    | rol ds => exact .inl (lst ds _ rfl rfl rfl fun _ _ => rfl)
    | ref n =>
      cases e1 : lstD (.ref n) h1 with
      | none => exact (no (by unfold srcOf srcG; simp only [e1]; rfl)).elim
      | some ds => exact .inl (lst ds ⟨ds, fun h' => lstD (.ref n) h' = some ds⟩ e1 (by unfold srcOf srcG; simp only [e1]; rfl) rfl fun _ z => z)
    | non => exact (no rfl).elim
    | bl _ => exact (no rfl).elim
    | int _ => exact (no rfl).elim
    | obj _ => exact (no rfl).elim
    | ty _ => exact (no rfl).elim
    | kon _ => exact (no rfl).elim
    | rdc _ _ => exact (no rfl).elim
    | xo _ _ _ _ => exact (no rfl).elim
theorem tI_args {K : PySem.W.Frag} {f : List D → MH → R Src} {G : List V → Hp → (It → Hp → Prop) → Prop} {mas : MA}
    (hG : ∀ L H h ds vs S (Q : It → Hp → Prop), Rel K L H h → RepL K L H ds vs → f ds h = .ok S h → (∀ J, Trod K L H J S.ds S.g → Q J H) → G vs H Q)
    (hf : ∀ ds h, (∃ S, f ds h = .ok S h) ∨ f ds h = .stuck) {σ : L2.St} {H : Hp} {Q : It → Hp → Prop} (t : tI K W (fun δ h => (mas δ h).bnd f) σ H Q) : tA K W mas σ H fun vs H1 => G vs H1 Q := by
  obtain ⟨L, h, δ, r, s, q⟩ := t
  refine ⟨L, h, δ, r, s, ?_⟩
  replace q : AnsI K W σ L H ((mas δ h).bnd f) Q := q
  generalize mas δ h = m at q ⊢
  cases m with
  | stuck => exact q
  | exc c fs h1 => exact q
  | ok ds h1 =>
    intro L' H' vs x r' w
    rcases hf ds h1 with ⟨S, e⟩ | e
    · rw [MM.R.bnd_ok, e] at q
      exact hG L' H' h1 ds vs S Q r' w e fun J t => q L' H' J x r' t
    · rw [MM.R.bnd_ok, e] at q
      exact q.elim
/-! ### range -/
def fRange1 (ds : List D) (h : MH) : R Src := match ds with
  | [.int n] => if -(2 ^ 62) ≤ n ∧ n < 2 ^ 62 then .ok ⟨(List.range n.toNat).map fun (i : Nat) => .int i, fun _ => True⟩ h else .stuck
  | _ => .stuck
theorem Trod.rng {K L H} {lo : Int} {n : Nat} (g : MH → Prop) : Trod K L H (Itr lo n) ((List.range n).map fun (i : Nat) => .int (lo + i)) g := by
  refine ⟨fun L' H' h' i x r' e' hi => ?_, fun L' H' h' x r' e' => ?_, fun L' H' h' i x H'' y r' e' hi hy => ?_⟩
  · show i < n
    simpa using hi
  · show n ≤ _
    simp
  · obtain ⟨rfl, rfl⟩ := hy
    have hi' : i < n := by simpa using hi
    exact ⟨Ext.refl _ _, r', .int (lo + i), by rw [List.getElem?_map, List.getElem?_range hi']; rfl, rep_int⟩
theorem pim_range1 {p pos : Pos} (hg : Gl X "range") (hm : X.mg "range" = none) (ha : PAM X W [a] mas) (hs : starEach [a] X.env = [(false, eval a X.env)] := by rfl) : PIM X W tg (.Call (.Name "range" p) [a] [] pos) (fun δ h => (mas δ h).bnd fRange1) := by
  refine PI.imp (pi_range1 hg hm ha hs) fun σ H R t => ?_
  refine tI_args (G := fun vs H1 R => ∃ j : Int, vs = [.int j] ∧ -(2 ^ 62) ≤ j ∧ j < 2 ^ 62 ∧ R (Itr 0 j.toNat) H1) (fun L H h ds vs S Q r w e k => ?_) (fun ds h => ?_) t
  · unfold fRange1 at e
    split at e
    · rename_i n
      split at e
      · rename_i z
        cases e
        obtain ⟨v, rfl, q⟩ := w.one
        refine ⟨n, by rw [rep_int_inv q], z.1, z.2, k _ ?_⟩
        have := Trod.rng (K := X.K) (L := L) (H := H) (lo := 0) (n := n.toNat) (fun _ => True)
        simpa using this
      · cases e
    · cases e
  · unfold fRange1
    split
    · split
      · exact .inl ⟨_, rfl⟩
      · exact .inr rfl
    · exact .inr rfl
def fRange2 (ds : List D) (h : MH) : R Src := match ds with
  | [.int i, .int n] => if (-(2 ^ 62) ≤ i ∧ i < 2 ^ 62) ∧ -(2 ^ 62) ≤ n ∧ n < 2 ^ 62 then .ok ⟨(List.range (n - i).toNat).map fun (k : Nat) => .int (i + k), fun _ => True⟩ h else .stuck
  | _ => .stuck
theorem pim_range2 {b : Expr} {p pos : Pos} (hg : Gl X "range") (hm : X.mg "range" = none) (ha : PAM X W [a, b] mas) (hs : starEach [a, b] X.env = [(false, eval a X.env), (false, eval b X.env)] := by rfl) (hs2 : starEach [b] X.env = [(false, eval b X.env)] := by rfl) :
    PIM X W tg (.Call (.Name "range" p) [a, b] [] pos) (fun δ h => (mas δ h).bnd fRange2) := by
  refine PI.imp (pi_range2 hg hm ha hs hs2) fun σ H R t => ?_
  refine tI_args (G := fun vs H1 R => ∃ i j : Int, vs = [.int i, .int j] ∧ (-(2 ^ 62) ≤ i ∧ i < 2 ^ 62 ∧ -(2 ^ 62) ≤ j ∧ j < 2 ^ 62) ∧ R (Itr i (j - i).toNat) H1) (fun L H h ds vs S Q r w e k => ?_) (fun ds h => ?_) t
  · unfold fRange2 at e
    split at e
    · rename_i i n
      split at e
      · rename_i z
        cases e
        obtain ⟨v, u, rfl, q1, q2⟩ := w.two
        exact ⟨i, n, by rw [rep_int_inv q1, rep_int_inv q2], ⟨z.1.1, z.1.2, z.2.1, z.2.2⟩, k _ (Trod.rng _)⟩
      · cases e
    · cases e
  · unfold fRange2
    split
    · split
      · exact .inl ⟨_, rfl⟩
      · exact .inr rfl
    · exact .inr rfl
/-! ### enumerate, zip -/
theorem Trod.pair {K : PySem.W.Frag} {L H} {J : It} {ds es : List D} {g : MH → Prop} {n : Nat} (h1 : ds.length = n) (h2 : es.length = n)
    (go : ∀ L' H' h' (i : Nat), Ext L H L' H' → Rel K L' H' h' → g h' → i < n → J.go i H') (stop : ∀ L' H' h', Ext L H L' H' → Rel K L' H' h' → g h' → J.stop n H')
    (yld : ∀ L' H' h' (i : Nat) v H'', Ext L H L' H' → Rel K L' H' h' → g h' → i < n → J.yld i H' v H'' → ∃ T x y, v = .ref T ∧ H' T = none ∧ H'' = upd H' T (.tup [x, y]) ∧ (∃ d, ds[i]? = some d ∧ Rep K L' H' d x) ∧ ∃ d, es[i]? = some d ∧ Rep K L' H' d y) :
    Trod K L H J (List.zipWith (fun x y => .tup [x, y]) ds es) g := by
  have hl : (List.zipWith (fun x y => D.tup [x, y]) ds es).length = n := by rw [List.length_zipWith, h1, h2, Nat.min_self]
  refine ⟨fun L' H' h' i x r' e' hi => go L' H' h' i x r' e' (by rw [← hl]; exact hi), fun L' H' h' x r' e' => by rw [hl]; exact stop L' H' h' x r' e', fun L' H' h' i x H'' y r' e' hi hy => ?_⟩
  obtain ⟨T, a, b, rfl, hT, rfl, ⟨d, e1, q1⟩, c, e2, q2⟩ := yld L' H' h' i x H'' y r' e' (by rw [← hl]; exact hi) hy
  obtain ⟨x1, r1, q⟩ := rep_tup r' hT (.cons q1 (.cons q2 .nil))
  exact ⟨x1, r1, .tup [d, c], by rw [List.getElem?_zipWith, e1, e2], q⟩
def fEnum (ds : List D) (h : MH) : R Src := match ds with
  | [d] => (match lstD d h with
    | some es => .ok ⟨List.zipWith (fun x y => .tup [x, y]) ((List.range es.length).map fun (i : Nat) => .int i) es, fun h' => lstD d h' = some es⟩ h
    | none => .stuck)
  | _ => .stuck
theorem pim_enum {tpos p pos : Pos} {elts : List Expr} {kk : Nat} (hg : Gl X "enumerate") (hm : X.mg "enumerate" = none) (ha : PAM X W [e] mas) (hs : starEach [e] X.env = [(false, eval e X.env)] := by rfl) :
    PIM X W (.Tuple elts kk tpos) (.Call (.Name "enumerate" p) [e] [] pos) (fun δ h => (mas δ h).bnd fEnum) := by
  refine PI.imp (pi_enum hg hm ha hs) fun σ H R t => ?_
  refine tI_args (G := fun vs H1 R => ∃ a xs, vs = [.ref a] ∧ SqL X.K H1 a xs ∧ R (Ite X.K a) H1) (fun L H h ds vs S Q r w e k => ?_) (fun ds h => ?_) t
  · unfold fEnum at e
    split at e
    · rename_i d
      obtain ⟨v, rfl, q⟩ := w.one
      cases e1 : lstD d h with
      | none => simp only [e1] at e; cases e
      | some es =>
        simp only [e1] at e
        cases e
        obtain ⟨p, xs, rfl, s, w2⟩ := lstD_of r q e1
        refine ⟨p, xs, rfl, s, k _ (Trod.pair (n := es.length) (by simp) rfl (fun L' H' h' i x r' e' hi => ?_) (fun L' H' h' x r' e' => ?_) fun L' H' h' i v H'' x r' e' hi hy => ?_)⟩ <;>
          obtain ⟨p', ys, ep, s', w3⟩ := lstD_of r' (q.mono x) e' <;> cases ep
        · obtain ⟨u, e5, _⟩ := w3.get (List.getElem?_eq_getElem hi)
          exact ⟨ys, u, s', e5⟩
        · exact ⟨ys, s', by rw [w3.length]; exact Nat.le_refl _⟩
        · obtain ⟨T, x, h1, h2, h3, h4⟩ := hy
          obtain ⟨c, e6, q6⟩ := w3.get' (h4 ys s')
          exact ⟨T, _, x, h1, h2, h3, ⟨.int i, by rw [List.getElem?_map, List.getElem?_range hi]; rfl, rep_int⟩, c, e6, q6⟩
    · cases e
  · unfold fEnum
    split
    · split
      · exact .inl ⟨_, rfl⟩
      · exact .inr rfl
    · exact .inr rfl
def fZip (ds : List D) (h : MH) : R Src := match ds with
  | [.tup es, .tup fs] => .ok ⟨List.zipWith (fun x y => .tup [x, y]) (es.take (min es.length fs.length)) (fs.take (min es.length fs.length)), fun _ => True⟩ h
  | [d, c] => (match lstD d h, lstD c h with
    | some es, some fs => .ok ⟨List.zipWith (fun x y => .tup [x, y]) (es.take (min es.length fs.length)) (fs.take (min es.length fs.length)), fun h' => lstD d h' = some es ∧ lstD c h' = some fs⟩ h
    | _, _ => .stuck)
  | _ => .stuck
theorem fZip_two {d c : D} {h : MH} {S : Src} (e : fZip [d, c] h = .ok S h) : (∃ es fs, d = .tup es ∧ c = .tup fs ∧ S = ⟨List.zipWith (fun x y => .tup [x, y]) (es.take (min es.length fs.length)) (fs.take (min es.length fs.length)), fun _ => True⟩) ∨
    ∃ es fs, lstD d h = some es ∧ lstD c h = some fs ∧ S = ⟨List.zipWith (fun x y => .tup [x, y]) (es.take (min es.length fs.length)) (fs.take (min es.length fs.length)), fun h' => lstD d h' = some es ∧ lstD c h' = some fs⟩ := by
  unfold fZip at e
  split at e
  · rename_i es fs z
    cases z; cases e
    exact .inl ⟨_, _, rfl, rfl, rfl⟩
  · rename_i z
    cases z
    split at e
    · rename_i es fs z1 z2
      cases e
      exact .inr ⟨es, fs, z1, z2, rfl⟩
    · cases e
  · cases e
theorem fZip_len {ds : List D} {h : MH} {S : Src} (e : fZip ds h = .ok S h) : ∃ d c, ds = [d, c] := by
  unfold fZip at e
  split at e
  · exact ⟨_, _, rfl⟩
  · exact ⟨_, _, rfl⟩
  · cases e
theorem pim_zip {e2 : Expr} {tpos p pos : Pos} {elts : List Expr} {kk : Nat} (hg : Gl X "zip") (hm : X.mg "zip" = none) (ha : PAM X W [e, e2] mas)
    (hs : starEach [e, e2] X.env = (false, eval e X.env) :: starEach [e2] X.env := by rfl) (hpl : (backTo pos (starEach [e2] X.env)).any (·.1) = false := by rfl) :
    PIM X W (.Tuple elts kk tpos) (.Call (.Name "zip" p) [e, e2] [] pos) (fun δ h => (mas δ h).bnd fZip) := by
  refine PI.imp (RZ.pi_zipA hg hm ha hs hpl) fun σ H R t => ?_
  refine tI_args (G := fun vs H1 R => ∃ a b xs ys, vs = [.ref a, .ref b] ∧ ((SqL X.K H1 a xs ∧ SqL X.K H1 b ys ∧ R (Itz X.K a b) H1) ∨ (SqT X.K H1 a xs ∧ SqT X.K H1 b ys ∧ R (RZ.ItzT X.K a b) H1))) (fun L H h ds vs S Q r w e k => ?_) (fun ds h => ?_) t
  · obtain ⟨d, c, rfl⟩ := fZip_len e
    · obtain ⟨v, u, rfl, q1, q2⟩ := w.two
      rcases fZip_two e with ⟨es, fs, rfl, rfl, rfl⟩ | ⟨es, fs, l1, l2, rfl⟩
      · obtain ⟨p, xs, rfl, s1, w1⟩ := tup_of q1
        obtain ⟨p2, ys, rfl, s2, w2⟩ := tup_of q2
        refine ⟨p, p2, xs, ys, rfl, .inr ⟨s1, s2, k _ (Trod.pair (n := min es.length fs.length) (by rw [List.length_take]; omega) (by rw [List.length_take]; omega) (fun L' H' h' i x r' e' hi => ?_) (fun L' H' h' x r' e' => ?_) fun L' H' h' i v H'' x r' e' hi hy => ?_)⟩⟩ <;>
          obtain ⟨p', xs', ep, t1, v1⟩ := tup_of (q1.mono x) <;> cases ep <;> obtain ⟨p', ys', ep, t2, v2⟩ := tup_of (q2.mono x) <;> cases ep
        · obtain ⟨u1, e5, _⟩ := v1.get (i := i) (List.getElem?_eq_getElem (by omega))
          obtain ⟨u2, e6, _⟩ := v2.get (i := i) (List.getElem?_eq_getElem (by omega))
          exact ⟨xs', ys', u1, u2, t1, t2, e5, e6⟩
        · refine ⟨xs', ys', t1, t2, ?_⟩
          rw [← v1.length, ← v2.length]; omega
        · obtain ⟨T, x, y, h1, h2, h3, h4, h5⟩ := hy
          obtain ⟨c1, f1, g1⟩ := v1.get' (h4 xs' t1)
          obtain ⟨c2, f2, g2⟩ := v2.get' (h5 ys' t2)
          exact ⟨T, x, y, h1, h2, h3, ⟨c1, by rw [List.getElem?_take_of_lt hi]; exact f1, g1⟩, c2, by rw [List.getElem?_take_of_lt hi]; exact f2, g2⟩
      · obtain ⟨p, xs, rfl, s1, w1⟩ := lstD_of r q1 l1
        obtain ⟨p2, ys, rfl, s2, w2⟩ := lstD_of r q2 l2
        refine ⟨p, p2, xs, ys, rfl, .inl ⟨s1, s2, k _ (Trod.pair (n := min es.length fs.length) (by rw [List.length_take]; omega) (by rw [List.length_take]; omega) (fun L' H' h' i x r' e' hi => ?_) (fun L' H' h' x r' e' => ?_) fun L' H' h' i v H'' x r' e' hi hy => ?_)⟩⟩ <;>
          obtain ⟨p', xs', ep, t1, v1⟩ := lstD_of r' (q1.mono x) e'.1 <;> cases ep <;> obtain ⟨p', ys', ep, t2, v2⟩ := lstD_of r' (q2.mono x) e'.2 <;> cases ep
        · obtain ⟨u1, e5, _⟩ := v1.get (i := i) (List.getElem?_eq_getElem (by omega))
          obtain ⟨u2, e6, _⟩ := v2.get (i := i) (List.getElem?_eq_getElem (by omega))
          exact ⟨xs', ys', u1, u2, t1, t2, e5, e6⟩
        · refine ⟨xs', ys', t1, t2, ?_⟩
          rw [← v1.length, ← v2.length]; omega
        · obtain ⟨T, x, y, h1, h2, h3, h4, h5⟩ := hy
          obtain ⟨c1, f1, g1⟩ := v1.get' (h4 xs' t1)
          obtain ⟨c2, f2, g2⟩ := v2.get' (h5 ys' t2)
          exact ⟨T, x, y, h1, h2, h3, ⟨c1, by rw [List.getElem?_take_of_lt hi]; exact f1, g1⟩, c2, by rw [List.getElem?_take_of_lt hi]; exact f2, g2⟩
  · unfold fZip
    split
    · exact .inl ⟨_, rfl⟩
    · split
      · exact .inl ⟨_, rfl⟩
      · exact .inr rfl
    · exact .inr rfl
end
end MM

namespace MM
open PySem PySem.Spec PyProof.Rows L2
/-! ### stores into lists -/
def setG (o i d : D) (h : MH) : Option MH := match o, i with
  | .ref n, .int j => (lst? h n).bind fun ds => (ixN ds.length j).map fun k => h.set n (.lst (ds.set k d))
  | _, _ => none
def mSetIx (m mo mi : ME) : MSt := fun δ h => (m δ h).st δ fun d h1 => (mo δ h1).st δ fun o h2 => (mi δ h2).st δ fun i h3 => match setG o i d h3 with
  | some h4 => .ok (.next δ) h4
  | none => .stuck
theorem setG_ok {K : PySem.W.Frag} {L H} {h h' : MH} {o i d : D} {vo vi v : V} {Q : Hp → Prop} (r : Rel K L H h) (po : Rep K L H o vo) (pi : Rep K L H i vi) (p : Rep K L H d v) (e : setG o i d h = some h')
    (k : ∀ H', Ext L H L H' → Rel K L H' h' → Q H') : rSetL vo vi v H Q := by
  unfold setG at e
  split at e
  · rename_i n j
    obtain ⟨ds, e1, e2⟩ := Option.bind_eq_some_iff.mp e
    obtain ⟨m, e3, rfl⟩ := Option.map_eq_some_iff.mp e2
    obtain ⟨a, xs, z1, z2, w⟩ := r.lst (lst?_at e1)
    obtain ⟨x1, r1⟩ := r.wr z1 z2 (RepL.set p m w)
    exact ⟨a, xs, j, m, po.ref z1, rep_int_inv pi, z2, by rw [← w.length]; exact e3, k _ x1 r1⟩
  · cases e
section
variable {X : Cx} {W : WX} {pos : Pos} {e o i : Expr} {me mo mi : ME}
theorem psm_setIx {tpos : Pos} (he : PEM X W e me) (ho : PEM X W o mo) (hi : PEM X W i mi)
    (ha : ∀ v, assign (.Subscript o i tpos) X.env v = (do
      let ov ← holding [v] (eval o X.env)
      let iv ← holding [v, ov] (eval i X.env)
      standAt tpos
      holding [v, ov, iv] (setItem ov iv v)
      release [v, ov, iv] []) := by intro _; rfl)
    (hs : swapsWithSole [.Subscript o i tpos] e pos.line X.env = pure false := by rfl) (hw : swappedStores [.Subscript o i tpos] e X.env = pure none := by rfl) (h1 : (assignEach [.Subscript o i tpos] X.env).map (·.2) = [assign (.Subscript o i tpos) X.env] := by rfl) :
    PSM X W (.Assign [.Subscript o i tpos] e pos) (mSetIx me mo mi) :=
  PS.imp (ps_asg he (pg_sub ho hi set_list ha) hs hw h1) fun D σ H ⟨L, h, δ, r, s, a⟩ => ⟨L, h, δ, r, s, Ans.imp (AnsS.bind (rp := Rep X.K) s a) fun v H1 ⟨L1, h1, d, x1, r1, p1, s1, a1⟩ =>
    ⟨L1, h1, δ, r1, s1, Ans.imp (AnsS.bind (rp := Rep X.K) s1 a1) fun vo H2 ⟨L2, h2, d2, x2, r2, p2, s2, a2⟩ => ⟨L2, h2, δ, r2, s2, Ans.imp (AnsS.bind (rp := Rep X.K) s2 a2) fun vi H3 ⟨L3, h3, d3, x3, r3, p3, s3, a3⟩ => by
      cases eg : setG d2 d3 d h3 with
      | none => rw [eg] at a3; exact a3.elim
      | some h4 =>
        simp only [eg] at a3
        exact setG_ok r3 (p2.mono x3) p3 (p1.mono (x2.trans x3)) eg fun H' x r' => (a3.mono x).nx r' (s3.mono x)⟩⟩⟩
/-- x op= e -/
def mAug (i : Nat) (f : D → D → MH → R D) (m : ME) : MSt := fun δ h => match δ[i]? with
  | some (some d) => (m δ h).st δ fun y h1 => (f d y h1).st δ fun z h2 => .ok (.next (δ.set i (some z))) h2
  | _ => .stuck
theorem psm_aug {k : Nat} {op : Operator} {r : R2} {f : D → D → MH → R D} {x : Str} {pos' : Pos} (hm : OpM X.K r f) (h : PS X (.AugAssign (.Name x pos') op e pos) (tAug k (tE X.K W me) r)) : PSM X W (.AugAssign (.Name x pos') op e pos) (mAug k f me) := by
  refine PS.imp h fun D σ H ⟨L, h, δ, r0, s, a⟩ => ?_
  unfold mAug at a
  split at a
  · rename_i d ed
    obtain ⟨v, ev, q⟩ := s.at' k d ed
    refine ⟨v, ev, L, h, δ, r0, s, Ans.imp (AnsS.bind (rp := Rep X.K) s a) fun y H1 ⟨L1, h1, d1, x1, r1, p1, s1, a1⟩ => ?_⟩
    refine hm L1 H1 h1 d d1 v y _ _ r1 (q.mono x1) p1 (Ans.imp (AnsS.bind (rp := Rep X.K) s1 a1) fun z H2 ⟨L2, h2, d2, x2, r2, p2, s2, a2⟩ => a2.nx r2 (s2.set p2))
  · exact a.elim
theorem sa (k : Nat) {op : Operator} {r : R2} {f : D → D → MH → R D} {x : Str} {pos' : Pos} (hN : X.N.Nodup) (hp : PIp X op r) (hm : OpM X.K r f) (he : PEM X W e me) (hi : X.N[k]? = some x := by rfl) (hx : Loc X.env.scope x := by first | exact Or.inl rfl | exact Or.inr rfl)
    (hf : X.fn x = true ∨ X.env.scope.names.lookup x = some .local := by first | exact .inl rfl | exact .inr rfl) : PSM X W (.AugAssign (.Name x pos') op e pos) (mAug k f me) := psm_aug hm (ps_aug hN hi hx he hp hf)
/-- xs[i] op= e -/
theorem get_list : PGet X (rIxL X.K) := by
  intro pins s σ H o i ov iv Q I ro ri q
  obtain ⟨p, xs, k, v, rfl, rfl, sq, hk, q⟩ := q
  obtain rfl : ov = .ref p := ro
  obtain ⟨t, rfl⟩ := ri
  obtain ⟨its, rv, pl, hz⟩ := I.list sq
  obtain ⟨j, e1, e2, e3, e4, e5⟩ := atI_get hk
  obtain ⟨u, eu, ru⟩ := rv.get e2
  have hl := rv.length
  have hn := line63
  have done : EP X pins σ Q u s := ⟨v, H, I, ru, q⟩
  by_cases h0 : 0 ≤ k
  · have hj : k.toNat = j := by
      rw [seqIndex_of h0 e5] at e1
      exact Option.some.inj e1
    exact wpAny_getItem_list pl.isList h0 (by omega) (by rw [hj]; simpa using eu) done
  · have hj : (k + (its.toArray.size : Int)).toNat = j := by
      rw [seqIndex_neg (by omega) e4] at e1
      rw [List.size_toArray, ← hl]
      exact Option.some.inj e1
    exact wpAny_getItem_list_neg pl.isList (by omega) (by rw [List.size_toArray]; omega) (by omega) (by rw [hj]; simpa using eu) done
def mAugIx (f : D → D → MH → R D) (mo mi m : ME) : MSt := fun δ h => (mo δ h).st δ fun o h1 => (mi δ h1).st δ fun i h2 => match (match i with | .int k => (lstD o h2).bind fun ds => L2.atI ds k | _ => none) with
  | some d => (m δ h2).st δ fun y h3 => (f d y h3).st δ fun z h4 => (match setG o i z h4 with
    | some h5 => .ok (.next δ) h5
    | none => .stuck)
  | none => .stuck
theorem psm_augIx {op : Operator} {r : R2} {f : D → D → MH → R D} {tpos : Pos} (hp : PIp X op r) (hm : OpM X.K r f) (ho : PEM X W o mo) (hi : PEM X W i mi) (he : PEM X W e me)
    (ha : ∀ ov iv new, augStore i ov iv new = (do holding [new, ov, iv] (setItem ov iv new); release [new, ov, iv] []; pure .next) := by intros; rfl) : PSM X W (.AugAssign (.Subscript o i tpos) op e pos) (mAugIx f mo mi me) := by
  refine PS.imp (ps_augS ho hi get_list he hp set_list ha) fun D σ H ⟨L, h, δ, r0, s, a⟩ => ?_
  refine ⟨L, h, δ, r0, s, Ans.imp (AnsS.bind (rp := Rep X.K) s a) fun vo H1 ⟨L1, h1, d1, x1, r1, p1, s1, a1⟩ => ⟨L1, h1, δ, r1, s1, Ans.imp (AnsS.bind (rp := Rep X.K) s1 a1) fun vi H2 ⟨M2, h2, d2, x2, r2, p2, s2, a2⟩ => ?_⟩⟩
  cases d2 with
  | int k =>
    cases e0 : (lstD d1 h2).bind fun ds => L2.atI ds k with
    | none => simp only [e0] at a2; exact a2.elim
    | some d =>
      simp only [e0] at a2
      obtain ⟨ds, e1, e2⟩ := Option.bind_eq_some_iff.mp e0
      obtain ⟨pa, xs, ev, sq, w⟩ := lstD_of r2 (p1.mono x2) e1
      obtain ⟨v, e3, q⟩ := w.atI e2
      refine ⟨pa, xs, k, v, ev, rep_int_inv p2, sq, e3, M2, h2, δ, r2, s2, Ans.imp (AnsS.bind (rp := Rep X.K) s2 a2) fun y H3 ⟨L3, h3, d3, x3, r3, p3, s3, a3⟩ => ?_⟩
      refine hm L3 H3 h3 d d3 v y _ _ r3 (q.mono x3) p3 (Ans.imp (AnsS.bind (rp := Rep X.K) s3 a3) fun z H4 ⟨L4, h4, d4, x4, r4, p4, s4, a4⟩ => ?_)
      cases eg : setG d1 (.int k) d4 h4 with
      | none => simp only [eg] at a4; exact a4.elim
      | some h5 =>
        simp only [eg] at a4
        exact setG_ok r4 (p1.mono (x2.trans (x3.trans x4))) (p2.mono (x3.trans x4)) p4 eg fun H' x r' => (a4.mono x).nx r' (s4.mono x)
  | _ => exact a2.elim
/-- a list that was made here is changed no more -/
def frz (d : D) (h : MH) : R D := match d with
  | .ref n => (match lst? h n with
    | some ds => .ok (.rol ds) (h.set n .dead)
    | none => .stuck)
  | _ => .stuck
theorem frz_ok {K L H} {h : MH} {d v} {Q : VK} {E : XK} (r : Rel K L H h) (q : Rep K L H d v) (a : Ans K (Rep K) L H (frz d h) Q E) : Q v H := by
  cases d with
  | ref n =>
    unfold frz at a
    cases e : lst? h n with
    | none => simp only [e] at a; exact a.elim
    | some ds =>
      simp only [e] at a
      obtain ⟨p, xs, e1, e2, w⟩ := r.lst (lst?_at e)
      obtain ⟨xk, rk⟩ := r.kill (n := n) (List.getElem?_eq_some_iff.mp (lst?_at e)).1
      rw [q.ref e1]
      refine ans_of ⟨xk, rk, ?_⟩ a
      unfold Rep
      exact ⟨p, xs, rfl, .inl ⟨.inl e2, NL.kill r e1⟩, w.mono xk⟩
  | _ => exact a.elim
def mFrz (m : ME) : ME := fun δ h => (m δ h).bnd frz
theorem pem_frz (he : PEM X W e me) : PEM X W e (mFrz me) :=
  PE.imp he fun σ H Q ⟨L, h, δ, r, s, a⟩ => ⟨L, h, δ, r, s, Ans.imp (Ans.bind (rp := Rep X.K) a) fun v H1 ⟨L1, h1, d, x1, r1, p1, a1⟩ => frz_ok r1 p1 a1⟩
end
/-! ### methods of texts -/
section
variable {K : PySem.W.Frag}
def strsL : List D → Option (List Str)
  | [] => some []
  | .str b :: ds => (strsL ds).map fun bs => b :: bs
  | _ :: _ => none
theorem strsL_ok {L H} : ∀ {ds : List D} {vs bs}, RepL K L H ds vs → strsL ds = some bs → vs = bs.map V.str
  | [], _, _, w, e => by cases e; rw [w.nil_inv]; rfl
  | d :: ds, _, _, w, e => by
    obtain ⟨v, vs, rfl, q, w2⟩ := w.cons_inv
    cases d with
    | str b =>
      obtain ⟨bs, e1, rfl⟩ := Option.map_eq_some_iff.mp e
      rw [rep_str_inv q, strsL_ok w2 e1]; rfl
    | _ => cases e
def fJoin (d : D) (ds : List D) (h : MH) : R D := match d, ds with
  | .str a, [x] => (match (seqG x h).bind strsL with
    | some ys => if (ys.map (·.length)).sum + ys.length * a.length ≤ 16777216 then .ok (.str (Txt.join a ys)) h else .stuck
    | none => .stuck)
  | _, _ => .stuck
def rJoin (K : PySem.W.Frag) : V → List V → Hp → VK → Prop := fun x xs H Q => ∃ a p, ∃ ys : List Str, x = .str a ∧ xs = [.ref p] ∧ (SqL K H p (ys.map V.str) ∨ SqT K H p (ys.map V.str)) ∧
    (ys.map (·.length)).sum + ys.length * a.length ≤ 16777216 ∧ Q (.str (Txt.join a ys)) H
theorem fJoin_ok : MtdM K (rJoin K) fJoin := by
  intro L H h d x ds vs Q E r q w a
  unfold fJoin at a
  split at a
  · rename_i s e
    obtain ⟨v, rfl, qv⟩ := w.one
    cases z : (seqG e h).bind strsL with
    | none => simp only [z] at a; exact a.elim
    | some ys =>
      simp only [z] at a
      split at a
      · rename_i hz
        obtain ⟨es, z1, z2⟩ := Option.bind_eq_some_iff.mp z
        obtain ⟨p, xs, rfl, sq, w2⟩ := seqG_of r qv z1
        rw [strsL_ok w2 z2] at sq
        exact ⟨s, p, ys, rep_str_inv q, rfl, sq, hz, ans_okE r rep_str a⟩
      · exact a.elim
  · exact a.elim
def fRemP (d : D) (ds : List D) (h : MH) : R D := match d, ds with
  | .str a, [.str b] => if a.length ≤ 16777216 then .ok (.str (Txt.removeprefix a b)) h else .stuck
  | _, _ => .stuck
theorem fRemP_ok : MtdM K (fun x xs H Q => ∃ a b, x = .str a ∧ xs = [.str b] ∧ a.length ≤ sizeLine ∧ Q (.str (Txt.removeprefix a b)) H) fRemP := by
  intro L H h d x ds vs Q E r q w a
  unfold fRemP at a
  split at a
  · rename_i s b
    obtain ⟨v, rfl, qv⟩ := w.one
    split at a
    · rename_i hz
      exact ⟨s, b, rep_str_inv q, by rw [rep_str_inv qv], szl hz, ans_okE r rep_str a⟩
    · exact a.elim
  · exact a.elim
end
end MM

/-! constants of the top; dicts that nobody changes -/
namespace MM
open PySem PySem.Spec PyProof.Rows L2
mutual
def kRep (K : PySem.W.Frag) : D → Value → Bool
  | .non, .none => true
  | .bl b, .bool c => b == c
  | .int i, .int j _ => decide (i = j)
  | .str s, .str t _ => decide (s = t)
  | .obj a, .ref b => decide (a = b)
  | .tup ds, .ref a => (match K.lookup a with
    | some ⟨.type c, _, .seq its _, _⟩ => decide (c = "tuple") && (decide (its.size ≤ sizeLine) && kRepL K ds its.toList)
    | _ => false)
  | .rol ds, .ref a => (match K.lookup a with
    | some ⟨.type c, none, .seq its _, _⟩ => decide (c = "list") && (decide (its.size ≤ sizeLine) && kRepL K ds its.toList)
    | _ => false)
  | .kon n, .ref a => (match PySem.W.nsIn K mainGlobals n with
    | some (some (.ref b)) => decide (a = b)
    | _ => false)
  | _, _ => false
def kRepL (K : PySem.W.Frag) : List D → List Value → Bool
  | [], [] => true
  | d :: ds, v :: vs => kRep K d v && kRepL K ds vs
  | _, _ => false
end
section
variable {K : PySem.W.Frag}
theorem andT {a b : Bool} (h : (a && b) = true) : a = true ∧ b = true := by rwa [Bool.and_eq_true] at h
mutual
theorem kRep_ok : ∀ {d : D} {u : Value}, kRep K d u = true → ∃ v, RelV v u ∧ ∀ L H, Rep K L H d v
  | .non, u, h => by
    cases u <;> first | exact ⟨.non, rfl, fun _ _ => by unfold Rep; rfl⟩ | (unfold kRep at h; cases h)
  | .bl b, u, h => by
    cases u with
    | bool c =>
      unfold kRep at h
      rw [beq_iff_eq] at h
      subst h
      exact ⟨.bl b, rfl, fun _ _ => by unfold Rep; rfl⟩
    | _ => unfold kRep at h; cases h
  | .int i, u, h => by
    cases u with
    | int j t =>
      unfold kRep at h
      have := of_decide_eq_true h
      subst this
      exact ⟨.int i, ⟨_, rfl⟩, fun _ _ => by unfold Rep; rfl⟩
    | _ => unfold kRep at h; cases h
  | .str i, u, h => by
    cases u with
    | str j t =>
      unfold kRep at h
      have := of_decide_eq_true h
      subst this
      exact ⟨.str i, ⟨_, rfl⟩, fun _ _ => by unfold Rep; rfl⟩
    | _ => unfold kRep at h; cases h
  | .obj i, u, h => by
    cases u with
    | ref j =>
      unfold kRep at h
      have := of_decide_eq_true h
      subst this
      exact ⟨.ref i, rfl, fun _ _ => by unfold Rep; rfl⟩
    | _ => unfold kRep at h; cases h
  | .kon n, u, h => by
    cases u with
    | ref j =>
      unfold kRep at h
      split at h
      · rename_i b e
        have := of_decide_eq_true h
        subst this
        exact ⟨.ref j, rfl, fun _ _ => by unfold Rep; exact ⟨_, rfl, e⟩⟩
      · cases h
    | _ => unfold kRep at h; cases h
  | .tup ds, u, h => by
    cases u with
    | ref a =>
      unfold kRep at h
      split at h
      · rename_i c dd its n sl e
        obtain ⟨h1, h2⟩ := andT h
        obtain ⟨h2, h3⟩ := andT h2
        have h1 := of_decide_eq_true h1
        subst h1
        obtain ⟨vs, w, r⟩ := kRepL_ok h3
        exact ⟨.ref a, rfl, fun L H => by
          unfold Rep
          exact ⟨a, vs, rfl, .inr ⟨_, its, n, e, rfl, rfl, of_decide_eq_true h2, w⟩, r L H⟩⟩
      · cases h
    | _ => unfold kRep at h; cases h
  | .rol ds, u, h => by
    cases u with
    | ref a =>
      unfold kRep at h
      split at h
      · rename_i c its n sl e
        obtain ⟨h1, h2⟩ := andT h
        obtain ⟨h2, h3⟩ := andT h2
        have h1 := of_decide_eq_true h1
        subst h1
        obtain ⟨vs, w, r⟩ := kRepL_ok h3
        exact ⟨.ref a, rfl, fun L H => by
          unfold Rep
          exact ⟨a, vs, rfl, .inr ⟨_, its, n, e, rfl, rfl, rfl, of_decide_eq_true h2, w⟩, r L H⟩⟩
      · cases h
    | _ => unfold kRep at h; cases h
  | .ref _, _, h => by unfold kRep at h; cases h
  | .ty _, _, h => by unfold kRep at h; cases h
  | .rdc _ _, _, h => by unfold kRep at h; cases h
theorem kRepL_ok : ∀ {ds : List D} {us : List Value}, kRepL K ds us = true → ∃ vs, Vals vs us ∧ ∀ L H, RepL K L H ds vs
  | [], [], _ => ⟨[], .nil, fun _ _ => .nil⟩
  | [], _ :: _, h => by unfold kRepL at h; cases h
  | _ :: _, [], h => by unfold kRepL at h; cases h
  | d :: ds, u :: us, h => by
    unfold kRepL at h
    obtain ⟨h1, h2⟩ := andT h
    obtain ⟨v, r1, q1⟩ := kRep_ok h1
    obtain ⟨vs, r2, q2⟩ := kRepL_ok h2
    exact ⟨v :: vs, .cons r1 r2, fun L H => .cons (q1 L H) (q2 L H)⟩
end
theorem cAt_of {mg : Str → Option Value} {x : Str} {d : D} {u : Value} (e : mg x = some u) (h : kRep K d u = true) : CAt K mg x d := let ⟨v, r, q⟩ := kRep_ok h; ⟨u, v, e, r, q⟩
end
/-! ### a dict of the top, its keys texts -/
def kDic (K : PySem.W.Frag) : List (Str × D) → List DictEntry → Bool
  | [], [] => true
  | p :: r, e :: es => (match e.key with | .str y _ => decide (p.1 = y) | _ => false) && (kRep K p.2 e.val && kDic K r es)
  | _, _ => false
def kvD (kvs : List (Str × D)) (x : Str) : Option D := (kvs.find? fun p => decide (p.1 = x)).map (·.2)
def KAt (K : PySem.W.Frag) (w : World) (mg : Str → Option Value) (c : Str) (kvs : List (Str × D)) : Prop := ∃ a es n, mg c = some (.ref a) ∧ KDict K w a es n ∧ kDic K kvs es.toList = true
theorem kDic_get {K : PySem.W.Frag} {x : Str} : ∀ {kvs : List (Str × D)} {es : List DictEntry}, kDic K kvs es = true → es.any (·.refKey) = false ∧
    match kvD kvs x with
    | some d => ∃ e v, es.find? (·.key.isStr x) = some e ∧ RelV v e.val ∧ ∀ L H, Rep K L H d v
    | none => es.find? (·.key.isStr x) = none
  | [], [], _ => ⟨rfl, rfl⟩
  | [], _ :: _, h => by unfold kDic at h; cases h
  | _ :: _, [], h => by unfold kDic at h; cases h
  | p :: r, e :: es, h => by
    unfold kDic at h
    obtain ⟨h1, h2⟩ := andT h
    obtain ⟨h2, h3⟩ := andT h2
    split at h1
    · rename_i y t ek
      have h1 := of_decide_eq_true h1
      obtain ⟨f1, f2⟩ := kDic_get (x := x) h3
      have rk : e.refKey = false := by unfold DictEntry.refKey; rw [ek]
      refine ⟨by rw [List.any_cons, rk, f1]; rfl, ?_⟩
      have ks : e.key.isStr x = decide (p.1 = x) := by
        rw [ek, h1]
        show decide _ = _
        exact decide_eq_decide.mpr ⟨fun z => z.symm ▸ rfl, fun z => z.symm ▸ rfl⟩
      unfold kvD
      rw [List.find?_cons, List.find?_cons, ks]
      by_cases hx : p.1 = x
      · rw [decide_eq_true hx]
        obtain ⟨v, r1, q1⟩ := kRep_ok h2
        exact ⟨e, v, rfl, r1, q1⟩
      · rw [decide_eq_false hx]
        exact f2
    · cases h1
theorem kat_get {K : PySem.W.Frag} {w : World} {a : Addr} {es : Array DictEntry} {n : Nat} {kvs : List (Str × D)} (D0 : KDict K w a es n) (h : kDic K kvs es.toList = true) (x : Str) :
    match kvD kvs x with
    | some d => ∃ u v, PySem.W.nsIn K a x = some (some u) ∧ RelV v u ∧ ∀ L H, Rep K L H d v
    | none => PySem.W.nsIn K a x = some none := by
  obtain ⟨f1, f2⟩ := kDic_get (x := x) h
  have e : PySem.W.nsIn K a x = match es.toList.find? (·.key.isStr x) with
      | some e => some (some e.val)
      | none => if es.toList.any (·.refKey) then none else some none := by
    unfold PySem.W.nsIn
    rw [D0.at_]; rfl
  cases hk : kvD kvs x with
  | some d =>
    rw [hk] at f2
    obtain ⟨en, v, g1, g2, g3⟩ := f2
    exact ⟨en.val, v, by rw [e, g1], g2, g3⟩
  | none =>
    rw [hk] at f2
    show PySem.W.nsIn K a x = some none
    rw [e, show es.toList.find? (·.key.isStr x) = none from f2, f1]; rfl
section
variable {X : Cx} {W : WX} {pos : Pos} {e f : Expr} {me mf : ME} {c : Str} {kvs : List (Str × D)}
def mKIx (kvs : List (Str × D)) (m : ME) : ME := fun δ h => (m δ h).bnd fun d h1 => match d with
  | .str x => (match kvD kvs x with | some r => .ok r h1 | none => .stuck)
  | _ => .stuck
def mKGet (kvs : List (Str × D)) (m : ME) : ME := fun δ h => (m δ h).bnd fun d h1 => match d with
  | .str x => .ok ((kvD kvs x).getD .non) h1
  | _ => .stuck
def mKGet2 (kvs : List (Str × D)) (m n : ME) : ME := fun δ h => (m δ h).bnd fun d h1 => (n δ h1).bnd fun y h2 => match d with
  | .str x => .ok ((kvD kvs x).getD y) h2
  | _ => .stuck
def mKIn (no : Bool) (kvs : List (Str × D)) (m : ME) : ME := fun δ h => (m δ h).bnd fun d h1 => match d with
  | .str x => .ok (.bl (no != (kvD kvs x).isSome)) h1
  | _ => .stuck
theorem pem_kix {p : Pos} (k : KAt X.K X.w X.mg c kvs) (hg : Gl X c) (ha : PEM X W e me) (hs : PlainIx e) (hd : (c == ("__debug__" : Str)) = false := by decide) : PEM X W (.Subscript (.Name c p) e pos) (mKIx kvs me) := by
  obtain ⟨a, es, n, k1, k2, k3⟩ := k
  refine PE.imp (pe_ix ix_kdict (pe_glob (v := .ref a) hg k1 rfl hd) ha hs) fun σ H Q ⟨L, h, δ, r0, s, t⟩ => ?_
  refine ⟨L, h, δ, r0, s, Ans.imp (Ans.bind (rp := Rep X.K) t) fun v H1 ⟨L1, h1, d, x1, r1, p1, a1⟩ => ?_⟩
  split at a1
  · rename_i x
    have g := kat_get k2 k3 x
    split at a1
    · rename_i r er
      rw [er] at g
      obtain ⟨u, y, g1, g2, g3⟩ := g
      exact ⟨a, x, y, rfl, rep_str_inv p1, ⟨es, n, u, k2.at_, k2.lit, g1, g2⟩, ans_okE r1 (g3 _ _) a1⟩
    · exact a1.elim
  · exact a1.elim
theorem kd_there {pins : List (Addr × Obj)} {σ : L2.St} {H : Hp} {s : Shared} {a : Addr} {es : Array DictEntry} {n : Nat} (D0 : KDict X.K X.w a es n) (I : Inv X pins σ H s) : ∀ b, Value.ref a = .ref b → ∃ ob, s.heap.get? b = some ob ∧ ob.dict = none := fun b q => by
  cases q
  exact ⟨_, I.kIn _ _ D0.at_, rfl⟩
theorem pem_kget {p apos cpos : Pos} (k : KAt X.K X.w X.mg c kvs) (hg : Gl X c) (ha : PEM X W e me) (m : M1 X (.Name c p) "get" apos e cpos) (hd : (c == ("__debug__" : Str)) = false := by decide) :
    PEM X W (.Call (.Attribute (.Name c p) "get" apos) [e] [] cpos) (mKGet kvs me) := by
  obtain ⟨a, es, n, k1, k2, k3⟩ := k
  refine ⟨fun pins s σ H Q I ⟨L, h, δ, r0, sl, t⟩ => ?_⟩
  refine wpAny_Call_method m.base m.few m.line PySem.F.plainAttrs_dict PySem.F.slot_dict_get PySem.F.type_dict_get (thn ((pe_glob (v := .ref a) hg k1 rfl hd).run pins s σ H (fun x H1 => x = .ref a ∧ H1 = H) I ⟨rfl, rfl⟩) fun u s1 ⟨x, H1, I1, rx, ex, eH⟩ => ?_)
  subst ex eH
  obtain rfl : u = Value.ref a := rx
  refine ⟨kd_type k2 I1, kd_there k2 I1, ?_⟩
  rw [m.trees]
  refine Calls.callWith_builtin rfl (Calls.evalArgs_plain (Calls.spliced_cons (thn (ha.run pins s1 σ H1 _ I1 ⟨L, h, δ, r0, sl, Ans.bind (rp := Rep X.K) t⟩) fun iv s2 ⟨y, H2, I2, ry, L1, h1, d, x1, r1, p1, a1⟩ => Calls.spliced_nil ?_)))
  split at a1
  · rename_i x
    have g := kat_get k2 k3 x
    rw [rep_str_inv p1] at ry
    obtain ⟨tk, rfl⟩ := ry
    refine call_meetsIn PySem.F.slot_dict_get (kd_type k2 I2) PySem.F.entry_dict_get (PySem.F.args_dict_get_2 _ _) (meets_dict_get (strKind X.prog X.w) a (strKind_is X.prog X.w x tk) k2.low) ⟨_, PySem.W.mapOf_K (prog := X.prog) I2.kIn k2.at_ k2.lit, ?_⟩
    cases hk : kvD kvs x with
    | some r =>
      rw [hk] at g a1
      obtain ⟨u, y, g1, g2, g3⟩ := g
      rw [PySem.W.find_K k2.at_ g1]
      exact ⟨y, H2, I2.tok _, g2, ans_okE r1 (g3 _ _) a1⟩
    | none =>
      rw [hk] at g a1
      rw [PySem.W.find_K k2.at_ g]
      exact ⟨.non, H2, I2.tok _, rfl, ans_okE r1 (by unfold Rep; rfl) a1⟩
  · exact a1.elim
theorem pem_kget2 {p apos cpos : Pos} (k : KAt X.K X.w X.mg c kvs) (hg : Gl X c) (ha : PEM X W e me) (hf : PEM X W f mf) (m : M2 X (.Name c p) "get" apos e f cpos) (hd : (c == ("__debug__" : Str)) = false := by decide) :
    PEM X W (.Call (.Attribute (.Name c p) "get" apos) [e, f] [] cpos) (mKGet2 kvs me mf) := by
  obtain ⟨a, es, n, k1, k2, k3⟩ := k
  refine ⟨fun pins s σ H Q I ⟨L, h, δ, r0, sl, t⟩ => ?_⟩
  refine wpAny_Call_method m.base m.few m.line PySem.F.plainAttrs_dict PySem.F.slot_dict_get PySem.F.type_dict_get (thn ((pe_glob (v := .ref a) hg k1 rfl hd).run pins s σ H (fun x H1 => x = .ref a ∧ H1 = H) I ⟨rfl, rfl⟩) fun u s1 ⟨x, H1, I1, rx, ex, eH⟩ => ?_)
  subst ex eH
  obtain rfl : u = Value.ref a := rx
  refine ⟨kd_type k2 I1, kd_there k2 I1, ?_⟩
  rw [m.trees]
  refine Calls.callWith_builtin rfl (Calls.evalArgs_plain (Calls.spliced_cons (thn (ha.run pins s1 σ H1 _ I1 ⟨L, h, δ, r0, sl, Ans.bind (rp := Rep X.K) t⟩) fun iv s2 ⟨y, H2, I2, ry, L1, h1, d, x1, r1, p1, a1⟩ =>
    Calls.spliced_cons (thn (hf.run pins s2 σ H2 _ I2 ⟨L1, h1, δ, r1, sl.mono x1, Ans.bind (rp := Rep X.K) a1⟩) fun fv s3 ⟨z, H3, I3, rz, L2, h2, d2, x2, r2, p2, a2⟩ => Calls.spliced_nil ?_))))
  cases d with
  | str x =>
    replace a2 : Ans X.K (Rep X.K) L2 H3 (.ok ((kvD kvs x).getD d2) h2) Q (WE W σ) := a2
    have g := kat_get k2 k3 x
    rw [rep_str_inv p1] at ry
    obtain ⟨tk, rfl⟩ := ry
    refine call_meetsIn PySem.F.slot_dict_get (kd_type k2 I3) PySem.F.entry_dict_get (PySem.F.args_dict_get_3 _ _ _) (meets_dict_get_default (strKind X.prog X.w) a (strKind_is X.prog X.w x tk) k2.low fv) ⟨_, PySem.W.mapOf_K (prog := X.prog) I3.kIn k2.at_ k2.lit, ?_⟩
    cases hk : kvD kvs x with
    | some r =>
      rw [hk] at g a2
      obtain ⟨u, y, g1, g2, g3⟩ := g
      rw [PySem.W.find_K k2.at_ g1]
      exact ⟨y, H3, I3.tok _, g2, ans_okE r2 (g3 _ _) a2⟩
    | none =>
      rw [hk] at g a2
      rw [PySem.W.find_K k2.at_ g]
      exact ⟨z, H3, I3.tok _, rz, ans_okE r2 p2 a2⟩
  | _ => exact a2.elim
theorem op_kin {p : Pos} {a : Addr} {es : Array DictEntry} {n : Nat} {Q : VK} {H : Hp} {σ : L2.St} (k2 : KDict X.K X.w a es n) (k3 : kDic X.K kvs es.toList = true) (no : Bool)
    (t : tE X.K W (mKIn no kvs me) σ H Q) : tOp (fun x y H Q => ∃ (z : Str) (r : Option Value), x = .str z ∧ y = .ref a ∧ PySem.W.nsIn X.K a z = some r ∧ Q (.bl (no != r.isSome)) H) (tE X.K W me) (tC (.ref a)) σ H Q := by
  obtain ⟨L, h, δ, r0, s, t⟩ := t
  refine ⟨L, h, δ, r0, s, Ans.imp (Ans.bind (rp := Rep X.K) t) fun v H1 ⟨L1, h1, d, x1, r1, p1, a1⟩ => ?_⟩
  cases d with
  | str x =>
    replace a1 : Ans X.K (Rep X.K) L1 H1 (.ok (.bl (no != (kvD kvs x).isSome)) h1) Q (WE W σ) := a1
    have g := kat_get k2 k3 x
    cases hk : kvD kvs x with
    | some r =>
      rw [hk] at g a1
      obtain ⟨u, y, g1, g2, g3⟩ := g
      exact ⟨x, _, rep_str_inv p1, rfl, g1, ans_okE r1 rep_bl a1⟩
    | none =>
      rw [hk] at g a1
      exact ⟨x, _, rep_str_inv p1, rfl, g, ans_okE r1 rep_bl a1⟩
  | _ => exact a1.elim
theorem pem_kin {p : Pos} (k : KAt X.K X.w X.mg c kvs) (hg : Gl X c) (ha : PEM X W e me) (hn : behindInMarks .In (.Name c p) = false := by rfl) (hd : (c == ("__debug__" : Str)) = false := by decide) : PEM X W (.Compare e [.In] [.Name c p] pos) (mKIn false kvs me) := by
  obtain ⟨a, es, n, k1, k2, k3⟩ := k
  refine PE.imp (pe_cmpR (op_in_kd k2) ha (pe_glob (v := .ref a) hg k1 rfl hd) hn) fun σ H Q t => ?_
  have := op_kin (p := p) k2 k3 false t
  simp only [Bool.false_bne] at this
  exact this
theorem ptm_kin {p : Pos} (k : KAt X.K X.w X.mg c kvs) (hg : Gl X c) (ha : PEM X W e me) (hn : behindInMarks .In (.Name c p) = false := by rfl) (hd : (c == ("__debug__" : Str)) = false := by decide) : PTM X W (.Compare e [.In] [.Name c p] pos) (mB (mKIn false kvs me)) := by
  obtain ⟨a, es, n, k1, k2, k3⟩ := k
  refine PT.imp (pt_cmpR (op_in_kd k2) ha (pe_glob (v := .ref a) hg k1 rfl hd) hn) fun σ H Q ⟨L, h, δ, r0, s, a⟩ => ?_
  have := op_kin (p := p) (Q := fun x H' => ∃ k, x = .bl k ∧ Q k H') k2 k3 false ⟨L, h, δ, r0, s, Ans.imp (Ans.bind (rp := Rep X.K) a) fun v H1 ⟨L1, h1, d, x1, r1, p1, a1⟩ => ans_isB r1 p1 a1⟩
  simp only [Bool.false_bne] at this
  exact this
theorem pem_knin {p : Pos} (k : KAt X.K X.w X.mg c kvs) (hg : Gl X c) (ha : PEM X W e me) (hn : behindInMarks .NotIn (.Name c p) = false := by rfl) (hd : (c == ("__debug__" : Str)) = false := by decide) : PEM X W (.Compare e [.NotIn] [.Name c p] pos) (mKIn true kvs me) := by
  obtain ⟨a, es, n, k1, k2, k3⟩ := k
  refine PE.imp (pe_cmpR (op_notIn_kd k2) ha (pe_glob (v := .ref a) hg k1 rfl hd) hn) fun σ H Q t => ?_
  have := op_kin (p := p) k2 k3 true t
  simp only [Bool.true_bne] at this
  exact this
theorem ptm_knin {p : Pos} (k : KAt X.K X.w X.mg c kvs) (hg : Gl X c) (ha : PEM X W e me) (hn : behindInMarks .NotIn (.Name c p) = false := by rfl) (hd : (c == ("__debug__" : Str)) = false := by decide) : PTM X W (.Compare e [.NotIn] [.Name c p] pos) (mB (mKIn true kvs me)) := by
  obtain ⟨a, es, n, k1, k2, k3⟩ := k
  refine PT.imp (pt_cmpR (op_notIn_kd k2) ha (pe_glob (v := .ref a) hg k1 rfl hd) hn) fun σ H Q ⟨L, h, δ, r0, s, a⟩ => ?_
  have := op_kin (p := p) (Q := fun x H' => ∃ k, x = .bl k ∧ Q k H') k2 k3 true ⟨L, h, δ, r0, s, Ans.imp (Ans.bind (rp := Rep X.K) a) fun v H1 ⟨L1, h1, d, x1, r1, p1, a1⟩ => ans_isB r1 p1 a1⟩
  simp only [Bool.true_bne] at this
  exact this
end
/-! ### a dict that is at hand: get -/
section
variable {X : Cx} {W : WX} {pos : Pos} {o e f : Expr} {mo me mf : ME}
def mDGet (mo me : ME) : ME := fun δ h => (mo δ h).bnd fun d h1 => if isTy "dict" d h1 = true then (me δ h1).bnd fun y h2 => match dG d y h2 with
  | some r => .ok (r.getD .non) h2
  | none => .stuck else .stuck
end
/-! ### displays -/
abbrev MPr := MS → MH → R (List (D × D))
def RepP (K : PySem.W.Frag) (L : TL) (H : Hp) (ps : List (D × D)) (qs : List (V × V)) : Prop := RepL K L H (ps.map (·.1)) (qs.map (·.1)) ∧ RepL K L H (ps.map (·.2)) (qs.map (·.2))
def mPrNil : MPr := fun _ h => .ok [] h
def mPrCons (mk mv : ME) (mr : MPr) : MPr := fun δ h => (mk δ h).bnd fun k h1 => (mv δ h1).bnd fun v h2 => (mr δ h2).bnd fun ps h3 => .ok ((k, v) :: ps) h3
def PPM (X : Cx) (W : WX) (pos : Pos) (keys : List (Option Expr)) (values : List Expr) (m : MPr) : Prop := ∃ trs, PPs X pos keys values trs ∧ ∀ (σ : L2.St) (H : Hp) (Q : List (V × V) → Hp → Prop),
  (∃ L h δ, Rel X.K L H h ∧ RepS X.K L H δ σ ∧ Ans X.K (RepP X.K) L H (m δ h) Q (WE W σ)) → tPairs trs σ H Q
section
variable {X : Cx} {W : WX} {pos : Pos} {k v : Expr} {ks : List (Option Expr)} {vs : List Expr} {mk' mv' : ME} {mr : MPr}
theorem ppm_nil : PPM X W pos [] [] mPrNil := ⟨[], pps_nil, fun σ H Q ⟨L, h, δ, r, s, a⟩ => a L H [] (Ext.refl _ _) r ⟨.nil, .nil⟩⟩
theorem ppm_cons (hk : PEM X W k mk') (hv : PEM X W v mv') (hr : PPM X W pos ks vs mr) : PPM X W pos (some k :: ks) (v :: vs) (mPrCons mk' mv' mr) := by
  obtain ⟨trs, p, f⟩ := hr
  refine ⟨_, pps_cons hk hv p, fun σ H Q ⟨L, h, δ, r, s, a⟩ => ?_⟩
  refine ⟨L, h, δ, r, s, Ans.imp (Ans.bind (rp := Rep X.K) a) fun x H1 ⟨L1, h1, d, x1, r1, p1, a1⟩ => ⟨L1, h1, δ, r1, s.mono x1, Ans.imp (Ans.bind (rp := Rep X.K) a1) fun y H2 ⟨L2, h2, d2, x2, r2, p2, a2⟩ =>
    f σ H2 _ ⟨L2, h2, δ, r2, (s.mono x1).mono x2, Ans.imp (Ans.bind (rp := RepP X.K) a2) fun ps H3 ⟨L3, h3, ds, x3, r3, p3, a3⟩ => ?_⟩⟩⟩
  exact a3 L3 H3 ((x, y) :: ps) (Ext.refl _ _) r3 ⟨.cons ((p1.mono x2).mono x3) p3.1, .cons (p2.mono x3) p3.2⟩
end
section
variable {K : PySem.W.Frag} {L : TL} {H : Hp} {p : Addr} {u : HO}
theorem ne_cell {a : Addr} {v w : HO} (e : H p = some w) (r : Rd H a v) (h : w ≠ v) (h2 : ∀ o, w ≠ .frz o v) : a ≠ p := fun z => by
  subst z
  rcases r with r | ⟨o, r⟩
  · rw [e] at r; exact h (Option.some.inj r)
  · rw [e] at r; exact h2 o (Option.some.inj r)
theorem rd_ne {a : Addr} {v : HO} (r : Rd H a v) (n : a ≠ p) : Rd (upd H p u) a v := by
  rcases r with r | ⟨o, r⟩
  · exact .inl (by rw [upd_ne n]; exact r)
  · exact .inr ⟨o, by rw [upd_ne n]; exact r⟩
mutual
theorem Rep.fill (e : H p = some (.dK [])) : ∀ {d : D} {v : V}, Rep K L H d v → Rep K L (upd H p u) d v
  | .non, _, r => by unfold Rep at r ⊢; exact r
  | .bl _, _, r => by unfold Rep at r ⊢; exact r
  | .int _, _, r => by unfold Rep at r ⊢; exact r
  | .str _, _, r => by unfold Rep at r ⊢; exact r
  | .obj _, _, r => by unfold Rep at r ⊢; exact r
  | .ty _, _, r => by unfold Rep at r ⊢; exact r
  | .kon _, _, r => by unfold Rep at r ⊢; exact r
  | .ref _, _, r => by unfold Rep at r ⊢; exact r
  | .rdc ks ds, _, r => by
    unfold Rep at r ⊢
    obtain ⟨a, xs, e1, s, n, l, q⟩ := r
    have na : a ≠ p := ne_cell e s (fun z => by
      have z : ([] : List (Key × V)) = ks.zip xs := by injection z
      have := congrArg List.length z
      rw [List.length_zip, ← q.length, ← l.1] at this
      exact l.2 (List.eq_nil_of_length_eq_zero (by simpa using this.symm))) (fun o z => by cases z)
    exact ⟨a, xs, e1, rd_ne s na, n, l, RepL.fill e q⟩
  | .xo a d fl ds, _, r => by
    unfold Rep at r ⊢
    obtain ⟨e1, xs, s, n, l, q⟩ := r
    have na : d ≠ p := ne_cell e s (fun z => by cases z) (fun o z => by cases z)
    exact ⟨e1, xs, rd_ne s na, n, l, RepL.fill e q⟩
  | .tup ds, _, r => by
    unfold Rep at r ⊢
    obtain ⟨a, xs, e1, s, q⟩ := r
    refine ⟨a, xs, e1, ?_, RepL.fill e q⟩
    rcases s with ⟨s, n⟩ | s
    · exact .inl ⟨rd_ne s (ne_cell e s (fun z => by cases z) (fun o z => by cases z)), n⟩
    · exact .inr s
  | .rol ds, _, r => by
    unfold Rep at r ⊢
    obtain ⟨a, xs, e1, s, q⟩ := r
    refine ⟨a, xs, e1, ?_, RepL.fill e q⟩
    rcases s with ⟨s, n⟩ | s
    · exact .inl ⟨rd_ne s (ne_cell e s (fun z => by cases z) (fun o z => by cases z)), n⟩
    · exact .inr s
theorem RepL.fill (e : H p = some (.dK [])) : ∀ {ds : List D} {vs : List V}, RepL K L H ds vs → RepL K L (upd H p u) ds vs
  | [], _, r => by rw [r.nil_inv]; exact .nil
  | d :: ds, _, r => by
    obtain ⟨v, vs, rfl, q, w⟩ := r.cons_inv
    exact .cons (Rep.fill e q) (RepL.fill e w)
end
theorem RepK.fill (e : H p = some (.dK [])) : ∀ {ds : List (Key × D)} {vs}, RepK K L H ds vs → RepK K L (upd H p u) ds vs
  | [], _, r => r
  | d :: ds, _, ⟨v, vs, e1, q, w⟩ => ⟨v, vs, e1, q.fill e, RepK.fill e w⟩
theorem RepF.fill (e : H p = some (.dK [])) : ∀ {ds : List (Str × D)} {vs}, RepF K L H ds vs → RepF K L (upd H p u) ds vs
  | [], _, r => r
  | d :: ds, _, ⟨v, vs, e1, q, w⟩ => ⟨v, vs, e1, q.fill e, RepF.fill e w⟩
/-- an empty dict that nobody here knows is filled -/
theorem Rel.fill {h : MH} (r : Rel K L H h) (e : H p = some (.dK [])) (n : NL L p) : Rel K L (upd H p u) h := by
  refine ⟨r.len, fun i o ei => ?_, r.inj⟩
  have q := r.at' i o ei
  have ne : ∀ b, L[i]? = some (some b) → upd H p u b = H b := fun b eb => upd_ne fun z => n i (by rw [← z]; exact eb)
  cases o with
  | dead => exact q
  | lst ds => obtain ⟨b, xs, e1, e2, w⟩ := q; exact ⟨b, xs, e1, (ne b e1).trans e2, w.fill e⟩
  | dic ds => obtain ⟨b, xs, e1, e2, w⟩ := q; exact ⟨b, xs, e1, (ne b e1).trans e2, w.fill e⟩
  | ldc ds => obtain ⟨b, o, xs, e1, e2, w⟩ := q; exact ⟨b, o, xs, e1, (ne b e1).trans e2, w.fill e⟩
  | ins C ds => obtain ⟨b, dx, Ca, xs, e1, e2, w, hC⟩ := q; exact ⟨b, dx, Ca, xs, e1, (ne b e1).trans e2, w.fill e, hC⟩
end
def keysD : List D → Option (List Key)
  | [] => some []
  | d :: ds => (keyD d).bind fun k => (keysD ds).map fun ks => k :: ks
theorem keysD_ok {K : PySem.W.Frag} {L H} : ∀ {ds : List D} {vs : List V} {ks : List Key}, RepL K L H ds vs → keysD ds = some ks → vs = ks.map kV
  | [], _, _, w, e => by cases e; rw [w.nil_inv]; rfl
  | d :: ds, _, _, w, e => by
    obtain ⟨v, vs, rfl, q, w⟩ := w.cons_inv
    obtain ⟨k, e1, e2⟩ := Option.bind_eq_some_iff.mp e
    obtain ⟨ks, e3, rfl⟩ := Option.map_eq_some_iff.mp e2
    rw [keyD_ok q e1, keysD_ok w e3]; rfl
theorem mergeK_nd : ∀ (more acc : List (Key × V)), ((acc ++ more).map (·.1)).Nodup → mergeK acc more = acc ++ more
  | [], acc, _ => (List.append_nil acc).symm
  | p :: r, acc, h => by
    have hn : valV acc p.1 = none := by
      unfold valV
      rw [List.find?_eq_none.mpr fun q hq => ?_]
      · rfl
      · intro z
        have z := of_decide_eq_true z
        rw [List.map_append, List.nodup_append] at h
        exact h.2.2 q.1 (List.mem_map.mpr ⟨q, hq, rfl⟩) p.1 (List.mem_map.mpr ⟨p, by simp, rfl⟩) z
    show mergeK (putK acc p.1 p.2) r = _
    rw [putK_new p.2 hn, mergeK_nd r (acc ++ [p]) (by simpa using h)]
    simp
/-- {k: v, ..}: nobody changes it -/
def mDisp (m : MPr) : ME := fun δ h => (m δ h).bnd fun ps h1 => match keysD (ps.map (·.1)) with
  | some ks => if ks.Nodup ∧ ks ≠ [] ∧ ks.length ≤ 15 then .ok (.rdc ks (ps.map (·.2))) h1 else .stuck
  | none => .stuck
theorem zip_fst_snd : ∀ (qs : List (V × V)) (ks : List Key), qs.map (·.1) = ks.map kV → qs = (ks.zip (qs.map (·.2))).map fun kv => (kV kv.1, kv.2)
  | [], [], _ => rfl
  | [], _ :: _, e => by simp at e
  | _ :: _, [], e => by simp at e
  | q :: qs, k :: ks, e => by
    have e1 : q.1 = kV k := (List.cons.inj e).1
    have e2 := zip_fst_snd qs ks (List.cons.inj e).2
    show q :: qs = (kV k, q.2) :: (ks.zip (qs.map (·.2))).map fun kv => (kV kv.1, kv.2)
    rw [← e1, ← e2]
theorem pem_disp {X : Cx} {W : WX} {pos : Pos} {keys : List (Option Expr)} {values : List Expr} {m : MPr} (h : PPM X W pos keys values m) (hall : keys.all (·.isSome) = true) (hl : keys.length = values.length) (h0 : keys ≠ [])
    (h15 : keys.length ≤ 15) : PEM X W (.Dict keys values pos) (mDisp m) := by
  obtain ⟨trs, pp, f⟩ := h
  refine PE.imp (pe_disp pp hall hl h0 h15) fun σ H Q ⟨L, h, δ, r, s, a⟩ p hp => ?_
  obtain ⟨x0, r0⟩ := r.fresh (o := .dK []) hp
  have n0 : NL L p := r.nl_new hp
  refine f σ (upd H p (.dK [])) _ ⟨L, h, δ, r0, s.mono x0, ?_⟩
  have key : ∀ L2 H2 h2 ds (qs : List (V × V)), Ext L (upd H p (.dK [])) L2 H2 → Rel X.K L2 H2 h2 → RepP X.K L2 H2 ds qs → Ans X.K (Rep X.K) L H (match keysD (ds.map (·.1)) with
      | some ks => if ks.Nodup ∧ ks ≠ [] ∧ ks.length ≤ 15 then R.ok (.rdc ks (ds.map (·.2))) h2 else .stuck
      | none => .stuck) Q (WE W σ) → H2 p = some (.dK []) ∧ ∃ kvs : List (Key × V), qs = kvs.map (fun kv => (kV kv.1, kv.2)) ∧ kvs.length ≤ 15 ∧ Q (.ref p) (upd H2 p (.dK (mergeK [] kvs))) := by
    intro L2 H2 h2 ds qs x2 r2 p2 a2
    obtain ⟨e2, n2⟩ := x2.kept p _ upd_same n0
    split at a2
    · rename_i ks ek
      split at a2
      · rename_i z
        have e3 := keysD_ok p2.1 ek
        have e4 := zip_fst_snd qs ks e3
        have lk : ks.length = qs.length := by
          have := congrArg List.length e3
          simpa using this.symm
        have kz : (ks.zip (qs.map (·.2))).map (·.1) = ks := by
          rw [List.map_fst_zip]
          rw [List.length_map]; omega
        refine ⟨e2, ks.zip (qs.map (·.2)), e4, by rw [List.length_zip, List.length_map]; omega, ?_⟩
        rw [mergeK_nd _ [] (by rw [List.nil_append, kz]; exact z.1), List.nil_append]
        refine a2 L2 _ _ ⟨fun n o e => x2.live n o e, fun b o e nb => ?_, fun b o u e => by rw [upd_ne (ne_of_none e hp)]; exact x2.lkd b o u (by rw [upd_ne (ne_of_none e hp)]; exact e)⟩ (r2.fill e2 n2) ?_
        · have nbp : b ≠ p := ne_of_none e hp
          obtain ⟨g1, g2⟩ := x2.kept b o (by rw [upd_ne nbp]; exact e) nb
          exact ⟨by rw [upd_ne nbp]; exact g1, g2⟩
        · unfold Rep
          refine ⟨p, qs.map (·.2), rfl, .inl upd_same, n2, ⟨?_, z.2.1⟩, RepL.fill e2 p2.2⟩
          have := p2.2.length
          rw [List.length_map, List.length_map] at this
          rw [List.length_map]; omega
      · exact a2.elim
    · exact a2.elim
  cases hm : m δ h with
  | ok ps h1 =>
    have a' := a
    unfold mDisp at a'
    rw [hm, R.bnd_ok] at a'
    exact fun L2 H2 qs x2 r2 p2 => key L2 H2 h1 ps qs x2 r2 p2 a'
  | exc c fs h1 =>
    have a' := a
    unfold mDisp at a'
    rw [hm] at a'
    exact fun L2 H2 dx xs x2 => a' L2 H2 dx xs (x0.trans x2)
  | stuck =>
    unfold mDisp at a
    rw [hm] at a
    exact a.elim
/-! ### isinstance(e, (A, B)) -/
def mIsi2 (a b : String) (m : ME) : ME := fun δ h => (m δ h).bnd fun d h1 => match (tyName d h1).bind fun t => (isTyB t a).bind fun x => (isTyB t b).map fun y => x || y with
  | some k => .ok (.bl k) h1
  | none => .stuck
theorem kit_any2 {K : PySem.W.Frag} {t a b : String} {x y : Bool} (h1 : isTyB t a = some x) (h2 : isTyB t b = some y) (na : a ≠ "NoneType") (nb : b ≠ "NoneType") : PySem.W.kitAny K (.type t) [.type a, .type b] = some (x || y) := by
  refine kitAny_cons (kit_ty (isTyB_ok h1 na)) (fun z => ?_) (fun z => by rw [z]; rfl)
  rw [z, Bool.false_or]
  exact kitAny_cons (kit_ty (isTyB_ok h2 nb)) (fun z => by rw [z]; exact kitAny_nil) (fun z => z)
theorem pem_isi2 {X : Cx} {W : WX} {pos p p1 p2 tp : Pos} {k : Nat} {e : Expr} {me : ME} (a b : String) {xa xb : Str} (he : PEM X W e me) (hg : Gl X "isinstance") (hm : X.mg "isinstance" = none) (ga : Gl X xa) (ma : X.mg xa = none) (va : bootBuiltins xa = some (.type a)) (gb : Gl X xb) (mb : X.mg xb = none) (vb : bootBuiltins xb = some (.type b))
    (na : a ≠ "NoneType" := by decide) (nb : b ≠ "NoneType" := by decide) (hv : bootBuiltins "isinstance" = some (.builtin "isinstance") := by decide +kernel) (n1 : xa ≠ "__name__" := by decide) (n2 : xb ≠ "__name__" := by decide) (d1 : (xa == ("__debug__" : Str)) = false := by decide) (d2 : (xb == ("__debug__" : Str)) = false := by decide)
    (hs : starEach (e :: [.Tuple [.Name xa p1, .Name xb p2] k tp]) X.env = (false, eval e X.env) :: starEach [.Tuple [.Name xa p1, .Name xb p2] k tp] X.env := by rfl)
    (hpl : (backTo pos (starEach [.Tuple [.Name xa p1, .Name xb p2] k tp] X.env)).any (·.1) = false := by rfl) : PEM X W (.Call (.Name "isinstance" p) [e, .Tuple [.Name xa p1, .Name xb p2] k tp] [] pos) (mIsi2 a b me) := by
  have tu : PE X (.Tuple [.Name xa p1, .Name xb p2] k tp) _ := pe_tup (pa_cons (pe_bltn ga ma va (v := .ty a) rfl n1 d1) (pa_cons (pe_bltn gb mb vb (v := .ty b) rfl n2 d2) pa_nil))
  refine PE.imp (pe_callB call_isiT hg hm hv (pa_cons he (pa_cons tu pa_nil) hs) (by decide) (by decide) hs hpl) fun σ H Q ⟨L, h, δ, r0, s, t⟩ => ?_
  refine ⟨L, h, δ, r0, s, Ans.imp (Ans.bind (rp := Rep X.K) t) fun v H1 ⟨L1, h1, d, x1, r1, q1, a1⟩ => ⟨by rw [sizeLine_eq]; show 2 ≤ 16777216; decide, fun tp hp => ?_⟩⟩
  obtain ⟨xx, rr⟩ := r1.fresh (o := .tup [.ty a, .ty b]) hp
  split at a1
  · rename_i kk ek
    obtain ⟨tn, e1, e2⟩ := Option.bind_eq_some_iff.mp ek
    obtain ⟨x, e3, e4⟩ := Option.bind_eq_some_iff.mp e2
    obtain ⟨y, e5, rfl⟩ := Option.map_eq_some_iff.mp e4
    exact ⟨v, tp, [.ty a, .ty b], .type tn, [.type a, .type b], _, rfl, upd_same, .cons (.ty a) (.cons (.ty b) .nil), tyName_of rr (q1.mono xx) e1, kit_any2 e3 e5 na nb, a1 L1 _ _ xx rr rep_bl⟩
  · exact a1.elim
/-! ### methods of texts -/
section
variable {K : PySem.W.Frag}
def fUpper (d : D) (ds : List D) (h : MH) : R D := match d, ds with
  | .str a, [] => if a.length ≤ 5592405 then .ok (.str (Txt.upper a)) h else .stuck
  | _, _ => .stuck
theorem fUpper_ok : MtdM K (fun x xs H Q => ∃ a, x = .str a ∧ xs = [] ∧ a.length ≤ 5592405 ∧ Q (.str (Txt.upper a)) H) fUpper := by
  intro L H h d x ds vs Q E r q w a
  unfold fUpper at a
  split at a
  · rename_i s
    split at a
    · rename_i hz
      exact ⟨s, rep_str_inv q, w.nil_inv, hz, ans_okE r rep_str a⟩
    · exact a.elim
  · exact a.elim
theorem repL_strs {L H} : ∀ ys : List Str, RepL K L H (ys.map D.str) (ys.map V.str)
  | [] => .nil
  | y :: ys => .cons rep_str (repL_strs ys)
def fSplit (d : D) (ds : List D) (h : MH) : R D := match d, ds with
  | .str a, [.str b] => if (b.length == 0) = false ∧ a.length + 2 ≤ 16777216 then .ok (.rol ((Txt.split a b).map D.str)) h else .stuck
  | _, _ => .stuck
theorem fSplit_ok : MtdM K (fun x xs H Q => ∃ a b, x = .str a ∧ xs = [.str b] ∧ (b.length == 0) = false ∧ a.length + 2 ≤ sizeLine ∧ rNewStrs (Txt.split a b) H Q) fSplit := by
  intro L H h d x ds vs Q E r q w a
  unfold fSplit at a
  split at a
  · rename_i s b
    obtain ⟨v, rfl, qv⟩ := w.one
    split at a
    · rename_i hz
      exact ⟨s, b, rep_str_inv q, by rw [rep_str_inv qv], hz.1, szl hz.2, fun p hp => ans_of (rep_rol r hp (repL_strs _)) a⟩
    · exact a.elim
  · exact a.elim
end
end MM

/-! what the plain functions give, step by step -/
namespace MM
open PySem PySem.Spec PyProof.Rows L2
section
variable {δ : MS} {h h' : MH} {m a b c : ME} {ms : MA} {t u : MT} {f g : D → D → MH → R D}
@[simp] theorem mVar_eq {i : Nat} {d : D} (e : δ[i]? = some (some d)) : mVar i δ h = .ok d h := by unfold mVar; rw [e]
@[simp] theorem mC_eq {d : D} : mC d δ h = .ok d h := rfl
@[simp] theorem mOp_eq : mOp f a b δ h = (a δ h).bnd fun x h1 => (b δ h1).bnd fun y h2 => f x y h2 := rfl
@[simp] theorem mUn_eq {f : D → MH → R D} : mUn f a δ h = (a δ h).bnd fun x h1 => f x h1 := rfl
@[simp] theorem mNil_eq : mNil δ h = .ok [] h := rfl
@[simp] theorem mCons_eq : mCons m ms δ h = (m δ h).bnd fun d h1 => (ms δ h1).bnd fun ds h2 => .ok (d :: ds) h2 := rfl
@[simp] theorem mCall_eq {f : List D → MH → R D} : mCall f ms δ h = (ms δ h).bnd f := rfl
@[simp] theorem mTup_eq : mTup ms δ h = (ms δ h).bnd fun ds h1 => if ds.length ≤ 16777216 then .ok (.tup ds) h1 else .stuck := rfl
@[simp] theorem mLst_eq : mLst ms δ h = (ms δ h).bnd fun ds h1 => if ds.length ≤ 16777216 then .ok (.rol ds) h1 else .stuck := rfl
@[simp] theorem mLstN_eq : mLstN ms δ h = (ms δ h).bnd fun ds h1 => if ds.length ≤ 16777216 then .ok (.ref h1.length) (h1 ++ [.lst ds]) else .stuck := rfl
@[simp] theorem mIf_eq : mIf t a b δ h = (t δ h).bnd fun c h1 => if c then a δ h1 else b δ h1 := rfl
@[simp] theorem mB_eq : mB m δ h = (m δ h).bnd isB := rfl
@[simp] theorem isB_eq {k : Bool} : isB (.bl k) h = .ok k h := rfl
@[simp] theorem mTru_eq : mTru m δ h = (m δ h).bnd truD := rfl
@[simp] theorem mNot_eq : mNot t δ h = (t δ h).bnd fun b h1 => .ok (!b) h1 := rfl
@[simp] theorem mAnd_eq : mAnd t u δ h = (t δ h).bnd fun b h1 => if b then u δ h1 else .ok false h1 := rfl
@[simp] theorem mOr_eq : mOr t u δ h = (t δ h).bnd fun b h1 => if b then .ok true h1 else u δ h1 := rfl
@[simp] theorem mAndV_eq : mAndV a b δ h = (a δ h).bnd fun x h1 => (isB x h1).bnd fun k h2 => if k then b δ h2 else .ok (.bl false) h2 := rfl
@[simp] theorem mOrV_eq : mOrV a b δ h = (a δ h).bnd fun x h1 => (isB x h1).bnd fun k h2 => if k then .ok (.bl true) h2 else b δ h2 := rfl
@[simp] theorem mNotV_eq : mNotV a δ h = (a δ h).bnd fun x h1 => (isB x h1).bnd fun k h2 => .ok (.bl (!k)) h2 := rfl
@[simp] theorem mChain_eq : mChain f g a b c δ h = (a δ h).bnd fun x h1 => (b δ h1).bnd fun y h2 => (f x y h2).bnd fun z h3 => (isB z h3).bnd fun k h4 => if k then (c δ h4).bnd fun w h5 => g y w h5 else .ok (.bl false) h4 := rfl
@[simp] theorem mNoP_eq : mNoP δ h = .ok none h := rfl
@[simp] theorem mPart_eq {i : Int} (e : m δ h = .ok (.int i) h') : mPart m δ h = .ok (some i) h' := by unfold mPart; rw [e]; rfl
@[simp] theorem mPart_C {i : Int} : mPart (mC (.int i)) δ h = .ok (some i) h := rfl
@[simp] theorem mPart_V {k : Nat} {i : Int} (e : δ[k]? = some (some (.int i))) : mPart (mVar k) δ h = .ok (some i) h := by
  unfold mPart
  rw [mVar_eq e]; rfl
@[simp] theorem mSl_eq {f : D → Option Int → Option Int → MH → R D} {lo hi : MOp} : mSl f m lo hi δ h = (m δ h).bnd fun d h1 => (lo δ h1).bnd fun l h2 => (hi δ h2).bnd fun u h3 => f d l u h3 := rfl
@[simp] theorem mMtd_eq {T : String} {f : D → List D → MH → R D} : mMtd T f m ms δ h = (m δ h).bnd fun d h1 => if isTy T d h1 = true then (ms δ h1).bnd fun ds h2 => f d ds h2 else .stuck := rfl
@[simp] theorem mFrz_eq : mFrz m δ h = (m δ h).bnd frz := rfl
/-! statements -/
variable {A B : MSt}
@[simp] theorem mSet_eq {i : Nat} : mSet i m δ h = (m δ h).st δ fun d h1 => .ok (.next (δ.set i (some d))) h1 := rfl
@[simp] theorem mAsg_eq {g : MG} : mAsg m g δ h = (m δ h).st δ fun d h1 => match g d δ with | some δ' => .ok (.next δ') h1 | none => .stuck := rfl
@[simp] theorem mRet_eq : mRet m δ h = (m δ h).st δ fun d h1 => .ok (.ret d) h1 := rfl
@[simp] theorem mDrop_eq : mDrop m δ h = (m δ h).st δ fun _ h1 => .ok (.next δ) h1 := rfl
@[simp] theorem mIfS_eq : mIfS t A B δ h = (t δ h).st δ fun c h1 => if c then A δ h1 else B δ h1 := rfl
@[simp] theorem mSeq_eq : mSeq A B δ h = (A δ h).seq B := rfl
@[simp] theorem mNext_eq : mNext δ h = .ok (.next δ) h := rfl
@[simp] theorem mBrk_eq : mBrk δ h = .ok (.brk δ) h := rfl
@[simp] theorem mCont_eq : mCont δ h = .ok (.cont δ) h := rfl
@[simp] theorem mSetIx_eq {mo mi : ME} : mSetIx m mo mi δ h = (m δ h).st δ fun d h1 => (mo δ h1).st δ fun o h2 => (mi δ h2).st δ fun i h3 => match setG o i d h3 with | some h4 => .ok (.next δ) h4 | none => .stuck := rfl
@[simp] theorem mAug_eq {i : Nat} {d : D} (e : δ[i]? = some (some d)) : mAug i f m δ h = (m δ h).st δ fun y h1 => (f d y h1).st δ fun z h2 => .ok (.next (δ.set i (some z))) h2 := by unfold mAug; rw [e]
@[simp] theorem mFor_eq {src : MI} {tgt : MG} : mFor src tgt A δ h = (src δ h).st δ fun S h1 => forM S.g tgt A S.ds δ h1 := rfl
@[simp] theorem mCallI_eq {f : List D → MH → R Src} : mCallI f ms δ h = (ms δ h).bnd f := rfl
@[simp] theorem mSrc_eq : mSrc m δ h = (m δ h).bnd srcOf := rfl
@[simp] theorem srcOf_rol {ds : List D} : srcOf (.rol ds) h = .ok ⟨ds, fun _ => True⟩ h := rfl
@[simp] theorem srcOf_tup {ds : List D} : srcOf (.tup ds) h = .ok ⟨ds, fun _ => True⟩ h := rfl
@[simp] theorem srcOf_str {s : Str} : srcOf (.str s) h = .ok ⟨charsD s, fun _ => True⟩ h := rfl
@[simp] theorem mgName_eq {i : Nat} {d : D} : mgName i d δ = some (δ.set i (some d)) := rfl
@[simp] theorem SR.seq_stuck {k} : (SR.stuck).seq k = .stuck := rfl
/-! values -/
@[simp] theorem opAdd_int {i j : Int} : opAdd (.int i) (.int j) h = .ok (.int (i + j)) h := rfl
@[simp] theorem opAddI_int {i j : Int} : opAddI (.int i) (.int j) h = .ok (.int (i + j)) h := rfl
@[simp] theorem opAdd_str {x y : Str} (e : x.length + y.length ≤ 16777216) : opAdd (.str x) (.str y) h = .ok (.str (x ++ y)) h := if_pos e
@[simp] theorem opAdd_tup {x y : List D} (e : x.length + y.length ≤ 16777216) : opAdd (.tup x) (.tup y) h = .ok (.tup (x ++ y)) h := if_pos e
@[simp] theorem opSub_int {i j : Int} : opSub (.int i) (.int j) h = .ok (.int (i - j)) h := rfl
@[simp] theorem opNeg_int {i : Int} : opNeg (.int i) h = .ok (.int (-i)) h := rfl
@[simp] theorem opMul_int {i j : Int} (e : i.natAbs.log2 + j.natAbs.log2 < 1000000) : opMul (.int i) (.int j) h = .ok (.int (i * j)) h := if_pos e
@[simp] theorem opMod_int {i j : Int} (e : 0 < j) : opMod (.int i) (.int j) h = .ok (.int (i % j)) h := if_pos e
theorem opDiv_int {i j : Int} (e : 0 < j) (e2 : j < 2 ^ 64) : opDiv (.int i) (.int j) h = .ok (.int (i / j)) h := by
  have nb : (2 : Nat) ^ 64 ≤ 2 ^ 2000 := Nat.pow_le_pow_right (by decide) (by decide)
  have big : (2 : Int) ^ 64 ≤ 2 ^ 2000 := by exact_mod_cast nb
  exact if_pos ⟨e, Int.lt_of_lt_of_le e2 big⟩
@[simp] theorem opLt_int {i j : Int} : opLt (.int i) (.int j) h = .ok (.bl (decide (i < j))) h := rfl
@[simp] theorem opLe_int {i j : Int} : opLe (.int i) (.int j) h = .ok (.bl (decide (i ≤ j))) h := rfl
@[simp] theorem opGt_int {i j : Int} : opGt (.int i) (.int j) h = .ok (.bl (decide (j < i))) h := rfl
@[simp] theorem opGe_int {i j : Int} : opGe (.int i) (.int j) h = .ok (.bl (decide (j ≤ i))) h := rfl
theorem opEq_S {x y : D} {k : Bool} (e : eqS x y = some k) : opEq x y h = .ok (.bl k) h := by unfold opEq eqG; rw [e]
theorem opNe_S {x y : D} {k : Bool} (e : eqS x y = some k) : opNe x y h = .ok (.bl (!k)) h := by unfold opNe eqG; rw [e]
@[simp] theorem opEq_int {i j : Int} : opEq (.int i) (.int j) h = .ok (.bl (decide (i = j))) h := opEq_S rfl
@[simp] theorem opEq_str {i j : Str} : opEq (.str i) (.str j) h = .ok (.bl (decide (i = j))) h := opEq_S rfl
@[simp] theorem opEq_bl {i j : Bool} : opEq (.bl i) (.bl j) h = .ok (.bl (decide (i = j))) h := opEq_S rfl
@[simp] theorem opNe_int {i j : Int} : opNe (.int i) (.int j) h = .ok (.bl (!decide (i = j))) h := opNe_S rfl
@[simp] theorem opNe_str {i j : Str} : opNe (.str i) (.str j) h = .ok (.bl (!decide (i = j))) h := opNe_S rfl
@[simp] theorem opNe_bl {i j : Bool} : opNe (.bl i) (.bl j) h = .ok (.bl (!decide (i = j))) h := opNe_S rfl
@[simp] theorem opIsN_eq {x : D} : opIsN x .non h = .ok (.bl (isNon x)) h := rfl
@[simp] theorem opNotN_eq {x : D} : opNotN x .non h = .ok (.bl (!isNon x)) h := rfl
@[simp] theorem isNon_non : isNon .non = true := rfl
@[simp] theorem isNon_int {i} : isNon (.int i) = false := rfl
@[simp] theorem isNon_str {i} : isNon (.str i) = false := rfl
@[simp] theorem isNon_bl {i} : isNon (.bl i) = false := rfl
@[simp] theorem isNon_tup {i} : isNon (.tup i) = false := rfl
@[simp] theorem isNon_rol {i} : isNon (.rol i) = false := rfl
@[simp] theorem truD_bl {k : Bool} : truD (.bl k) h = .ok k h := rfl
@[simp] theorem truD_non : truD .non h = .ok false h := rfl
@[simp] theorem truD_int {i : Int} : truD (.int i) h = .ok (i != 0) h := rfl
@[simp] theorem truD_tup {ds} : truD (.tup ds) h = .ok (!ds.isEmpty) h := rfl
@[simp] theorem truD_rol {ds} : truD (.rol ds) h = .ok (!ds.isEmpty) h := rfl
@[simp] theorem truD_ref {n ds} (e : lst? h n = some ds) : truD (.ref n) h = .ok (!ds.isEmpty) h := by
  show (match lst? h n with | some ds => _ | none => _) = _
  rw [e]
@[simp] theorem lstD_rol {ds} : lstD (.rol ds) h = some ds := rfl
@[simp] theorem lstD_ref {n} : lstD (.ref n) h = lst? h n := rfl
@[simp] theorem seqG_rol {ds} : seqG (.rol ds) h = some ds := rfl
@[simp] theorem seqG_tup {ds} : seqG (.tup ds) h = some ds := rfl
@[simp] theorem seqG_ref {n} : seqG (.ref n) h = lst? h n := rfl
theorem lst?_of {n : Nat} {ds} (e : h[n]? = some (.lst ds)) : lst? h n = some ds := by unfold lst?; rw [e]
theorem atI_ok {α : Type} {xs : List α} {i : Int} {x : α} (h0 : 0 ≤ i) (e : xs[i.toNat]? = some x) : L2.atI xs i = some x := by
  have := atI_nat e
  rw [Int.toNat_of_nonneg h0] at this
  exact this
theorem ixG_dG {x y : D} {d : D} (e : ixG x y h = some d) : dG x y h = none := by
  unfold ixG at e
  split at e
  · rename_i i
    cases x with
    | rdc ks ds => cases e
    | xo _ _ _ _ => cases e
    | ref n =>
      obtain ⟨ds, e1, e2⟩ := Option.bind_eq_some_iff.mp e
      have := lst?_at (show lst? h n = some ds from e1)
      show (dic? h n).bind _ = none
      unfold dic?
      rw [this]; rfl
    | _ => rfl
  · cases e
theorem opIx_of {x y : D} {d : D} (e : ixG x y h = some d) : opIx x y h = .ok d h := by
  unfold opIx
  rw [ixG_dG e]
  show opIx0 x y h = _
  unfold opIx0
  rw [e]
theorem opIx_dic {x y : D} {d : D} (e : dG x y h = some (some d)) : opIx x y h = .ok d h := by
  unfold opIx
  rw [e]
@[simp] theorem ixG_tup {ds} {i : Int} : ixG (.tup ds) (.int i) h = L2.atI ds i := rfl
@[simp] theorem ixG_rol {ds} {i : Int} : ixG (.rol ds) (.int i) h = L2.atI ds i := rfl
@[simp] theorem ixG_ref {n} {i : Int} : ixG (.ref n) (.int i) h = (lst? h n).bind fun ds => L2.atI ds i := rfl
@[simp] theorem isTy_str {T : String} {s : Str} : isTy T (.str s) h = (T == "str") := rfl
@[simp] theorem isTy_rol {T : String} {ds} : isTy T (.rol ds) h = (T == "list") := rfl
@[simp] theorem isTy_ref {T : String} {n ds} (e : lst? h n = some ds) : isTy T (.ref n) h = (T == "list") := by
  unfold isTy
  simp only [lst?_at e]
@[simp] theorem fInt_int {i : Int} : fInt [.int i] h = .ok (.int i) h := rfl
@[simp] theorem fAbs_int {i : Int} : fAbs [.int i] h = .ok (.int (if i < 0 then -i else i)) h := rfl
@[simp] theorem fIsi_int_int : fIsi [.int 0, .ty "int"] h = fIsi [.int 0, .ty "int"] h := rfl
theorem fIsi_of {d : D} {b : String} {n : String} {k : Bool} (e : tyName d h = some n) (e2 : isTyB n b = some k) (e3 : b ≠ "NoneType") : fIsi [d, .ty b] h = .ok (.bl k) h := by
  unfold fIsi
  simp only [if_neg e3, e, Option.bind_some, e2]
@[simp] theorem fList_eq {d : D} {es} (e : seqG d h = some es) : fList [d] h = .ok (.rol es) h := by unfold fList; simp only [e]
@[simp] theorem fListN_eq {d : D} {es} (e : seqG d h = some es) : fListN [d] h = .ok (.ref h.length) (h ++ [.lst es]) := by unfold fListN; simp only [e]
@[simp] theorem fTuple_eq {d : D} {es} (e : seqG d h = some es) : fTuple [d] h = .ok (.tup es) h := by unfold fTuple; simp only [e]
@[simp] theorem fLen_rol {ds} : fLen [.rol ds] h = .ok (.int ds.length) h := rfl
@[simp] theorem fLen_tup {ds} : fLen [.tup ds] h = .ok (.int ds.length) h := rfl
@[simp] theorem fLen_str {s : Str} (e : s.length ≤ 16777216) : fLen [.str s] h = .ok (.int s.length) h := by
  unfold fLen lenG
  simp only [if_pos e]
@[simp] theorem fLen_ref {n : Nat} {ds} (e : lst? h n = some ds) : fLen [.ref n] h = .ok (.int ds.length) h := by
  unfold fLen lenG
  simp only [lstD_ref, e]
end
/-! ### what is behind a call -/
theorem LeftOf.refl (h : MH) : LeftOf h h := ⟨Nat.le_refl _, fun _ _ _ e => .inl e⟩
theorem LeftOf.app {h k g : MH} (l : LeftOf h k) : LeftOf h (k ++ g) := by
  refine ⟨by rw [List.length_append]; exact Nat.le_add_right_of_le l.1, fun n o hn e => ?_⟩
  rw [List.getElem?_append_left (by have := l.1; omega)] at e
  exact l.2 n o hn e
theorem LeftOf.set {h k : MH} {n : Nat} {o : MO} (l : LeftOf h k) (q : o.lows h.length = true ∨ h.length ≤ n) : LeftOf h (k.set n o) := by
  refine ⟨by rw [List.length_set]; exact l.1, fun m u hm e => ?_⟩
  by_cases z : n = m
  · subst z
    rw [List.getElem?_set_self (by have := l.1; omega)] at e
    cases e
    rcases q with q | q
    · exact .inr q
    · omega
  · rw [List.getElem?_set_ne z] at e
    exact l.2 m u hm e
theorem leave_eq {h h' : MH} {d : D} (l : LeftOf h h') (q : d.lows h.length = true) : leave h d h' = .ok d (h'.take h.length) := if_pos ⟨l, q⟩
theorem take_app {h k g : MH} (e : k.length = h.length) : (k ++ g).take h.length = k := by rw [← e, List.take_left']; rfl
theorem mFn_eq {n N : Nat} {ms : MSt} {ds : List D} {h : MH} (e : ds.length = n) : mFn n N ms ds h = mEnd h (ms (mStart N ds) h) := if_pos e
theorem mFnN_eq {n N : Nat} {ms : MSt} {ds : List D} {h : MH} (e : ds.length = n) : mFnN n N ms ds h = mEndN (ms (mStart N ds) h) := if_pos e
/-- a def that gives a value and changes nothing of its caller's but what k says -/
theorem mFn_ret {n N : Nat} {ms : MSt} {ds : List D} {h h' k g : MH} {d : D} (e : ds.length = n) (r : ms (mStart N ds) h = .ok (.ret d) h') (eg : h' = k ++ g) (el : k.length = h.length) (l : LeftOf h k) (q : d.lows h.length = true) : mFn n N ms ds h = .ok d k := by
  rw [mFn_eq e, r, eg]
  show leave h d (k ++ g) = _
  rw [leave_eq l.app q, take_app el]
theorem mFn_pure {n N : Nat} {ms : MSt} {ds : List D} {h g : MH} {d : D} (e : ds.length = n) (r : ms (mStart N ds) h = .ok (.ret d) (h ++ g)) (q : d.lows h.length = true) : mFn n N ms ds h = .ok d h := mFn_ret e r rfl rfl (LeftOf.refl h) q
theorem mFn_pure0 {n N : Nat} {ms : MSt} {ds : List D} {h : MH} {d : D} (e : ds.length = n) (r : ms (mStart N ds) h = .ok (.ret d) h) (q : d.lows h.length = true) : mFn n N ms ds h = .ok d h := mFn_pure (g := []) e (by rw [List.append_nil]; exact r) q
/-! ### loops -/
theorem forM_ind {g : MH → Prop} {tgt : MG} {body : MSt} {Post : SR → Prop} (I : List D → MS → MH → Prop)
    (hnil : ∀ δ h, I [] δ h → g h ∧ Post (.ok (.next δ) h))
    (hcons : ∀ x r δ h, I (x :: r) δ h → g h ∧ ∃ δ1, tgt x δ = some δ1 ∧ ((∃ δ2 h2, body δ1 h = .ok (.next δ2) h2 ∧ I r δ2 h2) ∨ (∃ δ2 h2, body δ1 h = .ok (.cont δ2) h2 ∧ I r δ2 h2) ∨ (∃ δ2 h2, body δ1 h = .ok (.brk δ2) h2 ∧ Post (.ok (.next δ2) h2)) ∨ (∃ d h2, body δ1 h = .ok (.ret d) h2 ∧ Post (.ok (.ret d) h2)) ∨ ∃ c fs δ2 h2, body δ1 h = .exc c fs δ2 h2 ∧ Post (.exc c fs δ2 h2))) :
    ∀ {ds : List D} {δ : MS} {h : MH}, I ds δ h → Post (forM g tgt body ds δ h)
  | [], δ, h, i => by
    obtain ⟨h1, h2⟩ := hnil δ h i
    unfold forM
    rw [if_pos h1]; exact h2
  | x :: r, δ, h, i => by
    obtain ⟨h1, δ1, e1, z⟩ := hcons x r δ h i
    unfold forM
    rw [if_pos h1, e1]
    rcases z with ⟨δ2, h2, e2, i2⟩ | ⟨δ2, h2, e2, i2⟩ | ⟨δ2, h2, e2, i2⟩ | ⟨d, h2, e2, i2⟩ | ⟨c, fs, δ2, h2, e2, i2⟩
    · simp only [e2]; exact forM_ind I hnil hcons i2
    · simp only [e2]; exact forM_ind I hnil hcons i2
    · simp only [e2]; exact i2
    · simp only [e2]; exact i2
    · simp only [e2]; exact i2
/-- a comprehension without a test, turn by turn: what is left, what is made, the heap but the list -/
theorem compM_ind {g : MH → Prop} {tgt : MG} {elt : ME} {n : Nat} {δ0 : MS} (I : List D → List D → MH → Prop) (hI : ∀ r acc k, I r acc k → k.length = n ∧ acc.length + r.length < 16777216)
    (hg : ∀ r acc k, I r acc k → g (k ++ [.lst acc]))
    (hcons : ∀ x r acc k, I (x :: r) acc k → ∃ δ1 y k', tgt x δ0 = some δ1 ∧ elt δ1 (k ++ [.lst acc]) = .ok y (k' ++ [.lst acc]) ∧ I r (acc ++ [y]) k') :
    ∀ {ds acc : List D} {k : MH}, I ds acc k → ∃ acc' k', I [] acc' k' ∧ compM g tgt mYes elt n δ0 ds (k ++ [.lst acc]) = .ok () (k' ++ [.lst acc'])
  | [], acc, k, i => ⟨acc, k, i, by unfold compM; rw [if_pos (hg _ _ _ i)]⟩
  | x :: r, acc, k, i => by
    obtain ⟨δ1, y, k', e1, e2, i2⟩ := hcons x r acc k i
    obtain ⟨acc', k'', i3, e3⟩ := compM_ind I hI hg hcons i2
    refine ⟨acc', k'', i3, ?_⟩
    have hk := (hI _ _ _ i2).1
    have hz := (hI _ _ _ i).2
    have el : lst? (k' ++ [.lst acc]) n = some acc := lst?_of (by rw [← hk]; simp)
    have es : (k' ++ [MO.lst acc]).set n (.lst (acc ++ [y])) = k' ++ [.lst (acc ++ [y])] := by rw [← hk]; simp
    unfold compM
    rw [if_pos (hg _ _ _ i), e1]
    show ((R.ok true (k ++ [.lst acc])).nx.bnd _) = _
    simp only [R.nx_ok, R.bnd_ok, if_true, e2, el, es]
    rw [if_pos (by simp at hz; omega)]
    exact e3
theorem mLc_ind {src : MI} {tgt : MG} {elt : ME} {vs : List Nat} {δ : MS} {h h1 : MH} {S : Src} (es : src δ h = .ok S h1) (I : List D → List D → MH → Prop) (h0 : I S.ds [] h1) (hI : ∀ r acc k, I r acc k → k.length = h1.length ∧ acc.length + r.length < 16777216)
    (hg : ∀ r acc k, I r acc k → S.g (k ++ [.lst acc]))
    (hcons : ∀ x r acc k, I (x :: r) acc k → ∃ δ1 y k', tgt x (wipeM δ vs) = some δ1 ∧ elt δ1 (k ++ [.lst acc]) = .ok y (k' ++ [.lst acc]) ∧ I r (acc ++ [y]) k')
    (hend : ∀ acc k, I [] acc k → LeftOf h1 k ∧ lowsL h1.length acc = true) : ∃ acc k, I [] acc k ∧ mLc src tgt mYes elt vs δ h = .ok (.rol acc) k := by
  obtain ⟨acc, k, i, e⟩ := compM_ind (n := h1.length) I hI hg hcons h0
  refine ⟨acc, k, i, ?_⟩
  have hk := (hI _ _ _ i).1
  obtain ⟨l, q⟩ := hend acc k i
  unfold mLc
  rw [es, R.bnd_ok, e, R.bnd_ok]
  have el : lst? (k ++ [.lst acc]) h1.length = some acc := lst?_of (by rw [← hk]; simp)
  simp only [el]
  have es : (k ++ [MO.lst acc]).set h1.length .dead = k ++ [.dead] := by rw [← hk]; simp
  rw [es, leave_eq l.app (by unfold D.lows; exact q), take_app hk]
/-- .. whose elements are values of the items alone -/
theorem mLc_map {src : MI} {tgt : MG} {elt : ME} {vs : List Nat} {δ : MS} {h h1 : MH} {S : Src} (f : D → D) (es : src δ h = .ok S h1) (hg : ∀ k, S.g (h1 ++ k)) (hz : S.ds.length < 16777216)
    (he : ∀ x ∈ S.ds, ∃ δ1, tgt x (wipeM δ vs) = some δ1 ∧ ∀ k, elt δ1 (h1 ++ k) = .ok (f x) (h1 ++ k)) (hl : ∀ x ∈ S.ds, (f x).lows h1.length = true) : mLc src tgt mYes elt vs δ h = .ok (.rol (S.ds.map f)) h1 := by
  have lowsM : ∀ l : List D, (∀ x ∈ l, (f x).lows h1.length = true) → lowsL h1.length (l.map f) = true := fun l => by
    induction l with
    | nil => intro _; rfl
    | cons x r ih =>
      intro q
      show ((f x).lows h1.length && lowsL h1.length (r.map f)) = true
      rw [q x (by simp), ih fun y hy => q y (by simp [hy])]; rfl
  obtain ⟨acc, k, ⟨i1, i2, i3⟩, e⟩ := mLc_ind (vs := vs) (elt := elt) (tgt := tgt) es (fun r acc k => k = h1 ∧ acc ++ r.map f = S.ds.map f ∧ ∀ x ∈ r, x ∈ S.ds) ⟨rfl, rfl, fun x hx => hx⟩
    (fun r acc k ⟨a, b, _⟩ => ⟨by rw [a], by
      have := congrArg List.length b
      rw [List.length_append, List.length_map, List.length_map] at this; omega⟩)
    (fun r acc k ⟨a, _, _⟩ => by rw [a]; exact hg _)
    (fun x r acc k ⟨a, b, c⟩ => by
      obtain ⟨δ1, e1, e2⟩ := he x (c x (by simp))
      exact ⟨δ1, f x, h1, e1, by rw [a]; exact e2 _, rfl, by rw [← b]; simp, fun y hy => c y (by simp [hy])⟩)
    (fun acc k ⟨a, b, c⟩ => ⟨by rw [a]; exact LeftOf.refl _, by
      have : acc = S.ds.map f := by simpa using b
      rw [this]; exact lowsM _ hl⟩)
  have : acc = S.ds.map f := by simpa using i2
  rw [e, this, i1]
/-! ### draws -/
structure DS where
  cells : List Int
  rest : Int
  at' : Int
  seed : Int
def DS.enc (s : DS) : MO := .lst [.rol (s.cells.map .int), .int s.rest, .int s.at', .int s.seed]
structure DS.Ok (s : DS) : Prop where
  a0 : 0 ≤ s.at'
  s0 : 0 ≤ s.seed
  s1 : s.seed ≤ 2147483630
theorem DS.enc_lows (s : DS) (n : Nat) : s.enc.lows n = true := by
  have : ∀ l : List Int, lowsL n (l.map D.int) = true := fun l => by
    induction l with
    | nil => rfl
    | cons x r ih => show (true && lowsL n (r.map D.int)) = true; rw [ih]; rfl
  show ((D.rol (s.cells.map .int)).lows n && _) = true
  rw [show (D.rol (s.cells.map .int)).lows n = lowsL n (s.cells.map .int) from rfl, this]; rfl
end MM

namespace MM
open PySem PySem.Spec PyProof.Rows L2
noncomputable def bDraw : MSt :=
  mSeq (mIfS (mAnd (mB (mOp opEq (mOp opIx (mVar 0) (mC (.int 1))) (mC (.int 0)))) (mB (mOp opGe (mOp opIx (mVar 0) (mC (.int 2))) (mCall fLen (mCons (mOp opIx (mVar 0) (mC (.int 0))) (mNil)))))) (mSeq (mSetIx (mOp opMod (mCall fInt (mCons (mOp opAdd (mOp opMul (mOp opIx (mVar 0) (mC (.int 3))) (mC (.int 48271))) (mC (.int 69621))) (mNil))) (mC (.int 2147483629))) (mVar 0) (mC (.int 3))) (mRet (mOp opMod (mCall fInt (mCons (mOp opDiv (mOp opIx (mVar 0) (mC (.int 3))) (mC (.int 13))) (mNil))) (mVar 1)))) (mNext)) (mSeq (mIfS (mB (mOp opEq (mOp opIx (mVar 0) (mC (.int 1))) (mC (.int 0)))) (mSeq (mSetIx (mCall fAbs (mCons (mOp opIx (mOp opIx (mVar 0) (mC (.int 0))) (mOp opIx (mVar 0) (mC (.int 2)))) (mNil))) (mVar 0) (mC (.int 1))) (mAugIx opAddI (mVar 0) (mC (.int 2)) (mC (.int 1)))) (mNext)) (mSeq (mSet 2 (mOp opMod (mCall fInt (mCons (mOp opIx (mVar 0) (mC (.int 1))) (mNil))) (mVar 1))) (mSeq (mSetIx (mOp opDiv (mOp opIx (mVar 0) (mC (.int 1))) (mVar 1)) (mVar 0) (mC (.int 1))) (mRet (mVar 2)))))
noncomputable def bStart : MSt :=
  mSeq (mSet 1 (mC (.int 7))) (mSeq (mFor (mSrc (mVar 0)) (mgName 2) (mSet 1 (mOp opAdd (mOp opMod (mCall fInt (mCons (mOp opAdd (mOp opMul (mVar 1) (mC (.int 48271))) (mVar 2)) (mNil))) (mC (.int 2147483629))) (mC (.int 1))))) (mRet (mLstN (mCons (mCall fList (mCons (mVar 0) (mNil))) (mCons (mC (.int 0)) (mCons (mC (.int 0)) (mCons (mVar 1) (mNil))))))))
section
variable {h : MH} {n : Nat} {s : DS} {many : Int}
theorem DS.lst (e : h[n]? = some s.enc) : lst? h n = some [.rol (s.cells.map .int), .int s.rest, .int s.at', .int s.seed] := lst?_of e
theorem DS.ix0 (e : h[n]? = some s.enc) : opIx (.ref n) (.int 0) h = .ok (.rol (s.cells.map .int)) h := opIx_of (by rw [ixG_ref, DS.lst e]; rfl)
theorem DS.ix1 (e : h[n]? = some s.enc) : opIx (.ref n) (.int 1) h = .ok (.int s.rest) h := opIx_of (by rw [ixG_ref, DS.lst e]; rfl)
theorem DS.ix2 (e : h[n]? = some s.enc) : opIx (.ref n) (.int 2) h = .ok (.int s.at') h := opIx_of (by rw [ixG_ref, DS.lst e]; rfl)
theorem DS.ix3 (e : h[n]? = some s.enc) : opIx (.ref n) (.int 3) h = .ok (.int s.seed) h := opIx_of (by rw [ixG_ref, DS.lst e]; rfl)
theorem DS.set1 {v : Int} (e : h[n]? = some s.enc) : setG (.ref n) (.int 1) (.int v) h = some (h.set n { s with rest := v }.enc) := by
  show (lst? h n).bind _ = _
  rw [DS.lst e]; rfl
theorem DS.set2 {v : Int} (e : h[n]? = some s.enc) : setG (.ref n) (.int 2) (.int v) h = some (h.set n { s with at' := v }.enc) := by
  show (lst? h n).bind _ = _
  rw [DS.lst e]; rfl
theorem DS.set3 {v : Int} (e : h[n]? = some s.enc) : setG (.ref n) (.int 3) (.int v) h = some (h.set n { s with seed := v }.enc) := by
  show (lst? h n).bind _ = _
  rw [DS.lst e]; rfl
theorem DS.aug2 {δ : MS} {a b c : ME} (ea : a δ h = .ok (.ref n) h) (eb : b δ h = .ok (.int 2) h) (ec : c δ h = .ok (.int 1) h) (e : h[n]? = some s.enc) : mAugIx opAddI a b c δ h = .ok (.next δ) (h.set n { s with at' := s.at' + 1 }.enc) := by
  unfold mAugIx
  rw [ea, R.st_ok, eb, R.st_ok]
  simp only [lstD_ref, DS.lst e, Option.bind_some]
  rw [show L2.atI [D.rol (s.cells.map .int), .int s.rest, .int s.at', .int s.seed] 2 = some (.int s.at') from rfl]
  simp only [ec, R.st_ok, opAddI_int, DS.set2 e]
theorem at_set {h : MH} {n : Nat} {o : MO} (e : h[n]? = some o) (o' : MO) : (h.set n o')[n]? = some o' := List.getElem?_set_self (List.getElem?_eq_some_iff.mp e).1
theorem log_le {i : Int} (h0 : 0 ≤ i) (h1 : i ≤ 2147483630) : i.natAbs.log2 < 32 := by
  by_cases z : i.natAbs = 0
  · rw [z]; decide
  · rw [Nat.log2_lt z]; omega
theorem draw_ok (e : h[n]? = some s.enc) (ok : s.Ok) (h0 : 0 < many) (h1 : many < 2 ^ 64) :
    ∃ (v : Int) (s' : DS), 0 ≤ v ∧ v < many ∧ s'.Ok ∧ s'.cells = s.cells ∧ mFn 2 3 bDraw [.ref n, .int many] h = .ok (.int v) (h.set n s'.enc) := by
  have fin : ∀ (v : Int) (s' : DS), bDraw [some (.ref n), some (.int many), none] h = .ok (.ret (.int v)) (h.set n s'.enc) → mFn 2 3 bDraw [.ref n, .int many] h = .ok (.int v) (h.set n s'.enc) := fun v s' e2 =>
    mFn_ret (g := []) rfl e2 (by rw [List.append_nil]) (List.length_set ..) ((LeftOf.refl h).set (.inl (s'.enc_lows _))) rfl
  have dv : ∀ i : Int, ∀ k : MH, opDiv (.int i) (.int many) k = .ok (.int (i / many)) k := fun i k => opDiv_int h0 h1
  have dm : ∀ i : Int, ∀ k : MH, opMod (.int i) (.int many) k = .ok (.int (i % many)) k := fun i k => if_pos h0
  have em : ∀ i : Int, 0 ≤ i % many ∧ i % many < many := fun i => ⟨Int.emod_nonneg _ (by omega), Int.emod_lt_of_pos _ h0⟩
  have hl := log_le ok.s0 ok.s1
  have go : ∀ (v : Int) (s' : DS), s'.Ok → s'.cells = s.cells → bDraw [some (.ref n), some (.int many), none] h = .ok (.ret (.int (v % many))) (h.set n s'.enc) →
      ∃ (v : Int) (s' : DS), 0 ≤ v ∧ v < many ∧ s'.Ok ∧ s'.cells = s.cells ∧ mFn 2 3 bDraw [.ref n, .int many] h = .ok (.int v) (h.set n s'.enc) := fun v s' h1 h2 h3 => ⟨_, s', (em v).1, (em v).2, h1, h2, fin _ _ h3⟩
  by_cases c1 : s.rest = 0
  · by_cases c2 : (s.cells.length : Int) ≤ s.at'
    · have so : ({ s with seed := (s.seed * 48271 + 69621) % 2147483629 } : DS).Ok := ⟨ok.a0, Int.emod_nonneg _ (by omega), by have := Int.emod_lt_of_pos (s.seed * 48271 + 69621) (show (0 : Int) < 2147483629 by omega); show _ % _ ≤ _; omega⟩
      have q3 := DS.set3 (v := (s.seed * 48271 + 69621) % 2147483629) e
      have x3 := DS.ix3 (at_set e { s with seed := (s.seed * 48271 + 69621) % 2147483629 }.enc)
      have sc : ({ s with seed := (s.seed * 48271 + 69621) % 2147483629 } : DS).cells = s.cells := rfl
      generalize hs' : ({ s with seed := (s.seed * 48271 + 69621) % 2147483629 } : DS) = s' at so q3 x3 sc
      rw [← hs'] at x3
      simp only at x3
      refine go ((s.seed * 48271 + 69621) % 2147483629 / 13) s' so sc ?_
      have d13 : ∀ i : Int, ∀ k : MH, opDiv (.int i) (.int 13) k = .ok (.int (i / 13)) k := fun i k => opDiv_int (by omega) (by decide)
      have lg : s.seed.natAbs.log2 + (48271 : Int).natAbs.log2 < 1000000 := by
        have : (48271 : Int).natAbs.log2 = 15 := by decide
        omega
      rw [hs'] at x3
      unfold bDraw
      simp [DS.ix1 e, DS.ix2 e, DS.ix0 e, DS.ix3 e, c1, c2, q3, x3, opMul_int lg, d13, dm]
    · have hlt : s.at'.toNat < s.cells.length := by have := ok.a0; omega
      have ei : opIx (.rol (s.cells.map .int)) (.int s.at') h = .ok (.int s.cells[s.at'.toNat]) h := opIx_of (by
        rw [ixG_rol]
        exact atI_ok ok.a0 (by rw [List.getElem?_map, List.getElem?_eq_getElem hlt]; rfl))
      generalize s.cells[s.at'.toNat] = c at ei
      let s1 : DS := { s with rest := if c < 0 then -c else c }
      let s2 : DS := { s1 with at' := s.at' + 1 }
      let s3 : DS := { s2 with rest := s2.rest / many }
      have e1 := at_set e s1.enc
      have e2 := at_set e1 s2.enc
      have e3 := at_set e2 s3.enc
      refine go s2.rest s3 ⟨by show 0 ≤ s.at' + 1; have := ok.a0; omega, ok.s0, ok.s1⟩ rfl ?_
      have a2 : mAugIx opAddI (mVar 0) (mC (.int 2)) (mC (.int 1)) [some (.ref n), some (.int many), none] (h.set n s1.enc) = .ok (.next [some (.ref n), some (.int many), none]) ((h.set n s1.enc).set n s2.enc) := DS.aug2 (s := s1) rfl rfl rfl e1
      have q1 : setG (.ref n) (.int 1) (.int (if c < 0 then -c else c)) h = some (h.set n s1.enc) := DS.set1 e
      have q3 : setG (.ref n) (.int 1) (.int (s2.rest / many)) ((h.set n s1.enc).set n s2.enc) = some (((h.set n s1.enc).set n s2.enc).set n s3.enc) := DS.set1 e2
      have x2 := DS.ix1 e2
      simp only [List.set_set] at x2 q3 a2
      have y1 := DS.ix1 e
      have y2 := DS.ix2 e
      have y0 := DS.ix0 e
      generalize s3 = s3' at q3 ⊢
      generalize s2.rest = r2 at x2 q3 ⊢
      generalize s2 = s2' at x2 q3 a2
      generalize s1 = s1' at q1 a2
      unfold bDraw
      simp [y1, y2, y0, c1, c2, ei, q1, a2, x2, dm, dv, q3]
  · let s3 : DS := { s with rest := s.rest / many }
    refine go s.rest s3 ⟨ok.a0, ok.s0, ok.s1⟩ rfl ?_
    have q3 : setG (.ref n) (.int 1) (.int (s.rest / many)) h = some (h.set n s3.enc) := DS.set1 e
    have y1 := DS.ix1 e
    generalize s3 = s3' at q3 ⊢
    unfold bDraw
    simp [y1, c1, dm, dv, q3]
/-- the script's state -/
theorem start_ok {ns : List Int} {h : MH} : ∃ s : DS, s.Ok ∧ s.cells = ns ∧ mFnN 1 3 bStart [.rol (ns.map D.int)] h = .ok (.ref h.length) (h ++ [s.enc]) := by
  have lp : ∃ v : Int, (0 ≤ v ∧ v ≤ 2147483630) ∧ ∃ x, forM (fun _ => True) (mgName 2) (mSet 1 (mOp opAdd (mOp opMod (mCall fInt (mCons (mOp opAdd (mOp opMul (mVar 1) (mC (.int 48271))) (mVar 2)) (mNil))) (mC (.int 2147483629))) (mC (.int 1)))) (ns.map D.int) [some (.rol (ns.map D.int)), some (.int 7), none] h =
      .ok (.next [some (.rol (ns.map D.int)), some (.int v), x]) h := by
    refine forM_ind (Post := fun r => ∃ v : Int, (0 ≤ v ∧ v ≤ 2147483630) ∧ ∃ x, r = .ok (.next [some (.rol (ns.map D.int)), some (.int v), x]) h)
      (fun ds δ h' => h' = h ∧ (∃ ms : List Int, ds = ms.map D.int) ∧ ∃ v : Int, (0 ≤ v ∧ v ≤ 2147483630) ∧ ∃ x, δ = [some (.rol (ns.map D.int)), some (.int v), x]) ?_ ?_ ⟨rfl, ⟨ns, rfl⟩, 7, by omega, none, rfl⟩
    · rintro δ h' ⟨rfl, _, v, hv, x, rfl⟩
      exact ⟨trivial, v, hv, x, rfl⟩
    · rintro y r δ h' ⟨rfl, ⟨ms, em⟩, v, hv, x, rfl⟩
      cases ms with
      | nil => cases em
      | cons c ms =>
        obtain ⟨rfl, rfl⟩ := List.cons.inj em
        have lg : v.natAbs.log2 + (48271 : Int).natAbs.log2 < 1000000 := by
          have : (48271 : Int).natAbs.log2 = 15 := by decide
          have := log_le hv.1 hv.2
          omega
        have b1 := Int.emod_nonneg (v * 48271 + c) (show (2147483629 : Int) ≠ 0 by omega)
        have b2 := Int.emod_lt_of_pos (v * 48271 + c) (show (0 : Int) < 2147483629 by omega)
        refine ⟨trivial, _, rfl, .inl ⟨[some (.rol (ns.map D.int)), some (.int ((v * 48271 + c) % 2147483629 + 1)), some (.int c)], h', ?_, rfl, ⟨ms, rfl⟩, (v * 48271 + c) % 2147483629 + 1, by omega, _, rfl⟩⟩
        simp [opMul_int lg]
  obtain ⟨v, hv, x, e⟩ := lp
  refine ⟨⟨ns, 0, 0, v⟩, ⟨Int.le_refl _, hv.1, hv.2⟩, rfl, ?_⟩
  rw [mFnN_eq (show [D.rol (ns.map D.int)].length = 1 from rfl)]
  unfold bStart
  have st : mStart 3 [D.rol (ns.map D.int)] = [some (.rol (ns.map D.int)), none, none] := rfl
  rw [st]
  simp [e]
  rfl
end
end MM

/-! texts as lists of signs -/
namespace MM
open PySem PySem.Spec PyProof.Rows L2
abbrev tx (l : List Nat) : Str := ⟨l.toArray⟩
theorem tx_of (w : Str) : w = tx w.cps.toList := by cases w; rfl
theorem tx_len (l : List Nat) : (tx l).length = l.length := by simp [tx, Str.length]
theorem tx_inj {a b : List Nat} (h : tx a = tx b) : a = b := congrArg (fun x : Str => x.cps.toList) h
theorem tx_eq {a b : List Nat} : (tx a = tx b) ↔ a = b := ⟨tx_inj, fun e => by rw [e]⟩
theorem tl_tx (l : List Nat) : (tx l).cps.toList = l := rfl
theorem tx_app (a b : List Nat) : tx a ++ tx b = tx (a ++ b) := TL.ext_tl (TL.tl_append (tx a) (tx b))
theorem sgn_of (s : String) : (Str.ofString s).cps.toList = s.toList.map Char.toNat := by
  show (cpsOfBytes 0 0 s.toByteArray.data.toList).toArray.toList = _
  rw [cpsOfBytes_string]
theorem sgn_int (i : Int) : (Str.ofString (toString i)).cps.toList = if i < 0 then 45 :: TL.numL i.natAbs else TL.numL i.natAbs := by
  cases i with
  | ofNat n =>
    rw [if_neg (by simp)]
    exact TL.tl_num n
  | negSucc m =>
    rw [if_pos (Int.negSucc_lt_zero m), sgn_of]
    have e : toString (Int.negSucc m) = "-" ++ Nat.repr (m + 1) := rfl
    have e2 := TL.tl_num (m + 1)
    have e3 : TL.tl (Str.ofString (toString (((m + 1 : Nat)) : Int))) = (Nat.repr (m + 1)).toList.map Char.toNat := sgn_of _
    rw [e, String.toList_append, List.map_append, ← e3, e2]
    rfl
theorem str_int (i : Int) : (Str.ofString (toString i) : Str) = tx (if i < 0 then 45 :: TL.numL i.natAbs else TL.numL i.natAbs) := by
  rw [← sgn_int]
/-! ### the heap with the script's state in it -/
/-- k is h, but for the state that stands at n -/
def At (n : Nat) (h k : MH) : Prop := n < h.length ∧ ∃ s : DS, s.Ok ∧ k = h.set n s.enc
section
variable {n : Nat} {h k k' g : MH} {many : Int}
theorem At.of {s : DS} (e : h[n]? = some s.enc) (ok : s.Ok) : At n h h := by
  obtain ⟨hn, e2⟩ := List.getElem?_eq_some_iff.mp e
  exact ⟨hn, s, ok, by rw [← e2, List.set_getElem_self]⟩
theorem At.len (a : At n h k) : k.length = h.length := by
  obtain ⟨_, s, _, rfl⟩ := a
  exact List.length_set ..
theorem At.lt (a : At n h k) : n < k.length := by rw [a.len]; exact a.1
theorem At.trans (a : At n h k) (b : At n k k') : At n h k' := by
  obtain ⟨l, s, _, rfl⟩ := a
  obtain ⟨_, s', ok, rfl⟩ := b
  exact ⟨l, s', ok, List.set_set ..⟩
theorem At.refl_of (a : At n h k) : At n k k := by
  obtain ⟨l, s, ok, rfl⟩ := a
  exact At.of (List.getElem?_set_self l) ok
theorem At.app (a : At n h k) (g : MH) : At n (h ++ g) (k ++ g) := by
  obtain ⟨l, s, ok, rfl⟩ := a
  exact ⟨by rw [List.length_append]; omega, s, ok, by rw [List.set_append_left _ _ l]⟩
theorem At.app_inv (a : At n (h ++ g) k) (l : n < h.length) : ∃ k', k = k' ++ g ∧ At n h k' := by
  obtain ⟨_, s, ok, rfl⟩ := a
  exact ⟨_, by rw [List.set_append_left _ _ l], l, s, ok, rfl⟩
theorem At.left (a : At n h k) : LeftOf h k := by
  obtain ⟨l, s, ok, rfl⟩ := a
  exact (LeftOf.refl h).set (.inl (s.enc_lows _))
/-- a draw -/
theorem At.draw (a : At n h k) (h0 : 0 < many) (h1 : many < 2 ^ 64) : ∃ (v : Int) (k' : MH), (0 ≤ v ∧ v < many) ∧ At n h k' ∧ mFn 2 3 bDraw [.ref n, .int many] k = .ok (.int v) k' := by
  have b := a.refl_of
  obtain ⟨l, s, ok, rfl⟩ := a
  obtain ⟨v, s', v0, v1, ok', _, e⟩ := draw_ok (h := h.set n s.enc) (n := n) (s := s) (List.getElem?_set_self l) ok h0 h1
  exact ⟨v, _, ⟨v0, v1⟩, ⟨l, s', ok', List.set_set ..⟩, e⟩
/-- in a def that ends well -/
theorem At.fn {a0 N : Nat} {ms : MSt} {ds : List D} {d : D} (e : ds.length = a0) (a : At n h k) (r : ms (mStart N ds) h = .ok (.ret d) k) (q : d.lows h.length = true) : mFn a0 N ms ds h = .ok d k :=
  mFn_ret (g := []) e r (by rw [List.append_nil]) a.len a.left q
end
/-! ### pieces of texts -/
theorem ix_tx {l : List Nat} {i : Int} {c : Nat} {h : MH} (hl : l.length ≤ 600) (h0 : 0 ≤ i) (e : l[i.toNat]? = some c) : opIx (.str (tx l)) (.int i) h = .ok (.str (tx [c])) h := opIx_of (by
  show (if (tx l).length ≤ 16777216 then _ else none) = _
  rw [if_pos (by rw [tx_len]; omega)]
  show Option.map _ (L2.atI l i) = _
  rw [atI_ok h0 e]
  rfl)
theorem cut_take (l : List Nat) (i : Nat) : cutS (tx l) none (some (i : Int)) = tx (l.take i) := by
  unfold cutS
  rw [HT.sIx_none, tx_len, HT.sIx_nat]
  simp
theorem cut_drop (l : List Nat) (i : Nat) : cutS (tx l) (some (i : Int)) none = tx (l.drop i) := by
  unfold cutS
  rw [HT.sIx_none, tx_len, HT.sIx_nat]
  simp
  rcases Nat.le_total i l.length with q | q
  · rw [Nat.min_eq_left q, List.take_of_length_le (by simp)]
  · rw [Nat.min_eq_right q, List.drop_eq_nil_of_le q]; simp
theorem sl_take {l : List Nat} {i : Int} {h : MH} (hl : l.length ≤ 600) (h0 : 0 ≤ i) : opSl (.str (tx l)) none (some i) h = .ok (.str (tx (l.take i.toNat))) h := by
  obtain ⟨j, rfl⟩ := Int.eq_ofNat_of_zero_le h0
  unfold opSl slG
  simp only []
  rw [if_pos (by rw [tx_len]; omega), cut_take]; rfl
theorem sl_drop {l : List Nat} {i : Int} {h : MH} (hl : l.length ≤ 600) (h0 : 0 ≤ i) : opSl (.str (tx l)) (some i) none h = .ok (.str (tx (l.drop i.toNat))) h := by
  obtain ⟨j, rfl⟩ := Int.eq_ofNat_of_zero_le h0
  unfold opSl slG
  simp only []
  rw [if_pos (by rw [tx_len]; omega), cut_drop]; rfl
theorem str_num {i : Int} {h : MH} (b : i.natAbs < 10 ^ 20) : ∃ l : List Nat, l ≠ [] ∧ l.length ≤ 21 ∧ fStr [.int i] h = .ok (.str (tx l)) h := by
  refine ⟨if i < 0 then 45 :: TL.numL i.natAbs else TL.numL i.natAbs, ?_, ?_, ?_⟩
  · split
    · exact List.cons_ne_nil _ _
    · exact TL.numL_ne _
  · have := TL.numL_len (n := i.natAbs) (k := 20) (by decide) b
    split
    · simp; omega
    · omega
  · have : i.natAbs.log2 < 1920 := by
      by_cases z : i.natAbs = 0
      · rw [z]; decide
      · rw [Nat.log2_lt z]
        exact Nat.lt_of_lt_of_le b (by decide +kernel)
    rw [show fStr [.int i] h = if i.natAbs.log2 < 1920 then .ok (.str (toString i)) h else .stuck from rfl, if_pos this, ← str_int]
theorem fRange1_eq {i : Int} {h : MH} (a : -(2 ^ 62) ≤ i) (b : i < 2 ^ 62) : fRange1 [.int i] h = .ok ⟨(List.range i.toNat).map fun (i : Nat) => .int i, fun _ => True⟩ h := if_pos ⟨a, b⟩
/-! ### joins -/
def jl (s : List Nat) : List (List Nat) → List Nat
  | [] => []
  | [a] => a
  | a :: b :: r => a ++ s ++ jl s (b :: r)
theorem join_jl (s : List Nat) : ∀ ls : List (List Nat), Txt.join (tx s) (ls.map fun l => tx l) = tx (jl s ls) := fun ls => by
  show Builtin.Str.glued (tx s) (ls.map fun l => tx l) = _
  rw [StrLaws.glued_eq_join]
  have go : ∀ (r : List (List Nat)) (a : List Nat), Str.join (tx s) (tx a :: r.map fun l => tx l) = tx (jl s (a :: r)) := fun r => by
    induction r with
    | nil => intro a; rfl
    | cons b r ih =>
      intro a
      show tx a ++ tx s ++ Str.join (tx s) (tx b :: r.map fun l => tx l) = _
      rw [ih, tx_app, tx_app]; rfl
  cases ls with
  | nil => rfl
  | cons a r => exact go r a
theorem strs_txs (ls : List (List Nat)) : strsL (ls.map fun l => D.str (tx l)) = some (ls.map fun l => tx l) := by
  induction ls with
  | nil => rfl
  | cons c r ih => show (strsL (r.map _)).map _ = _; rw [ih]; rfl
theorem lens_txs (ls : List (List Nat)) : ((ls.map fun l => tx l).map (·.length)).sum = (ls.map (·.length)).sum := by
  rw [List.map_map]
  congr 1
theorem join_ok {s : List Nat} {ls : List (List Nat)} {d : D} {h : MH} (e : seqG d h = some (ls.map fun l => D.str (tx l))) (hz : (ls.map (·.length)).sum + ls.length * s.length ≤ 16777216) : fJoin (.str (tx s)) [d] h = .ok (.str (tx (jl s ls))) h := by
  show (match (seqG d h).bind strsL with | some ys => _ | none => _) = _
  simp only [e, Option.bind_some, strs_txs]
  rw [if_pos (by rw [lens_txs, List.length_map, tx_len]; exact hz), join_jl]
theorem jl_ones (l : List Nat) : jl [] (l.map fun c => [c]) = l := by
  cases l with
  | nil => rfl
  | cons a r =>
    induction r generalizing a with
    | nil => rfl
    | cons b r ih => show [a] ++ [] ++ jl [] ([b] :: r.map fun c => [c]) = _; rw [show ([b] :: r.map fun c => [c]) = (b :: r).map fun c => [c] from rfl, ih]; rfl
theorem sum_ones (l : List Nat) : ((l.map fun c => [c]).map (·.length)).sum = l.length := by
  induction l with
  | nil => rfl
  | cons a r ih => simp only [List.map_cons, List.sum_cons, ih]; simp; omega
theorem join_ones {l : List Nat} {d : D} {h : MH} (e : seqG d h = some (l.map fun c => D.str (tx [c]))) (hl : l.length ≤ 16777216) : fJoin (.str "") [d] h = .ok (.str (tx l)) h := by
  have := join_ok (s := []) (ls := l.map fun c => [c]) (d := d) (h := h) (by rw [e, List.map_map]; rfl) (by rw [sum_ones]; simp; exact hl)
  rw [jl_ones] at this
  exact this
/-! ### comprehensions that draw -/
mutual
theorem lows_mono {a b : Nat} (le : a ≤ b) : ∀ {d : D}, d.lows a = true → d.lows b = true
  | .non, _ | .bl _, _ | .int _, _ | .str _, _ | .obj .., _ | .ty _, _ | .kon _, _ => rfl
  | .rdc _ ds, q => lowsL_mono le (ds := ds) q
  | .xo _ _ _ ds, q => lowsL_mono le (ds := ds) q
  | .tup ds, q => lowsL_mono le (ds := ds) q
  | .rol ds, q => lowsL_mono le (ds := ds) q
  | .ref n, q => decide_eq_true (Nat.lt_of_lt_of_le (of_decide_eq_true q) le)
theorem lowsL_mono {a b : Nat} (le : a ≤ b) : ∀ {ds : List D}, lowsL a ds = true → lowsL b ds = true
  | [], _ => rfl
  | x :: r, q => by
    have q' : (x.lows a && lowsL a r) = true := q
    rw [Bool.and_eq_true] at q'
    show (x.lows b && lowsL b r) = true
    rw [lows_mono le q'.1, lowsL_mono le q'.2]; rfl
end
theorem lows_mono0 {P : D → Prop} (hp : ∀ y, P y → y.lows 0 = true) {m : Nat} : ∀ {acc : List D}, (∀ y ∈ acc, P y) → lowsL m acc = true
  | [], _ => rfl
  | x :: r, q => by
    show (x.lows m && lowsL m r) = true
    rw [lows_mono (Nat.zero_le m) (hp x (q x (by simp))), lows_mono0 hp fun y hy => q y (by simp [hy])]; rfl
theorem At.comp {n : Nat} {h k k1 : MH} {src : MI} {tgt : MG} {elt : ME} {vs : List Nat} {δ : MS} {S : Src} {P : D → Prop} (es : src δ k = .ok S k1) (a : At n h k1) (hz : S.ds.length < 16777216) (hg : ∀ k, S.g k)
    (step : ∀ x ∈ S.ds, ∀ k', At n k' k' → (∀ m : Nat, m < h.length → m ≠ n → k'[m]? = h[m]?) → ∃ δ1 y k'', tgt x (wipeM δ vs) = some δ1 ∧ elt δ1 k' = .ok y k'' ∧ At n k' k'' ∧ P y) (hp : ∀ y, P y → y.lows 0 = true) :
    ∃ acc k2, At n h k2 ∧ acc.length = S.ds.length ∧ (∀ y ∈ acc, P y) ∧ mLc src tgt mYes elt vs δ k = .ok (.rol acc) k2 := by
  obtain ⟨acc, k2, ⟨a2, ll, hP, _⟩, e2⟩ := mLc_ind (S := S) (δ := δ) (vs := vs) (tgt := tgt) (elt := elt) es
    (fun r acc k2 => At n h k2 ∧ acc.length + r.length = S.ds.length ∧ (∀ y ∈ acc, P y) ∧ ∀ x ∈ r, x ∈ S.ds) ⟨a, by simp, by simp, fun x hx => hx⟩
    (fun r acc k2 ⟨a2, ll, _, _⟩ => ⟨by rw [a2.len, a.len], by omega⟩)
    (fun r acc k2 _ => hg _)
    (fun x r acc k2 ⟨a2, ll, hP, hr⟩ => by
      obtain ⟨δ1, y, k'', e1, e2, a3, py⟩ := step x (hr x (by simp)) (k2 ++ [MO.lst acc]) (a2.refl_of.app _) (fun m hm hn => by
        obtain ⟨l2, s2, o2, rfl⟩ := a2
        rw [List.getElem?_append_left (by rw [List.length_set]; exact hm), List.getElem?_set_ne (fun z => hn z.symm)])
      obtain ⟨k4, rfl, a4⟩ := a3.app_inv a2.lt
      exact ⟨δ1, y, k4, e1, e2, a2.trans a4, by simp at ll ⊢; omega, fun z hz => by
        rcases List.mem_append.mp hz with q | q
        · exact hP z q
        · rw [List.mem_singleton.mp q]; exact py, fun z hz => hr z (by simp [hz])⟩)
    (fun acc k2 ⟨a2, ll, hP, _⟩ => ⟨by
      have l0 := a.refl_of.1
      obtain ⟨l1, s1, o1, rfl⟩ := a
      obtain ⟨_, s2, o2, rfl⟩ := a2
      exact (show At n (h.set n s1.enc) (h.set n s2.enc) from ⟨l0, s2, o2, (List.set_set ..).symm⟩).left, lows_mono0 hp hP⟩)
  exact ⟨acc, k2, a2, by simpa using ll, hP, e2⟩
end MM

/-! more of what the plain functions give -/
namespace MM
open PySem PySem.Spec PyProof.Rows L2
section
variable {h h1 h2 : MH} {δ δ2 : MS} {t : MT} {b : MSt} {r : SR}
@[simp] theorem isi_non_tuple : fIsi [.non, .ty "tuple"] h = .ok (.bl false) h := fIsi_of (n := "NoneType") rfl (by decide) (by decide)
@[simp] theorem isi_bl_tuple {k : Bool} : fIsi [(.bl k), .ty "tuple"] h = .ok (.bl false) h := fIsi_of (n := "bool") rfl (by decide) (by decide)
@[simp] theorem isi_int_tuple {i : Int} : fIsi [(.int i), .ty "tuple"] h = .ok (.bl false) h := fIsi_of (n := "int") rfl (by decide) (by decide)
@[simp] theorem isi_str_tuple {s : Str} : fIsi [(.str s), .ty "tuple"] h = .ok (.bl false) h := fIsi_of (n := "str") rfl (by decide) (by decide)
@[simp] theorem isi_tup_tuple {ds : List D} : fIsi [(.tup ds), .ty "tuple"] h = .ok (.bl true) h := fIsi_of (n := "tuple") rfl (by decide) (by decide)
@[simp] theorem isi_rol_tuple {ds : List D} : fIsi [(.rol ds), .ty "tuple"] h = .ok (.bl false) h := fIsi_of (n := "list") rfl (by decide) (by decide)
theorem isi_ref_tuple {n : Nat} {ds : List D} (e : h[n]? = some (.lst ds)) : fIsi [.ref n, .ty "tuple"] h = .ok (.bl false) h := fIsi_of (n := "list") (by unfold tyName; simp only [e]) (by decide) (by decide)
@[simp] theorem isi_non_str : fIsi [.non, .ty "str"] h = .ok (.bl false) h := fIsi_of (n := "NoneType") rfl (by decide) (by decide)
@[simp] theorem isi_bl_str {k : Bool} : fIsi [(.bl k), .ty "str"] h = .ok (.bl false) h := fIsi_of (n := "bool") rfl (by decide) (by decide)
@[simp] theorem isi_int_str {i : Int} : fIsi [(.int i), .ty "str"] h = .ok (.bl false) h := fIsi_of (n := "int") rfl (by decide) (by decide)
@[simp] theorem isi_str_str {s : Str} : fIsi [(.str s), .ty "str"] h = .ok (.bl true) h := fIsi_of (n := "str") rfl (by decide) (by decide)
@[simp] theorem isi_tup_str {ds : List D} : fIsi [(.tup ds), .ty "str"] h = .ok (.bl false) h := fIsi_of (n := "tuple") rfl (by decide) (by decide)
@[simp] theorem isi_rol_str {ds : List D} : fIsi [(.rol ds), .ty "str"] h = .ok (.bl false) h := fIsi_of (n := "list") rfl (by decide) (by decide)
theorem isi_ref_str {n : Nat} {ds : List D} (e : h[n]? = some (.lst ds)) : fIsi [.ref n, .ty "str"] h = .ok (.bl false) h := fIsi_of (n := "list") (by unfold tyName; simp only [e]) (by decide) (by decide)
@[simp] theorem isi_non_int : fIsi [.non, .ty "int"] h = .ok (.bl false) h := fIsi_of (n := "NoneType") rfl (by decide) (by decide)
@[simp] theorem isi_bl_int {k : Bool} : fIsi [(.bl k), .ty "int"] h = .ok (.bl true) h := fIsi_of (n := "bool") rfl (by decide) (by decide)
@[simp] theorem isi_int_int {i : Int} : fIsi [(.int i), .ty "int"] h = .ok (.bl true) h := fIsi_of (n := "int") rfl (by decide) (by decide)
@[simp] theorem isi_str_int {s : Str} : fIsi [(.str s), .ty "int"] h = .ok (.bl false) h := fIsi_of (n := "str") rfl (by decide) (by decide)
@[simp] theorem isi_tup_int {ds : List D} : fIsi [(.tup ds), .ty "int"] h = .ok (.bl false) h := fIsi_of (n := "tuple") rfl (by decide) (by decide)
@[simp] theorem isi_rol_int {ds : List D} : fIsi [(.rol ds), .ty "int"] h = .ok (.bl false) h := fIsi_of (n := "list") rfl (by decide) (by decide)
theorem isi_ref_int {n : Nat} {ds : List D} (e : h[n]? = some (.lst ds)) : fIsi [.ref n, .ty "int"] h = .ok (.bl false) h := fIsi_of (n := "list") (by unfold tyName; simp only [e]) (by decide) (by decide)
@[simp] theorem isi_non_bool : fIsi [.non, .ty "bool"] h = .ok (.bl false) h := fIsi_of (n := "NoneType") rfl (by decide) (by decide)
@[simp] theorem isi_bl_bool {k : Bool} : fIsi [(.bl k), .ty "bool"] h = .ok (.bl true) h := fIsi_of (n := "bool") rfl (by decide) (by decide)
@[simp] theorem isi_int_bool {i : Int} : fIsi [(.int i), .ty "bool"] h = .ok (.bl false) h := fIsi_of (n := "int") rfl (by decide) (by decide)
@[simp] theorem isi_str_bool {s : Str} : fIsi [(.str s), .ty "bool"] h = .ok (.bl false) h := fIsi_of (n := "str") rfl (by decide) (by decide)
@[simp] theorem isi_tup_bool {ds : List D} : fIsi [(.tup ds), .ty "bool"] h = .ok (.bl false) h := fIsi_of (n := "tuple") rfl (by decide) (by decide)
@[simp] theorem isi_rol_bool {ds : List D} : fIsi [(.rol ds), .ty "bool"] h = .ok (.bl false) h := fIsi_of (n := "list") rfl (by decide) (by decide)
theorem isi_ref_bool {n : Nat} {ds : List D} (e : h[n]? = some (.lst ds)) : fIsi [.ref n, .ty "bool"] h = .ok (.bl false) h := fIsi_of (n := "list") (by unfold tyName; simp only [e]) (by decide) (by decide)
@[simp] theorem isi_non_list : fIsi [.non, .ty "list"] h = .ok (.bl false) h := fIsi_of (n := "NoneType") rfl (by decide) (by decide)
@[simp] theorem isi_bl_list {k : Bool} : fIsi [(.bl k), .ty "list"] h = .ok (.bl false) h := fIsi_of (n := "bool") rfl (by decide) (by decide)
@[simp] theorem isi_int_list {i : Int} : fIsi [(.int i), .ty "list"] h = .ok (.bl false) h := fIsi_of (n := "int") rfl (by decide) (by decide)
@[simp] theorem isi_str_list {s : Str} : fIsi [(.str s), .ty "list"] h = .ok (.bl false) h := fIsi_of (n := "str") rfl (by decide) (by decide)
@[simp] theorem isi_tup_list {ds : List D} : fIsi [(.tup ds), .ty "list"] h = .ok (.bl false) h := fIsi_of (n := "tuple") rfl (by decide) (by decide)
@[simp] theorem isi_rol_list {ds : List D} : fIsi [(.rol ds), .ty "list"] h = .ok (.bl true) h := fIsi_of (n := "list") rfl (by decide) (by decide)
theorem isi_ref_list {n : Nat} {ds : List D} (e : h[n]? = some (.lst ds)) : fIsi [.ref n, .ty "list"] h = .ok (.bl true) h := fIsi_of (n := "list") (by unfold tyName; simp only [e]) (by decide) (by decide)
@[simp] theorem isi_non_dict : fIsi [.non, .ty "dict"] h = .ok (.bl false) h := fIsi_of (n := "NoneType") rfl (by decide) (by decide)
@[simp] theorem isi_bl_dict {k : Bool} : fIsi [(.bl k), .ty "dict"] h = .ok (.bl false) h := fIsi_of (n := "bool") rfl (by decide) (by decide)
@[simp] theorem isi_int_dict {i : Int} : fIsi [(.int i), .ty "dict"] h = .ok (.bl false) h := fIsi_of (n := "int") rfl (by decide) (by decide)
@[simp] theorem isi_str_dict {s : Str} : fIsi [(.str s), .ty "dict"] h = .ok (.bl false) h := fIsi_of (n := "str") rfl (by decide) (by decide)
@[simp] theorem isi_tup_dict {ds : List D} : fIsi [(.tup ds), .ty "dict"] h = .ok (.bl false) h := fIsi_of (n := "tuple") rfl (by decide) (by decide)
@[simp] theorem isi_rol_dict {ds : List D} : fIsi [(.rol ds), .ty "dict"] h = .ok (.bl false) h := fIsi_of (n := "list") rfl (by decide) (by decide)
theorem isi_ref_dict {n : Nat} {ds : List D} (e : h[n]? = some (.lst ds)) : fIsi [.ref n, .ty "dict"] h = .ok (.bl false) h := fIsi_of (n := "list") (by unfold tyName; simp only [e]) (by decide) (by decide)
theorem isi2_of {m : ME} {d : D} {t a b : String} {x y : Bool} (e : m δ h = .ok d h1) (e1 : tyName d h1 = some t) (e2 : isTyB t a = some x) (e3 : isTyB t b = some y) : mIsi2 a b m δ h = .ok (.bl (x || y)) h1 := by
  unfold mIsi2
  rw [e, R.bnd_ok]
  simp only [e1, Option.bind_some, e2, e3, Option.map_some]
/-! while, step by step -/
theorem mWhile_inv (e : mWhile t b δ h = r) (ne : r ≠ .stuck) : ∃ n, whileM t b n δ h = r := by
  unfold mWhile at e
  split at e
  · exact ⟨_, e⟩
  · exact absurd e.symm ne
theorem mWhile_end (et : t δ h = .ok false h1) : mWhile t b δ h = .ok (.next δ) h1 := mWhile_eq 1 (by unfold whileM; rw [et]; rfl) (by intro z; cases z)
theorem mWhile_next (et : t δ h = .ok true h1) (eb : b δ h1 = .ok (.next δ2) h2) (e : mWhile t b δ2 h2 = r) (ne : r ≠ .stuck) : mWhile t b δ h = r := by
  obtain ⟨n, e⟩ := mWhile_inv e ne
  refine mWhile_eq (n + 1) ?_ ne
  unfold whileM
  rw [et, R.st_ok, if_pos rfl, eb]
  exact e
theorem mWhile_cont (et : t δ h = .ok true h1) (eb : b δ h1 = .ok (.cont δ2) h2) (e : mWhile t b δ2 h2 = r) (ne : r ≠ .stuck) : mWhile t b δ h = r := by
  obtain ⟨n, e⟩ := mWhile_inv e ne
  refine mWhile_eq (n + 1) ?_ ne
  unfold whileM
  rw [et, R.st_ok, if_pos rfl, eb]
  exact e
theorem mWhile_brk (et : t δ h = .ok true h1) (eb : b δ h1 = .ok (.brk δ2) h2) : mWhile t b δ h = .ok (.next δ2) h2 := by
  refine mWhile_eq 1 ?_ (by intro z; cases z)
  unfold whileM
  rw [et, R.st_ok, if_pos rfl, eb]
theorem mWhile_ret {d : D} (et : t δ h = .ok true h1) (eb : b δ h1 = .ok (.ret d) h2) : mWhile t b δ h = .ok (.ret d) h2 := by
  refine mWhile_eq 1 ?_ (by intro z; cases z)
  unfold whileM
  rw [et, R.st_ok, if_pos rfl, eb]
/-! members -/
theorem flatL_strs (l : List Str) : flatL (l.map D.str) = some (l.map V.str) := by
  induction l with
  | nil => rfl
  | cons x r ih => show (flatD (.str x)).bind _ = _; rw [show flatL (r.map D.str) = some (r.map V.str) from ih]; rfl
theorem inV_strs (x : Str) (l : List Str) : inV (.str x) (l.map V.str) = decide (x ∈ l) := by
  induction l with
  | nil => rfl
  | cons y r ih =>
    show (eqV (.str y) (.str x) || inV (.str x) (r.map V.str)) = _
    rw [ih]
    by_cases e : x = y
    · subst e
      simp [eqV]
    · have : eqV (.str y) (.str x) = false := by
        show decide (y = x) = false
        exact decide_eq_false fun z => e z.symm
      rw [this]
      simp [e]
theorem opIn_strs {x : Str} {l : List Str} : opIn (.str x) (.tup (l.map D.str)) h = .ok (.bl (decide (x ∈ l))) h := by
  unfold opIn inG
  simp only [flatL_strs, show flatD (.str x) = some (.str x) from rfl, Option.bind_some, Option.map_some, inV_strs]
theorem opNin_strs {x : Str} {l : List Str} : opNin (.str x) (.tup (l.map D.str)) h = .ok (.bl (!decide (x ∈ l))) h := by
  unfold opNin inG
  simp only [flatL_strs, show flatD (.str x) = some (.str x) from rfl, Option.bind_some, Option.map_some, inV_strs]
theorem opEq_none_int {i : Int} : opEq .non (.int i) h = .ok (.bl false) h := opEq_S rfl
/-! lists that change -/
theorem pop_ok {n : Nat} {es : List D} {x : D} (e : h[n]? = some (.lst (es ++ [x]))) : fPop (.ref n) [] h = .ok x (h.set n (.lst es)) := by
  unfold fPop
  simp only [lst?_of e]
  rw [show (es ++ [x])[(es ++ [x]).length - 1]? = some x by simp]
  simp
theorem ext_ok {n : Nat} {es fs : List D} {x : D} (e : h[n]? = some (.lst es)) (ex : seqG x h = some fs) (hz : es.length + fs.length ≤ 16777216) : fExtend (.ref n) [x] h = .ok .non (h.set n (.lst (es ++ fs))) := by
  unfold fExtend
  simp only [lst?_of e, ex, if_pos hz]
theorem app_ok {n : Nat} {es : List D} {x : D} (e : h[n]? = some (.lst es)) (hz : es.length < 16777216) : fAppend (.ref n) [x] h = .ok .non (h.set n (.lst (es ++ [x]))) := by
  unfold fAppend
  simp only [lst?_of e, if_pos hz]
theorem isTy_list {n : Nat} {es : List D} (e : h[n]? = some (.lst es)) : isTy "list" (.ref n) h = true := by rw [isTy_ref (lst?_of e)]; rfl
theorem tru_ref {n : Nat} {es : List D} (e : h[n]? = some (.lst es)) : truD (.ref n) h = .ok (!es.isEmpty) h := truD_ref (lst?_of e)
theorem ints_map (l : List Int) : intsL (l.map D.int) = some l := by
  induction l with
  | nil => rfl
  | cons x r ih => show (intsL (r.map _)).map _ = _; rw [ih]; rfl
theorem sum_ok {l : List Int} : fSum [.rol (l.map D.int)] h = .ok (.int l.sum) h := by
  unfold fSum
  simp only [lstD_rol, Option.bind_some, ints_map]
@[simp] theorem mgTup_tup {n : Nat} {gs : MGs} {ds : List D} : mgTup n gs (.tup ds) δ = if ds.length = n then gs ds δ else none := rfl
@[simp] theorem mgCons_cons {g : MG} {gs : MGs} {d : D} {ds : List D} : mgCons g gs (d :: ds) δ = (g d δ).bind fun δ' => gs ds δ' := rfl
@[simp] theorem mgNil_nil : mgNil [] δ = some δ := rfl
end
end MM

/-! sorted texts -/
namespace MM
open PySem PySem.Spec PyProof.Rows L2
def leS (a b : Str) : Bool := !ltCps b.cps.toList a.cps.toList
theorem leS_iff {a b : Str} : leS a b = true ↔ a.cps.toList ≤ b.cps.toList := by
  unfold leS
  rw [ltCps_eq]
  simp
theorem leS_trans (a b c : Str) (h1 : leS a b = true) (h2 : leS b c = true) : leS a c = true := leS_iff.mpr (List.le_trans (leS_iff.mp h1) (leS_iff.mp h2))
theorem leS_total (a b : Str) : (leS a b || leS b a) = true := by
  rw [Bool.or_eq_true]
  rcases List.le_total a.cps.toList b.cps.toList with h | h
  · exact .inl (leS_iff.mpr h)
  · exact .inr (leS_iff.mpr h)
theorem leS_anti {a b : Str} (h1 : leS a b = true) (h2 : leS b a = true) : a = b := by
  have := List.le_antisymm (leS_iff.mp h1) (leS_iff.mp h2)
  rw [tx_of a, tx_of b, this]
theorem rising_pw : ∀ (l : List Str) (p : Str), risingS p l = true → (p :: l).Pairwise (fun a b => leS a b = true)
  | [], p, _ => by simp
  | x :: r, p, h => by
    obtain ⟨h1, h2⟩ := andT (show (leS p x && risingS x r) = true from h)
    have ih := rising_pw r x h2
    rw [List.pairwise_cons]
    refine ⟨fun y hy => ?_, ih⟩
    rcases List.mem_cons.mp hy with rfl | hy
    · exact h1
    · exact leS_trans _ _ _ h1 ((List.pairwise_cons.mp ih).1 y hy)
theorem sorted_pw : ∀ {l : List Str}, sortedS l = true → l.Pairwise (fun a b => leS a b = true)
  | [], _ => .nil
  | x :: r, h => rising_pw r x h
theorem sorted_is {ks ys : List Str} (hp : ys.Perm ks) (hs : sortedS ys = true) : ys = ks.mergeSort leS :=
  List.Perm.eq_of_pairwise (fun a b _ _ h1 h2 => leS_anti h1 h2) (sorted_pw hs) (List.pairwise_mergeSort leS_trans leS_total ks) (hp.trans (List.mergeSort_perm ks leS).symm)
def strKeys : List Key → Option (List Str)
  | [] => some []
  | .inr s :: r => (strKeys r).map fun l => s :: l
  | .inl _ :: _ => none
theorem strKeys_ok : ∀ {ks : List Key} {l : List Str}, strKeys ks = some l → ks = l.map Sum.inr
  | [], _, e => by cases e; rfl
  | .inr s :: r, _, e => by
    obtain ⟨l, e1, rfl⟩ := Option.map_eq_some_iff.mp (show (strKeys r).map (fun l => s :: l) = some _ from e)
    rw [strKeys_ok e1]; rfl
  | .inl _ :: _, _, e => by cases e
def fSorted (ds : List D) (h : MH) : R D := match ds with
  | [.rdc ks _] => (match strKeys ks with
    | some l => if l.length < 64 then .ok (.rol ((l.mergeSort leS).map D.str)) h else .stuck
    | none => .stuck)
  | _ => .stuck
theorem fSorted_ok {K : PySem.W.Frag} : CallM K (fun xs H Q => ∃ (a : Addr) (kvs : List (Key × V)) (ks : List Str), xs = [.ref a] ∧ Rd H a (.dK kvs) ∧ kvs.map (·.1) = ks.map Sum.inr ∧ ks.length < 64 ∧
    ∀ ys p, ys.Perm ks → sortedS ys = true → H p = none → Q (.ref p) (upd H p (.lst (ys.map V.str)))) fSorted := by
  intro L H h ds vs Q E r w a
  unfold fSorted at a
  split at a
  · rename_i ks ds'
    obtain ⟨v, rfl, q⟩ := w.one
    split at a
    · rename_i l el
      split at a
      · rename_i hz
        unfold Rep at q
        obtain ⟨p, xs, rfl, s, n, z, w⟩ := q
        refine ⟨p, ks.zip xs, l, rfl, s, ?_, hz, fun ys p' hp hs hn => ?_⟩
        · rw [← strKeys_ok el]
          exact List.map_fst_zip (by rw [← w.length, z.1]; exact Nat.le_refl _)
        · rw [sorted_is hp hs]
          exact ans_of (rep_rol r hn (repL_strs _)) a
      · exact a.elim
    · exact a.elim
  · exact a.elim
/-! ### [a, *b] -/
def mStar (m : ME) (ms : MA) : MA := fun δ h => (m δ h).bnd fun d h1 => match seqG d h1 with
  | some ds => (ms δ h1).bnd fun es h2 => .ok (ds ++ es) h2
  | none => .stuck
theorem pam_star {X : Cx} {W : WX} {e : Expr} {es : List Expr} {me : ME} {mas : MA} {p : Pos} (ha : PEM X W e me) (hr : PAM X W es mas) : PAM X W (.Starred e p :: es) (mStar me mas) :=
  PA.imp (StX.pa_star ha hr) fun σ H Q ⟨L, h, δ, r, s, a⟩ => ⟨L, h, δ, r, s, Ans.imp (Ans.bind (rp := Rep X.K) a) fun v H1 ⟨L1, h1, d, x1, r1, p1, a1⟩ => by
    split at a1
    · rename_i ds e1
      obtain ⟨q, xs, rfl, sq, w⟩ := seqG_of r1 p1 e1
      exact ⟨q, xs, rfl, sq.symm, L1, h1, δ, r1, s.mono x1, Ans.imp (Ans.bind (rp := RepL X.K) a1) fun vs H2 ⟨L2, h2, es, x2, r2, p2, a2⟩ => a2 L2 H2 (xs ++ vs) (Ext.refl _ _) r2 ((w.mono x2).append p2)⟩
    · exact a1.elim⟩
/-! ### i ^ j -/
def opXor (x y : D) (h : MH) : R D := match x, y with
  | .int i, .int j => .ok (.int (Builtin.bitXor i j)) h
  | _, _ => .stuck
theorem opXor_ok {K : PySem.W.Frag} : OpM K (rI0 fun i j => .int (Builtin.bitXor i j)) opXor := by
  intro L H h dx dy x y Q E r px py a
  unfold opXor at a
  split at a
  · rename_i i j
    exact ⟨i, j, rep_int_inv px, rep_int_inv py, ans_okE r rep_int a⟩
  · exact a.elim
end MM

/-! dicts that change: made, read, written, walked under a lock -/
namespace MM
open PySem PySem.Spec PyProof.Rows L2
theorem _root_.L2.PS.or {X : Cx} {e : Stmt} {t t' : TS} (p : PS X e t) (p' : PS X e t') : PS X e (fun D σ H => t D σ H ∨ t' D σ H) := ⟨fun pins s σ H Q I q => q.elim (p.run pins s σ H Q I) (p'.run pins s σ H Q I)⟩
theorem _root_.L2.PE.or {X : Cx} {e : Expr} {t t' : TE} (p : PE X e t) (p' : PE X e t') : PE X e (fun σ H Q => t σ H Q ∨ t' σ H Q) := ⟨fun pins s σ H Q I q => q.elim (p.run pins s σ H Q I) (p'.run pins s σ H Q I)⟩
section
variable {K : PySem.W.Frag} {L L' : TL} {H H' H2 : Hp} {h h' : MH} {a p : Addr}
/-! ### reading as before -/
def RdM (H H2 : Hp) : Prop := ∀ b w, (∀ o u, w ≠ .frz o u) → Rd H b w → Rd H2 b w
mutual
theorem Rep.rdm (m : RdM H H2) : ∀ {d : D} {v : V}, Rep K L H d v → Rep K L H2 d v
  | .non, _, r => by unfold Rep at r ⊢; exact r
  | .bl _, _, r => by unfold Rep at r ⊢; exact r
  | .int _, _, r => by unfold Rep at r ⊢; exact r
  | .str _, _, r => by unfold Rep at r ⊢; exact r
  | .obj _, _, r => by unfold Rep at r ⊢; exact r
  | .ty _, _, r => by unfold Rep at r ⊢; exact r
  | .kon _, _, r => by unfold Rep at r ⊢; exact r
  | .ref _, _, r => by unfold Rep at r ⊢; exact r
  | .rdc ks ds, _, r => by
    unfold Rep at r ⊢
    obtain ⟨a, xs, e1, s, n, l, q⟩ := r
    exact ⟨a, xs, e1, m _ _ (by intro _ _ z; cases z) s, n, l, RepL.rdm m q⟩
  | .xo a d fl ds, _, r => by
    unfold Rep at r ⊢
    obtain ⟨e1, xs, s, n, l, q⟩ := r
    exact ⟨e1, xs, m _ _ (by intro _ _ z; cases z) s, n, l, RepL.rdm m q⟩
  | .tup ds, _, r => by
    unfold Rep at r ⊢
    obtain ⟨a, xs, e1, s, q⟩ := r
    refine ⟨a, xs, e1, ?_, RepL.rdm m q⟩
    rcases s with ⟨s, n⟩ | s
    · exact .inl ⟨m _ _ (by intro _ _ z; cases z) s, n⟩
    · exact .inr s
  | .rol ds, _, r => by
    unfold Rep at r ⊢
    obtain ⟨a, xs, e1, s, q⟩ := r
    refine ⟨a, xs, e1, ?_, RepL.rdm m q⟩
    rcases s with ⟨s, n⟩ | s
    · exact .inl ⟨m _ _ (by intro _ _ z; cases z) s, n⟩
    · exact .inr s
theorem RepL.rdm (m : RdM H H2) : ∀ {ds : List D} {vs : List V}, RepL K L H ds vs → RepL K L H2 ds vs
  | [], _, r => by rw [r.nil_inv]; exact .nil
  | d :: ds, _, r => by
    obtain ⟨v, vs, rfl, q, w⟩ := r.cons_inv
    exact .cons (Rep.rdm m q) (RepL.rdm m w)
end
theorem RepK.rdm (m : RdM H H2) : ∀ {ds : List (Key × D)} {vs}, RepK K L H ds vs → RepK K L H2 ds vs
  | [], _, r => r
  | d :: ds, _, ⟨v, vs, e1, q, w⟩ => ⟨v, vs, e1, q.rdm m, RepK.rdm m w⟩
theorem RepF.rdm (m : RdM H H2) : ∀ {ds : List (Str × D)} {vs}, RepF K L H ds vs → RepF K L H2 ds vs
  | [], _, r => r
  | d :: ds, _, ⟨v, vs, e1, q, w⟩ => ⟨v, vs, e1, q.rdm m, RepF.rdm m w⟩
theorem RepS.rdm {δ : MS} {σ : L2.St} (m : RdM H H2) (r : RepS K L H δ σ) : RepS K L H2 δ σ := ⟨r.len, fun i d e => let ⟨v, e1, q⟩ := r.at' i d e; ⟨v, e1, q.rdm m⟩⟩
theorem rdm_lock {u : HO} {o : Obj} (e : H a = some u) (nf : ∀ o w, u ≠ .frz o w) : RdM H (upd H a (.frz o u)) := fun b w nw r => by
  by_cases hb : b = a
  · subst hb
    rcases r with r | ⟨o', r⟩
    · rw [e] at r; cases r
      exact .inr ⟨o, upd_same⟩
    · rw [e] at r; exact absurd (Option.some.inj r) (nf _ _)
  · exact rd_ne r hb
theorem rdm_unlock {u : HO} {o : Obj} (e : H a = some (.frz o u)) : RdM H (upd H a u) := fun b w nw r => by
  by_cases hb : b = a
  · subst hb
    rcases r with r | ⟨o', r⟩
    · rw [e] at r; cases r
      exact absurd rfl (nw _ _)
    · rw [e] at r
      have : u = w := by injection r with r; injection r
      subst this
      exact .inl upd_same
  · exact rd_ne r hb
theorem OAt.rdm (m : RdM H H2) {l : Option (Option Addr)} {o : MO} (same : ∀ a, l = some (some a) → H2 a = H a) (q : OAt K L H l o) : OAt K L H2 l o := by
  cases o with
  | dead => exact q
  | lst ds => obtain ⟨b, xs, e1, e2, w⟩ := q; exact ⟨b, xs, e1, (same b e1).trans e2, w.rdm m⟩
  | dic ds => obtain ⟨b, xs, e1, e2, w⟩ := q; exact ⟨b, xs, e1, (same b e1).trans e2, w.rdm m⟩
  | ldc ds => obtain ⟨b, o, xs, e1, e2, w⟩ := q; exact ⟨b, o, xs, e1, (same b e1).trans e2, w.rdm m⟩
  | ins C ds => obtain ⟨b, dx, Ca, xs, e1, e2, w, hC⟩ := q; exact ⟨b, dx, Ca, xs, e1, (same b e1).trans e2, w.rdm m, hC⟩
theorem Rel.put (r : Rel K L H h) {n : Nat} {o : HO} {mo : MO} (en : L[n]? = some (some a)) (m : RdM H (upd H a o)) (q : OAt K L (upd H a o) (some (some a)) mo) : Rel K L (upd H a o) (h.set n mo) := by
  refine ⟨by rw [List.length_set]; exact r.len, fun k u e => ?_, r.inj⟩
  by_cases hk : n = k
  · subst hk
    rw [List.getElem?_set_self (r.ltL en)] at e
    cases e
    rw [en]; exact q
  · rw [List.getElem?_set_ne hk] at e
    exact (r.at' k u e).rdm m fun b eb => upd_ne fun z => hk (r.inj n k a en (by rw [← z]; exact eb))
theorem Rel.ldc {n : Nat} {ds} (r : Rel K L H h) (e : h[n]? = some (.ldc ds)) : ∃ a o xs, L[n]? = some (some a) ∧ H a = some (.frz o (.dK xs)) ∧ RepK K L H ds xs := r.at' n _ e
theorem Rel.lock (r : Rel K L H h) {n : Nat} {kvs} {ws : List (Key × V)} (en : L[n]? = some (some a)) (eH : H a = some (.dK ws)) (w : RepK K L H kvs ws) (od : Obj) :
    Ext L H L (upd H a (.frz od (.dK ws))) ∧ Rel K L (upd H a (.frz od (.dK ws))) (h.set n (.ldc kvs)) := by
  have m : RdM H (upd H a (.frz od (.dK ws))) := rdm_lock eH fun _ _ z => by cases z
  have nf : ∀ o u, H a ≠ some (.frz o u) := fun o u z => by rw [eH] at z; cases z
  exact ⟨ext_write en nf, r.put en m ⟨a, od, ws, rfl, upd_same, w.rdm m⟩⟩
theorem Rel.unlock (r : Rel K L' H' h') {n : Nat} {kvs' : List (Key × D)} {ws : List (Key × V)} {od : Obj} (en : L[n]? = some (some a)) (eH : H a = some (.dK ws)) (x : Ext L (upd H a (.frz od (.dK ws))) L' H') (e : h'[n]? = some (.ldc kvs')) :
    H' a = some (.frz od (.dK ws)) ∧ Ext L H L' (upd H' a (.dK ws)) ∧ Rel K L' (upd H' a (.dK ws)) (h'.set n (.dic kvs')) ∧ RdM H' (upd H' a (.dK ws)) := by
  have f := x.lkd a od (.dK ws) upd_same
  obtain ⟨a', o', ws', z1, z2, w⟩ := r.ldc e
  have ea : a' = a := by
    rcases x.live n _ en with z | z
    · rw [z1] at z; cases z; rfl
    · rw [z1] at z; cases z
  subst ea
  rw [f] at z2; cases z2
  have m : RdM H' (upd H' a' (.dK ws)) := rdm_unlock f
  refine ⟨f, ⟨x.live, fun b o e nb => ?_, fun b o u e => ?_⟩, r.put z1 m ⟨a', ws, rfl, upd_same, w.rdm m⟩, m⟩
  · have nba : b ≠ a' := fun z => nb n (by rw [z]; exact en)
    obtain ⟨g1, g2⟩ := x.kept b o (by rw [upd_ne nba]; exact e) nb
    exact ⟨by rw [upd_ne nba]; exact g1, g2⟩
  · have nba : b ≠ a' := fun z => by rw [z, eH] at e; cases e
    rw [upd_ne nba]
    exact x.lkd b o u (by rw [upd_ne nba]; exact e)
end
/-! ### a statement while a dict is walked -/
def unlk (n : Nat) (r : SR) : SR := match r with
  | .ok f h' => (match h'[n]? with
    | some (.ldc kvs) => .ok f (h'.set n (.dic kvs))
    | _ => .stuck)
  | r => r
def mLock (i : Nat) (m : MSt) : MSt := fun δ h => match δ[i]? with
  | some (some (.ref n)) => (match h[n]? with
    | some (.dic kvs) => unlk n (m δ (h.set n (.ldc kvs)))
    | _ => m δ h)
  | _ => m δ h
theorem psm_lock {X : Cx} {W : WX} {st : Stmt} {m : MSt} (i : Nat) (hb : PSM X W st m) : PSM X W st (mLock i m) := by
  refine PS.imp ((ps_lock hb).or hb) fun D σ H ⟨L, h, δ, r, s, q⟩ => ?_
  unfold mLock at q
  split at q
  · rename_i n ei
    split at q
    · rename_i kvs en
      obtain ⟨a, ws, e1, e2, w⟩ := r.dic en
      refine .inl ⟨a, .dK ws, e2, trivial, fun od => ?_⟩
      obtain ⟨x2, r2⟩ := r.lock e1 e2 w od
      refine ⟨L, _, δ, r2, s.mono x2, ?_⟩
      generalize m δ (h.set n (.ldc kvs)) = res at q
      cases res with
      | stuck => exact q
      | exc c fs δ' h' => exact fun L' H' σ' dx xs x' r' s' => q L' H' σ' dx xs (x2.trans x') r' s'
      | ok f h' =>
        unfold unlk at q
        simp only at q
        split at q
        · rename_i kvs' en'
          cases f with
          | next δ' => exact fun L' H' σ' x' r' s' => let ⟨f1, x3, r3, m3⟩ := r'.unlock e1 e2 x' en'; ⟨f1, q L' _ σ' x3 r3 (s'.rdm m3)⟩
          | ret d => exact fun L' H' σ' x' r' s' => let ⟨f1, x3, r3, m3⟩ := r'.unlock e1 e2 x' en'; ⟨f1, q L' _ σ' x3 r3 (s'.rdm m3)⟩
          | brk δ' => exact fun L' H' σ' x' r' s' => let ⟨f1, x3, r3, m3⟩ := r'.unlock e1 e2 x' en'; ⟨f1, q L' _ σ' x3 r3 (s'.rdm m3)⟩
          | cont δ' => exact fun L' H' σ' x' r' s' => let ⟨f1, x3, r3, m3⟩ := r'.unlock e1 e2 x' en'; ⟨f1, q L' _ σ' x3 r3 (s'.rdm m3)⟩
        · exact q.elim
    · exact .inr ⟨L, h, δ, r, s, q⟩
  · exact .inr ⟨L, h, δ, r, s, q⟩
/-! ### what is walked -/
def keyAt : Key → D
  | .inl i => .int i
  | .inr s => .str s
theorem rep_key {K L H} {k : Key} : Rep K L H (keyAt k) (kV k) := by
  cases k with
  | inl i => exact rep_int
  | inr s => exact rep_str
def ldc? (d : D) (h : MH) : Option (Nat × List (Key × D)) := match d with
  | .ref n => (match h[n]? with
    | some (.ldc kvs) => some (n, kvs)
    | _ => none)
  | _ => none
theorem ldc?_at {d : D} {h : MH} {n kvs} (e : ldc? d h = some (n, kvs)) : d = .ref n ∧ h[n]? = some (.ldc kvs) := by
  unfold ldc? at e
  split at e
  · split at e
    · rename_i z; cases e; exact ⟨rfl, z⟩
    · cases e
  · cases e
theorem RepK.get {K L H} : ∀ {ds : List (Key × D)} {vs} {i : Nat} {p : Key × V}, RepK K L H ds vs → vs[i]? = some p → ∃ d, ds[i]? = some (p.1, d) ∧ Rep K L H d p.2
  | [], _, _, _, r, e => by cases r; simp at e
  | d :: ds, _, 0, _, ⟨v, vs, ev, q, w⟩, e => by
    subst ev
    cases e
    exact ⟨d.2, rfl, q⟩
  | d :: ds, _, i + 1, _, ⟨v, vs, ev, q, w⟩, e => by
    subst ev
    exact RepK.get (i := i) w (by simpa using e)
def srcKeys (d : D) (h : MH) : R Src := match ldc? d h with
  | some (n, kvs) => .ok ⟨kvs.map fun p => keyAt p.1, fun h' => h'[n]? = some (.ldc kvs)⟩ h
  | none => .stuck
def mKeys (m : ME) : MI := fun δ h => (m δ h).bnd srcKeys
def srcVals (d : D) (h : MH) : R Src := match ldc? d h with
  | some (n, kvs) => .ok ⟨kvs.map fun p => p.2, fun h' => h'[n]? = some (.ldc kvs)⟩ h
  | none => .stuck
def mVals (m : ME) : MI := fun δ h => (m δ h).bnd srcVals
def srcItems (d : D) (h : MH) : R Src := match ldc? d h with
  | some (n, kvs) => .ok ⟨kvs.map fun p => .tup [keyAt p.1, p.2], fun h' => h'[n]? = some (.ldc kvs)⟩ h
  | none => .stuck
def mItems (m : ME) : MI := fun δ h => (m δ h).bnd srcItems
section
variable {X : Cx} {W : WX} {tg a : Expr} {ma : ME} {apos cpos : Pos}
theorem ldc_in {K : PySem.W.Frag} {L L' : TL} {H H' : Hp} {h h' : MH} {n : Nat} {kvs : List (Key × D)} {b : Addr} {o : Obj} {ws : List (Key × V)} (r' : Rel K L' H' h') (x : Ext L H L' H') (e1 : L[n]? = some (some b)) (e2 : H b = some (.frz o (.dK ws))) (e : h'[n]? = some (.ldc kvs)) :
    H' b = some (.frz o (.dK ws)) ∧ RepK K L' H' kvs ws := by
  have f := x.lkd b o _ e2
  obtain ⟨a', o', ws', z1, z2, w⟩ := r'.ldc e
  have ea : a' = b := by
    rcases x.live n _ e1 with z | z
    · rw [z1] at z; cases z; rfl
    · rw [z1] at z; cases z
  subst ea
  rw [f] at z2; cases z2
  exact ⟨f, w⟩
theorem tI_src {K : PySem.W.Frag} {W : WX} {ma : ME} {f : D → MH → R Src} {σ : L2.St} {H : Hp} {R : It → Hp → Prop} {G : VK} (hf : ∀ d h, (∃ S, f d h = .ok S h) ∨ f d h = .stuck) (q : tI K W (fun δ h => (ma δ h).bnd f) σ H R)
    (g : ∀ L' H' h' d v S, Rel K L' H' h' → Rep K L' H' d v → f d h' = .ok S h' → (∀ J, Trod K L' H' J S.ds S.g → R J H') → G v H') : tE K W ma σ H G := by
  obtain ⟨L, h, δ, r, s, q⟩ := q
  refine ⟨L, h, δ, r, s, ?_⟩
  replace q : AnsI K W σ L H ((ma δ h).bnd f) R := q
  generalize ma δ h = m at q
  cases m with
  | stuck => exact q.elim
  | exc c fs h1 => exact q
  | ok d h1 =>
    intro L' H' v x r' p
    rcases hf d h1 with ⟨S, e⟩ | e
    · rw [MM.R.bnd_ok, e] at q
      exact g L' H' h1 d v S r' p e fun J t => q L' H' J x r' t
    · rw [MM.R.bnd_ok, e] at q
      exact q.elim
theorem src_ldc {f : List (Key × D) → List D} {F : D → MH → R Src} (hF : ∀ d h, F d h = match ldc? d h with
  | some (n, kvs) => .ok ⟨f kvs, fun h' => h'[n]? = some (.ldc kvs)⟩ h
  | none => .stuck) : (∀ d h, (∃ S, F d h = .ok S h) ∨ F d h = .stuck) ∧ ∀ d h S, F d h = .ok S h → ∃ n kvs, d = .ref n ∧ h[n]? = some (.ldc kvs) ∧ S = ⟨f kvs, fun h' => h'[n]? = some (.ldc kvs)⟩ := by
  refine ⟨fun d h => ?_, fun d h S e => ?_⟩
  · rw [hF]
    cases ldc? d h with
    | some p => exact .inl ⟨_, rfl⟩
    | none => exact .inr rfl
  · rw [hF] at e
    cases z : ldc? d h with
    | some p =>
      obtain ⟨n, kvs⟩ := p
      rw [z] at e
      obtain ⟨e1, e2⟩ := ldc?_at z
      cases e
      exact ⟨n, kvs, e1, e2, rfl⟩
    | none => rw [z] at e; cases e
theorem pim_keys (ha : PEM X W a ma) : PIM X W tg a (mKeys ma) := by
  obtain ⟨h1, h2⟩ := src_ldc (f := fun kvs => kvs.map fun p => keyAt p.1) (F := srcKeys) (fun d h => rfl)
  refine PI.imp (pi_keys ha) fun σ H R q => tI_src h1 q fun L' H' h' d v S r' p e k => ?_
  obtain ⟨n, kvs, rfl, en, rfl⟩ := h2 _ _ _ e
  obtain ⟨b, o, ws, e1, e2, w⟩ := r'.ldc en
  refine ⟨b, o, p.ref e1, .inl ⟨ws, e2, k _ ⟨fun L2 H2 h2 i x2 r2 g2 hi => ?_, fun L2 H2 h2 x2 r2 g2 => ?_, fun L2 H2 h2 i x H3 x2 r2 g2 hi hy => ?_⟩⟩⟩
  · obtain ⟨f1, w1⟩ := ldc_in (h := h') r2 x2 e1 e2 g2
    exact ⟨f1, by rw [← w1.length]; simpa using hi⟩
  · obtain ⟨f1, w1⟩ := ldc_in (h := h') r2 x2 e1 e2 g2
    exact ⟨f1, by rw [← w1.length]; simp⟩
  · obtain ⟨f1, w1⟩ := ldc_in (h := h') r2 x2 e1 e2 g2
    obtain ⟨rfl, y, v, e5, rfl⟩ := hy
    obtain ⟨d, e6, _⟩ := w1.get e5
    exact ⟨Ext.refl _ _, r2, keyAt y, by rw [List.getElem?_map, e6]; rfl, rep_key⟩
theorem pim_vals (ha : PEM X W a ma) (hbase : attributeBase a "values" X.env (eval a X.env) = eval a X.env := by rfl) (hline : (apos.endLine == cpos.line) = true := by rfl) : PIM X W tg (.Call (.Attribute a "values" apos) [] [] cpos) (mVals ma) := by
  obtain ⟨h1, h2⟩ := src_ldc (f := fun kvs => kvs.map fun p => p.2) (F := srcVals) (fun d h => rfl)
  refine PI.imp (pi_values ha hbase hline) fun σ H R q => tI_src h1 q fun L' H' h' d v S r' p e k => ?_
  obtain ⟨n, kvs, rfl, en, rfl⟩ := h2 _ _ _ e
  obtain ⟨b, o, ws, e1, e2, w⟩ := r'.ldc en
  refine ⟨b, o, ws, p.ref e1, e2, k _ ⟨fun L2 H2 h2 i x2 r2 g2 hi => ?_, fun L2 H2 h2 x2 r2 g2 => ?_, fun L2 H2 h2 i x H3 x2 r2 g2 hi hy => ?_⟩⟩
  · obtain ⟨f1, w1⟩ := ldc_in (h := h') r2 x2 e1 e2 g2
    exact ⟨f1, by rw [← w1.length]; simpa using hi⟩
  · obtain ⟨f1, w1⟩ := ldc_in (h := h') r2 x2 e1 e2 g2
    exact ⟨f1, by rw [← w1.length]; simp⟩
  · obtain ⟨f1, w1⟩ := ldc_in (h := h') r2 x2 e1 e2 g2
    obtain ⟨rfl, y, e5⟩ := hy
    obtain ⟨d, e6, q6⟩ := w1.get e5
    exact ⟨Ext.refl _ _, r2, d, by rw [List.getElem?_map, e6]; rfl, q6⟩
theorem pim_items {elts : List Expr} {kk : Nat} {tpos : Pos} (ha : PEM X W a ma) (hbase : attributeBase a "items" X.env (eval a X.env) = eval a X.env := by rfl) (hline : (apos.endLine == cpos.line) = true := by rfl) : PIM X W (.Tuple elts kk tpos) (.Call (.Attribute a "items" apos) [] [] cpos) (mItems ma) := by
  obtain ⟨h1, h2⟩ := src_ldc (f := fun kvs => kvs.map fun p => .tup [keyAt p.1, p.2]) (F := srcItems) (fun d h => rfl)
  refine PI.imp (pi_items ha hbase hline) fun σ H R q => tI_src h1 q fun L' H' h' d v S r' p e k => ?_
  obtain ⟨n, kvs, rfl, en, rfl⟩ := h2 _ _ _ e
  obtain ⟨b, o, ws, e1, e2, w⟩ := r'.ldc en
  refine ⟨b, o, ws, p.ref e1, e2, k _ ⟨fun L2 H2 h2 i x2 r2 g2 hi => ?_, fun L2 H2 h2 x2 r2 g2 => ?_, fun L2 H2 h2 i x H3 x2 r2 g2 hi hy => ?_⟩⟩
  · obtain ⟨f1, w1⟩ := ldc_in (h := h') r2 x2 e1 e2 g2
    exact ⟨f1, by rw [← w1.length]; simpa using hi⟩
  · obtain ⟨f1, w1⟩ := ldc_in (h := h') r2 x2 e1 e2 g2
    exact ⟨f1, by rw [← w1.length]; simp⟩
  · obtain ⟨f1, w1⟩ := ldc_in (h := h') r2 x2 e1 e2 g2
    obtain ⟨T, y, z, e5, rfl, hT, rfl⟩ := hy
    obtain ⟨d, e6, q6⟩ := w1.get e5
    obtain ⟨x1, r1, q⟩ := rep_tup r2 hT (.cons rep_key (.cons q6 .nil))
    exact ⟨x1, r1, _, by rw [List.getElem?_map, e6]; rfl, q⟩
end
/-! ### new dicts -/
theorem rep_newD {K L H} {h : MH} {kvs} {ws : List (Key × V)} {p} (r : Rel K L H h) (hp : H p = none) (w : RepK K L H kvs ws) : Ext L H (L ++ [some p]) (upd H p (.dK ws)) ∧ Rel K (L ++ [some p]) (upd H p (.dK ws)) (h ++ [.dic kvs]) ∧ Rep K (L ++ [some p]) (upd H p (.dK ws)) (.ref h.length) (.ref p) := by
  obtain ⟨x, r'⟩ := r.alloc (m := .dic kvs) (o := .dK ws) hp ⟨p, ws, rfl, upd_same, w.mono (ext_alloc hp)⟩
  refine ⟨x, r', ?_⟩
  unfold Rep
  exact ⟨p, rfl, .inl (by rw [getElem?_snoc, if_pos r.len.symm])⟩
def mDicN : ME := fun _ h => .ok (.ref h.length) (h ++ [.dic []])
theorem pem_dicN {X : Cx} {W : WX} {pos : Pos} : PEM X W (.Dict [] [] pos) mDicN :=
  PE.imp pe_dnewK fun σ H Q ⟨L, h, δ, r, s, a⟩ p hp => ans_of (rep_newD r hp (show RepK X.K L H [] [] from rfl)) a
/-- {k: v, ..}, to be changed -/
def mDispN (m : MPr) : ME := fun δ h => (m δ (h ++ [.dic []])).bnd fun ps h1 => match keysD (ps.map (·.1)), dic? h1 h.length with
  | some ks, some [] => if ks.Nodup ∧ ks.length ≤ 15 then .ok (.ref h.length) (h1.set h.length (.dic (ks.zip (ps.map (·.2))))) else .stuck
  | _, _ => .stuck
theorem pem_dispN {X : Cx} {W : WX} {pos : Pos} {keys : List (Option Expr)} {values : List Expr} {m : MPr} (h : PPM X W pos keys values m) (hall : keys.all (·.isSome) = true) (hl : keys.length = values.length) (h0 : keys ≠ [])
    (h15 : keys.length ≤ 15) : PEM X W (.Dict keys values pos) (mDispN m) := by
  obtain ⟨trs, pp, f⟩ := h
  refine PE.imp (pe_disp pp hall hl h0 h15) fun σ H Q ⟨L, h, δ, r, s, a⟩ p hp => ?_
  obtain ⟨x0, r0, q0⟩ := rep_newD (kvs := []) (ws := []) r hp (show RepK X.K L H [] [] from rfl)
  have at0 : (L ++ [some p])[h.length]? = some (some p) := by rw [getElem?_snoc, if_pos r.len.symm]
  refine f σ (upd H p (.dK [])) _ ⟨_, _, δ, r0, s.mono x0, ?_⟩
  have a' := a
  unfold mDispN at a'
  generalize m δ (h ++ [.dic []]) = res at a'
  cases res with
  | stuck => exact a'.elim
  | exc c fs h1 => exact fun L2 H2 dx xs x2 => a' L2 H2 dx xs (x0.trans x2)
  | ok ds h2 =>
    intro L2 H2 qs x2 r2 p2
    rw [R.bnd_ok] at a'
    split at a'
    · rename_i ks ek ed
      split at a'
      · rename_i z
        obtain ⟨p', ws', z1, z2, w⟩ := r2.dic (dic?_at ed)
        have ep : p' = p := by
          rcases x2.live _ _ at0 with y | y
          · rw [z1] at y; cases y; rfl
          · rw [z1] at y; cases y
        subst ep
        cases w
        have e3 := keysD_ok p2.1 ek
        have e4 := zip_fst_snd qs ks e3
        have lk : ks.length = qs.length := by
          have := congrArg List.length e3
          simpa using this.symm
        have kz : (ks.zip (qs.map (·.2))).map (·.1) = ks := by
          rw [List.map_fst_zip]
          rw [List.length_map]; omega
        refine ⟨z2, ks.zip (qs.map (·.2)), e4, by rw [List.length_zip, List.length_map]; omega, ?_⟩
        rw [mergeK_nd _ [] (by rw [List.nil_append, kz]; exact z.1), List.nil_append]
        have nf : ∀ o u, H2 p' ≠ some (.frz o u) := fun o u y => by rw [z2] at y; cases y
        obtain ⟨x3, r3⟩ := r2.write (o := .dK (ks.zip (qs.map (·.2)))) (m := .dic (ks.zip (ds.map (·.2)))) z1 nf ⟨p', _, rfl, upd_same, (repK_zip p2.2).mono (ext_write z1 nf)⟩
        refine a' L2 _ _ (x0.trans (x2.trans x3)) r3 ?_
        unfold Rep
        exact ⟨p', rfl, .inl z1⟩
      · exact a'.elim
    · exact a'.elim
/-! ### stores -/
def putD (kvs : List (Key × D)) (k : Key) (d : D) : List (Key × D) := if (kvs.any fun p => decide (p.1 = k)) = true then kvs.map fun p => if p.1 = k then (p.1, d) else p else kvs ++ [(k, d)]
theorem repK_put {K L H} {k : Key} {d : D} {v : V} (q : Rep K L H d v) {kvs : List (Key × D)} {ws : List (Key × V)} (w : RepK K L H kvs ws) : RepK K L H (putD kvs k d) (putK ws k v) := by
  have any : ∀ {kvs : List (Key × D)} {ws : List (Key × V)}, RepK K L H kvs ws → (kvs.any fun p => decide (p.1 = k)) = ws.any fun p => decide (p.1 = k) := fun {kvs} => by
    induction kvs with
    | nil => intro ws w; cases w; rfl
    | cons p r ih => intro ws ⟨u, us, e, q, w⟩; subst e; rw [List.any_cons, List.any_cons, ih w]
  have mp : ∀ {kvs : List (Key × D)} {ws : List (Key × V)}, RepK K L H kvs ws → RepK K L H (kvs.map fun p => if p.1 = k then (p.1, d) else p) (ws.map fun p => if p.1 = k then (p.1, v) else p) := fun {kvs} => by
    induction kvs with
    | nil => intro ws w; cases w; exact rfl
    | cons p r ih =>
      intro ws ⟨u, us, e, q', w⟩; subst e
      by_cases hk : p.1 = k
      · refine ⟨v, _, ?_, ?_, ih w⟩
        · simp [hk]
        · simp [hk]; exact q
      · refine ⟨u, _, ?_, ?_, ih w⟩
        · simp [hk]
        · simp [hk]; exact q'
  have app : ∀ {kvs : List (Key × D)} {ws : List (Key × V)}, RepK K L H kvs ws → RepK K L H (kvs ++ [(k, d)]) (ws ++ [(k, v)]) := fun {kvs} => by
    induction kvs with
    | nil => intro ws w; cases w; exact ⟨v, [], rfl, q, rfl⟩
    | cons p r ih => intro ws ⟨u, us, e, q', w⟩; subst e; exact ⟨u, _, rfl, q', ih w⟩
  unfold putD putK
  rw [any w]
  split
  · exact mp w
  · exact app w
def setG2 (o i d : D) (h : MH) : Option MH := match o with
  | .ref n => (match h[n]? with
    | some (.dic kvs) => (keyD i).bind fun k => if kvs.length < 16777216 then some (h.set n (.dic (putD kvs k d))) else none
    | _ => setG o i d h)
  | _ => none
def mSetIx2 (m mo mi : ME) : MSt := fun δ h => (m δ h).st δ fun d h1 => (mo δ h1).st δ fun o h2 => (mi δ h2).st δ fun i h3 => match setG2 o i d h3 with
  | some h4 => .ok (.next δ) h4
  | none => .stuck
theorem _root_.L2.PSet.or {X : Cx} {t t' : TSet} (p : PSet X t) (p' : PSet X t') : PSet X (fun o i v H Q => t o i v H Q ∨ t' o i v H Q) :=
  fun pins s σ H o i v ov iv u Q I ro ri rv q => q.elim (p pins s σ H o i v ov iv u Q I ro ri rv) (p' pins s σ H o i v ov iv u Q I ro ri rv)
theorem setG2_ok {K : PySem.W.Frag} {L H} {h h' : MH} {o i d : D} {vo vi v : V} {Q : Hp → Prop} (r : Rel K L H h) (po : Rep K L H o vo) (pi : Rep K L H i vi) (p : Rep K L H d v) (e : setG2 o i d h = some h')
    (k : ∀ H', Ext L H L H' → Rel K L H' h' → Q H') : rSetL vo vi v H Q ∨ rSetD vo vi v H Q := by
  unfold setG2 at e
  split at e
  · rename_i n
    split at e
    · rename_i kvs en
      obtain ⟨y, e1, e2⟩ := Option.bind_eq_some_iff.mp e
      split at e2
      · rename_i hz
        cases e2
        obtain ⟨a, ws, z1, z2, w⟩ := r.dic en
        have nf : ∀ o u, H a ≠ some (.frz o u) := fun o u z => by rw [z2] at z; cases z
        obtain ⟨x1, r1⟩ := r.write (o := .dK (putK ws y v)) (m := .dic (putD kvs y d)) z1 nf ⟨a, _, rfl, upd_same, (repK_put p w).mono (ext_write z1 nf)⟩
        exact .inr ⟨a, _, po.ref z1, .inl ⟨ws, y, z2, keyD_ok pi e1, by rw [sizeLine_eq, ← w.length]; exact hz, rfl⟩, k _ x1 r1⟩
      · cases e2
    · exact .inl (setG_ok r po pi p e k)
  · cases e
section
variable {X : Cx} {W : WX} {pos : Pos} {e o i : Expr} {me mo mi : ME}
theorem psm_setIx2 {tpos : Pos} (hu : X.A.units + 64 < cLine) (he : PEM X W e me) (ho : PEM X W o mo) (hi : PEM X W i mi)
    (ha : ∀ v, assign (.Subscript o i tpos) X.env v = (do
      let ov ← holding [v] (eval o X.env)
      let iv ← holding [v, ov] (eval i X.env)
      standAt tpos
      holding [v, ov, iv] (setItem ov iv v)
      release [v, ov, iv] []) := by intro _; rfl)
    (hs : swapsWithSole [.Subscript o i tpos] e pos.line X.env = pure false := by rfl) (hw : swappedStores [.Subscript o i tpos] e X.env = pure none := by rfl) (h1 : (assignEach [.Subscript o i tpos] X.env).map (·.2) = [assign (.Subscript o i tpos) X.env] := by rfl) :
    PSM X W (.Assign [.Subscript o i tpos] e pos) (mSetIx2 me mo mi) :=
  PS.imp (ps_asg he (pg_sub ho hi (set_list.or (set_dict (by omega))) ha) hs hw h1) fun D σ H ⟨L, h, δ, r, s, a⟩ => ⟨L, h, δ, r, s, Ans.imp (AnsS.bind (rp := Rep X.K) s a) fun v H1 ⟨L1, h1, d, x1, r1, p1, s1, a1⟩ =>
    ⟨L1, h1, δ, r1, s1, Ans.imp (AnsS.bind (rp := Rep X.K) s1 a1) fun vo H2 ⟨L2, h2, d2, x2, r2, p2, s2, a2⟩ => ⟨L2, h2, δ, r2, s2, Ans.imp (AnsS.bind (rp := Rep X.K) s2 a2) fun vi H3 ⟨L3, h3, d3, x3, r3, p3, s3, a3⟩ => by
      cases eg : setG2 d2 d3 d h3 with
      | none => rw [eg] at a3; exact a3.elim
      | some h4 =>
        simp only [eg] at a3
        exact setG2_ok r3 (p2.mono x3) p3 (p1.mono (x2.trans x3)) eg fun H' x r' => (a3.mono x).nx r' (s3.mono x)⟩⟩⟩
end
/-! ### k in d -/
def dicR (d : D) (h : MH) : Option (List (Key × D)) := match d with
  | .rdc ks ds => some (ks.zip ds)
  | .ref n => (match h[n]? with
    | some (.dic kvs) => some kvs
    | some (.ldc kvs) => some kvs
    | _ => none)
  | _ => none
theorem dicR_ok {K : PySem.W.Frag} {L H} {h : MH} {d : D} {x : V} {kvs} (r : Rel K L H h) (p : Rep K L H d x) (e : dicR d h = some kvs) : ∃ a ws, x = .ref a ∧ Rd H a (.dK ws) ∧ RepK K L H kvs ws := by
  unfold dicR at e
  split at e
  · cases e
    unfold Rep at p
    obtain ⟨a, xs, rfl, s, n, l, w⟩ := p
    exact ⟨a, _, rfl, s, repK_zip w⟩
  · split at e
    · rename_i z
      cases e
      obtain ⟨a, ws, z1, z2, w⟩ := r.dic z
      exact ⟨a, ws, p.ref z1, .inl z2, w⟩
    · rename_i z
      cases e
      obtain ⟨a, o, ws, z1, z2, w⟩ := r.ldc z
      exact ⟨a, ws, p.ref z1, .inr ⟨o, z2⟩, w⟩
    · cases e
  · cases e
def hasD (kvs : List (Key × D)) (k : Key) : Bool := (valD kvs k).isSome
theorem repO_some {K L H o w} (r : RepO K L H o w) : o.isSome = w.isSome := by
  cases o with
  | some d => obtain ⟨v, rfl, _⟩ := r; rfl
  | none => cases r; rfl
def inG2 (x y : D) (h : MH) : Option Bool := match dicR y h with
  | some kvs => (keyD x).map fun k => hasD kvs k
  | none => inG x y h
def opIn2 (x y : D) (h : MH) : R D := match inG2 x y h with
  | some b => .ok (.bl b) h
  | none => .stuck
def opNin2 (x y : D) (h : MH) : R D := match inG2 x y h with
  | some b => .ok (.bl (!b)) h
  | none => .stuck
def rInD (no : Bool) : R2 := fun x y H Q => ∃ a o, y = .ref a ∧ DGet H a x o ∧ Q (.bl (no != o.isSome)) H
theorem op_inD {X : Cx} (hu : X.A.units + 64 < cLine) : OpR X (compareOp .In) (rInD false) := by
  intro pins s σ H x y v u Q I rx ry h
  obtain ⟨a, o, rfl, g, q⟩ := h
  cases (show u = Value.ref a from ry)
  exact d_in (by omega) I g rx fun s' I' => ⟨.bl o.isSome, H, I', rfl, by simpa using q⟩
theorem op_ninD {X : Cx} (hu : X.A.units + 64 < cLine) : OpR X (compareOp .NotIn) (rInD true) := by
  intro pins s σ H x y v u Q I rx ry h
  obtain ⟨a, o, rfl, g, q⟩ := h
  cases (show u = Value.ref a from ry)
  exact d_notIn (by omega) I g rx fun s' I' => ⟨.bl (!o.isSome), H, I', rfl, by simpa using q⟩
def rIn3 (K : PySem.W.Frag) : R2 := fun x y H Q => rInD false x y H Q ∨ rIn2 K x y H Q
def rNin3 (K : PySem.W.Frag) : R2 := fun x y H Q => rInD true x y H Q ∨ rNin2 K x y H Q
theorem op_in3 {X : Cx} (hu : X.A.units + 64 < cLine) : OpR X (compareOp .In) (rIn3 X.K) := (op_inD hu).or op_in2
theorem op_nin3 {X : Cx} (hu : X.A.units + 64 < cLine) : OpR X (compareOp .NotIn) (rNin3 X.K) := (op_ninD hu).or op_nin2
theorem inG2_ok {K : PySem.W.Frag} {L H} {h : MH} {dx dy x y b} (r : Rel K L H h) (px : Rep K L H dx x) (py : Rep K L H dy y) (e : inG2 dx dy h = some b) : (∃ a o, y = .ref a ∧ DGet H a x o ∧ o.isSome = b) ∨ inG dx dy h = some b := by
  unfold inG2 at e
  split at e
  · rename_i kvs ed
    obtain ⟨k, e1, rfl⟩ := Option.map_eq_some_iff.mp e
    obtain ⟨a, ws, rfl, rd, w⟩ := dicR_ok r py ed
    exact .inl ⟨a, _, rfl, .inl ⟨ws, k, rd, keyD_ok px e1, rfl⟩, (repO_some (repO_K w)).symm⟩
  · exact .inr e
theorem opIn2_ok {K : PySem.W.Frag} : OpM K (rIn3 K) opIn2 := by
  intro L H h dx dy x y Q E r px py a
  unfold opIn2 at a
  split at a
  · rename_i b e
    rcases inG2_ok r px py e with ⟨p, o, rfl, g, eb⟩ | e
    · exact .inl ⟨p, o, rfl, g, by rw [eb]; simpa using ans_okE r rep_bl a⟩
    · exact .inr (opIn_ok L H h dx dy x y Q E r px py (by unfold opIn; rw [e]; exact a))
  · exact a.elim
theorem opNin2_ok {K : PySem.W.Frag} : OpM K (rNin3 K) opNin2 := by
  intro L H h dx dy x y Q E r px py a
  unfold opNin2 at a
  split at a
  · rename_i b e
    rcases inG2_ok r px py e with ⟨p, o, rfl, g, eb⟩ | e
    · exact .inl ⟨p, o, rfl, g, by rw [eb]; simpa using ans_okE r rep_bl a⟩
    · exact .inr (opNin_ok L H h dx dy x y Q E r px py (by unfold opNin; rw [e]; exact a))
  · exact a.elim
/-! ### sorted, max, min, int -/
def leI (a b : Int) : Bool := decide (a ≤ b)
theorem leI_trans (a b c : Int) (h1 : leI a b = true) (h2 : leI b c = true) : leI a c = true := decide_eq_true (Int.le_trans (of_decide_eq_true h1) (of_decide_eq_true h2))
theorem leI_total (a b : Int) : (leI a b || leI b a) = true := by
  have := Int.le_total a b
  simp only [leI, Bool.or_eq_true, decide_eq_true_eq]; exact this
theorem sortedI_is {ks ys : List Int} (hp : ys.Perm ks) (hs : ys.Pairwise (· ≤ ·)) : ys = ks.mergeSort leI :=
  List.Perm.eq_of_pairwise (le := fun a b => leI a b = true) (fun a b _ _ h1 h2 => Int.le_antisymm (of_decide_eq_true h1) (of_decide_eq_true h2)) (hs.imp fun h => decide_eq_true h)
    (List.pairwise_mergeSort leI_trans leI_total ks) (hp.trans (List.mergeSort_perm ks leI).symm)
def fSorted2 (ds : List D) (h : MH) : R D := match ds with
  | [.rdc ks es] => fSorted [.rdc ks es] h
  | [d] => (match (lstD d h).bind intsL with | some bs => .ok (.rol ((bs.mergeSort leI).map D.int)) h | none => .stuck)
  | _ => .stuck
def rSort2 (K : PySem.W.Frag) : List V → Hp → VK → Prop := fun xs H Q => (∃ (a : Addr) (kvs : List (Key × V)) (ks : List Str), xs = [.ref a] ∧ Rd H a (.dK kvs) ∧ kvs.map (·.1) = ks.map Sum.inr ∧ ks.length < 64 ∧
    ∀ ys p, ys.Perm ks → sortedS ys = true → H p = none → Q (.ref p) (upd H p (.lst (ys.map V.str)))) ∨ rSortedI K xs H Q
theorem call_sorted2 {X : Cx} (hc : X.calm = true) : CallR X (.builtin "sorted") (rSort2 X.K) := (call_sortedD hc).or cr_sortedI
theorem fSorted2_ok {K : PySem.W.Frag} : CallM K (rSort2 K) fSorted2 := by
  intro L H h ds vs Q E r w a
  unfold fSorted2 at a
  split at a
  · exact .inl (fSorted_ok L H h _ vs Q E r w a)
  · rename_i d nd
    obtain ⟨v, rfl, q⟩ := w.one
    cases e : (lstD d h).bind intsL with
    | none => rw [e] at a; exact a.elim
    | some bs =>
      simp only [e] at a
      obtain ⟨es, e1, e2⟩ := Option.bind_eq_some_iff.mp e
      obtain ⟨p, xs, rfl, s, w2⟩ := lstD_of r q e1
      rw [intsL_ok w2 e2] at s
      refine .inr ⟨p, bs, rfl, s, fun ys p' hp hs hn => ?_⟩
      rw [sortedI_is hp hs]
      exact ans_of (rep_rol r hn (repL_ints _)) a
  · exact a.elim
def fMax2 (ds : List D) (h : MH) : R D := match ds with
  | [.int i, .int j] => .ok (.int (if j > i then j else i)) h
  | _ => .stuck
theorem fMax2_ok {K : PySem.W.Frag} : CallM K (fun xs H Q => ∃ i j, xs = [.int i, .int j] ∧ Q (.int (if j > i then j else i)) H) fMax2 := by
  intro L H h ds vs Q E r w a
  unfold fMax2 at a
  split at a
  · obtain ⟨v, u, rfl, q1, q2⟩ := w.two
    exact ⟨_, _, by rw [rep_int_inv q1, rep_int_inv q2], ans_okE r rep_int a⟩
  · exact a.elim
def fMin2 (ds : List D) (h : MH) : R D := match ds with
  | [.int i, .int j] => .ok (.int (if j < i then j else i)) h
  | _ => .stuck
theorem fMin2_ok {K : PySem.W.Frag} : CallM K (fun xs H Q => ∃ i j, xs = [.int i, .int j] ∧ Q (.int (if j < i then j else i)) H) fMin2 := by
  intro L H h ds vs Q E r w a
  unfold fMin2 at a
  split at a
  · obtain ⟨v, u, rfl, q1, q2⟩ := w.two
    exact ⟨_, _, by rw [rep_int_inv q1, rep_int_inv q2], ans_okE r rep_int a⟩
  · exact a.elim
end MM

/-! what a plain function gives, told from its end: a calculus of ends -/
namespace MM
open PySem PySem.Spec PyProof.Rows L2
abbrev XP := Str → List (Str × D) → MH → Prop
abbrev XPS := Str → List (Str × D) → MS → MH → Prop
def NoX : XP := fun _ _ _ => False
def XP.s (E : XP) : XPS := fun c fs _ h => E c fs h
/-- that what is wanted is not looked into while what is run is reckoned -/
structure Tg {α : Type} (P : α → MH → Prop) (E : XP) : Type where
structure TgS (P : Fl → MH → Prop) (E : XPS) : Type where
def Tm {α : Type} (r : R α) (P : α → MH → Prop) (E : XP) (_u : Tg P E := ⟨⟩) : Prop := match r with
  | .ok a h => P a h
  | .exc c fs h => E c fs h
  | .stuck => False
def TmS (r : SR) (P : Fl → MH → Prop) (E : XPS) (_u : TgS P E := ⟨⟩) : Prop := match r with
  | .ok a h => P a h
  | .exc c fs δ h => E c fs δ h
  | .stuck => False
section
variable {α β : Type} {r : R α} {f : α → MH → R β} {P : α → MH → Prop} {Q : β → MH → Prop} {E : XP} {PS' : Fl → MH → Prop} {ES : XPS} {δ : MS} {h : MH}
@[simp] theorem Tm_ok {a : α} : Tm (.ok a h) P E ↔ P a h := Iff.rfl
@[simp] theorem Tm_exc {c fs} : Tm (.exc c fs h : R α) P E ↔ E c fs h := Iff.rfl
@[simp] theorem Tm_stuck : Tm (.stuck : R α) P E ↔ False := Iff.rfl
@[simp] theorem Tm_bnd : Tm (r.bnd f) Q E ↔ Tm r (fun a h => Tm (f a h) Q E) E := by cases r <;> rfl
@[simp] theorem TmS_ok {a : Fl} : TmS (.ok a h) PS' ES ↔ PS' a h := Iff.rfl
@[simp] theorem TmS_exc {c fs} : TmS (.exc c fs δ h) PS' ES ↔ ES c fs δ h := Iff.rfl
@[simp] theorem TmS_stuck : TmS (.stuck) PS' ES ↔ False := Iff.rfl
@[simp] theorem TmS_st {k : α → MH → SR} : TmS (r.st δ k) PS' ES ↔ Tm r (fun a h => TmS (k a h) PS' ES) (fun c fs h => ES c fs δ h) := by cases r <;> rfl
def SeqP (k : MSt) (P : Fl → MH → Prop) (E : XPS) : Fl → MH → Prop := fun f h => match f with
  | .next δ => TmS (k δ h) P E
  | f => P f h
@[simp] theorem SeqP_next {k : MSt} : SeqP k PS' ES (.next δ) h ↔ TmS (k δ h) PS' ES := Iff.rfl
@[simp] theorem SeqP_ret {k : MSt} {d : D} : SeqP k PS' ES (.ret d) h ↔ PS' (.ret d) h := Iff.rfl
@[simp] theorem SeqP_brk {k : MSt} : SeqP k PS' ES (.brk δ) h ↔ PS' (.brk δ) h := Iff.rfl
@[simp] theorem SeqP_cont {k : MSt} : SeqP k PS' ES (.cont δ) h ↔ PS' (.cont δ) h := Iff.rfl
@[simp] theorem TmS_seq {s : SR} {k : MSt} : TmS (s.seq k) PS' ES ↔ TmS s (SeqP k PS' ES) ES := by
  cases s with
  | ok f h => cases f <;> rfl
  | exc _ _ _ _ => rfl
  | stuck => rfl
theorem Tm.imp {P' : α → MH → Prop} (t : Tm r P E) (g : ∀ a h, P a h → P' a h) : Tm r P' E := by
  cases r with
  | ok a h => exact g _ _ t
  | exc _ _ _ => exact t
  | stuck => exact t
theorem Tm.impX {P' : α → MH → Prop} {E' : XP} (t : Tm r P E) (g : ∀ a h, P a h → P' a h) (gx : ∀ c fs h, E c fs h → E' c fs h) : Tm r P' E' := by
  cases r with
  | ok a h => exact g _ _ t
  | exc _ _ _ => exact gx _ _ _ t
  | stuck => exact t
/-- what raises nothing, where what is raised is looked at -/
theorem Tm.use {P' : α → MH → Prop} {E' : XP} (t : Tm r P NoX) (g : ∀ a h, P a h → P' a h) : Tm r P' E' := t.impX g fun _ _ _ z => z.elim
theorem TmS.imp {s : SR} {P' : Fl → MH → Prop} (t : TmS s PS' ES) (g : ∀ a h, PS' a h → P' a h) : TmS s P' ES := by
  cases s with
  | ok a h => exact g _ _ t
  | exc _ _ _ _ => exact t
  | stuck => exact t
theorem Tm.ex (t : Tm r P NoX) : ∃ a h, r = .ok a h ∧ P a h := by
  cases r with
  | ok a h => exact ⟨a, h, rfl, t⟩
  | exc _ _ _ => exact t.elim
  | stuck => exact t.elim
theorem Tm.of {a : α} {h' : MH} (e : r = .ok a h') (p : P a h') : Tm r P E := by rw [e]; exact p
@[simp] theorem Tm_ite {c : Prop} [Decidable c] {a b : R α} : Tm (if c then a else b) P E ↔ if c then Tm a P E else Tm b P E := by split <;> rfl
@[simp] theorem TmS_ite {c : Prop} [Decidable c] {a b : SR} : TmS (if c then a else b) PS' ES ↔ if c then TmS a PS' ES else TmS b PS' ES := by split <;> rfl
/-! ### defs -/
def EndP (h : MH) (P : D → MH → Prop) : Fl → MH → Prop := fun f h' => match f with
  | .ret d => (LeftOf h h' ∧ d.lows h.length = true) ∧ P d (h'.take h.length)
  | .next _ => LeftOf h h' ∧ P .non (h'.take h.length)
  | _ => False
def EndX (h : MH) (E : XP) : XPS := fun c fs _ h' => (LeftOf h h' ∧ (fs.all fun p => p.2.lows h.length) = true) ∧ E c fs (h'.take h.length)
theorem Tm_fn {n N : Nat} {ms : MSt} {ds : List D} {P : D → MH → Prop} (e : ds.length = n) (t : TmS (ms (mStart N ds) h) (EndP h P) (EndX h E)) : Tm (mFn n N ms ds h) P E := by
  rw [mFn_eq e]
  generalize ms (mStart N ds) h = s at t
  cases s with
  | stuck => exact t
  | exc c fs δ' h' =>
    show Tm (leaveX h c fs h') P E
    unfold leaveX
    rw [if_pos t.1]
    exact t.2
  | ok f h' =>
    cases f with
    | ret d =>
      show Tm (leave h d h') P E
      rw [leave_eq t.1.1 t.1.2]
      exact t.2
    | next _ =>
      show Tm (leave h .non h') P E
      rw [leave_eq t.1 rfl]
      exact t.2
    | brk _ => exact t
    | cont _ => exact t
/-- .. that hands a new thing back -/
def EndPN (P : D → MH → Prop) : Fl → MH → Prop := fun f h' => match f with
  | .ret d => P d h'
  | .next _ => P .non h'
  | _ => False
theorem Tm_fnN {n N : Nat} {ms : MSt} {ds : List D} {P : D → MH → Prop} (e : ds.length = n) (t : TmS (ms (mStart N ds) h) (EndPN P) (fun c fs _ h => E c fs h)) : Tm (mFnN n N ms ds h) P E := by
  rw [mFnN_eq e]
  generalize ms (mStart N ds) h = s at t
  cases s with
  | stuck => exact t
  | exc c fs δ' h' => exact t
  | ok f h' => cases f <;> exact t
/-! ### loops -/
theorem TmS_for {g : MH → Prop} {tgt : MG} {body : MSt} (I : List D → MS → MH → Prop) (hg : ∀ ds δ h, I ds δ h → g h)
    (step : ∀ x r δ h, I (x :: r) δ h → ∃ δ1, tgt x δ = some δ1 ∧ TmS (body δ1 h) (fun f h2 => match f with | .next δ2 => I r δ2 h2 | .cont δ2 => I r δ2 h2 | .brk δ2 => PS' (.next δ2) h2 | .ret d => PS' (.ret d) h2) ES)
    (fin : ∀ δ h, I [] δ h → PS' (.next δ) h) {ds : List D} {δ : MS} {h : MH} (i : I ds δ h) : TmS (forM g tgt body ds δ h) PS' ES := by
  refine forM_ind (Post := fun r => TmS r PS' ES) I (fun δ h i => ⟨hg _ _ _ i, fin _ _ i⟩) (fun x r δ h i => ⟨hg _ _ _ i, ?_⟩) i
  obtain ⟨δ1, e1, t⟩ := step x r δ h i
  refine ⟨δ1, e1, ?_⟩
  generalize body δ1 h = s at t
  cases s with
  | stuck => exact t.elim
  | exc c fs δ' h' => exact .inr (.inr (.inr (.inr ⟨c, fs, δ', h', rfl, t⟩)))
  | ok f h' =>
    cases f with
    | next δ2 => exact .inl ⟨δ2, h', rfl, t⟩
    | cont δ2 => exact .inr (.inl ⟨δ2, h', rfl, t⟩)
    | brk δ2 => exact .inr (.inr (.inl ⟨δ2, h', rfl, t⟩))
    | ret d => exact .inr (.inr (.inr (.inl ⟨d, h', rfl, t⟩)))
/-- a body that always goes on -/
def Nx (I : MS → MH → Prop) : Fl → MH → Prop := fun f h => ∃ δ, f = .next δ ∧ I δ h
@[simp] theorem Nx_next {I : MS → MH → Prop} : Nx I (.next δ) h ↔ I δ h := ⟨fun ⟨_, e, i⟩ => by cases e; exact i, fun i => ⟨_, rfl, i⟩⟩
theorem TmS_forN {g : MH → Prop} {tgt : MG} {body : MSt} (I : List D → MS → MH → Prop) (hg : ∀ ds δ h, I ds δ h → g h)
    (step : ∀ x r δ h, I (x :: r) δ h → ∃ δ1, tgt x δ = some δ1 ∧ TmS (body δ1 h) (Nx (I r)) ES)
    (fin : ∀ δ h, I [] δ h → PS' (.next δ) h) {ds : List D} {δ : MS} {h : MH} (i : I ds δ h) : TmS (forM g tgt body ds δ h) PS' ES :=
  TmS_for I hg (fun x r δ h i => let ⟨δ1, e1, t⟩ := step x r δ h i; ⟨δ1, e1, t.imp fun f h2 ⟨δ2, e, q⟩ => by subst e; exact q⟩) fin i
theorem TmS_while {t : MT} {b : MSt} (I : Nat → MS → MH → Prop)
    (step : ∀ n δ h, I n δ h → Tm (t δ h) (fun c h1 => if c then TmS (b δ h1) (fun f h2 => match f with | .next δ2 => ∃ m, m < n ∧ I m δ2 h2 | .cont δ2 => ∃ m, m < n ∧ I m δ2 h2 | .brk δ2 => PS' (.next δ2) h2 | .ret d => PS' (.ret d) h2) ES else PS' (.next δ) h1) NoX) :
    ∀ {n : Nat} {δ : MS} {h : MH}, I n δ h → TmS (mWhile t b δ h) PS' ES := by
  intro n
  induction n using Nat.strongRecOn with
  | ind n ih =>
    intro δ h i
    obtain ⟨c, h1, et, q⟩ := (step n δ h i).ex
    cases c with
    | false =>
      rw [mWhile_end et]
      simpa using q
    | true =>
      replace q : TmS (b δ h1) (fun f h2 => match f with | .next δ2 => ∃ m, m < n ∧ I m δ2 h2 | .cont δ2 => ∃ m, m < n ∧ I m δ2 h2 | .brk δ2 => PS' (.next δ2) h2 | .ret d => PS' (.ret d) h2) ES := by simpa using q
      generalize eb : b δ h1 = s at q
      cases s with
      | stuck => exact q.elim
      | exc c fs δ' h' =>
        have : mWhile t b δ h = .exc c fs δ' h' := mWhile_eq 1 (by unfold whileM; rw [et]; simp [eb]) (by intro z; cases z)
        rw [this]; exact q
      | ok f h2 =>
        cases f with
        | next δ2 =>
          obtain ⟨m, hm, im⟩ := q
          have := ih m hm im
          rw [mWhile_next et eb rfl (fun z => by rw [z] at this; exact this)]
          exact this
        | cont δ2 =>
          obtain ⟨m, hm, im⟩ := q
          have := ih m hm im
          rw [mWhile_cont et eb rfl (fun z => by rw [z] at this; exact this)]
          exact this
        | brk δ2 => rw [mWhile_brk et eb]; exact q
        | ret d => rw [mWhile_ret et eb]; exact q
/-! ### comprehensions -/
theorem Tm_nx {r : R α} (t : Tm r P NoX) : Tm r.nx P E := by
  cases r with
  | ok _ _ => exact t
  | exc _ _ _ => exact t.elim
  | stuck => exact t.elim
theorem comp_t {g : MH → Prop} {tgt : MG} {cond : MT} {elt : ME} {n : Nat} {δ0 : MS} {P : Unit → MH → Prop} (I : List D → List D → MH → Prop) (hI : ∀ r acc k, I r acc k → k.length = n ∧ acc.length + r.length < 16777216)
    (hg : ∀ r acc k, I r acc k → g (k ++ [.lst acc]))
    (step : ∀ x r acc k, I (x :: r) acc k → ∃ δ1, tgt x δ0 = some δ1 ∧ Tm (cond δ1 (k ++ [.lst acc])) (fun b h2 => if b then Tm (elt δ1 h2) (fun y h3 => ∃ k', h3 = k' ++ [.lst acc] ∧ I r (acc ++ [y]) k') NoX else ∃ k', h2 = k' ++ [.lst acc] ∧ I r acc k') NoX)
    (fin : ∀ acc k, I [] acc k → P () (k ++ [.lst acc])) : ∀ {ds acc : List D} {k : MH}, I ds acc k → Tm (compM g tgt cond elt n δ0 ds (k ++ [.lst acc])) P E
  | [], acc, k, i => by unfold compM; rw [if_pos (hg _ _ _ i)]; exact fin _ _ i
  | x :: r, acc, k, i => by
    obtain ⟨δ1, e1, t⟩ := step x r acc k i
    unfold compM
    rw [if_pos (hg _ _ _ i), e1]
    simp only [Tm_bnd]
    refine Tm_nx (t.imp fun b h2 q => ?_)
    cases b with
    | false =>
      obtain ⟨k', rfl, i'⟩ := (by simpa using q : ∃ k', h2 = k' ++ [.lst acc] ∧ I r acc k')
      simp only [Bool.false_eq_true, if_false]
      exact (comp_t I hI hg step fin i' : Tm _ P E).impX (fun _ _ z => z) (fun _ _ _ z => z)
    | true =>
      replace q : Tm (elt δ1 h2) (fun y h3 => ∃ k', h3 = k' ++ [.lst acc] ∧ I r (acc ++ [y]) k') NoX := by simpa using q
      simp only [if_true, Tm_bnd]
      refine Tm_nx (q.imp fun y h3 ⟨k', e3, i'⟩ => ?_)
      subst e3
      have hk := (hI _ _ _ i').1
      have hz := (hI _ _ _ i).2
      have el : lst? (k' ++ [.lst acc]) n = some acc := lst?_of (by rw [← hk]; simp)
      have es : (k' ++ [MO.lst acc]).set n (.lst (acc ++ [y])) = k' ++ [.lst (acc ++ [y])] := by rw [← hk]; simp
      simp only [el, es]
      rw [if_pos (by simp at hz; omega)]
      exact comp_t I hI hg step fin i'
theorem Tm_lcF {src : MI} {tgt : MG} {cond : MT} {elt : ME} {vs : List Nat} {δ : MS} {h : MH} {P : D → MH → Prop}
    (ts : Tm (src δ h) (fun S h1 => ∃ I : List D → List D → MH → Prop, I S.ds [] h1 ∧ (∀ r acc k, I r acc k → (k.length = h1.length ∧ acc.length + r.length < 16777216) ∧ S.g (k ++ [.lst acc])) ∧
      (∀ x r acc k, I (x :: r) acc k → ∃ δ1, tgt x (wipeM δ vs) = some δ1 ∧ Tm (cond δ1 (k ++ [.lst acc])) (fun b h2 => if b then Tm (elt δ1 h2) (fun y h3 => ∃ k', h3 = k' ++ [.lst acc] ∧ I r (acc ++ [y]) k') NoX else ∃ k', h2 = k' ++ [.lst acc] ∧ I r acc k') NoX) ∧
      (∀ acc k, I [] acc k → (LeftOf h1 k ∧ lowsL h1.length acc = true) ∧ P (.rol acc) k)) E) : Tm (mLc src tgt cond elt vs δ h) P E := by
  unfold mLc
  rw [Tm_bnd]
  refine ts.imp fun S h1 ⟨I, i0, hI, step, fin⟩ => ?_
  rw [Tm_bnd]
  refine comp_t I (fun r acc k i => (hI r acc k i).1) (fun r acc k i => (hI r acc k i).2) step (fun acc k i => ?_) i0
  obtain ⟨⟨l, q⟩, p⟩ := fin acc k i
  have hk := (hI _ _ _ i).1.1
  have el : lst? (k ++ [.lst acc]) h1.length = some acc := lst?_of (by rw [← hk]; simp)
  simp only [el]
  have es : (k ++ [MO.lst acc]).set h1.length .dead = k ++ [.dead] := by rw [← hk]; simp
  rw [es, leave_eq l.app (by unfold D.lows; exact q), take_app hk]
  exact p
/-- without a test -/
theorem Tm_lc {src : MI} {tgt : MG} {elt : ME} {vs : List Nat} {δ : MS} {h : MH} {P : D → MH → Prop}
    (ts : Tm (src δ h) (fun S h1 => ∃ I : List D → List D → MH → Prop, I S.ds [] h1 ∧ (∀ r acc k, I r acc k → (k.length = h1.length ∧ acc.length + r.length < 16777216) ∧ S.g (k ++ [.lst acc])) ∧
      (∀ x r acc k, I (x :: r) acc k → ∃ δ1, tgt x (wipeM δ vs) = some δ1 ∧ Tm (elt δ1 (k ++ [.lst acc])) (fun y h3 => ∃ k', h3 = k' ++ [.lst acc] ∧ I r (acc ++ [y]) k') NoX) ∧
      (∀ acc k, I [] acc k → (LeftOf h1 k ∧ lowsL h1.length acc = true) ∧ P (.rol acc) k)) E) : Tm (mLc src tgt mYes elt vs δ h) P E :=
  Tm_lcF (ts.imp fun S h1 ⟨I, i0, hI, step, fin⟩ => ⟨I, i0, hI, fun x r acc k i => let ⟨δ1, e1, t⟩ := step x r acc k i; ⟨δ1, e1, by
    show Tm (R.ok true _) _ NoX
    simpa using t⟩, fin⟩)
theorem Tm_lcI {src : MI} {tgt : MG} {elt : ME} {vs : List Nat} {δ : MS} {h : MH} {P : D → MH → Prop} (Q : Src → MH → Prop) (ts : Tm (src δ h) Q E)
    (k : ∀ S h1, Q S h1 → ∃ I : List D → List D → MH → Prop, I S.ds [] h1 ∧ (∀ r acc k, I r acc k → (k.length = h1.length ∧ acc.length + r.length < 16777216) ∧ S.g (k ++ [.lst acc])) ∧
      (∀ x r acc k, I (x :: r) acc k → ∃ δ1, tgt x (wipeM δ vs) = some δ1 ∧ Tm (elt δ1 (k ++ [.lst acc])) (fun y h3 => ∃ k', h3 = k' ++ [.lst acc] ∧ I r (acc ++ [y]) k') NoX) ∧
      (∀ acc k, I [] acc k → (LeftOf h1 k ∧ lowsL h1.length acc = true) ∧ P (.rol acc) k)) : Tm (mLc src tgt mYes elt vs δ h) P E := Tm_lc (ts.imp k)
theorem Tm_lcFI {src : MI} {tgt : MG} {cond : MT} {elt : ME} {vs : List Nat} {δ : MS} {h : MH} {P : D → MH → Prop} (Q : Src → MH → Prop) (ts : Tm (src δ h) Q E)
    (k : ∀ S h1, Q S h1 → ∃ I : List D → List D → MH → Prop, I S.ds [] h1 ∧ (∀ r acc k, I r acc k → (k.length = h1.length ∧ acc.length + r.length < 16777216) ∧ S.g (k ++ [.lst acc])) ∧
      (∀ x r acc k, I (x :: r) acc k → ∃ δ1, tgt x (wipeM δ vs) = some δ1 ∧ Tm (cond δ1 (k ++ [.lst acc])) (fun b h2 => if b then Tm (elt δ1 h2) (fun y h3 => ∃ k', h3 = k' ++ [.lst acc] ∧ I r (acc ++ [y]) k') NoX else ∃ k', h2 = k' ++ [.lst acc] ∧ I r acc k') NoX) ∧
      (∀ acc k, I [] acc k → (LeftOf h1 k ∧ lowsL h1.length acc = true) ∧ P (.rol acc) k)) : Tm (mLc src tgt cond elt vs δ h) P E := Tm_lcF (ts.imp k)
/-- a comprehension with a test, both values of the items alone -/
theorem lc_filter {src : MI} {tgt : MG} {cond : MT} {elt : ME} {vs : List Nat} {δ : MS} {h h1 : MH} {S : Src} (f : D → D) (p : D → Bool) (es : src δ h = .ok S h1) (hg : ∀ k, S.g (h1 ++ k)) (hz : S.ds.length < 16777216)
    (he : ∀ x ∈ S.ds, ∃ δ1, tgt x (wipeM δ vs) = some δ1 ∧ (∀ k, cond δ1 (h1 ++ k) = .ok (p x) (h1 ++ k)) ∧ (p x = true → ∀ k, elt δ1 (h1 ++ k) = .ok (f x) (h1 ++ k))) (hl : ∀ x ∈ S.ds, p x = true → (f x).lows h1.length = true) : mLc src tgt cond elt vs δ h = .ok (.rol ((S.ds.filter p).map f)) h1 := by
  have t : Tm (mLc src tgt cond elt vs δ h) (fun d h' => d = .rol ((S.ds.filter p).map f) ∧ h' = h1) NoX := by
    refine Tm_lcFI (fun S' h' => S' = S ∧ h' = h1) (.of es ⟨rfl, rfl⟩) ?_
    rintro S' h' ⟨rfl, rfl⟩
    refine ⟨fun r acc k => k = h' ∧ acc ++ (r.filter p).map f = (S'.ds.filter p).map f ∧ acc.length + r.length ≤ S'.ds.length ∧ (∀ x ∈ r, x ∈ S'.ds) ∧ lowsL h'.length acc = true, ⟨rfl, rfl, by simp, fun x hx => hx, rfl⟩, ?_, ?_, ?_⟩
    · rintro r acc k ⟨rfl, _, hl, _⟩
      exact ⟨⟨rfl, by omega⟩, hg _⟩
    · rintro x r acc k ⟨rfl, e, hl', hm, lo⟩
      obtain ⟨δ1, e1, e2, e3⟩ := he x (hm x (by simp))
      refine ⟨δ1, e1, .of (e2 _) ?_⟩
      cases hp : p x with
      | false =>
        rw [if_neg (by decide)]
        refine ⟨k, rfl, rfl, ?_, by simp at hl'; omega, fun y hy => hm y (by simp [hy]), lo⟩
        rw [← e, List.filter_cons_of_neg (by simp [hp])]
      | true =>
        rw [if_pos rfl]
        refine .of (e3 hp _) ⟨k, rfl, rfl, ?_, by simp at hl' ⊢; omega, fun y hy => hm y (by simp [hy]), ?_⟩
        · rw [← e, List.filter_cons_of_pos hp]
          simp
        · have la : ∀ (a : List D), lowsL k.length a = true → lowsL k.length (a ++ [f x]) = true := fun a => by
            induction a with
            | nil => intro _; show ((f x).lows _ && true) = true; rw [hl x (hm x (by simp)) hp]; rfl
            | cons y r ih =>
              intro q
              obtain ⟨q1, q2⟩ := Bool.and_eq_true_iff.mp (show (y.lows _ && lowsL _ r) = true from q)
              show (y.lows _ && lowsL _ (r ++ [f x])) = true
              rw [q1, ih q2]; rfl
          exact la acc lo
    · rintro acc k ⟨rfl, e, hl, hm, lo⟩
      exact ⟨⟨LeftOf.refl _, lo⟩, by rw [← e]; simp, rfl⟩
  obtain ⟨d, h', e, rfl, rfl⟩ := t.ex
  exact e
end
end MM

/-! == of values with depth, told by their structure -/
namespace MM
open PySem PySem.Spec PyProof.Rows L2
mutual
/-- a value that == reads: no thing that changes, not deeper than n -/
def D.eok : Nat → D → Bool
  | _, .non => true
  | _, .bl _ => true
  | _, .int _ => true
  | _, .str s => PyData.strOk s
  | 0, .tup _ => false
  | n + 1, .tup ds => eokL n ds
  | 0, .rol _ => false
  | n + 1, .rol ds => eokL n ds
  | _, _ => false
def eokL : Nat → List D → Bool
  | _, [] => true
  | n, d :: ds => d.eok n && eokL n ds
end
mutual
theorem toPy_ok : ∀ {d : D} {n : Nat}, d.eok n = true → ∃ p, toPy d = some p ∧ p.canLay0 = true ∧ p.depth ≤ n
  | .non, _, _ => ⟨_, rfl, rfl, Nat.zero_le _⟩
  | .bl _, _, _ => ⟨_, rfl, rfl, Nat.zero_le _⟩
  | .int _, _, _ => ⟨_, rfl, rfl, Nat.zero_le _⟩
  | .str s, n, h => ⟨_, rfl, by unfold D.eok at h; simpa [PyData.canLay0] using h, Nat.zero_le _⟩
  | .tup ds, 0, h => by unfold D.eok at h; cases h
  | .tup ds, n + 1, h => by
    unfold D.eok at h
    obtain ⟨ps, e1, e2, e3⟩ := toPyL_ok h
    refine ⟨.tuple ps, by unfold toPy; rw [e1]; rfl, by simpa [PyData.canLay0] using e2, ?_⟩
    show PyData.depthAll ps + 1 ≤ _
    omega
  | .rol ds, 0, h => by unfold D.eok at h; cases h
  | .rol ds, n + 1, h => by
    unfold D.eok at h
    obtain ⟨ps, e1, e2, e3⟩ := toPyL_ok h
    refine ⟨.list ps, by unfold toPy; rw [e1]; rfl, by simpa [PyData.canLay0] using e2, ?_⟩
    show PyData.depthAll ps + 1 ≤ _
    omega
  | .ref _, _, h => by unfold D.eok at h; cases h
  | .obj _, _, h => by unfold D.eok at h; cases h
  | .ty _, _, h => by unfold D.eok at h; cases h
  | .kon _, _, h => by unfold D.eok at h; cases h
  | .rdc _ _, _, h => by unfold D.eok at h; cases h
  | .xo _ _ _ _, _, h => by unfold D.eok at h; cases h
theorem toPyL_ok : ∀ {ds : List D} {n : Nat}, eokL n ds = true → ∃ ps, toPyL ds = some ps ∧ PyData.canLayAll0 ps = true ∧ PyData.depthAll ps ≤ n
  | [], _, _ => ⟨[], rfl, rfl, Nat.zero_le _⟩
  | d :: ds, n, h => by
    unfold eokL at h
    obtain ⟨h1, h2⟩ := Bool.and_eq_true_iff.mp h
    obtain ⟨p, e1, e2, e3⟩ := toPy_ok h1
    obtain ⟨ps, f1, f2, f3⟩ := toPyL_ok h2
    refine ⟨p :: ps, by unfold toPyL; rw [e1, Option.bind_some, f1]; rfl, by rw [PyData.canLayAll0, e2, f2]; rfl, ?_⟩
    show max (PyData.depth p) (PyData.depthAll ps) ≤ n
    omega
end
mutual
/-- Python's == -/
def eqD : D → D → Bool
  | .non, .non => true
  | .bl a, .bl b => a == b
  | .int a, .int b => a == b
  | .bl a, .int b => b == (if a then 1 else 0)
  | .int a, .bl b => a == (if b then 1 else 0)
  | .str a, .str b => a == b
  | .tup a, .tup b => eqDs a b
  | .rol a, .rol b => eqDs a b
  | _, _ => false
def eqDs : List D → List D → Bool
  | [], [] => true
  | a :: as, b :: bs => eqD a b && eqDs as bs
  | _, _ => false
end
theorem toPy_tup {ds : List D} {p : PyData} (h : toPy (.tup ds) = some p) : ∃ ps, toPyL ds = some ps ∧ p = .tuple ps := by
  unfold toPy at h
  obtain ⟨ps, e1, e2⟩ := Option.map_eq_some_iff.mp h
  exact ⟨ps, e1, e2.symm⟩
theorem toPy_rol {ds : List D} {p : PyData} (h : toPy (.rol ds) = some p) : ∃ ps, toPyL ds = some ps ∧ p = .list ps := by
  unfold toPy at h
  obtain ⟨ps, e1, e2⟩ := Option.map_eq_some_iff.mp h
  exact ⟨ps, e1, e2.symm⟩
theorem eqv_flat (d e : D) {p q : PyData} (nt : ∀ a b, d = .tup a → e = .tup b → False) (nr : ∀ a b, d = .rol a → e = .rol b → False) (h1 : toPy d = some p) (h2 : toPy e = some q) : PyData.eqv p q = eqD d e := by
  have sc : ∀ {d : D} {p}, toPy d = some p → (d = .non ∧ p = .none) ∨ (∃ b, d = .bl b ∧ p = .bool b) ∨ (∃ b, d = .int b ∧ p = .int b) ∨ (∃ b, d = .str b ∧ p = .str b) ∨ (∃ a ps, d = .tup a ∧ p = .tuple ps) ∨ ∃ a ps, d = .rol a ∧ p = .list ps := by
    intro d p h
    cases d with
    | tup a => obtain ⟨ps, _, e⟩ := toPy_tup h; exact .inr (.inr (.inr (.inr (.inl ⟨a, ps, rfl, e⟩))))
    | rol a => obtain ⟨ps, _, e⟩ := toPy_rol h; exact .inr (.inr (.inr (.inr (.inr ⟨a, ps, rfl, e⟩))))
    | non => unfold toPy at h; cases h; exact .inl ⟨rfl, rfl⟩
    | bl b => unfold toPy at h; cases h; exact .inr (.inl ⟨b, rfl, rfl⟩)
    | int b => unfold toPy at h; cases h; exact .inr (.inr (.inl ⟨b, rfl, rfl⟩))
    | str b => unfold toPy at h; cases h; exact .inr (.inr (.inr (.inl ⟨b, rfl, rfl⟩)))
    | _ => unfold toPy at h; cases h
  rcases sc h1 with ⟨rfl, rfl⟩ | ⟨a, rfl, rfl⟩ | ⟨a, rfl, rfl⟩ | ⟨a, rfl, rfl⟩ | ⟨a, ps, rfl, rfl⟩ | ⟨a, ps, rfl, rfl⟩ <;>
  rcases sc h2 with ⟨rfl, rfl⟩ | ⟨b, rfl, rfl⟩ | ⟨b, rfl, rfl⟩ | ⟨b, rfl, rfl⟩ | ⟨b, qs, rfl, rfl⟩ | ⟨b, qs, rfl, rfl⟩ <;> first
    | (exact (nt _ _ rfl rfl).elim)
    | (exact (nr _ _ rfl rfl).elim)
    | (unfold PyData.eqv eqD; rfl)
    | (unfold PyData.eqv eqD; exact Bool.beq_comm ..)
    | (unfold PyData.eqv eqD; cases a <;> exact (decide_eq_decide.mpr ⟨fun z => z.symm, fun z => z.symm⟩))
mutual
theorem eqv_is : ∀ (d e : D) {p q : PyData}, toPy d = some p → toPy e = some q → PyData.eqv p q = eqD d e
  | .tup as, .tup bs, p, q, h1, h2 => by
    obtain ⟨ps, e1, rfl⟩ := toPy_tup h1
    obtain ⟨qs, e2, rfl⟩ := toPy_tup h2
    unfold PyData.eqv eqD
    exact eqvs_is as bs e1 e2
  | .rol as, .rol bs, p, q, h1, h2 => by
    obtain ⟨ps, e1, rfl⟩ := toPy_rol h1
    obtain ⟨qs, e2, rfl⟩ := toPy_rol h2
    unfold PyData.eqv eqD
    exact eqvs_is as bs e1 e2
  | .tup as, .non, _, _, h1, h2 => eqv_flat _ _ (fun _ _ _ z => by cases z) (fun _ _ z _ => by cases z) h1 h2
  | .tup as, .bl _, _, _, h1, h2 => eqv_flat _ _ (fun _ _ _ z => by cases z) (fun _ _ z _ => by cases z) h1 h2
  | .tup as, .int _, _, _, h1, h2 => eqv_flat _ _ (fun _ _ _ z => by cases z) (fun _ _ z _ => by cases z) h1 h2
  | .tup as, .str _, _, _, h1, h2 => eqv_flat _ _ (fun _ _ _ z => by cases z) (fun _ _ z _ => by cases z) h1 h2
  | .tup as, .rol _, _, _, h1, h2 => eqv_flat _ _ (fun _ _ _ z => by cases z) (fun _ _ z _ => by cases z) h1 h2
  | .tup as, .ref _, _, _, h1, h2 => eqv_flat _ _ (fun _ _ _ z => by cases z) (fun _ _ z _ => by cases z) h1 h2
  | .tup as, .obj _, _, _, h1, h2 => eqv_flat _ _ (fun _ _ _ z => by cases z) (fun _ _ z _ => by cases z) h1 h2
  | .tup as, .ty _, _, _, h1, h2 => eqv_flat _ _ (fun _ _ _ z => by cases z) (fun _ _ z _ => by cases z) h1 h2
  | .tup as, .kon _, _, _, h1, h2 => eqv_flat _ _ (fun _ _ _ z => by cases z) (fun _ _ z _ => by cases z) h1 h2
  | .tup as, .rdc _ _, _, _, h1, h2 => eqv_flat _ _ (fun _ _ _ z => by cases z) (fun _ _ z _ => by cases z) h1 h2
  | .tup as, .xo _ _ _ _, _, _, h1, h2 => eqv_flat _ _ (fun _ _ _ z => by cases z) (fun _ _ z _ => by cases z) h1 h2
  | .rol as, .non, _, _, h1, h2 => eqv_flat _ _ (fun _ _ z _ => by cases z) (fun _ _ _ z => by cases z) h1 h2
  | .rol as, .bl _, _, _, h1, h2 => eqv_flat _ _ (fun _ _ z _ => by cases z) (fun _ _ _ z => by cases z) h1 h2
  | .rol as, .int _, _, _, h1, h2 => eqv_flat _ _ (fun _ _ z _ => by cases z) (fun _ _ _ z => by cases z) h1 h2
  | .rol as, .str _, _, _, h1, h2 => eqv_flat _ _ (fun _ _ z _ => by cases z) (fun _ _ _ z => by cases z) h1 h2
  | .rol as, .tup _, _, _, h1, h2 => eqv_flat _ _ (fun _ _ z _ => by cases z) (fun _ _ _ z => by cases z) h1 h2
  | .rol as, .ref _, _, _, h1, h2 => eqv_flat _ _ (fun _ _ z _ => by cases z) (fun _ _ _ z => by cases z) h1 h2
  | .rol as, .obj _, _, _, h1, h2 => eqv_flat _ _ (fun _ _ z _ => by cases z) (fun _ _ _ z => by cases z) h1 h2
  | .rol as, .ty _, _, _, h1, h2 => eqv_flat _ _ (fun _ _ z _ => by cases z) (fun _ _ _ z => by cases z) h1 h2
  | .rol as, .kon _, _, _, h1, h2 => eqv_flat _ _ (fun _ _ z _ => by cases z) (fun _ _ _ z => by cases z) h1 h2
  | .rol as, .rdc _ _, _, _, h1, h2 => eqv_flat _ _ (fun _ _ z _ => by cases z) (fun _ _ _ z => by cases z) h1 h2
  | .rol as, .xo _ _ _ _, _, _, h1, h2 => eqv_flat _ _ (fun _ _ z _ => by cases z) (fun _ _ _ z => by cases z) h1 h2
  | .non, _, _, _, h1, h2 => eqv_flat _ _ (fun _ _ z _ => by cases z) (fun _ _ z _ => by cases z) h1 h2
  | .bl _, _, _, _, h1, h2 => eqv_flat _ _ (fun _ _ z _ => by cases z) (fun _ _ z _ => by cases z) h1 h2
  | .int _, _, _, _, h1, h2 => eqv_flat _ _ (fun _ _ z _ => by cases z) (fun _ _ z _ => by cases z) h1 h2
  | .str _, _, _, _, h1, h2 => eqv_flat _ _ (fun _ _ z _ => by cases z) (fun _ _ z _ => by cases z) h1 h2
  | .ref _, _, _, _, h1, h2 => eqv_flat _ _ (fun _ _ z _ => by cases z) (fun _ _ z _ => by cases z) h1 h2
  | .obj _, _, _, _, h1, h2 => eqv_flat _ _ (fun _ _ z _ => by cases z) (fun _ _ z _ => by cases z) h1 h2
  | .ty _, _, _, _, h1, h2 => eqv_flat _ _ (fun _ _ z _ => by cases z) (fun _ _ z _ => by cases z) h1 h2
  | .kon _, _, _, _, h1, h2 => eqv_flat _ _ (fun _ _ z _ => by cases z) (fun _ _ z _ => by cases z) h1 h2
  | .rdc _ _, _, _, _, h1, h2 => eqv_flat _ _ (fun _ _ z _ => by cases z) (fun _ _ z _ => by cases z) h1 h2
  | .xo _ _ _ _, _, _, _, h1, h2 => eqv_flat _ _ (fun _ _ z _ => by cases z) (fun _ _ z _ => by cases z) h1 h2
theorem eqvs_is : ∀ (d e : List D) {p q : List PyData}, toPyL d = some p → toPyL e = some q → PyData.eqvAll p q = eqDs d e
  | [], [], _, _, h1, h2 => by cases h1; cases h2; rfl
  | [], b :: bs, _, _, h1, h2 => by
    cases h1
    unfold toPyL at h2
    obtain ⟨x, e1, e2⟩ := Option.bind_eq_some_iff.mp h2
    obtain ⟨xs, e3, rfl⟩ := Option.map_eq_some_iff.mp e2
    rfl
  | b :: bs, [], _, _, h2, h1 => by
    cases h1
    unfold toPyL at h2
    obtain ⟨x, e1, e2⟩ := Option.bind_eq_some_iff.mp h2
    obtain ⟨xs, e3, rfl⟩ := Option.map_eq_some_iff.mp e2
    rfl
  | a :: as, b :: bs, _, _, h1, h2 => by
    unfold toPyL at h1 h2
    obtain ⟨x, e1, e2⟩ := Option.bind_eq_some_iff.mp h1
    obtain ⟨xs, e3, rfl⟩ := Option.map_eq_some_iff.mp e2
    obtain ⟨y, f1, f2⟩ := Option.bind_eq_some_iff.mp h2
    obtain ⟨ys, f3, rfl⟩ := Option.map_eq_some_iff.mp f2
    unfold PyData.eqvAll eqDs
    rw [eqv_is a b e1 f1, eqvs_is as bs e3 f3]
end
/-- what a value looks like to == -/
def seeD (d : D) (h : MH) : D := match d with
  | .ref n => (match lst? h n with
    | some ds => .rol ds
    | none => .ref n)
  | d => d
theorem toPyH_see {d : D} {h : MH} (n : Nat) (hn : n ≤ 64) (e : (seeD d h).eok n = true) : ∃ p, toPyH d h = some p ∧ SeqAt.shaped p = true ∧ toPy (seeD d h) = some p := by
  have fin : ∀ {p : PyData}, p.canLay0 = true → p.depth ≤ n → SeqAt.shaped p = true := fun h1 h2 => by
    unfold SeqAt.shaped
    rw [h1, decide_eq_true (by omega)]; rfl
  cases d with
  | ref k =>
    unfold seeD at e ⊢
    cases el : lst? h k with
    | none => simp only [el] at e; unfold D.eok at e; cases e
    | some ds =>
      simp only [el] at e ⊢
      obtain ⟨p, e1, e2, e3⟩ := toPy_ok e
      refine ⟨p, ?_, fin e2 e3, e1⟩
      show (lst? h k).bind _ = _
      rw [el]
      exact e1
  | _ =>
    obtain ⟨p, e1, e2, e3⟩ := toPy_ok e
    exact ⟨p, e1, fin e2 e3, e1⟩
theorem eqS_is {d e : D} {b : Bool} (h : eqS d e = some b) : b = eqD d e := by
  cases d <;> cases e <;> first
    | (cases h; done)
    | (cases h; unfold eqD; rfl)
    | (cases h; unfold eqD; simp)
theorem eqG_is {d e : D} {h : MH} {n m : Nat} (hn : n ≤ 64) (hm : m ≤ 64) (o1 : (seeD d h).eok n = true) (o2 : (seeD e h).eok m = true) : eqG d e h = some (eqD (seeD d h) (seeD e h)) := by
  unfold eqG
  split
  · rename_i b z
    have sd : seeD d h = d := by cases d <;> first | rfl | (cases e <;> cases z)
    have se : seeD e h = e := by cases e <;> first | rfl | (cases d <;> cases z)
    rw [sd, se, eqS_is z]
  · obtain ⟨p, e1, e2, e3⟩ := toPyH_see n hn o1
    obtain ⟨q, f1, f2, f3⟩ := toPyH_see m hm o2
    rw [e1, f1, Option.bind_some, Option.bind_some, e2, f2]
    rw [eqv_is _ _ e3 f3]
    rfl
theorem opEq_is {d e : D} {h : MH} {n m : Nat} (hn : n ≤ 64) (hm : m ≤ 64) (o1 : (seeD d h).eok n = true) (o2 : (seeD e h).eok m = true) : opEq d e h = .ok (.bl (eqD (seeD d h) (seeD e h))) h := by
  unfold opEq
  rw [eqG_is hn hm o1 o2]
theorem opNe_is {d e : D} {h : MH} {n m : Nat} (hn : n ≤ 64) (hm : m ≤ 64) (o1 : (seeD d h).eok n = true) (o2 : (seeD e h).eok m = true) : opNe d e h = .ok (.bl (!eqD (seeD d h) (seeD e h))) h := by
  unfold opNe
  rw [eqG_is hn hm o1 o2]
mutual
theorem eqD_refl : ∀ {d : D} {n : Nat}, d.eok n = true → eqD d d = true
  | .non, _, _ => rfl
  | .bl _, _, _ => by unfold eqD; simp
  | .int _, _, _ => by unfold eqD; simp
  | .str s, n, h => by unfold eqD; simp
  | .tup ds, 0, h => by unfold D.eok at h; cases h
  | .tup ds, n + 1, h => by unfold D.eok at h; unfold eqD; exact eqDs_refl h
  | .rol ds, 0, h => by unfold D.eok at h; cases h
  | .rol ds, n + 1, h => by unfold D.eok at h; unfold eqD; exact eqDs_refl h
  | .ref _, _, h => by unfold D.eok at h; cases h
  | .obj _, _, h => by unfold D.eok at h; cases h
  | .ty _, _, h => by unfold D.eok at h; cases h
  | .kon _, _, h => by unfold D.eok at h; cases h
  | .rdc _ _, _, h => by unfold D.eok at h; cases h
  | .xo _ _ _ _, _, h => by unfold D.eok at h; cases h
theorem eqDs_refl : ∀ {ds : List D} {n : Nat}, eokL n ds = true → eqDs ds ds = true
  | [], _, _ => rfl
  | d :: ds, n, h => by
    unfold eokL at h
    obtain ⟨h1, h2⟩ := Bool.and_eq_true_iff.mp h
    unfold eqDs
    rw [eqD_refl h1, eqDs_refl h2]; rfl
end
theorem eok_ints (n : Nat) : ∀ l : List Int, eokL n (l.map D.int) = true
  | [] => rfl
  | x :: r => by
    show ((D.int x).eok n && eokL n (r.map D.int)) = true
    rw [eok_ints n r, show (D.int x).eok n = true by unfold D.eok; rfl]; rfl
theorem flatL_ints (l : List Int) : flatL (l.map D.int) = some (l.map V.int) := by
  induction l with
  | nil => rfl
  | cons x r ih => show (flatD (.int x)).bind _ = _; rw [show flatL (r.map D.int) = some (r.map V.int) from ih]; rfl
theorem inV_ints (x : Int) (l : List Int) : inV (.int x) (l.map V.int) = decide (x ∈ l) := by
  induction l with
  | nil => rfl
  | cons y r ih =>
    show (eqV (.int y) (.int x) || inV (.int x) (r.map V.int)) = _
    rw [ih]
    by_cases e : x = y
    · subst e
      simp [eqV]
    · have : eqV (.int y) (.int x) = false := by
        show decide (y = x) = false
        exact decide_eq_false fun z => e z.symm
      rw [this]
      simp [e]
theorem inG2_ints {h : MH} {n : Nat} {l : List Int} {v : Int} (e : h[n]? = some (.lst (l.map .int))) : inG2 (.int v) (.ref n) h = some (decide (v ∈ l)) := by
  have d0 : dicR (.ref n) h = none := by unfold dicR; simp only [e]
  unfold inG2
  simp only [d0]
  unfold inG
  simp only [lstD_ref, lst?_of e, Option.bind_some, flatL_ints, show flatD (.int v) = some (.int v) from rfl, Option.map_some, inV_ints]
theorem opIn2_ints {h : MH} {n : Nat} {l : List Int} {v : Int} (e : h[n]? = some (.lst (l.map .int))) : opIn2 (.int v) (.ref n) h = .ok (.bl (decide (v ∈ l))) h := by
  unfold opIn2; rw [inG2_ints e]
theorem opNin2_ints {h : MH} {n : Nat} {l : List Int} {v : Int} (e : h[n]? = some (.lst (l.map .int))) : opNin2 (.int v) (.ref n) h = .ok (.bl (!decide (v ∈ l))) h := by
  unfold opNin2; rw [inG2_ints e]
end MM

/-! a dict display of more than seventeen constant pairs: seventeen put in one by one, the others in a second dict that is put into the first -/
namespace MM
open PySem PySem.Spec PyProof.Rows L2
section
variable {prog : Program} {w : World} {K : Type} [DecidableEq K] {knd : KeyKind prog w K} {A : Around} {E : Value → Shared → Prop} {s : Shared}
/-- a new key goes to the end -/
theorem put_end {d : Addr} {kvs : List (K × Value)} {k : K} {key v : Value} {Q : Unit → Shared → Prop} (hk : knd.is k key = true) (hm : s.heap.DictOf knd d kvs) (hno : k ∉ kvs.map (·.1)) (hz : kvs.length ≤ 1000)
    (q : ∀ h', h'.DictOf knd d (kvs ++ [(k, v)]) → Heap.SameBut d s.heap h' → Q () { s with heap := h' }) : wpAny (model prog w) A (dictPut d (knd.hash k) key v) Q E s := by
  obtain ⟨o, es, ep, ho, hc, hd, hks, hp, hn⟩ := hm
  have sz : es.size ≤ sizeLine := by
    have e1 := hp.length
    rw [Array.length_toList] at e1
    rw [sizeLine_eq]; omega
  have miss : (es.findIdx? fun e => knd.is k e.key) = none := by
    rw [show (es.findIdx? fun e => knd.is k e.key) = es.toList.findIdx? fun e => knd.is k e.key by cases es; simp, hp.findIdx k]
    exact List.findIdx?_eq_none_iff.mpr fun p hp' => decide_eq_false fun z => hno (z ▸ List.mem_map.mpr ⟨p, hp', rfl⟩)
  unfold dictPut
  refine wpAny_bind (wpAny_dictFind_of hk ho hd hks ?_)
  rw [miss]
  refine wpAny_updateDictKeys (hz := sz) ho hd (q _ ⟨_, _, ep + 1, Heap.get?_update_self _ ho (Obj.isFreed_of_dict (Obj.data_mapDictKeys hd _)), hc.mapDictKeys _, Obj.data_mapDictKeys hd _, hks.push hk _, ?_, ?_⟩ (Heap.SameBut.update ..))
  · have := hp.append hk (knd.hash k) v
    cases es
    simpa using this
  · rw [List.map_append]
    exact List.nodup_append.mpr ⟨hn, by simp, fun x hx y hy e => hno (by have hy : y = k := List.mem_singleton.mp hy; rw [← hy, ← e]; exact hx)⟩
/-- one plain dict put into another, no key in both -/
theorem merge_plain {d o : Addr} {kvs more : List (K × Value)} {Q : Unit → Shared → Prop} (hne : d ≠ o) (ho : (o == sysModules) = false) (h0 : kvs ≠ []) (hd : s.heap.DictOf knd d kvs) (hm : s.heap.DictOf knd o more) (nd : ((kvs ++ more).map (·.1)).Nodup) (hz : kvs.length + more.length ≤ 1000)
    (q : ∀ h', h'.DictOf knd d (kvs ++ more) → h'.DictOf knd o more → Heap.SameBut d s.heap h' → Q () { s with heap := h' }) : wpAny (model prog w) A (mergeMapping d (.ref o) false) Q E s := by
  obtain ⟨od, esd, epd, god, cod, dod, _, pod, _⟩ := id hd
  obtain ⟨oo, eso, epo, goo, coo, doo, koo, poo, noo⟩ := id hm
  have len : more.length = eso.size := by
    have := poo.length
    rw [Array.length_toList] at this
    exact this.symm
  unfold mergeMapping
  refine wpAny_bind (wpAny_isInstance hm.typeIs isSubtype_dict_dict ?_)
  simp only [if_true]
  refine wpAny_bind (wpAny_specialOf hm.typeIs F.slot_dict_iter.lookup ?_)
  refine wpAny_bind (wpAny_pure ?_)
  simp only [beq_self_eq_true]
  rw [if_neg (by rw [ho]; exact Bool.false_ne_true)]
  refine wpAny_bind (wpAny_dictEntries god dod ?_)
  have e0 : esd.isEmpty = false := by
    cases hx : esd.isEmpty with
    | false => rfl
    | true =>
      have : esd = #[] := Array.isEmpty_iff.mp hx
      have := pod.length
      rw [‹esd = #[]›] at this
      exact absurd (List.eq_nil_of_length_eq_zero (by simpa using this.symm)) h0
  rw [if_neg (by rw [e0]; exact Bool.false_ne_true)]
  refine wpAny_bind (wpAny_dictEntries goo doo ?_)
  refine wpAny_bind (wpAny_dictEpoch goo doo ?_)
  refine wpAny_bind ?_
  refine wpAny_forIn_list _ (fun rest _ s' => ∃ h' i, s' = { s with heap := h' } ∧ rest = (List.range eso.size).drop i ∧ i ≤ eso.size ∧ h'.DictOf knd d (kvs ++ more.take i) ∧ h'.get? o = some oo ∧ Heap.SameBut d s.heap h') _ ?_ ?_ _ _ ⟨s.heap, 0, rfl, rfl, Nat.zero_le _, by simpa using hd, goo, Heap.SameBut.refl _ _⟩
  · rintro x rest b s' ⟨h', i, rfl, hr, hi, hd', go', sb⟩
    by_cases hlt : i < eso.size
    · rw [List.drop_eq_getElem_cons (by simpa using hlt)] at hr
      obtain ⟨rfl, rfl⟩ := List.cons.inj hr
      have ei : (List.range eso.size)[i]'(by simpa using hlt) = i := by simp
      rw [ei]
      refine wpAny_bind (wpAny_dictEntries go' doo ?_)
      rw [Array.getElem?_eq_getElem hlt]
      have lt2 : i < more.length := by omega
      obtain ⟨is1, is2⟩ := poo.get? (e := eso[i]) (by simp [hlt]) (List.getElem?_eq_getElem lt2)
      obtain ⟨k', is3, hh⟩ := koo eso[i] (Array.getElem_mem hlt)
      have ek : k' = more[i].1 := knd.inj _ _ _ is3 is1
      subst ek
      simp only [Bool.false_eq_true, if_false]
      have nk : more[i].1 ∉ (kvs ++ more.take i).map (·.1) := fun z => by
        have e : kvs ++ more = (kvs ++ more.take i) ++ more[i] :: more.drop (i + 1) := by
          rw [List.append_assoc, ← List.drop_eq_getElem_cons lt2, List.take_append_drop]
        rw [e, List.map_append] at nd
        exact (List.nodup_append.mp nd).2.2 _ z _ (List.mem_map.mpr ⟨_, List.mem_cons_self, rfl⟩) rfl
      rw [hh, is2]
      refine wpAny_bind (wpAny_holding (put_end is1 hd' nk (by rw [List.length_append, List.length_take]; omega) fun h2 hd2 sb2 => ?_))
      have go2 : h2.get? o = some oo := (sb2.2 o (Ne.symm hne)).trans go'
      refine wpAny_bind (wpAny_dictEpoch go2 doo ?_)
      rw [if_neg (by simp)]
      refine wpAny_pure ⟨h2, i + 1, rfl, rfl, hlt, ?_, go2, sb.trans sb2⟩
      rw [List.append_assoc] at hd2
      rw [List.take_succ_eq_append_getElem lt2]
      exact hd2
    · rw [List.drop_of_length_le (by simp; omega)] at hr
      cases hr
  · rintro b s' ⟨h', i, rfl, hr, hi, hd', go', sb⟩
    have : i = eso.size := by
      have := congrArg List.length hr
      simp at this
      omega
    subst this
    rw [← len, List.take_length] at hd'
    exact wpAny_pure (q h' hd' ⟨oo, eso, epo, go', coo, doo, koo, poo, noo⟩ sb)
end
/-! ### how the display goes -/
abbrev SP2 := Sem Value × Sem Value
abbrev Gat := Option Addr × List SP2
theorem gather {f : (Option (Sem Value) × Sem Value) → Gat → Sem (ForInStep Gat)} {m : Option Addr} (hf : ∀ (p : SP2) (run : List SP2), run.length + 1 < 17 → f (some p.1, p.2) (m, run) = pure (.yield (m, run ++ [p]))) (rest : List (Option (Sem Value) × Sem Value)) :
    ∀ (items run : List SP2), run.length + items.length < 17 → forIn (items.map (fun p => (some p.1, p.2)) ++ rest) (m, run) f = forIn rest (m, run ++ items) f
  | [], run, _ => by simp
  | p :: r, run, h => by
    have h' : run.length + 1 + r.length < 17 := by simp at h; omega
    rw [List.map_cons, List.cons_append, List.forIn_cons, hf p run (by omega), pure_bind]
    show forIn _ (m, run ++ [p]) f = _
    rw [gather hf rest r (run ++ [p]) (by simp; omega)]
    simp
theorem gather0 {f : (Option (Sem Value) × Sem Value) → Gat → Sem (ForInStep Gat)} {m : Option Addr} (hf : ∀ (p : SP2) (run : List SP2), run.length + 1 < 17 → f (some p.1, p.2) (m, run) = pure (.yield (m, run ++ [p])))
    (items run : List SP2) (h : run.length + items.length < 17) : forIn (items.map (fun p => (some p.1, p.2))) (m, run) f = pure (m, run ++ items) := by
  have g := gather hf [] items run h
  rwa [List.append_nil, List.forIn_nil] at g
theorem display_two (a : List SP2) (x : SP2) (b : List SP2) (ha : a.length = 16) (hb : b.length ≤ 16) (h0 : b ≠ []) :
    dictDisplay ((a ++ x :: b).map fun p => (some p.1, p.2)) = (do
      let d ← subDict (a ++ [x])
      let sub ← holding [.ref d] (subDict b)
      (holding [.ref d, .ref sub] (mergeMapping d (.ref sub) false)).onRaise fun e => do let _ ← holding [.ref d, e] (runValue (.builtin "proto.let_go" {}))
      pure (.ref d)) := by
  unfold dictDisplay
  dsimp only
  rw [List.map_append, List.map_cons]
  rw [gather (fun p run h => by
    have hne : ((run ++ [(p.1, p.2)]).length == 17) = false := by simp; omega
    simp only [hne, Bool.false_eq_true, if_false]) _ a [] (by simp; omega)]
  rw [List.forIn_cons]
  have h17 : (([] ++ a ++ [(x.1, x.2)]).length == 17) = true := by simp [ha]
  simp only [h17, if_true]
  have e17 : (([] ++ a ++ [(x.1, x.2)]).isEmpty) = false := by simp
  simp only [e17, Bool.false_eq_true, if_false]
  simp only [bind_assoc, pure_bind, List.nil_append]
  refine congrArg (fun k => subDict (a ++ [(x.1, x.2)]) >>= k) (funext fun d => ?_)
  rw [gather0 (fun p run h => by
    have hne : ((run ++ [(p.1, p.2)]).length == 17) = false := by simp; omega
    simp only [hne, Bool.false_eq_true, if_false]) b [] (by simp; omega)]
  have hb0 : ([] ++ b).isEmpty = false := by cases b with | nil => exact absurd rfl h0 | cons _ _ => rfl
  simp only [pure_bind, hb0, Bool.false_eq_true, if_false]
  simp only [bind_assoc, pure_bind, List.nil_append]

/-! ### as a rule -/
abbrev It := Expr × Expr × Key × V
def ItOk (X : Cx) (it : It) : Prop := PE X it.1 (tC (kV it.2.2.1)) ∧ PE X it.2.1 (tC it.2.2.2)
def itP (X : Cx) (pos : Pos) (it : It) : SP2 := (eval it.1 X.env, do let x ← eval it.2.1 X.env; standAt pos; pure x)
abbrev itK (it : It) : Key × V := it.2.2
theorem trees_it {X : Cx} {pos : Pos} : ∀ its : List It, pairTrees (its.map fun it => some it.1) (its.map fun it => it.2.1) X.env pos = its.map (itP X pos)
  | [] => rfl
  | it :: r => by
    rw [List.map_cons, List.map_cons, List.map_cons, ← trees_it r]
    rfl
theorem paired_app {α β : Type} {F : α → β → Prop} {l₁ r₁ : List α} {l₂ r₂ : List β} (h : Paired F l₁ l₂) (h' : Paired F r₁ r₂) : Paired F (l₁ ++ r₁) (l₂ ++ r₂) := by
  induction h with
  | nil => exact h'
  | cons a _ ih => exact .cons a ih
section
variable {X : Cx} {pos : Pos} {pins : List (Addr × Obj)} {σ : L2.St}
/-- one pair after the other -/
theorem long_walk {p : Addr} {f : SP2 → PUnit → Sem (ForInStep PUnit)} (hf : ∀ it : It, f (itP X pos it) ⟨⟩ = (do
      let kv ← eval it.1 X.env
      let vv ← holding [kv] (do let x ← eval it.2.1 X.env; standAt pos; pure x)
      holding [kv, vv] (dictSet p kv vv)
      pure (.yield ⟨⟩))) : ∀ (its : List It) (acc : List (Key × V)) (s : Shared) (H : Hp) (Q : PUnit → Shared → Prop), (∀ it ∈ its, ItOk X it) → Inv X pins σ H s → H p = some (.dK acc) → ((acc ++ its.map itK).map (·.1)).Nodup → acc.length + its.length ≤ 1000 →
    (∀ s', Inv X pins σ (upd H p (.dK (acc ++ its.map itK))) s' → Q ⟨⟩ s') → wpAny (model X.prog X.w) X.A (forIn (its.map (itP X pos)) (PUnit.unit) f) Q X.xe s
  | [], acc, s, H, Q, _, I, e, _, _, q => by
    have : upd H p (.dK (acc ++ ([] : List It).map itK)) = H := by
      funext b
      by_cases hb : b = p
      · subst hb; rw [upd_same, e]; simp
      · rw [upd_ne hb]
    rw [this] at q
    exact wpAny_pure (q s I)
  | it :: r, acc, s, H, Q, ok, I, e, nd, hz, q => by
    obtain ⟨ok1, ok2⟩ := ok it List.mem_cons_self
    rw [List.map_cons, List.forIn_cons, hf]
    simp only [bind_assoc]
    refine wpAny_bind (thn (ok1.run pins s σ H (fun x H' => x = kV it.2.2.1 ∧ H' = H) I ⟨rfl, rfl⟩) fun kv s1 ⟨x, H1, I1, r1, e1, e2⟩ => ?_)
    subst e1 e2
    refine wpAny_bind (wpAny_holding (wpAny_bind (thn (ok2.run pins s1 σ H1 (fun x H' => x = it.2.2.2 ∧ H' = H1) I1 ⟨rfl, rfl⟩) fun vv s2 ⟨y, H2, I2, r2, e3, e4⟩ => ?_)))
    subst e3 e4
    refine wpAny_bind (wpAny_standAt (wpAny_pure ?_))
    obtain ⟨z, hd, vs, rel, dd⟩ := dk_of I2.hok e
    have hz' : vs.length ≤ sizeLine := by rw [← rel.length]; exact z
    have hl : (putK acc it.2.2.1 it.2.2.2).length ≤ sizeLine := by
      have := length_putK acc it.2.2.1 it.2.2.2
      have := hz
      simp only [List.length_cons] at this
      rw [sizeLine_eq]; omega
    refine wpAny_bind (wpAny_holding (wpAny_dictSet_pairs (hsz := hz') (kV_is r1) dd fun h' dd' hs => ?_))
    refine wpAny_bind (wpAny_pure ?_)
    have he : ∃ q, h'.get? p = some q := let ⟨q, _, _, hq, _⟩ := dd'; ⟨q, hq⟩
    have I3 := d_write (t' := s2.toks + 1) I2 (by rw [e]; exact True.intro) hs he (dk_new hl hd (rel.put it.2.2.1 r2) dd')
    have hn : putK acc it.2.2.1 it.2.2.2 = acc ++ [itK it] := by
      refine putK_new _ ?_
      rw [List.map_append, List.map_cons, List.map_cons, List.nodup_append] at nd
      cases hv : valV acc it.2.2.1 with
      | none => rfl
      | some u =>
        obtain ⟨w1, hw⟩ := Option.map_eq_some_iff.mp hv
        have m1 := List.mem_of_find?_eq_some hw.1
        have m2 := List.find?_some hw.1
        exact absurd (of_decide_eq_true m2) (nd.2.2 _ (List.mem_map.mpr ⟨_, m1, rfl⟩) _ List.mem_cons_self)
    rw [hn] at I3
    refine long_walk hf r (acc ++ [itK it]) _ _ Q (fun i hi => ok i (List.mem_cons_of_mem _ hi)) I3 upd_same (by simpa using nd) (by simp at hz ⊢; omega) fun s' I' => q s' ?_
    rw [upd_upd] at I'
    simpa using I'
theorem sub_long {its : List It} {s : Shared} {H : Hp} {Q : Addr → Shared → Prop} (ok : ∀ it ∈ its, ItOk X it) (I : Inv X pins σ H s) (nd : ((its.map itK).map (·.1)).Nodup) (h15 : 15 < its.length) (hz : its.length ≤ 1000)
    (q : ∀ p s', H p = none → Inv X pins σ (upd H p (.dK (its.map itK))) s' → Q p s') : wpAny (model X.prog X.w) X.A (subDict (its.map (itP X pos))) Q X.xe s := by
  unfold subDict
  have hn := I.hok.fresh (Nat.le_refl s.heap.objs.size)
  have I1 := I.laid (a := s.heap.objs.size) (o := .dK []) (h' := s.heap.push { cls := .type "dict", data := .dict #[] }) (t' := s.toks) (fun _ _ q => Heap.get?_push_of_some _ q) (Nat.le_refl _) (dk_empty s.heap I.big)
  refine wpAny_bind (wpAny_alloc ?_)
  refine wpAny_bind (wpAny_holding ?_)
  rw [if_neg (by rw [List.length_map]; omega)]
  refine wpAny_bind (wpAny_rule ?_)
  refine wpAny_bind (long_walk (fun it => ?_) its [] _ _ _ ok I1 upd_same (by simpa using nd) (by simpa using hz) fun s' I' => ?_)
  · rfl
  · rw [upd_upd] at I'
    exact wpAny_pure (wpAny_pure (q _ _ hn (by simpa using I')))
theorem pps_its : ∀ its : List It, (∀ it ∈ its, ItOk X it) → PPs X pos (its.map fun it => some it.1) (its.map fun it => it.2.1) (its.map fun it => (tC (kV it.2.2.1), tC it.2.2.2))
  | [], _ => pps_nil
  | it :: r, ok => pps_cons (ok it List.mem_cons_self).1 (ok it List.mem_cons_self).2 (pps_its r fun i hi => ok i (List.mem_cons_of_mem _ hi))
theorem tPairs_its {H : Hp} : ∀ (its : List It) (Q : List (V × V) → Hp → Prop), Q (its.map fun it => (kV it.2.2.1, it.2.2.2)) H → tPairs (its.map fun it => (tC (kV it.2.2.1), tC it.2.2.2)) σ H Q
  | [], _, q => q
  | it :: r, Q, q => tPairs_its r (fun ps H3 => Q ((kV it.2.2.1, it.2.2.2) :: ps) H3) q
theorem sub_short {its : List It} {s : Shared} {H : Hp} {Q : Addr → Shared → Prop} (ok : ∀ it ∈ its, ItOk X it) (I : Inv X pins σ H s) (nd : ((its.map itK).map (·.1)).Nodup) (h15 : its.length ≤ 15)
    (q : ∀ p s', H p = none → Inv X pins σ (upd H p (.dK (its.map itK))) s' → Q p s') : wpAny (model X.prog X.w) X.A (subDict (its.map (itP X pos))) Q X.xe s := by
  have hn := I.hok.fresh (Nat.le_refl s.heap.objs.size)
  have I1 := I.laid (a := s.heap.objs.size) (o := .dK []) (h' := s.heap.push { cls := .type "dict", data := .dict #[] }) (t' := s.toks) (fun _ _ q => Heap.get?_push_of_some _ q) (Nat.le_refl _) (dk_empty s.heap I.big)
  refine wpAny_subDict (knd := mixKind X.prog X.w) (by rw [List.length_map]; exact h15) ?_
  rw [← trees_it]
  refine thn ((pps_its its ok).run pins _ σ _ (fun ps H' => ps = its.map (fun it => (kV it.2.2.1, it.2.2.2)) ∧ H' = upd H s.heap.objs.size (.dK [])) I1 (tPairs_its its _ ⟨rfl, rfl⟩)) fun ws s2 ⟨ps, H2, I2, rel, e1, e2⟩ => ?_
  subst e1 e2
  have e3 : (its.map fun it => (kV it.2.2.1, it.2.2.2)) = (its.map itK).map fun kv => (kV kv.1, kv.2) := by rw [List.map_map]; rfl
  rw [e3] at rel
  obtain ⟨rs, c, rk⟩ := carries_of (P := X.prog) (w := X.w) rel
  obtain ⟨z, hd, vs0, r0, dd⟩ := dk_of I2.hok upd_same
  cases r0
  refine ⟨rs, c, dd, fun h' dd' hs => q _ _ hn ?_⟩
  have hm : mergeK [] (its.map itK) = its.map itK := by rw [mergeK_nd _ [] (by simpa using nd)]; rfl
  have hz : (mergeK [] (its.map itK)).length ≤ sizeLine := by rw [hm, List.length_map, sizeLine_eq]; omega
  have he : ∃ q, h'.get? s.heap.objs.size = some q := let ⟨q, _, _, hq, _⟩ := dd'; ⟨q, hq⟩
  have I3 := d_write (t' := s2.toks + ws.length) I2 (by rw [upd_same]; exact True.intro) hs he (dk_new hz hd (rk.merge .nil) dd')
  rw [upd_upd, hm] at I3
  exact I3
/-- a display of more than seventeen constants and less than thirty-three -/
def tBig (kvs : List (Key × V)) : TE := fun σ H Q => ∀ p q ob, H p = none → q ≠ p → H q = none → Q (.ref p) (upd (upd H q ob) p (.dK kvs))
theorem pe_big {a b : List It} {x : It} (oka : ∀ it ∈ a, ItOk X it) (okx : ItOk X x) (okb : ∀ it ∈ b, ItOk X it) (ha : a.length = 16) (hb : b.length ≤ 15) (h0 : b ≠ []) (nd : (((a ++ x :: b).map itK).map (·.1)).Nodup) :
    PE X (.Dict ((a ++ x :: b).map fun it => some it.1) ((a ++ x :: b).map fun it => it.2.1) pos) (tBig ((a ++ x :: b).map itK)) := by
  refine ⟨fun pins s σ H Q I h => ?_⟩
  have e0 : a ++ x :: b = (a ++ [x]) ++ b := by simp
  have nd' : (((a ++ [x]).map itK).map (·.1) ++ (b.map itK).map (·.1)).Nodup := by rw [← List.map_append, ← List.map_append, ← e0]; exact nd
  rw [arm_eval_Dict, zip_pairTrees _ _ _ _ (by simp) (by simp), trees_it, List.map_append, List.map_cons,
    display_two _ _ _ (by rw [List.length_map]; exact ha) (by rw [List.length_map]; omega) (by simpa using h0)]
  refine wpAny_bind (wpAny_standAt ?_)
  have e1 : a.map (itP X pos) ++ [itP X pos x] = (a ++ [x]).map (itP X pos) := by rw [List.map_append]; rfl
  rw [e1]
  refine wpAny_bind (sub_long (fun it hi => by rcases List.mem_append.mp hi with z | z; exact oka it z; rw [List.mem_singleton.mp z]; exact okx) I (List.nodup_append.mp nd').1 (by simp [ha]) (by simp [ha]) fun p s1 hp I1 => ?_)
  refine wpAny_bind (wpAny_holding (sub_short okb I1 (List.nodup_append.mp nd').2.1 hb fun q s2 hq I2 => ?_))
  have qp : q ≠ p := fun z => by rw [z, upd_same] at hq; cases hq
  have hq0 : H q = none := by rw [upd_ne qp] at hq; exact hq
  obtain ⟨z1, d1, vs1, r1, dd1⟩ := dk_of I2.hok (show upd (upd H p (.dK ((a ++ [x]).map itK))) q (.dK (b.map itK)) p = _ by rw [upd_ne (Ne.symm qp), upd_same])
  obtain ⟨z2, d2, vs2, r2, dd2⟩ := dk_of I2.hok (show upd (upd H p (.dK ((a ++ [x]).map itK))) q (.dK (b.map itK)) q = _ from upd_same)
  have k1 := r1.keys
  have k2 := r2.keys
  refine wpAny_bind (wpAny_onRaise (wpAny_holding (merge_plain (knd := mixKind X.prog X.w) (Ne.symm qp) d2 (fun z => ?_) dd1 dd2 (by rw [List.map_append, ← k1, ← k2]; exact nd') (by rw [← r1.length, ← r2.length]; simp [ha]; omega) fun h' dd' _ hs => wpAny_pure ?_)))
  · have := r1.length
    rw [z] at this
    simp at this
  · have he : ∃ o, h'.get? p = some o := let ⟨o, _, _, hq, _⟩ := dd'; ⟨o, hq⟩
    have hl : ((a ++ x :: b).map itK).length ≤ sizeLine := by rw [sizeLine_eq]; simp [ha]; omega
    have rel : KV ((a ++ x :: b).map itK) (vs1 ++ vs2) := by
      rw [e0, List.map_append]
      exact paired_app r1 r2
    have I3 := d_write (t' := s2.toks) I2 (by rw [upd_ne (Ne.symm qp), upd_same]; exact True.intro) hs he (dk_new hl d1 rel dd')
    have hH : upd (upd (upd H p (.dK ((a ++ [x]).map itK))) q (.dK (b.map itK))) p (.dK ((a ++ x :: b).map itK)) = upd (upd H q (.dK (b.map itK))) p (.dK ((a ++ x :: b).map itK)) := by
      funext c
      unfold upd
      split
      · rfl
      · split <;> rfl
    rw [hH] at I3
    exact ⟨.ref p, _, I3, rfl, h p q _ hp qp hq0⟩
end

/-- what stands in the text of a great display -/
def Bigs (X : Cx) (keys : List (Option Expr)) (values : List Expr) (kis : List (Str × Int)) : Prop :=
  ∃ its : List It, keys = its.map (fun it => some it.1) ∧ values = its.map (fun it => it.2.1) ∧ (∀ it ∈ its, ItOk X it) ∧ its.map itK = kis.map fun p => (Sum.inr p.1, V.int p.2)
theorem bigs_nil {X : Cx} : Bigs X [] [] [] := ⟨[], rfl, rfl, (fun _ h => nomatch h), rfl⟩
theorem bigs_cons {X : Cx} {keys : List (Option Expr)} {values : List Expr} {kis : List (Str × Int)} {k : Str} {i : Int} {j j' : Nat} {p p' : Pos} (h : Bigs X keys values kis) :
    Bigs X (some (.Constant (.str k) j p) :: keys) (.Constant (.int i) j' p' :: values) ((k, i) :: kis) := by
  obtain ⟨its, e1, e2, ok, e3⟩ := h
  refine ⟨(.Constant (.str k) j p, .Constant (.int i) j' p', Sum.inr k, .int i) :: its, by rw [e1]; rfl, by rw [e2]; rfl, fun it hi => ?_, by rw [List.map_cons, e3]; rfl⟩
  rcases List.mem_cons.mp hi with z | z
  · subst z; exact ⟨pe_str, pe_int⟩
  · exact ok it z
theorem pem_big {X : Cx} {W : WX} {keys : List (Option Expr)} {values : List Expr} {kis : List (Str × Int)} {pos : Pos} (h : Bigs X keys values kis) (hz : 17 < kis.length ∧ kis.length ≤ 32) (nd : (kis.map (·.1)).Nodup) :
    PEM X W (.Dict keys values pos) (mC (.rdc (kis.map fun p => Sum.inr p.1) (kis.map fun p => D.int p.2))) := by
  obtain ⟨its, e1, e2, ok, e3⟩ := h
  have hl : its.length = kis.length := by
    have := congrArg List.length e3
    simpa using this
  have lt : 16 < its.length := by omega
  have es : its = its.take 16 ++ its[16] :: its.drop 17 := by
    rw [← List.drop_eq_getElem_cons lt, List.take_append_drop]
  have ndk : ((its.map itK).map (·.1)).Nodup := by
    rw [e3, List.map_map]
    have : ((fun x : Key × V => x.1) ∘ fun p : Str × Int => ((Sum.inr p.1 : Key), V.int p.2)) = (fun s : Str => (Sum.inr s : Key)) ∘ fun p : Str × Int => p.1 := rfl
    rw [this, ← List.map_map]
    exact nd.map _ (fun a b hab => fun z => hab (Sum.inr.inj z))
  have pe := pe_big (X := X) (pos := pos) (a := its.take 16) (b := its.drop 17) (x := its[16]) (fun it hi => ok it (List.mem_of_mem_take hi)) (ok _ (List.getElem_mem lt)) (fun it hi => ok it (List.mem_of_mem_drop hi))
    (by rw [List.length_take]; omega) (by rw [List.length_drop]; omega) (by intro z; have := congrArg List.length z; rw [List.length_drop] at this; simp at this; omega) (by rw [← es]; exact ndk)
  rw [← es, ← e1, ← e2] at pe
  refine PE.imp pe fun σ H Q ⟨L, h, δ, r, s, a⟩ p q ob hp hqp hq => ?_
  obtain ⟨x0, r0⟩ := r.fresh (o := ob) hq
  have hp' : upd H q ob p = none := by rw [upd_ne (Ne.symm hqp)]; exact hp
  obtain ⟨x1, r1⟩ := r0.fresh (o := .dK (its.map itK)) hp'
  refine a L _ _ (x0.trans x1) r1 ?_
  unfold Rep
  refine ⟨p, kis.map fun p => V.int p.2, rfl, .inl ?_, r0.nl_new hp', ⟨by simp, ?_⟩, ?_⟩
  · rw [upd_same, e3, List.zip_map']
  · intro z
    have := congrArg List.length z
    rw [List.length_map] at this
    simp at this
    rw [this] at hz
    simp at hz
  · have := repL_ints (K := X.K) (L := L) (H := upd (upd H q ob) p (.dK (its.map itK))) (kis.map (·.2))
    simpa [List.map_map, Function.comp_def] using this
section
variable {X : Cx} {W : WX} {pos : Pos}
/-- f() -/
theorem pe_callS0 {CX : CXT} {k : Nat} {f : Addr} {fd : FuncData} {ps : List Str} {sp : Sp} {E : L2.St → XK} {x : Str} {p : Pos} (F : FnOk X.prog X.w X.K X.mg X.base CX k f fd ps sp) (hr : Room k X.A) (hg : Gl X x) (hm : X.mg x = some (.ref f)) (hk : PySem.W.keepIn X.K (.ref f) = true) (hb : Binds X.K fd ps []) (hx : ∀ σ, PassesAt CX X σ (E σ))
    (hdb : (x == ("__debug__" : Str)) = false := by decide) : PE X (.Call (.Name x p) [] [] pos) (tCallS sp E tNil) := by
  refine ⟨fun pins s σ H Q I h => ?_⟩
  refine wpAny_Call_Name_kw (ld_glob I hg hm ?_ hdb)
  exact PySem.W.callWith_K0 I.kIn hk (run_fnS (us := []) F hr hb (hx σ) I .nil h)
theorem pem_call0 {x : Str} {st : Stmt} {f : Addr} {fd : FuncData} {ps : List Str} {k : Nat} {m : List D → MH → R D} {p : Pos} (F : FnM X.prog X.w X.K X.mg X.base k f fd ps m) (DA : DefAt X.K X.mg x st f fd ps) (hr : Room k X.A) (tk : L2N.Takes X W) (hg : Gl X x)
    (hdb : (x == ("__debug__" : Str)) = false := by decide) : PEM X W (.Call (.Name x p) [] [] pos) (mCall m mNil) :=
  PE.imp (pe_callS0 (E := WE W) F hr hg DA.mg' DA.fn.kp DA.bi (fun σ => L2N.passAt tk σ) hdb) fun σ H Q ⟨L, h, δ, r0, s, a⟩ => ⟨L, h, [], r0, .nil, a⟩
end
/-- str(x) of an int or a text -/
def fStr3 (ds : List D) (h : MH) : R D := match ds with
  | [.str s] => .ok (.str s) h
  | ds => fStr ds h
theorem call_str3 {X : Cx} : CallR X (.type "str") (fun xs H Q => (∃ i, xs = [.int i] ∧ i.natAbs.log2 < 1920 ∧ Q (.str (toString i)) H) ∨ (∃ a, xs = [.str a] ∧ Q (.str a) H)) := call_str_int.or SkE.call_str_str
theorem fStr3_ok {K : PySem.W.Frag} : CallM K (fun xs H Q => (∃ i, xs = [.int i] ∧ i.natAbs.log2 < 1920 ∧ Q (.str (toString i)) H) ∨ (∃ a, xs = [.str a] ∧ Q (.str a) H)) fStr3 := by
  intro L H h ds vs Q E r w a
  unfold fStr3 at a
  split at a
  · rename_i s
    obtain ⟨v, rfl, q⟩ := w.one
    exact .inr ⟨s, by rw [rep_str_inv q], ans_okE r rep_str a⟩
  · exact .inl (fStr_ok L H h _ vs Q E r w a)
/-! ### list + list, nobody changes them -/
def rCatS (K : PySem.W.Frag) : R2 := fun x y H Q => ∃ l b xs zs, x = .ref l ∧ y = .ref b ∧ SqL K H l xs ∧ SqL K H b zs ∧ xs.length + zs.length ≤ sizeLine ∧ ∀ p, H p = none → Q (.ref p) (upd H p (.lst (xs ++ zs)))
theorem op_catS {X : Cx} : OpR X (binaryOp .Add) (rCatS X.K) := by
  intro pins s σ H x y v u Q I rx ry h
  obtain ⟨l, b, xs, zs, rfl, rfl, hH, hB, hz, q⟩ := h
  cases rx
  cases ry
  obtain ⟨its, r, ⟨o, n, e, c, dn, d⟩, _⟩ := I.list hH
  obtain ⟨its2, r2, ⟨o2, n2, e2, c2, dn2, d2⟩, _⟩ := I.list hB
  obtain ⟨oc, od, odt, osl⟩ := o
  obtain ⟨oc2, od2, odt2, osl2⟩ := o2
  simp only at c dn d c2 dn2 d2
  subst c d c2 d2
  have h1 := r.length
  have h2 := r2.length
  have hsz : its.toArray.size + its2.toArray.size ≤ sizeLine := by rw [List.size_toArray, List.size_toArray]; omega
  refine concat_meets ⟨_, e, rfl⟩ ⟨_, e2, rfl⟩ noFill_list_add seq_list_add PySem.F.slot_list_add PySem.F.entry_list_add (PySem.F.args_list_add_2 _ _) (list_addW l b its.toArray its2.toArray n n2 od od2 osl osl2 hsz) ⟨e, e2, ?_⟩
  have ea : its.toArray ++ its2.toArray = (its ++ its2).toArray := by simp
  rw [ea]
  exact ⟨.ref _, _, I.lnew (t' := s.toks) (r.append r2) (by rw [List.length_append]; omega), rfl, q _ I.fresh⟩
def opAddS (x y : D) (h : MH) : R D := match x, y with
  | .rol a, .rol b => if a.length + b.length ≤ 16777216 then .ok (.rol (a ++ b)) h else .stuck
  | x, y => opAdd x y h
def rAddS (K : PySem.W.Frag) : R2 := fun x y H Q => rAdd3 K x y H Q ∨ rCatS K x y H Q
theorem op_addS {X : Cx} : OpR X (binaryOp .Add) (rAddS X.K) := op_add3.or op_catS
theorem rol_sf {K L H v ds} (q : Rep K L H (.rol ds) v) : ∃ p xs, v = .ref p ∧ SqL K H p xs ∧ RepL K L H ds xs := by
  unfold Rep at q
  obtain ⟨p, xs, rfl, s, w⟩ := q
  exact ⟨p, xs, rfl, s.sq, w⟩
theorem opAddS_ok {K : PySem.W.Frag} : OpM K (rAddS K) opAddS := by
  intro L H h dx dy x y Q E r px py a
  unfold opAddS at a
  split at a
  · rename_i ds es
    split at a
    · rename_i z
      obtain ⟨p, xs, rfl, s, w⟩ := rol_sf px
      obtain ⟨q, ys, rfl, s', w'⟩ := rol_sf py
      exact .inr ⟨p, q, xs, ys, rfl, rfl, s, s', by rw [← w.length, ← w'.length]; exact szl z, fun p hp => ans_of (rep_rol r hp (w.append w')) a⟩
    · exact a.elim
  · exact .inl (opAdd_ok L H h dx dy x y Q E r px py a)
section
variable {h : MH}
@[simp] theorem opAddS_int {i j : Int} : opAddS (.int i) (.int j) h = .ok (.int (i + j)) h := rfl
@[simp] theorem opAddS_str {x y : Str} (e : x.length + y.length ≤ 16777216) : opAddS (.str x) (.str y) h = .ok (.str (x ++ y)) h := if_pos e
@[simp] theorem opAddS_tup {x y : List D} (e : x.length + y.length ≤ 16777216) : opAddS (.tup x) (.tup y) h = .ok (.tup (x ++ y)) h := if_pos e
@[simp] theorem opAddS_rol {x y : List D} (e : x.length + y.length ≤ 16777216) : opAddS (.rol x) (.rol y) h = .ok (.rol (x ++ y)) h := if_pos e
end
end MM

set_option maxHeartbeats 2000000
/-! list(zip(a, b)) of two lists -/
namespace MZ
open PySem PySem.Spec PyProof.Rows
section
variable {M : Model} {A : Around} {E : Value → Shared → Prop} {s : Shared}
theorem alive {a : Addr} {o : Option Obj} {Q : Option Obj → Shared → Prop} (ho : s.heap.get? a = o) (h : Q o s) : wpAny M A (loadIfAlive a) Q E s := fun Γ p _ => by
  show Sem.wp M Γ (.loadIfAlive a .pure) _ _ p s
  rw [Sem.wp_loadIfAlive, ho]
  exact (Sem.wp_pure ..).mpr h
end
def zipO (f0 f1 : Value) (TI TO : Addr) : Obj := { cls := .type "zip", dict := none, data := .fields #[f0, f1, .bool false, .ref TI, .ref TO], slots := #[] }
section
variable {prog : Program} {w : World} {A : Around} {E : Value → Shared → Prop} {s : Shared} {z TI TO i1 i2 l1 l2 T : Addr} {k1 k2 : Nat} {xs ys : Array Value} {x y : Value} {f1 : Bool}
theorem notFree {oT : Obj} {Q : Bool → Shared → Prop} (hz : s.heap.get? z = some (zipO (rawInt T) (.bool f1) TI TO)) (hT : s.heap.get? T = some oT)
    (hQ : ∀ h', h'.get? z = some (zipO (rawInt T) (.bool true) TI TO) → Heap.SameBut z s.heap h' → Q false { s with heap := h' }) : wpAny (model prog w) A (Builtin.SmallTypes.ownedTupleIsFree (.ref z)) Q E s := by
  unfold Builtin.SmallTypes.ownedTupleIsFree
  refine wpAny_bind (wpAny_field hz rfl (x := rawInt T) rfl ?_)
  refine wpAny_bind (alive (o := some oT) ?_ ?_)
  · show s.heap.get? (Int.toNat (T : Int)) = _
    rw [Int.toNat_natCast]; exact hT
  show wpAny _ _ (field (.ref z) 1 >>= _) _ _ _
  refine wpAny_bind (wpAny_field hz rfl (x := .bool f1) rfl ?_)
  cases f1 with
  | true => exact wpAny_pure (hQ s.heap hz ⟨rfl, fun _ _ => rfl⟩)
  | false => exact wpAny_bind (wpAny_setField_rec hz (by simp) fun h₁ hz₁ hs₁ => wpAny_pure (hQ h₁ hz₁ hs₁))
theorem again_item {oT : Obj} {Q : Value → Shared → Prop} (D : ZipApart z TI TO i1 i2 l1 l2) (hz : s.heap.get? z = some (zipO (rawInt T) (.bool f1) TI TO)) (hT : s.heap.get? T = some oT) (hTI : IsPair s.heap TI (.ref i1) (.ref i2))
    (h1 : s.heap.IsListIter i1 l1 k1) (h2 : s.heap.IsListIter i2 l2 k2) (hl1 : s.heap.IsList l1 xs) (hl2 : s.heap.IsList l2 ys) (hx : xs[k1]? = some x) (hy : ys[k2]? = some y)
    (hQ : ∀ h', h'.get? z = some (zipO (rawInt T) (.bool true) TI TO) → h'.IsListIter i1 l1 (k1 + 1) → h'.IsListIter i2 l2 (k2 + 1) → IsPair h' s.heap.objs.size x y → h'.objs.size = s.heap.objs.size + 1 →
      (∀ c o, c ≠ z → c ≠ i1 → c ≠ i2 → s.heap.get? c = some o → h'.get? c = some o) → Q (.ref s.heap.objs.size) { s with heap := h' }) :
    wpAny (model prog w) A (Builtin.«zip.__next__» ⟨[.ref z], []⟩) (fun fin s' => ∃ v, fin = .done (.ret v) ∧ Q v s') E s := by
  show wpAny _ _ (field (.ref z) 2 >>= _) _ _ _
  refine wpAny_bind (wpAny_field hz rfl (x := .bool false) rfl ?_)
  show wpAny _ _ (field (.ref z) 3 >>= _) _ _ _
  refine wpAny_bind (wpAny_field hz rfl (x := .ref TI) rfl (wpAny_bind (wpAny_seqItems hTI rfl ?_)))
  show wpAny _ _ (Builtin.SmallTypes.ownedTupleIsFree (.ref z) >>= _) _ _ _
  refine wpAny_bind (notFree hz hT fun h₁ hz₁ hs₁ => ?_)
  simp only [Bool.false_eq_true, if_false]
  rw [← Array.forIn_toList]
  simp only [List.forIn_cons, List.forIn_nil]
  refine wpAny_bind (wpAny_bind (wpAny_bind (wpAny_holding ?_)))
  show wpAny _ _ (Builtin.SmallTypes.nextOf (.ref i1) >>= _) _ _ _
  refine wpAny_bind (wpAny_nextOf_list_item (h1.extBut hs₁.extBut D.i1z) (hl1.extBut hs₁.extBut D.l1z) hx fun h₂ h1₂ hs₂ => wpAny_pure (wpAny_pure ?_))
  refine wpAny_bind (wpAny_bind (wpAny_holding ?_))
  show wpAny _ _ (Builtin.SmallTypes.nextOf (.ref i2) >>= _) _ _ _
  refine wpAny_bind (wpAny_nextOf_list_item ((h2.extBut hs₁.extBut D.i2z).extBut hs₂.extBut D.i12.symm) ((hl2.extBut hs₁.extBut D.l2z).extBut hs₂.extBut D.l2i1) hy fun h₃ h2₃ hs₃ => wpAny_pure (wpAny_pure ?_))
  refine wpAny_pure ?_
  show wpAny _ _ (newTuple [x, y] >>= _) _ _ _
  refine wpAny_bind (wpAny_newTuple ?_)
  have sz : h₃.objs.size = s.heap.objs.size := by rw [hs₃.1, hs₂.1, hs₁.1]
  refine wpAny_pure ⟨_, rfl, ?_⟩
  have up : ∀ c o, c ≠ z → c ≠ i1 → c ≠ i2 → s.heap.get? c = some o → h₃.get? c = some o := fun c o c1 c2 c3 e => hs₃.extBut _ _ c3 (hs₂.extBut _ _ c2 (hs₁.extBut _ _ c1 e))
  rw [show (Value.ref h₃.objs.size) = .ref s.heap.objs.size by rw [sz]]
  refine hQ _ (Heap.get?_push_of_some _ (hs₃.extBut _ _ D.i2z.symm (hs₂.extBut _ _ D.i1z.symm hz₁))) (((h1₂.extBut hs₃.extBut D.i12).at fun o e => Heap.get?_push_of_some _ e)) (h2₃.at fun o e => Heap.get?_push_of_some _ e) ?_ (by rw [Heap.size_push, sz]) fun c o c1 c2 c3 e => Heap.get?_push_of_some _ (up c o c1 c2 c3 e)
  rw [← sz]
  exact Heap.get?_push_size _ rfl
theorem again_end {oT : Obj} {Q : Fin → Shared → Prop} (hh : A.handled = none) (D : ZipApart z TI TO i1 i2 l1 l2) (hz : s.heap.get? z = some (zipO (rawInt T) (.bool f1) TI TO)) (hT : s.heap.get? T = some oT) (hTI : IsPair s.heap TI (.ref i1) (.ref i2))
    (h1 : s.heap.IsListIter i1 l1 k1) (h2 : s.heap.IsListIter i2 l2 k2) (hl1 : s.heap.IsList l1 xs) (hl2 : s.heap.IsList l2 ys) (hend : xs[k1]? = none ∨ ys[k2]? = none)
    (hE : ∀ h' e, (∀ c o, c ≠ z → c ≠ i1 → c ≠ i2 → s.heap.get? c = some o → h'.get? c = some o) → (∃ o, h'.get? e = some o ∧ o.cls = .type "StopIteration") → E (.ref e) { s with heap := h' }) :
    wpAny (model prog w) A (Builtin.«zip.__next__» ⟨[.ref z], []⟩) Q E s := by
  show wpAny _ _ (field (.ref z) 2 >>= _) _ _ _
  refine wpAny_bind (wpAny_field hz rfl (x := .bool false) rfl ?_)
  show wpAny _ _ (field (.ref z) 3 >>= _) _ _ _
  refine wpAny_bind (wpAny_field hz rfl (x := .ref TI) rfl (wpAny_bind (wpAny_seqItems hTI rfl ?_)))
  show wpAny _ _ (Builtin.SmallTypes.ownedTupleIsFree (.ref z) >>= _) _ _ _
  refine wpAny_bind (notFree hz hT fun h₁ hz₁ hs₁ => ?_)
  simp only [Bool.false_eq_true, if_false]
  rw [← Array.forIn_toList]
  simp only [List.forIn_cons, List.forIn_nil]
  refine wpAny_bind (wpAny_bind (wpAny_bind (wpAny_holding ?_)))
  show wpAny _ _ (Builtin.SmallTypes.nextOf (.ref i1) >>= _) _ _ _
  cases hx : xs[k1]? with
  | none => exact wpAny_bind (wpAny_nextOf_list_end hh (h1.extBut hs₁.extBut D.i1z) (hl1.extBut hs₁.extBut D.l1z) hx fun h₂ e hs₂ he => hE h₂ e (fun c o c1 c2 _ q => hs₂ _ _ c2 (hs₁.extBut _ _ c1 q)) he)
  | some x =>
    have hy : ys[k2]? = none := by
      rcases hend with h | h
      · rw [hx] at h; cases h
      · exact h
    refine wpAny_bind (wpAny_nextOf_list_item (h1.extBut hs₁.extBut D.i1z) (hl1.extBut hs₁.extBut D.l1z) hx fun h₂ h1₂ hs₂ => wpAny_pure (wpAny_pure ?_))
    refine wpAny_bind (wpAny_bind (wpAny_holding ?_))
    show wpAny _ _ (Builtin.SmallTypes.nextOf (.ref i2) >>= _) _ _ _
    exact wpAny_bind (wpAny_nextOf_list_end hh ((h2.extBut hs₁.extBut D.i2z).extBut hs₂.extBut D.i12.symm) ((hl2.extBut hs₁.extBut D.l2z).extBut hs₂.extBut D.l2i1) hy fun h₃ e hs₃ he => hE h₃ e (fun c o c1 c2 c3 q => hs₃ _ _ c3 (hs₂.extBut _ _ c2 (hs₁.extBut _ _ c1 q))) he)
theorem next_again {oT : Obj} {Q : Option Value → Shared → Prop} (D : ZipApart z TI TO i1 i2 l1 l2) (hz : s.heap.get? z = some (zipO (rawInt T) (.bool f1) TI TO)) (hT : s.heap.get? T = some oT) (hTI : IsPair s.heap TI (.ref i1) (.ref i2))
    (h1 : s.heap.IsListIter i1 l1 k1) (h2 : s.heap.IsListIter i2 l2 k2) (hl1 : s.heap.IsList l1 xs) (hl2 : s.heap.IsList l2 ys) (hx : xs[k1]? = some x) (hy : ys[k2]? = some y)
    (hQ : ∀ h', h'.get? z = some (zipO (rawInt T) (.bool true) TI TO) → h'.IsListIter i1 l1 (k1 + 1) → h'.IsListIter i2 l2 (k2 + 1) → IsPair h' s.heap.objs.size x y → h'.objs.size = s.heap.objs.size + 1 →
      (∀ c o, c ≠ z → c ≠ i1 → c ≠ i2 → s.heap.get? c = some o → h'.get? c = some o) → Q (some (.ref s.heap.objs.size)) { s with heap := h' }) : wpAny (model prog w) A (pyNext (.ref z)) Q E s := by
  have ty : s.TypeIs (.ref z) "zip" := ⟨_, hz, rfl⟩
  unfold pyNext
  exact wpAny_bind (wpAny_attempt (wpAny_callSpecial?_slot (name := Str.ofString "__next__") ty F.slot_zip_next (wpAny_call_entry F.slot_zip_next ty F.entry_zip_next (again_item D hz hT hTI h1 h2 hl1 hl2 hx hy fun h' a1 a2 a3 a4 a5 a6 => wpAny_pure (hQ h' a1 a2 a3 a4 a5 a6)) (F.args_zip_next_1 _))))
theorem next_stop {oT : Obj} {Q : Option Value → Shared → Prop} (hh : A.handled = none) (D : ZipApart z TI TO i1 i2 l1 l2) (hz : s.heap.get? z = some (zipO (rawInt T) (.bool f1) TI TO)) (hT : s.heap.get? T = some oT) (hTI : IsPair s.heap TI (.ref i1) (.ref i2))
    (h1 : s.heap.IsListIter i1 l1 k1) (h2 : s.heap.IsListIter i2 l2 k2) (hl1 : s.heap.IsList l1 xs) (hl2 : s.heap.IsList l2 ys) (hend : xs[k1]? = none ∨ ys[k2]? = none)
    (hQ : ∀ h', (∀ c o, c ≠ z → c ≠ i1 → c ≠ i2 → s.heap.get? c = some o → h'.get? c = some o) → Q none { s with heap := h' }) : wpAny (model prog w) A (pyNext (.ref z)) Q E s := by
  have ty : s.TypeIs (.ref z) "zip" := ⟨_, hz, rfl⟩
  unfold pyNext
  refine wpAny_bind (wpAny_attempt (wpAny_callSpecial?_slot (name := Str.ofString "__next__") ty F.slot_zip_next (wpAny_call_entry F.slot_zip_next ty F.entry_zip_next (again_end hh D hz hT hTI h1 h2 hl1 hl2 hend fun h' e hk he => ?_) (F.args_zip_next_1 _))))
  obtain ⟨o, ho, hc⟩ := he
  exact wpAny_bind (wpAny_isInstance (T := "StopIteration") (b := true) ⟨o, ho, hc⟩ isSubtype_stop (wpAny_pure (hQ _ hk)))
end
/-- the pairs that were made -/
structure ZMade (xs ys : Array Value) (lo : Nat) (h : Heap) (ts : List Addr) : Prop where
  rise : ts.Pairwise (· < ·)
  low : ∀ t ∈ ts, lo ≤ t
  prs : ∀ (j : Nat) (t : Addr), ts[j]? = some t → ∃ x y, xs[j]? = some x ∧ ys[j]? = some y ∧ IsPair h t x y
abbrev lstO (acc : Array Value) (c : Nat) : Obj := { cls := .type "list", dict := none, data := .seq acc c, slots := #[] }
theorem ZMade.up {xs ys : Array Value} {lo : Nat} {h h' : Heap} {ts : List Addr} (g : ZMade xs ys lo h ts) (k : ∀ t ∈ ts, ∀ o, h.get? t = some o → h'.get? t = some o) : ZMade xs ys lo h' ts :=
  ⟨g.rise, g.low, fun j t e => let ⟨x, y, e1, e2, e3⟩ := g.prs j t e; ⟨x, y, e1, e2, k t (List.mem_of_getElem? e) _ e3⟩⟩
theorem ZMade.add {xs ys : Array Value} {lo : Nat} {h : Heap} {ts : List Addr} {t : Addr} {x y : Value} (g : ZMade xs ys lo h ts) (hl : ∀ u ∈ ts, u < t) (hlo : lo ≤ t) (hx : xs[ts.length]? = some x) (hy : ys[ts.length]? = some y) (hp : IsPair h t x y) : ZMade xs ys lo h (ts ++ [t]) := by
  refine ⟨List.pairwise_append.mpr ⟨g.rise, List.pairwise_singleton _ _, fun a ha b hb => by rw [List.mem_singleton.mp hb]; exact hl a ha⟩, fun u hu => ?_, fun j u hj => ?_⟩
  · rcases List.mem_append.mp hu with hu | hu
    · exact g.low u hu
    · rw [List.mem_singleton.mp hu]; exact hlo
  · by_cases hjl : j < ts.length
    · rw [List.getElem?_append_left hjl] at hj
      exact g.prs j u hj
    · have hj2 := (List.getElem?_eq_some_iff.mp hj).1
      have e : j = ts.length := by rw [List.length_append, List.length_singleton] at hj2; omega
      subst e
      have : t = u := by simpa using hj
      subst this
      exact ⟨x, y, hx, hy, hp⟩
section
variable {prog : Program} {w : World} {A : Around} {s : Shared} {R : Result → Shared → Prop} {S z TI TO i1 i2 l1 l2 : Addr} {xs ys : Array Value} {lo n : Nat} {h₁ : Heap} {res : Value}
theorem zloop (hh : A.handled = none) (D : ZipApart z TI TO i1 i2 l1 l2) (sz : S ≠ z) (s1 : S ≠ i1) (s2 : S ≠ i2) (sl1 : l1 ≠ S) (sl2 : l2 ≠ S) (sT : TI ≠ S) (hlo : z < lo ∧ i1 < lo ∧ i2 < lo ∧ S < lo) (hn : n = min xs.size ys.size) (hs : n ≤ sizeLine)
    (hR : ∀ h' tk acc c ts, (∀ b o, b ≠ S → b ≠ z → b ≠ i1 → b ≠ i2 → h₁.get? b = some o → h'.get? b = some o) → h'.get? S = some (lstO acc c) → ts.length = n → ZMade xs ys lo h' ts → acc.toList = ts.map Value.ref → R (.ok (.ret res)) { s with heap := h', toks := tk }) :
    ∀ (m k : Nat) (h : Heap) (tk c : Nat) (acc : Array Value) (ts : List Addr) (T : Addr) (oT : Obj) (f1 : Bool), n - k = m → k ≤ n → h.get? z = some (zipO (rawInt T) (.bool f1) TI TO) → h.get? T = some oT → lo ≤ T → IsPair h TI (.ref i1) (.ref i2) →
      h.IsListIter i1 l1 k → h.IsListIter i2 l2 k → h.IsList l1 xs → h.IsList l2 ys → (∀ b o, b ≠ S → b ≠ z → b ≠ i1 → b ≠ i2 → h₁.get? b = some o → h.get? b = some o) → h.get? S = some (lstO acc c) → acc.toList = ts.map Value.ref → ts.length = k → ZMade xs ys lo h ts → lo ≤ h.objs.size →
      codeAny (model prog w) A (.builtin "list.extend.loop" ⟨[.ref S, .ref z, res], []⟩) R { s with heap := h, toks := tk } := by
  have q1 : @LT.lt Nat _ z lo := hlo.1
  have q2 : @LT.lt Nat _ i1 lo := hlo.2.1
  have q3 : @LT.lt Nat _ i2 lo := hlo.2.2.1
  have q4 : @LT.lt Nat _ S lo := hlo.2.2.2
  intro m
  induction m with
  | zero =>
    intro k h tk c acc ts T oT f1 hm hk hz hT hTl hTI h1 h2 g1 g2 keep hS hacc hts hG hsz
    refine codeAny_builtin PySem.F.entry_extend_loop ?_
    rw [Around.under_plainId PySem.F.plain_extend_loop _]
    have hend : xs[k]? = none ∨ ys[k]? = none := by
      by_cases q : xs.size ≤ k
      · exact .inl (by simp; exact q)
      · exact .inr (by simp; omega)
    refine wpAny_bind (next_stop (s := { s with heap := h, toks := tk }) (A := A.in1) hh D hz hT hTI h1 h2 g1 g2 hend fun h' k' => wpAny_pure (hR h' tk acc c ts (fun b o b1 b2 b3 b4 e => k' b o b2 b3 b4 (keep b o b1 b2 b3 b4 e)) (k' S _ sz s1 s2 hS) (by omega) (hG.up fun t ht o e => ?_) hacc))
    have := hG.low t ht
    exact k' t o (fun q => by rw [q] at this; omega) (fun q => by rw [q] at this; omega) (fun q => by rw [q] at this; omega) e
  | succ m ih =>
    intro k h tk c acc ts T oT f1 hm hk hz hT hTl hTI h1 h2 g1 g2 keep hS hacc hts hG hsz
    have kx : k < xs.size := by omega
    have ky : k < ys.size := by omega
    refine codeAny_builtin PySem.F.entry_extend_loop ?_
    rw [Around.under_plainId PySem.F.plain_extend_loop _]
    refine wpAny_bind (next_again (s := { s with heap := h, toks := tk }) (A := A.in1) D hz hT hTI h1 h2 g1 g2 (Array.getElem?_eq_getElem kx) (Array.getElem?_eq_getElem ky) fun h' z' h1' h2' hp hsz' k' => ?_)
    dsimp only at hp hsz' k' ⊢
    have hSl : S < h.objs.size := Heap.lt_size hS
    have hS' := k' S _ sz s1 s2 hS
    have sz2 : acc.size = k := by rw [← Array.length_toList, hacc, List.length_map, hts]
    have up : ∀ b o, b ≠ S → h'.get? b = some o → (h'.update S (Obj.mapSeq (·.push (Value.ref h.objs.size)))).get? b = some o := fun b o hb e => (Heap.get?_update_other _ _ (Ne.symm hb)).trans e
    show wpAny _ A.in1 (updateSeq S (·.push (Value.ref h.objs.size)) >>= fun _ => again _) _ _ _
    have far : ∀ {t : Addr}, lo ≤ t → t ≠ S ∧ t ≠ z ∧ t ≠ i1 ∧ t ≠ i2 := fun {t} ht => ⟨fun e => absurd q4 (by rw [← e]; exact Nat.not_lt.mpr ht), fun e => absurd q1 (by rw [← e]; exact Nat.not_lt.mpr ht), fun e => absurd q2 (by rw [← e]; exact Nat.not_lt.mpr ht), fun e => absurd q3 (by rw [← e]; exact Nat.not_lt.mpr ht)⟩
    have keepB : ∀ b o, b ≠ S → b ≠ z → b ≠ i1 → b ≠ i2 → h.get? b = some o → (h'.update S (Obj.mapSeq (·.push (Value.ref h.objs.size)))).get? b = some o := fun b o b1 b2 b3 b4 e => up b o b1 (k' b o b2 b3 b4 e)
    refine wpAny_bind (wpAny_updateSeq hS' rfl (wpAny_pure ⟨plainId_quiet PySem.F.plain_extend_loop _, ih (k + 1) _ tk _ (acc.push (Value.ref h.objs.size)) (ts ++ [h.objs.size]) T oT true (by omega) (by omega) (up z _ (Ne.symm sz) z')
      (keepB T _ (far hTl).1 (far hTl).2.1 (far hTl).2.2.1 (far hTl).2.2.2 hT) hTl (up TI _ sT (k' TI _ D.TIz D.TIi1 D.TIi2 hTI)) (h1'.at fun o e => up _ o (Ne.symm s1) e) (h2'.at fun o e => up _ o (Ne.symm s2) e)
      (g1.at fun o e => keepB l1 o sl1 D.l1z D.l1i1 D.l1i2 e) (g2.at fun o e => keepB l2 o sl2 D.l2z D.l2i1 D.l2i2 e) (fun b o b1 b2 b3 b4 e => keepB b o b1 b2 b3 b4 (keep b o b1 b2 b3 b4 e)) (Heap.get?_update_self _ hS' rfl) (by rw [Array.toList_push, hacc, List.map_append]; rfl) (by rw [List.length_append, hts]; rfl) ?_ ?_⟩)
      (by rw [sz2]; omega) (by show (acc.push (Value.ref h.objs.size)).size ≤ sizeLine + 1; rw [Array.size_push, sz2]; omega))
    · refine ZMade.add (hG.up fun t ht o e => ?_) (fun u hu => ?_) hsz (by rw [hts]; exact Array.getElem?_eq_getElem kx) (by rw [hts]; exact Array.getElem?_eq_getElem ky) (up _ _ (Nat.ne_of_gt hSl) hp)
      · have f := far (hG.low t ht)
        exact keepB t o f.1 f.2.1 f.2.2.1 f.2.2.2 e
      · obtain ⟨j, hj⟩ := List.mem_iff_getElem?.mp hu
        obtain ⟨_, _, _, _, e⟩ := hG.prs j u hj
        exact Heap.lt_size e
    · have e : (h'.update S (Obj.mapSeq (·.push (Value.ref h.objs.size)))).get? h.objs.size = some _ := up _ _ (Nat.ne_of_gt hSl) hp
      exact Nat.le_of_lt (Nat.lt_of_le_of_lt hsz (Heap.lt_size e))
end
theorem zip_noLen : typeLookup (.type "zip") "__len__" = pure none := by rw [typeLookup_type, builtinLookup_eq_fast]; kernel_rfl
theorem zip_noHint : typeLookup (.type "zip") "__length_hint__" = pure none := by rw [typeLookup_type, builtinLookup_eq_fast]; kernel_rfl
section
variable {prog : Program} {w : World} {A : Around} {E : Value → Shared → Prop} {s : Shared} {R : Result → Shared → Prop} {S z TI TO i1 i2 l1 l2 : Addr} {xs ys : Array Value} {lo n : Nat} {res a b : Value}
/-- the first turn, then the others -/
theorem zfirst (hh : A.handled = none) (D : ZipApart z TI TO i1 i2 l1 l2) (sz : S ≠ z) (s1 : S ≠ i1) (s2 : S ≠ i2) (sl1 : l1 ≠ S) (sl2 : l2 ≠ S) (sT : TI ≠ S) (sO : TO ≠ S) (hlo : z < s.heap.objs.size ∧ i1 < s.heap.objs.size ∧ i2 < s.heap.objs.size ∧ S < s.heap.objs.size ∧ TO < s.heap.objs.size) (hn : n = min xs.size ys.size) (hs : n ≤ sizeLine)
    (hz : IsZip s.heap z TI TO .none) (hTI : IsPair s.heap TI (.ref i1) (.ref i2)) (hTO : IsPair s.heap TO a b) (h1 : s.heap.IsListIter i1 l1 0) (h2 : s.heap.IsListIter i2 l2 0) (g1 : s.heap.IsList l1 xs) (g2 : s.heap.IsList l2 ys) {c : Nat} (hS : s.heap.get? S = some (lstO #[] c))
    (hR : ∀ h' tk acc c ts, (∀ b o, b ≠ S → b ≠ z → b ≠ i1 → b ≠ i2 → b ≠ TO → s.heap.get? b = some o → h'.get? b = some o) → h'.get? S = some (lstO acc c) → ts.length = n → ZMade xs ys s.heap.objs.size h' ts → acc.toList = ts.map Value.ref → R (.ok (.ret res)) { s with heap := h', toks := tk }) :
    codeAny (model prog w) A (.builtin "list.extend.loop" ⟨[.ref S, .ref z, res], []⟩) R s := by
  refine codeAny_builtin PySem.F.entry_extend_loop ?_
  rw [Around.under_plainId PySem.F.plain_extend_loop _]
  by_cases h0 : n = 0
  · have hend : xs[0]? = none ∨ ys[0]? = none := by
      by_cases q : xs.size ≤ 0
      · exact .inl (Array.getElem?_eq_none q)
      · exact .inr (Array.getElem?_eq_none (by omega))
    exact wpAny_bind (wpAny_pyNext_zip_end (A := A.in1) hh D hz hTI hTO h1 h2 g1 g2 hend fun h' k' => wpAny_pure (hR h' s.toks #[] c [] (fun b o _ b2 b3 b4 b5 e => k' b o b2 b5 b3 b4 e) (k' S _ sz (Ne.symm sO) s1 s2 hS) h0.symm ⟨List.Pairwise.nil, (fun _ q => nomatch q), fun j t q => by simp at q⟩ rfl))
  · have kx : 0 < xs.size := by omega
    have ky : 0 < ys.size := by omega
    refine wpAny_bind (wpAny_pyNext_zip_item (A := A.in1) D hz hTI hTO h1 h2 g1 g2 (Array.getElem?_eq_getElem kx) (Array.getElem?_eq_getElem ky) fun h' z' _ h1' h2' hp hsz' k' => ?_)
    have hS' := k' S _ sz (Ne.symm sO) s1 s2 hS
    have hSl : S < s.heap.objs.size := Heap.lt_size hS
    have up : ∀ b o, b ≠ S → h'.get? b = some o → (h'.update S (Obj.mapSeq (·.push (Value.ref s.heap.objs.size)))).get? b = some o := fun b o hb e => (Heap.get?_update_other _ _ (Ne.symm hb)).trans e
    show wpAny _ A.in1 (updateSeq S (·.push (Value.ref s.heap.objs.size)) >>= fun _ => again _) _ _ _
    have keepB : ∀ b o, b ≠ S → b ≠ z → b ≠ TO → b ≠ i1 → b ≠ i2 → s.heap.get? b = some o → (h'.update S (Obj.mapSeq (·.push (Value.ref s.heap.objs.size)))).get? b = some o := fun b o b1 b2 b5 b3 b4 e => up b o b1 (k' b o b2 b5 b3 b4 e)
    have eT := up _ _ (Nat.ne_of_gt hSl) hp
    have lz : s.heap.objs.size ≤ (h'.update S (Obj.mapSeq (·.push (Value.ref s.heap.objs.size)))).objs.size := Nat.le_of_lt (Heap.lt_size eT)
    refine wpAny_bind (wpAny_updateSeq hS' rfl (wpAny_pure ⟨plainId_quiet PySem.F.plain_extend_loop _, zloop (lo := s.heap.objs.size) (n := n) (h₁ := h'.update S (Obj.mapSeq (·.push (Value.ref s.heap.objs.size)))) hh D sz s1 s2 sl1 sl2 sT ⟨hlo.1, hlo.2.1, hlo.2.2.1, hlo.2.2.2.1⟩ hn hs
      (fun h2' tk acc c ts kk hS2 hl hG ha => hR h2' tk acc c ts (fun b o b1 b2 b3 b4 b5 e => kk b o b1 b2 b3 b4 (keepB b o b1 b2 b5 b3 b4 e)) hS2 hl hG ha) (n - 1) 1 _ s.toks _ (#[].push (Value.ref s.heap.objs.size)) [s.heap.objs.size] s.heap.objs.size _ false rfl (by omega) (up z _ (Ne.symm sz) z') eT (Nat.le_refl _)
      (up TI _ sT (k' TI _ D.TIz D.TITO D.TIi1 D.TIi2 hTI)) (h1'.at fun o e => up _ o (Ne.symm s1) e) (h2'.at fun o e => up _ o (Ne.symm s2) e) (g1.at fun o e => keepB l1 o sl1 D.l1z D.l1TO D.l1i1 D.l1i2 e) (g2.at fun o e => keepB l2 o sl2 D.l2z D.l2TO D.l2i1 D.l2i2 e)
      (fun b o _ _ _ _ e => e) (Heap.get?_update_self _ hS' rfl) rfl rfl ?_ lz⟩) (by show 0 ≤ sizeLine; exact Nat.zero_le _) (by show 1 ≤ sizeLine + 1; omega))
    refine ZMade.add (ts := []) ⟨List.Pairwise.nil, (fun _ q => nomatch q), fun j t q => by simp at q⟩ (fun u hu => nomatch hu) (Nat.le_refl _) (Array.getElem?_eq_getElem kx) (Array.getElem?_eq_getElem ky) eT
/-- list(z) -/
theorem call_listZ {Q : Value → Shared → Prop} (hh : A.handled = none) (D : ZipApart z TI TO i1 i2 l1 l2) (hn : n = min xs.size ys.size) (hs : n ≤ sizeLine)
    (hz : IsZip s.heap z TI TO .none) (hTI : IsPair s.heap TI (.ref i1) (.ref i2)) (hTO : IsPair s.heap TO a b) (h1 : s.heap.IsListIter i1 l1 0) (h2 : s.heap.IsListIter i2 l2 0) (g1 : s.heap.IsList l1 xs) (g2 : s.heap.IsList l2 ys)
    (hQ : ∀ h' tk acc c ts, (∀ b o, b ≠ z → b ≠ i1 → b ≠ i2 → b ≠ TO → s.heap.get? b = some o → h'.get? b = some o) → h'.get? s.heap.objs.size = some (lstO acc c) → ts.length = n → ZMade xs ys (s.heap.objs.size + 1) h' ts → acc.toList = ts.map Value.ref → Q (.ref s.heap.objs.size) { s with heap := h', toks := tk }) :
    wpAny (model prog w) A (call (.type "list") [.ref z]) Q E s := by
  refine callType_codes (Q₁ := fun obj s₁ => obj = .ref s.heap.objs.size ∧ s₁ = { s with heap := s.heap.push { cls := .type "list", data := .seq #[] } }) PySem.F.called_list (PySem.F.typeCall_list_1 _) PySem.F.entry_list_init (code_list_new _ ⟨rfl, rfl⟩) fun obj s₁ q => ?_
  obtain ⟨rfl, rfl⟩ := q
  obtain ⟨S, eS⟩ : ∃ S, S = s.heap.objs.size := ⟨_, rfl⟩
  obtain ⟨h₀, e0⟩ : ∃ h₀ : Heap, h₀ = s.heap.push { cls := .type "list", data := .seq #[] } := ⟨_, rfl⟩
  have hS : h₀.get? S = some (lstO #[] 0) := by rw [e0, eS]; exact Heap.get?_push_size _ rfl
  have kp : ∀ c o, s.heap.get? c = some o → h₀.get? c = some o := fun c o e => by rw [e0]; exact Heap.get?_push_of_some _ e
  have s0 : h₀.objs.size = S + 1 := by rw [e0, eS, Heap.size_push]
  rw [← eS, ← e0]
  refine ⟨⟨_, hS, rfl⟩, PySem.F.args_list_init_2 _ _, ?_⟩
  have ne : ∀ {c : Addr} {o : Obj}, s.heap.get? c = some o → S ≠ c := fun {c o} e => by rw [eS]; exact Nat.ne_of_gt (Heap.lt_size e)
  obtain ⟨o1, e1, _⟩ := id h1
  obtain ⟨o2, e2, _⟩ := id h2
  obtain ⟨p1, f1, _⟩ := id g1
  obtain ⟨p2, f2, _⟩ := id g2
  show wpAny _ _ (do let old ← Builtin.List.listItems (.ref S); Builtin.List.listUpdate (.ref S) (fun _ => #[]); letGo old.toList.reverse; Builtin.List.listExtendWith (.ref S) (.ref z) .none) _ _ { s with heap := h₀ }
  refine wpAny_bind ?_
  unfold Builtin.List.listItems
  refine wpAny_bind (wpAny_seqItems hS rfl (wpAny_pure ?_))
  show wpAny _ _ (updateSeq S (fun _ => #[]) >>= fun _ => letGo (#[] : Array Value).toList.reverse >>= fun _ => Builtin.List.listExtendWith (.ref S) (.ref z) .none) _ _ { s with heap := h₀ }
  refine wpAny_bind (wpAny_updateSeq hS rfl ?_)
  have hS₂ := Heap.get?_update_self (Obj.mapSeq (fun _ => (#[] : Array Value))) hS rfl
  have oth : ∀ c o, c ≠ S → h₀.get? c = some o → (h₀.update S (Obj.mapSeq (fun _ => (#[] : Array Value)))).get? c = some o := fun c o hc e => (Heap.get?_update_other _ _ (Ne.symm hc)).trans e
  refine wpAny_bind (wpAny_letGo ?_)
  obtain ⟨h₂, e3⟩ : ∃ h₂ : Heap, h₂ = h₀.update S (Obj.mapSeq (fun _ => (#[] : Array Value))) := ⟨_, rfl⟩
  have s2 : h₂.objs.size = S + 1 := by rw [e3, Heap.size_update, s0]
  rw [← e3] at hS₂ oth ⊢
  have k2 : ∀ {c : Addr} {o : Obj}, s.heap.get? c = some o → h₂.get? c = some o := fun {c o} e => oth c o (Ne.symm (ne e)) (kp c o e)
  have hTz : Shared.TypeIs { s with heap := h₂ } (.ref z) "zip" := ⟨_, k2 hz, rfl⟩
  unfold Builtin.List.listExtendWith
  refine wpAny_bind (wpAny_typeOf hTz ?_)
  rw [show Builtin.List.listSameRef (.ref S) (.ref z) = false by simp [Builtin.List.listSameRef, ne hz], show (Value.type "zip" == Value.type "list") = false by decide, show (Value.type "zip" == Value.type "tuple") = false by decide]
  simp only [Bool.or_false, Bool.false_eq_true, if_false]
  refine wpAny_bind (wpAny_pyIter_zip (k2 hz) (wpAny_bind (wpAny_holding ?_)))
  unfold Builtin.List.listLengthHint
  refine wpAny_bind (wpAny_specialOf hTz zip_noLen ?_)
  show wpAny _ _ (specialOf (Value.ref z) (Str.ofString "__length_hint__") >>= _) _ _ _
  refine wpAny_bind (wpAny_specialOf hTz zip_noHint (wpAny_pure ?_))
  rw [if_pos (by rw [Bool.true_or])]
  refine wpAny_bind (wpAny_rule (wpAny_bind ?_))
  show wpAny _ _ (updateSeq S (·.push .none) >>= fun _ => updateSeq S (·.pop)) _ _ { s with heap := h₂ }
  refine wpAny_bind (wpAny_updateSeq hS₂ rfl ?_)
  have hS₃ := Heap.get?_update_self (Obj.mapSeq (·.push Value.none)) hS₂ rfl
  refine wpAny_updateSeq (hz := by seq_fits) hS₃ rfl ?_
  have hS₄ := Heap.get?_update_self (Obj.mapSeq (·.pop)) hS₃ rfl
  have s4 : ((h₂.update S (Obj.mapSeq (·.push Value.none))).update S (Obj.mapSeq (·.pop))).objs.size = S + 1 := by rw [Heap.size_update, Heap.size_update, s2]
  have k4 : ∀ c o, c ≠ S → h₂.get? c = some o → ((h₂.update S (Obj.mapSeq (·.push Value.none))).update S (Obj.mapSeq (·.pop))).get? c = some o := fun c o hc e => (Heap.get?_update_other _ _ (Ne.symm hc)).trans ((Heap.get?_update_other _ _ (Ne.symm hc)).trans e)
  generalize (h₂.update S (Obj.mapSeq (·.push Value.none))).update S (Obj.mapSeq (·.pop)) = h₄ at hS₄ s4 k4 ⊢
  have u4 : ∀ {c : Addr} {o : Obj}, s.heap.get? c = some o → h₄.get? c = some o := fun {c o} e => k4 c o (Ne.symm (ne e)) (k2 e)
  have l4 : ∀ {c : Addr} {o : Obj}, s.heap.get? c = some o → c < h₄.objs.size := fun {c o} e => Heap.lt_size (u4 e)
  refine wpAny_pure ⟨plainId_quiet PySem.F.plain_extend_loop _, zfirst (s := { s with heap := h₄ }) (n := n) hh D (ne hz) (ne e1) (ne e2) (Ne.symm (ne f1)) (Ne.symm (ne f2)) (Ne.symm (ne hTI)) (Ne.symm (ne hTO)) ⟨l4 hz, l4 e1, l4 e2, Heap.lt_size hS₄, l4 hTO⟩ hn hs (u4 hz) (u4 hTI) (u4 hTO) (h1.at fun o e => u4 e) (h2.at fun o e => u4 e) (g1.at fun o e => u4 e) (g2.at fun o e => u4 e) hS₄
    fun h' tk acc c ts kk hS' hl hG ha => ?_⟩
  refine ⟨rfl, ?_⟩
  have := hQ h' tk acc c ts (fun b o b2 b3 b4 b5 e => kk b o (Ne.symm (ne e)) b2 b3 b4 b5 (u4 e)) (by rw [← eS]; exact hS') hl (by rw [← eS, ← s4]; exact hG) ha
  rw [← eS] at this
  exact this
end
end MZ
namespace MM
open PySem PySem.Spec PyProof.Rows L2
/-- pairs at new places -/
def layZ (H : Hp) : List Addr → List (V × V) → Hp
  | t :: ts, p :: ps => layZ (upd H t (.tup [p.1, p.2])) ts ps
  | _, _ => H
theorem layZ_out : ∀ {ts : List Addr} {ps : List (V × V)} {H : Hp} {c : Addr}, c ∉ ts → layZ H ts ps c = H c
  | [], _, _, _, _ => by unfold layZ; rfl
  | _ :: _, [], _, _, _ => by unfold layZ; rfl
  | t :: ts, p :: ps, H, c, h => by
    unfold layZ
    rw [layZ_out (fun z => h (List.mem_cons_of_mem _ z)), upd_ne (fun z => h (by rw [z]; exact List.mem_cons_self))]
theorem layZ_at : ∀ {ts : List Addr} {ps : List (V × V)} {H : Hp} {j : Nat} {t : Addr} {p : V × V}, ts.Nodup → ts[j]? = some t → ps[j]? = some p → layZ H ts ps t = some (.tup [p.1, p.2])
  | [], _, _, _, _, _, _, e, _ => by simp at e
  | _ :: _, [], _, _, _, _, _, _, e => by simp at e
  | u :: ts, q :: ps, H, 0, t, p, nd, e1, e2 => by
    simp at e1 e2
    subst e1 e2
    unfold layZ
    rw [layZ_out (List.nodup_cons.mp nd).1, upd_same]
  | u :: ts, q :: ps, H, j + 1, t, p, nd, e1, e2 => by
    unfold layZ
    exact layZ_at (j := j) (List.nodup_cons.mp nd).2 (by simpa using e1) (by simpa using e2)
theorem layZ_ok {P : Program} {w : World} {h : Heap} : ∀ {ts : List Addr} {ps : List (V × V)} {H : Hp}, HOk P w H h → ts.Nodup → (∀ t ∈ ts, H t = none) → (∀ (j : Nat) (t : Addr) (p : V × V), ts[j]? = some t → ps[j]? = some p → ∃ u v, RelV p.1 u ∧ RelV p.2 v ∧ IsPair h t u v) → HOk P w (layZ H ts ps) h
  | [], _, _, hok, _, _, _ => by unfold layZ; exact hok
  | _ :: _, [], _, hok, _, _, _ => by unfold layZ; exact hok
  | t :: ts, p :: ps, H, hok, nd, hn, hp => by
    unfold layZ
    obtain ⟨u, v, r1, r2, e⟩ := hp 0 t p rfl rfl
    have nd' := List.nodup_cons.mp nd
    refine layZ_ok (HOk.laidN hok (fun _ _ z => z) (hn t List.mem_cons_self) ⟨by show 2 ≤ sizeLine; decide, [u, v], .cons r1 (.cons r2 .nil), ⟨_, e, rfl, _, rfl⟩⟩) nd'.2 (fun c hc => ?_) fun j c q e1 e2 => hp (j + 1) c q (by simpa using e1) (by simpa using e2)
    rw [upd_ne (fun z => nd'.1 (by rw [← z]; exact hc))]
    exact hn c (List.mem_cons_of_mem _ hc)
def tLZ (K : PySem.W.Frag) (ta : TA) : TE := fun σ H Q => ta σ H fun vs H1 => ∃ a b xs ys, vs = [.ref a, .ref b] ∧ SqL K H1 a xs ∧ SqL K H1 b ys ∧ ∀ (ts : List Addr) (q : Addr) (H' : Hp), ts.length = min xs.length ys.length → H1 q = none → (∀ c o, H1 c = some o → H' c = some o) → H' q = some (.lst (ts.map V.ref)) →
  (∀ (j : Nat) (t : Addr), ts[j]? = some t → ∃ x y, xs[j]? = some x ∧ ys[j]? = some y ∧ H1 t = none ∧ H' t = some (.tup [x, y])) → Q (.ref q) H'
theorem pe_listZ {X : Cx} {e e2 : Expr} {ta : TA} {p p2 pos pos2 : Pos} (hgl : Gl X "list") (hml : X.mg "list" = none) (hg : Gl X "zip") (hm : X.mg "zip" = none) (hc : X.calm = true) (ha : PA X [e, e2] ta)
    (hs : starEach [e, e2] X.env = (false, eval e X.env) :: starEach [e2] X.env := by rfl) (hpl : (backTo pos2 (starEach [e2] X.env)).any (·.1) = false := by rfl)
    (na : starEach [.Call (.Name "zip" p2) [e, e2] [] pos2] X.env = (false, eval (.Call (.Name "zip" p2) [e, e2] [] pos2) X.env) :: starEach [] X.env := by rfl) :
    PE X (.Call (.Name "list" p) [.Call (.Name "zip" p2) [e, e2] [] pos2] [] pos) (tLZ X.K ta) := by
  refine ⟨fun pins s σ H Q I h => ?_⟩
  refine Call_ (ld_blt I hgl hml PyProof.Rows.boot_list (PyProof.Rows.callWith_type1 (args_cons (Call_ (ld_blt I hg hm PyProof.Rows.boot_zip (PyProof.Rows.callWith_type1 (thn (ha.run pos2 pins s σ H _ I h) fun us s1 ⟨vs, H1, I1, r1, q1⟩ => ?_) hs hpl))) na) na))
  obtain ⟨a, b, xs, ys, ex, hqx, hqy, q⟩ := q1
  subst ex
  cases r1 with
  | cons r rr =>
    cases rr with
    | cons r' rr =>
      cases rr
      cases r
      cases r'
      obtain ⟨its, rv, p1, z1⟩ := I1.list hqx
      obtain ⟨its2, rv2, p2, z2⟩ := I1.list hqy
      refine call_zip_2 p1.isList p2.isList fun h' hz hTI hTO h1 h2 hsz hk => args_nil ?_
      have ln : min its.toArray.size its2.toArray.size = min xs.length ys.length := by rw [List.size_toArray, List.size_toArray, ← rv.length, ← rv2.length]
      refine MZ.call_listZ (s := { s1 with heap := h' }) (n := min xs.length ys.length) (I1.ok.hd hc) (PySem.W.ktu_apart s1.heap.objs.size a b p1.lt p2.lt) ln.symm (Nat.le_trans (Nat.min_le_left ..) z1) hz hTI hTO h1 h2 (p1.isList.at fun o e => hk _ o e) (p2.isList.at fun o e => hk _ o e) fun h2' tk acc c ts kk hS hl hG hacc => ?_
      obtain ⟨n0, en0⟩ : ∃ n0, n0 = s1.heap.objs.size := ⟨_, rfl⟩
      have nS : h'.objs.size = n0 + 5 := by rw [hsz, en0]
      have lt0 : ∀ {c : Addr} {o : Obj}, s1.heap.get? c = some o → c < n0 := fun {c o} e => by rw [en0]; exact Heap.lt_size e
      have kall : ∀ c o, s1.heap.get? c = some o → h2'.get? c = some o := fun c o e => kk c o (Nat.ne_of_lt (Nat.lt_of_lt_of_le (Heap.lt_size e) (Nat.le_add_right _ _))) (Nat.ne_of_lt (Heap.lt_size e)) (Nat.ne_of_lt (Nat.lt_of_lt_of_le (Heap.lt_size e) (Nat.le_add_right _ _))) (Nat.ne_of_lt (Nat.lt_of_lt_of_le (Heap.lt_size e) (Nat.le_add_right _ _))) (hk c o e)
      have lowT : ∀ t ∈ ts, n0 + 6 ≤ t := fun t ht => by have := hG.low t ht; rw [show Shared.heap { s1 with heap := h' } = h' from rfl, nS] at this; exact this
      have free0 : ∀ {c : Addr}, n0 ≤ c → H1 c = none := fun {c} hc => I1.hok.fresh (by rw [← en0]; exact hc)
      have nd : ts.Nodup := hG.rise.imp fun {a b} h => Nat.ne_of_lt h
      have tn : ∀ t ∈ ts, H1 t = none := fun t ht => free0 (Nat.le_trans (Nat.le_add_right _ _) (lowT t ht))
      have hpr : ∀ (j : Nat) (t : Addr) (p : V × V), ts[j]? = some t → (xs.zip ys)[j]? = some p → ∃ u v, RelV p.1 u ∧ RelV p.2 v ∧ IsPair h2' t u v := fun j t p e1 e2 => by
        obtain ⟨u, v, f1, f2, f3⟩ := hG.prs j t e1
        have g1 := List.getElem?_zip_eq_some.mp e2
        obtain ⟨u', k1, k2⟩ := rv.get g1.1
        obtain ⟨v', k3, k4⟩ := rv2.get g1.2
        rw [List.getElem?_toArray, k1] at f1
        rw [List.getElem?_toArray, k3] at f2
        cases f1
        cases f2
        exact ⟨u, v, k2, k4, f3⟩
      have hok1 := layZ_ok (ps := xs.zip ys) (I1.hok.kept kall) nd tn hpr
      have eS : Shared.heap { s1 with heap := h' } = h' := rfl
      rw [show ({ s1 with heap := h' } : Shared).heap.objs.size = n0 + 5 from nS] at hS
      have nots : (n0 + 5) ∉ ts := fun z => by have := lowT _ z; exact absurd this (by omega)
      have hSn : layZ H1 ts (xs.zip ys) (n0 + 5) = none := by rw [layZ_out nots]; exact free0 (Nat.le_add_right _ _)
      have lv : Vals (ts.map V.ref) (ts.map Value.ref) := by
        clear hG hacc hl lowT nd tn hpr hok1 nots hSn
        induction ts with
        | nil => exact .nil
        | cons t ts ih => exact .cons rfl ih
      have hok2 : HOk X.prog X.w (upd (layZ H1 ts (xs.zip ys)) (n0 + 5) (.lst (ts.map V.ref))) h2' := HOk.laidN hok1 (fun _ _ z => z) hSn ⟨by rw [List.length_map, hl]; exact Nat.le_trans (Nat.min_le_left ..) z1, ts.map Value.ref, c, lv, by
        rw [hS, ← hacc]⟩
      have out : ∀ {c : Addr} {o : HO}, H1 c = some o → c ≠ n0 + 5 ∧ c ∉ ts := fun {c o} e => ⟨fun z => (by rw [z, free0 (Nat.le_add_right _ _)] at e; cases e), fun z => (by rw [tn c z] at e; cases e)⟩
      have same : ∀ {c : Addr} {o : HO}, H1 c = some o → upd (layZ H1 ts (xs.zip ys)) (n0 + 5) (.lst (ts.map V.ref)) c = some o := fun {c o} e => by rw [upd_ne (out e).1, layZ_out (out e).2]; exact e
      have U : Un X.fs [] H1 (upd (layZ H1 ts (xs.zip ys)) (n0 + 5) (.lst (ts.map V.ref))) s1.heap h2' :=
        ⟨fun b o e _ _ _ => kall b o e, fun b o e _ _ _ => ⟨o.slots, kall b o e⟩, fun b o e n _ => by
            have lb := lt0 e
            rw [upd_ne (Nat.ne_of_lt (Nat.lt_of_lt_of_le lb (Nat.le_add_right _ _))), layZ_out (fun z => absurd (lowT b z) (Nat.not_le.mpr (Nat.lt_of_lt_of_le lb (Nat.le_add_right _ _))))]
            exact n, fun b o e _ => ⟨o, kall b o e⟩, fun b xs e => same e, fun b o u e => same e, fun b ps e => ⟨#[], by rw [same e]; simp⟩⟩
      have J := I1.un (t' := tk) U hok2
      refine ⟨.ref (n0 + 5), _, J, ?_, q ts (n0 + 5) _ hl (free0 (Nat.le_add_right _ _)) (fun c o e => same e) upd_same fun j t e => ?_⟩
      · show Value.ref (Shared.heap { s1 with heap := h' }).objs.size = _
        rw [eS, nS]
      · have hj := (List.getElem?_eq_some_iff.mp e).1
        have jx : j < xs.length := by omega
        have jy : j < ys.length := by omega
        have ht := List.mem_of_getElem? e
        refine ⟨xs[j], ys[j], List.getElem?_eq_getElem jx, List.getElem?_eq_getElem jy, tn t ht, ?_⟩
        rw [upd_ne (fun z => nots (by rw [← z]; exact ht))]
        exact layZ_at (p := (xs[j], ys[j])) nd e (List.getElem?_zip_eq_some.mpr ⟨List.getElem?_eq_getElem jx, List.getElem?_eq_getElem jy⟩)
/-! ### as a plain function -/
def fLZ (ds : List D) (h : MH) : R D := match ds with
  | [d, c] => (match lstD d h, lstD c h with
    | some es, some fs => .ok (.rol (List.zipWith (fun x y => .tup [x, y]) es fs)) h
    | _, _ => .stuck)
  | _ => .stuck
theorem Rel.grow {K L H H'} {h : MH} (r : Rel K L H h) (k : ∀ c o, H c = some o → H' c = some o) : Ext L H L H' ∧ Rel K L H' h := by
  have x : Ext L H L H' := ⟨fun _ _ e => .inl e, fun a o e n => ⟨k a o e, n⟩, fun a o u e => k a _ e⟩
  refine ⟨x, r.len, fun n o e => (r.at' n o e).mono x fun a ea => ?_, r.inj⟩
  obtain ⟨u, eu⟩ := r.live ea
  rw [eu]; exact k a u eu
theorem pem_listZ {X : Cx} {W : WX} {e e2 : Expr} {mas : MA} {p p2 pos pos2 : Pos} (hgl : Gl X "list") (hml : X.mg "list" = none) (hg : Gl X "zip") (hm : X.mg "zip" = none) (hc : X.calm = true) (ha : PAM X W [e, e2] mas)
    (hs : starEach [e, e2] X.env = (false, eval e X.env) :: starEach [e2] X.env := by rfl) (hpl : (backTo pos2 (starEach [e2] X.env)).any (·.1) = false := by rfl)
    (na : starEach [.Call (.Name "zip" p2) [e, e2] [] pos2] X.env = (false, eval (.Call (.Name "zip" p2) [e, e2] [] pos2) X.env) :: starEach [] X.env := by rfl) :
    PEM X W (.Call (.Name "list" p) [.Call (.Name "zip" p2) [e, e2] [] pos2] [] pos) (mCall fLZ mas) :=
  PE.imp (pe_listZ hgl hml hg hm hc ha hs hpl na) fun σ H Q ⟨L, h, δ, r, s, a⟩ => ⟨L, h, δ, r, s, Ans.imp (Ans.bind (rp := RepL X.K) a) fun vs H1 ⟨L1, h1, ds, x1, r1, p1, a1⟩ => by
    unfold fLZ at a1
    split at a1
    · rename_i d c
      split at a1
      · rename_i es fs e1 e2
        obtain ⟨v, u, rfl, q1, q2⟩ := p1.two
        obtain ⟨pa, xs, rfl, sx, wx⟩ := lstD_of r1 q1 e1
        obtain ⟨pb, ys, rfl, sy, wy⟩ := lstD_of r1 q2 e2
        refine ⟨pa, pb, xs, ys, rfl, sx, sy, fun ts q H' hl hq k eq hp => ?_⟩
        obtain ⟨x2, r2⟩ := r1.grow k
        refine ans_okE r2 ?_ (a1.mono x2)
        unfold Rep
        refine ⟨q, ts.map V.ref, rfl, .inl ⟨.inl eq, r1.nl_new hq⟩, RepL.of_get (by rw [List.length_zipWith, List.length_map, hl, wx.length, wy.length]) fun i dd vv e1 e2 => ?_⟩
        rw [List.getElem?_map] at e2
        obtain ⟨t, et, rfl⟩ := Option.map_eq_some_iff.mp e2
        obtain ⟨x, y, f1, f2, f3, f4⟩ := hp i t et
        obtain ⟨dx, g1, g2⟩ := wx.get' f1
        obtain ⟨dy, g3, g4⟩ := wy.get' f2
        have : dd = .tup [dx, dy] := by
          rw [List.getElem?_zipWith, g1, g3] at e1
          exact (Option.some.inj e1).symm
        subst this
        unfold Rep
        exact ⟨t, [x, y], rfl, .inl ⟨.inl f4, r1.nl_new f3⟩, .cons (g2.mono x2) (.cons (g4.mono x2) .nil)⟩
      · exact a1.elim
    · exact a1.elim⟩
/-- is True, is False -/
def opIsB (x y : D) (h : MH) : R D := match x, y with
  | .bl a, .bl b => .ok (.bl (decide (a = b))) h
  | _, _ => .stuck
theorem opIsB_ok {K : PySem.W.Frag} : OpM K (fun x y H Q => ∃ a b, x = .bl a ∧ y = .bl b ∧ Q (.bl (decide (a = b))) H) opIsB := by
  intro L H h dx dy x y Q E r px py a
  unfold opIsB at a
  split at a
  · exact ⟨_, _, rep_bl_inv px, rep_bl_inv py, ans_okE r rep_bl a⟩
  · exact a.elim
/-- ord of a text of one character -/
def fOrd (ds : List D) (h : MH) : R D := match ds with
  | [.str x] => if x.length = 1 then .ok (.int (x.cps.getD 0 0 : Nat)) h else .stuck
  | _ => .stuck
theorem fOrd_ok {K : PySem.W.Frag} : CallM K (fun xs H Q => ∃ x, xs = [.str x] ∧ x.length = 1 ∧ Q (.int (x.cps.getD 0 0 : Nat)) H) fOrd := by
  intro L H h ds vs Q E r w a
  unfold fOrd at a
  split at a
  · rename_i x
    obtain ⟨v, rfl, q⟩ := w.one
    by_cases z : x.length = 1
    · rw [if_pos z] at a
      exact ⟨x, by rw [rep_str_inv q], z, ans_okE r rep_int a⟩
    · rw [if_neg z] at a
      exact a.elim
  · exact a.elim
/-- ** of small ints, the exponent no less than 0 -/
def opPow (x y : D) (h : MH) : R D := match x, y with
  | .int i, .int j => if 0 ≤ j ∧ j ≤ 1000000 ∧ i.natAbs < 2 ^ 64 then .ok (.int (i ^ j.toNat)) h else .stuck
  | _, _ => .stuck
theorem opPow_ok {K : PySem.W.Frag} : OpM K (rI CPow fun i j => .int (i ^ j.toNat)) opPow := by
  intro L H h dx dy x y Q E r px py a
  unfold opPow at a
  split at a
  · rename_i i j
    split at a
    · rename_i z
      exact ⟨i, j, rep_int_inv px, rep_int_inv py, z, ans_okE r rep_int a⟩
    · exact a.elim
  · exact a.elim
/-- l.pop(i), l.insert(i, x) -/
def fPopI (d : D) (ds : List D) (h : MH) : R D := match d, ds with
  | .ref n, [.int i] => (match lst? h n with
    | some es => if 0 ≤ i ∧ i < 2 ^ 62 then (match es[i.toNat]? with
      | some x => .ok x (h.set n (.lst (es.eraseIdx i.toNat)))
      | none => .stuck) else .stuck
    | none => .stuck)
  | _, _ => .stuck
theorem RepL.erase {K : PySem.W.Frag} {L : TL} {H : Hp} : ∀ {ds : List D} {vs : List V} (n : Nat), RepL K L H ds vs → RepL K L H (ds.eraseIdx n) (vs.eraseIdx n)
  | [], _, n, w => by rw [w.nil_inv]; exact .nil
  | d :: ds, _, 0, w => by
    obtain ⟨v, vs, rfl, _, w2⟩ := w.cons_inv
    exact w2
  | d :: ds, _, n + 1, w => by
    obtain ⟨v, vs, rfl, q, w2⟩ := w.cons_inv
    exact .cons q (RepL.erase n w2)
theorem fPopI_ok {K : PySem.W.Frag} : MtdM K rPopAt fPopI := by
  intro L H h d x ds vs Q E r q w a
  unfold fPopI at a
  split at a
  · rename_i n i
    cases z : lst? h n with
    | none => rw [z] at a; exact a.elim
    | some es =>
      simp only [z] at a
      by_cases hi : 0 ≤ i ∧ i < 2 ^ 62
      · rw [if_pos hi] at a
        cases z2 : es[i.toNat]? with
        | none => rw [z2] at a; exact a.elim
        | some y =>
          simp only [z2] at a
          obtain ⟨p, xs, e1, e2, w1⟩ := r.lst (lst?_at z)
          obtain ⟨x1, r1⟩ := r.wr e1 e2 (w1.erase i.toNat)
          obtain ⟨v, e3, qv⟩ := w1.get z2
          obtain ⟨u, rfl, qu⟩ := w.one
          have lt : i.toNat < xs.length := (List.getElem?_eq_some_iff.mp e3).1
          have sx : seqIndex? i xs.length = some i.toNat := by
            unfold seqIndex?
            have : ¬ i < 0 := by omega
            simp [this]
            omega
          exact ⟨p, xs, i, i.toNat, v, q.ref e1, by rw [rep_int_inv qu], e2, by omega, by omega, sx, e3, ans_of ⟨x1, r1, qv.mono x1⟩ a⟩
      · rw [if_neg hi] at a
        exact a.elim
  · exact a.elim
def fInsert (d : D) (ds : List D) (h : MH) : R D := match d, ds with
  | .ref n, [.int i, x] => (match lst? h n with
    | some es => if (0 ≤ i ∧ i < 2 ^ 62) ∧ es.length < 16777216 then .ok .non (h.set n (.lst (es.take i.toNat ++ [x] ++ es.drop i.toNat))) else .stuck
    | none => .stuck)
  | _, _ => .stuck
theorem fInsert_ok {K : PySem.W.Frag} : MtdM K (fun x vs H Q => ∃ (l : Addr) (xs : List V) (i : Int) (y : V), x = .ref l ∧ vs = [.int i, y] ∧ H l = some (.lst xs) ∧ xs.length < sizeLine ∧ 0 ≤ i ∧ i < 2 ^ 63 ∧
    Q .non (upd H l (.lst (xs.take i.toNat ++ [y] ++ xs.drop i.toNat)))) fInsert := by
  intro L H h d x ds vs Q E r q w a
  unfold fInsert at a
  split at a
  · rename_i n i y
    cases z : lst? h n with
    | none => rw [z] at a; exact a.elim
    | some es =>
      simp only [z] at a
      by_cases hi : (0 ≤ i ∧ i < 2 ^ 62) ∧ es.length < 16777216
      · rw [if_pos hi] at a
        obtain ⟨p, xs, e1, e2, w1⟩ := r.lst (lst?_at z)
        obtain ⟨u1, us, rfl, q1, w2⟩ := w.cons_inv
        obtain ⟨u2, rfl, q2⟩ := w2.one
        obtain ⟨x1, r1⟩ := r.wr e1 e2 (((w1.take i.toNat).append (.cons q2 .nil)).append (w1.drop i.toNat))
        exact ⟨p, xs, i, u2, q.ref e1, by rw [rep_int_inv q1], e2, by rw [← w1.length, sizeLine_eq]; exact hi.2, hi.1.1, by omega, ans_of ⟨x1, r1, rep_none⟩ a⟩
      · rw [if_neg hi] at a
        exact a.elim
  · exact a.elim
end MM

set_option maxHeartbeats 4000000
/-! exceptions of own classes over ValueError whose __init__ says super().__init__(..) -/
namespace ME
open PySem PySem.W PySem.Spec PySem.Calls PyProof.Rows L2 NdefX
section
variable {prog : Program} {w : World} {A : Around} {E : Value → Shared → Prop} {h : Heap} {g : Array GenState} {d : Drawn} {t : Nat} {os : OsState}
/-- the built-in __init__ bound to the exception at e, called -/
theorem call_mw {u e t0 C N : Addr} {nm q : Str} {bs bm : List Value} {hdct : Bool} {sn : List Str} {sub : List Value} {ab : Bool} {col : Option Bool} {dd : Option Addr} {k0 k1 k2 k3 k5 : Option Value} {rest : List Value} {Q : Value → Shared → Prop}
    (hC : h.get? C = some (excClassObj nm q C N bs bm hdct sn sub ab col dd k0 k1 k2 k3 k5 "ValueError.__new__")) (he : h.get? e = some (excObj C t0 none .none)) (hu : h.get? u = some (kxs_mw "ValueError.__init__" e)) (hz : rest.length ≤ sizeLine)
    (hq : ∀ h', (∀ b o, b ≠ e → h.get? b = some o → h'.get? b = some o) → h'.get? e = some (excObj C h.objs.size none .none) → Q .none ⟨h', g, d, t, os⟩) : wpAny (model prog w) A (call (.ref u) rest) Q E ⟨h, g, d, t, os⟩ := by
  refine wpAny_call (codeAny_of_tree ?_)
  show wpAny _ A.in1 (callAny (.ref u) ⟨rest, []⟩) _ _ _
  simp only [callAny]
  refine wpAny_bind (wpAny_load hu ?_)
  simp only [kxs_mw, show (Value.type "method-wrapper" == Value.type "method" || Value.type "method-wrapper" == Value.type "builtin_function_or_method" || Value.type "method-wrapper" == Value.type "method-wrapper") = true by decide, if_true]
  refine KFB.if_so (by decide) ?_
  refine wpAny_bind (check_bound_init F.excBase_ValueError.toExcCallFacts hC he rfl ?_)
  refine wpAny_bind (wpAny_pure (wpAny_pure ?_))
  refine ⟨plainId_quiet F.excBase_ValueError.init.plain _, codeAny_builtin F.excBase_ValueError.initEntry ?_⟩
  exact exc_init_tree (cls := .ref C) (t0 := t0) (dv := none) (c2 := .none) (c3 := .none) (b4 := .bool false) he hz fun h' k e' _ => hq h' k e'
end
/-- what the written part says of an __init__ that says super().__init__(..) -/
structure XInit (P : Program) (K : Frag) (C fI : Addr) (qual : Str) (st : Stmt) (cA cd : Addr) (fd : FuncData) : Prop where
  T : OexC K C
  fn : ∃ (dV kV doc pm ct : Value) (an : Option Addr), fd = fnX "__init__" qual (C8.fnArgs st) (C8.fnBody st) (C8.fnScope st) [((Str.ofString "__class__"), cA)] dV kV doc pm an (.ref cd) ct
  lk : ∃ (oc : Value) (od : Option Addr) (osl : Array (Option Value)), K.lookup fI = some ⟨oc, od, .func fd, osl⟩
  code : codeIn K (.ref cd) qual = true
  cel : ∃ (oc : Value) (od : Option Addr) (osl : Array (Option Value)), K.lookup cA = some ⟨oc, od, .cell (some (.ref C)), osl⟩
  cdo : ∃ (oc : Value) (od : Option Addr) (osl : Array (Option Value)) (vs : Array Value) (file : Str) (tf : Tok), K.lookup cd = some ⟨oc, od, .fields vs, osl⟩ ∧ vs[2]? = some (.str file tf) ∧ ((P.main.file : Str) == file) = true
  sup : ks_superIn K C C (Str.ofString "__init__") = some (some (Value.builtin "ValueError.__init__"))
  any : nsIn K cStatics "thirdparty.any" = some none
  ve : subIn K (.ref C) (.type "ValueError") = some true
  own : mroIn K C (.ref C) = some true
  top : (P.main.scope.names.lookup (Str.ofString "super")).isSome = false
abbrev nfI (qual : Str) (st : Stmt) (cA cd : Addr) : NF := ⟨"__init__", qual, C8.fnArgs st, C8.fnBody st, C8.fnScope st, [((Str.ofString "__class__"), cA)], cd⟩
section
variable {CX : CXT} {P : Program} {w : World} {K : Frag} {mg : Str → Option Value} {base : Heap} {k : Nat} {C fI cA cd : Addr} {qual : Str} {st : Stmt} {fd : FuncData} {N ps : List Str} {sp : Sp} {e1 : Expr} {es : List Expr} {rest : List Stmt} {p0 p1 p2 p3 p4 : Pos} {self : Str} {ar : Arg}
theorem init_fn (XI : XInit P K C fI qual st cA cd fd) (S : NScope N ps [(Str.ofString "__class__")] (C8.fnScope st)) (hm : mg "super" = none)
    (hks : (C8.fnScope st).names.lookup (Str.ofString "super") = some .globalImplicit) (hkc : (C8.fnScope st).names.lookup (Str.ofString "__class__") = some .free)
    (har : ((C8.fnArgs st).posonlyargs ++ (C8.fnArgs st).args).head? = some ar) (hN0 : N[0]? = some ar.arg) (hka : (C8.fnScope st).names.lookup ar.arg = some .local)
    (hbody : C8.fnBody st = .Expr (.Call (.Attribute (.Call (.Name (Str.ofString "super") p0) [] [] p1) (Str.ofString "__init__") p2) (e1 :: es) [] p3) p4 :: rest)
    (len : ∀ vs H Q E, sp vs H Q E → vs.length = ps.length)
    (run : ∀ (A : Around) (outer : List Env) (s : Shared) (H : Hp) (vs : List V) (Q : VK) (E : XK), Room k (A.deeper (envF (nfI qual st cA cd) fI s.heap.objs.size)) → sp vs H Q E →
      ∃ (a : Addr) (ta : TA) (t : TS), vs[0]? = some (.ref a) ∧ H a = some (exo a C none) ∧ PA (ncx CX P w K mg base N (nfI qual st cA cd) fI A outer s H E) (e1 :: es) ta ∧ PSs (ncx CX P w K mg base N (nfI qual st cA cd) fI A outer s H E) rest t ∧
        ta (startF N vs [none]) H (fun ws H1 => ws.length ≤ 1000 ∧ H1 a = some (exo a C none) ∧ t { nx := fun _ H' => Q .non H', rt := Q } (startF N vs [none]) H1))
    (hst : ∀ (env : Env), starEach (e1 :: es) env = (false, eval e1 env) :: starEach es env) (hpl : ∀ (env : Env), (backTo p3 (starEach es env)).any (·.1) = false)
    (hint : ∀ (env : Env), swapsWith (.Call (.Attribute (.Call (.Name (Str.ofString "super") p0) [] [] p1) (Str.ofString "__init__") p2) (e1 :: es) [] p3) none p4.line env = pure false)
    (hcall : ∀ (env : Env), ∃ pl : Sem Bool, eval (.Call (.Attribute (.Call (.Name (Str.ofString "super") p0) [] [] p1) (Str.ofString "__init__") p2) (e1 :: es) [] p3) env = (do
      let ov ← attributeBase (.Call (.Name (Str.ofString "super") p0) [] [] p1) (Str.ofString "__init__") env (eval (.Call (.Name (Str.ofString "super") p0) [] [] p1) env)
      standAt p2.atName
      let (f, first) ← holding [ov] (getMethod ov (Str.ofString "__init__") pl)
      callWith p3 f first (backTo p3 (starEach (e1 :: es) env)) [])) :
    FnOk P w K mg base CX (k + 1) fI fd ps sp := by
  refine ⟨len, fun A outer s H args us vs Q E hr e0 hb r hsp => ?_⟩
  have hl := len _ _ _ _ hsp
  have KX : K.In s.heap := e0.mod.kin.keeps fun b o e => (e0.bs b o e).1
  have KB : K.In base := e0.mod.kin
  have lim : s.heap.NoLimit := e0.mod.nolimit.keeps fun b o e => (e0.bs b o e).1
  obtain ⟨dV, kV, doc, pm, ct, an, rfl⟩ := XI.fn
  obtain ⟨oc, od, osl, lk⟩ := XI.lk
  obtain ⟨oc2, od2, osl2, cel⟩ := XI.cel
  refine codeAny_call_function hr.depth (KX _ _ lk) rfl S.co S.gen rfl (codeRec_of KX XI.code) (hb _ _ _ _ ?_)
  refine wpAny_newFunctionEnv S.nocell (fun ⟨n, _⟩ hy => S.par n (List.of_mem_zip hy).1) (fun h₁ hns hsb => ⟨lim.fresh _ hsb, ?_⟩) S.kind
  have kp : ∀ b o, s.heap.get? b = some o → h₁.get? b = some o := fun b o e => hsb.extBut b o (Nat.ne_of_lt (Heap.lt_size e)) (Heap.get?_push_of_some _ e)
  obtain ⟨a, ta, t, hv0, hea, hta, ht, hq⟩ := run A outer s H vs Q E (hr.deeper _) hsp
  have CA : CellsAt [((Str.ofString "__class__"), cA)] [(Str.ofString "__class__")] [none] s.heap H := by
    have one : ∀ {y : Str} {c : Addr}, [((Str.ofString "__class__"), cA)].lookup y = some c → c = cA ∧ y = Str.ofString "__class__" := fun {y c} e => by
      by_cases z : y = Str.ofString "__class__"
      · subst z; simp [List.lookup] at e; exact ⟨e.symm, rfl⟩
      · have : (y == Str.ofString "__class__") = false := by simpa using z
        simp [List.lookup, this] at e
    refine ⟨rfl, fun y c e => ?_, fun x y c h1 h2 => ?_, fun i y e => ?_⟩
    · obtain ⟨rfl, _⟩ := one e
      exact ⟨(e0.bs _ _ (KB _ _ cel)).2, _, _, KX _ _ cel, rfl⟩
    · rw [(one h1).2, (one h2).2]
    · cases i with
      | zero =>
        have : Str.ofString "__class__" = y := by simpa using e
        subst this
        exact ⟨cA, by simp [List.lookup], fun v hv => by simp at hv⟩
      | succ i => simp at e
  have I : Inv (ncx CX P w K mg base N (nfI qual st cA cd) fI A outer s H E) [] (startF N vs [none]) H { s with heap := h₁, toks := s.toks + (ps.zip us).length } := inv_startN S hr.hd e0 hl r CA hns kp
  refine ks_codeAny_funcAt ?_
  generalize hEE : (fun (e : Value) (s' : Shared) => wpAny (model P w) (A.deeper (envF (nfI qual st cA cd) fI s.heap.objs.size)) (leaving (envF (nfI qual st cA cd) fI s.heap.objs.size) e) (fun _ s'' => CR CX outer P w H s Q E (.error e) s'') (fun e' s'' => CR CX outer P w H s Q E (.error e') s'') s') = EE
  show PySem.wpAt (model P w) (A.deeper (envF (nfI qual st cA cd) fI s.heap.objs.size)) (.func (C8.fnBody st) (envF (nfI qual st cA cd) fI s.heap.objs.size)) (execs (C8.fnBody st) (envF (nfI qual st cA cd) fI s.heap.objs.size)) _ _ _
  have hb2 : execs (C8.fnBody st) (envF (nfI qual st cA cd) fI s.heap.objs.size) = execs (.Expr (.Call (.Attribute (.Call (.Name (Str.ofString "super") p0) [] [] p1) (Str.ofString "__init__") p2) (e1 :: es) [] p3) p4 :: rest) (envF (nfI qual st cA cd) fI s.heap.objs.size) := by rw [hbody]
  rw [hb2]
  have hgl : (envF (nfI qual st cA cd) fI s.heap.objs.size).kindOf (Str.ofString "super") = some .globalImplicit := hks
  obtain ⟨nm, q, NC, bs, bm, sn, sub, ab, col, dd, k0, k1, k2, k3, k5, hC, hbm⟩ := XI.T.cls
  have hcl : clsIn K C = some { name := nm, bases := bs, mro := .ref C :: bm, ns := NC, qualname := q, hasDict := true, slotNames := sn, subclasses := sub, abstract := ab, collection := col, hasDel := false } := by unfold clsIn; rw [hC] <;> rfl
  have hpin : ∀ (I : Inv (ncx CX P w K mg base N (nfI qual st cA cd) fI A outer s H E) [] (startF N vs [none]) H { s with heap := h₁, toks := s.toks + (ps.zip us).length }), True := fun _ => trivial
  obtain ⟨pl, hcl2⟩ := hcall (envF (nfI qual st cA cd) fI s.heap.objs.size)
  refine ks_wpAt_execs_cons (ks_wpAt_Expr_any (ks_wpAt_MethodCall (pl := pl) ?_ hcl2) (Inv.quiet I) (hint _))
  obtain ⟨oc3, od3, osl3, vs3, file, tf, hcode, hvs, hfile⟩ := XI.cdo
  refine ks_wpAt_super_base (env := envF (nfI qual st cA cd) fI s.heap.objs.size) hks hkc (by decide) rfl (I.kIn _ _ lk) rfl har rfl (I.kIn _ _ hcode) rfl hvs hfile XI.top ?_
  obtain ⟨mb, b1, b2⟩ := I.mod.blt
  refine ks_loadName_global S.kind hks (loadGlobal_builtin (env := envF (nfI qual st cA cd) fI s.heap.objs.size) (I.mod.glob.keeps I.bk) hm (b1.keeps I.bk) ((b2 _ (by decide)).trans PyProof.Rows.Boot.«super») ⟨rfl, ?_⟩)
  refine wpAny_loadName_free S.kind hkc (show List.lookup _ [((Str.ofString "__class__"), cA)] = some cA by simp [List.lookup]) ⟨_, I.kIn _ _ cel, rfl⟩ ?_
  obtain ⟨m1, hns1, hl1⟩ := I.loc
  have hσ0 : (startF N vs [none])[0]? = some (some (V.ref a)) := by
    unfold startF
    rw [List.getElem?_append_left (by rw [List.length_map]; exact (List.getElem?_eq_some_iff.mp hv0).1), List.getElem?_map, hv0]; rfl
  obtain ⟨u, ru, lku⟩ := hl1 0 ar.arg (.ref a) hN0 hσ0 (.inl hka)
  obtain rfl : u = Value.ref a := ru
  have hm1 : m1 ar.arg = some (.ref a) := by
    rcases lku with ⟨_, z⟩ | ⟨z, _⟩
    · exact z
    · have z' : (C8.fnScope st).names.lookup ar.arg = some .cell ∨ (C8.fnScope st).names.lookup ar.arg = some .free := z
      rw [hka] at z'
      rcases z' with z' | z' <;> cases z'
  refine wpAny_loadName_local S.kind hka hns1 hm1 ?_
  refine ks_wpAny_isType_cls (I.kIn _ _ hC) rfl ⟨rfl, ?_⟩
  obtain ⟨t1, hx⟩ := exo_at I.hok hea
  refine ks_wpAny_call_super (I.kIn _ _ hC) rfl hx rfl (fun c z => by cases z) (looks_mroIn I.kIn XI.own) fun h' hso kso => ?_
  have I2 := I.kept (h' := h') (t' := s.toks + (ps.zip us).length) kso
  obtain ⟨t2, hx2⟩ := exo_at I2.hok hea
  have IA : InstAt h' a { cls := .ref C, dict := none, data := .fields #[.ref t2, .none, .none, .none, .bool false, .none] } C none := ⟨hx2, rfl, rfl, trivial⟩
  have sup : alongIn K (Str.ofString "__init__") (((Value.ref C :: bm).dropWhile (· != .ref C)).drop 1) = some (some (Value.builtin "ValueError.__init__")) := by
    have := XI.sup
    unfold ks_superIn at this
    rw [hcl] at this
    exact this
  refine kxs_getMethod kxs_ValueError hso (looks_opaque I2.kIn XI.any) (l₀ := .ref C :: bm) (fun A Q E s k q => wpAny_bind ((looks_clsIn I2.kIn hcl) A _ E s k (wpAny_pure q))) rfl I2.kIn sup (IA.type.andThen (looks_subIn I2.kIn XI.ve)) (ks_ne I2.kIn IA hcl) (by decide) ?_
  have km : ∀ b o, h'.get? b = some o → (h'.push (kxs_mw "ValueError.__init__" a)).get? b = some o := fun b o e => Heap.get?_push_of_some _ e
  have I3 := I2.kept (h' := h'.push (kxs_mw "ValueError.__init__" a)) (t' := s.toks + (ps.zip us).length + 1) km
  have hu : (h'.push (kxs_mw "ValueError.__init__" a)).get? h'.objs.size = some (kxs_mw "ValueError.__init__" a) := Heap.get?_push_at rfl rfl
  have I4 : Inv (ncx CX P w K mg base N (nfI qual st cA cd) fI A outer s H E) [(h'.objs.size, kxs_mw "ValueError.__init__" a)] (startF N vs [none]) H ⟨h'.push (kxs_mw "ValueError.__init__" a), s.gens, s.drawn, s.toks + (ps.zip us).length + 1, s.os⟩ := I3.pins_of fun p hp => by
    rw [List.mem_singleton.mp hp]
    exact ⟨hu, I2.hok.fresh (Nat.le_refl _), Nat.ne_of_gt I2.lt, I2.nofs (Nat.le_refl _), fun v z => by cases z⟩
  rw [hst]
  refine kxs_callWith (i := "ValueError.__init__") (x := a) (by show (false || (backTo p3 (starEach es _)).any (·.1)) = false; rw [hpl]; rfl) (evalArgs_plain ?_)
  have hrun := hta.run p3 [(h'.objs.size, kxs_mw "ValueError.__init__" a)] _ (startF N vs [none]) H _ I4 hq
  rw [show starEach (e1 :: es) (ncx CX P w K mg base N (nfI qual st cA cd) fI A outer s H E).env = _ from hst _] at hrun
  subst hEE
  refine wpAny_mono hrun (fun ws s5 ⟨vs', H1, I5, r5, hz5, ea5, q5⟩ => ?_) fun e s5 z => z
  have hp5 := (I5.pin (h'.objs.size, kxs_mw "ValueError.__init__" a) (by simp)).1
  obtain ⟨t5, hx5⟩ := exo_at I5.hok ea5
  obtain ⟨h5, g5, d5, tk5, os5⟩ := s5
  have I5' : Inv (ncx CX P w K mg base N (nfI qual st cA cd) fI A outer s H E) [] (startF N vs [none]) H1 ⟨h5, g5, d5, tk5, os5⟩ := I5.pins_of fun p hp => nomatch hp
  have hlen : ws.length ≤ sizeLine := by
    rw [← Paired.length r5, sizeLine_eq]
    omega
  refine ⟨hp5, call_mw (I5.kIn _ _ hC) hx5 hp5 hlen fun h6 k6 hx6 => ?_⟩
  have J := I5'.write (t' := tk5) (x := a) (e := a) (o := exo a C none) (by rw [ea5]; exact True.intro) (.inl rfl) k6 ⟨_, hx6⟩ (exo_ok hx6)
  have eu : upd H1 a (exo a C none) = H1 := by
    funext b
    by_cases hb : b = a
    · rw [hb, upd_same, ea5]
    · rw [upd_ne hb]
  rw [eu] at J
  refine PySem.wpAt_of_wpAny ?_
  refine wpAny_mono (ht.run [] _ (startF N vs [none]) H1 _ J q5) (fun fl s' hs => ?_) fun e s' hs => hs
  have fin2 : ∀ {σ' : L2.St} {H' : Hp} {v : V} {u : Value}, Inv (ncx CX P w K mg base N (nfI qual st cA cd) fI A outer s H E) [] σ' H' s' → L2.RelV v u → Q v H' → CE outer P w H s Q u s' :=
    fun {σ' H' v u} J rv q => ⟨v, H', J.os, J.bare, J.base, J.hok, rv, q⟩
  cases fl with
  | ret u =>
    obtain ⟨v, σ', H', J, rv, q⟩ := hs
    exact fin2 J rv q
  | next =>
    obtain ⟨σ', H', J, q⟩ := hs
    exact fin2 (v := V.non) (u := Value.none) J rfl q
  | brk =>
    obtain ⟨_, _, _, q⟩ := hs
    exact False.elim q
  | cont =>
    obtain ⟨_, _, _, q⟩ := hs
    exact False.elim q
end
end ME
namespace ME
open PySem PySem.Spec PyProof.Rows L2 NdefX MM
/-! ### the promise of such an __init__: fields by the parameters -/
/-- what an f-string writes: an int that is not too long, or a short text -/
def okV : V → Bool
  | .int i => decide (i.natAbs.log2 < 1920)
  | .str s => decide (s.length ≤ 100000)
  | _ => false
def spI (C : Addr) (fl : List Str) : Sp := fun vs H Q _ => ∃ (a : Addr) (ys : List V), vs = .ref a :: ys ∧ ys.length = fl.length ∧ ys.all okV = true ∧ H a = some (exo a C none) ∧
  ∀ dx, H dx = none → dx ≠ a → Q .non (upd (upd H dx (exd dx ((fl.zip ys).reverse))) a (exo a C (some dx)))
theorem int_len {i : Int} (h : i.natAbs.log2 < 1920) : (Str.ofString (toString i)).length ≤ 600 := by
  have h1 : i.natAbs < 2 ^ 1920 := by
    by_cases z : i.natAbs = 0
    · rw [z]; exact Nat.pow_pos (by decide)
    · exact (Nat.log2_lt z).mp h
  have h2 : (2 : Nat) ^ 1920 < 10 ^ 580 := by decide +kernel
  have hl := TL.numL_len (n := i.natAbs) (k := 580) (by decide) (by omega)
  show (Str.ofString (toString i)).cps.size ≤ 600
  have e := sgn_int i
  have e2 : (Str.ofString (toString i)).cps.size = ((Str.ofString (toString i)).cps.toList).length := by simp
  rw [e2, e]
  split
  · rw [List.length_cons]; omega
  · omega
/-- {x} of such a value -/
theorem fmt_ok {i : Nat} {σ : L2.St} {v : V} (e : σ[i]? = some (some v)) (ok : okV v = true) (H : Hp) (Q : VK) (h : ∀ y : Str, y.length ≤ 100000 → Q (.str y) H) : tFmt (tVar i) σ H Q := by
  refine ⟨v, e, ?_⟩
  cases v with
  | int i =>
    have z : i.natAbs.log2 < 1920 := by simpa [okV] using ok
    exact .inr ⟨i, rfl, z, h _ (by have := int_len z; omega)⟩
  | str s =>
    have z : s.length ≤ 100000 := by simpa [okV] using ok
    exact .inl ⟨s, rfl, by rw [sizeLine_eq]; omega, h _ z⟩
  | _ => cases ok
section
variable {X : Cx} {st : Stmt} {σ : L2.St} {H : Hp}
/-- the message: whatever it is, it is made -/
def Msg (t : TE) (σ : L2.St) : Prop := ∀ (H : Hp) (Q : VK), (∀ v, Q v H) → t σ H Q
theorem msg_str {s : Str} : Msg (tC (.str s)) σ := fun H Q h => h _
def Part (t : TE) (σ : L2.St) : Prop := ∀ (H : Hp) (Q : VK), (∀ y : Str, y.length ≤ 100000 → Q (.str y) H) → t σ H Q
theorem part_str {s : Str} (h : s.length ≤ 100000) : Part (tC (.str s)) σ := fun H Q q => q _ h
theorem part_fmt {i : Nat} {v : V} (e : σ[i]? = some (some v)) (ok : okV v = true) : Part (tFmt (tVar i)) σ := fun H Q q => fmt_ok e ok H Q q
theorem msg_parts : ∀ {ts : List TE} (acc : Str) (H : Hp) (Q : Str → Hp → Prop), (∀ t ∈ ts, Part t σ) → acc.length + 100000 * ts.length ≤ 16777216 → (∀ y, Q y H) → tJs ts acc σ H Q
  | [], acc, H, Q, _, _, q => q acc
  | t :: ts, acc, H, Q, ht, hl, q => by
    refine ht t (by simp) H _ fun y hy => ⟨y, rfl, ?_, msg_parts (acc ++ y) H Q (fun u hu => ht u (by simp [hu])) ?_ q⟩
    · rw [sizeLine_eq, Str.length_append]
      rw [List.length_cons, Nat.mul_add] at hl
      omega
    · rw [Str.length_append]
      rw [List.length_cons, Nat.mul_add] at hl
      omega
end
end ME
namespace ME
open PySem PySem.Spec PyProof.Rows L2 NdefX MM
section
variable {P : Program} {w : World} {K : PySem.W.Frag} {mg : Str → Option Value} {base : Heap} {k : Nat} {C fI cA cd : Addr} {qual : Str} {st : Stmt} {fd : FuncData} {self p f : Str} {e1 : Expr} {p0 p1 p2 p3 p4 q1 q2 q3 q4 : Pos} {ar : Arg} {CX : CXT}
theorem init_one (XI : XInit P K C fI qual st cA cd fd) (S : NScope [self, p, (Str.ofString "__class__")] [self, p] [(Str.ofString "__class__")] (C8.fnScope st)) (hm : mg "super" = none)
    (hks : (C8.fnScope st).names.lookup (Str.ofString "super") = some .globalImplicit) (hkc : (C8.fnScope st).names.lookup (Str.ofString "__class__") = some .free)
    (har : ((C8.fnArgs st).posonlyargs ++ (C8.fnArgs st).args).head? = some ar) (hs : ar.arg = self)
    (hbody : C8.fnBody st = [.Expr (.Call (.Attribute (.Call (.Name (Str.ofString "super") p0) [] [] p1) (Str.ofString "__init__") p2) [e1] [] p3) p4, .Assign [.Attribute (.Name self q1) f q2] (.Name p q3) q4])
    (hno : PySem.W.findIn K (.ref C) f = some none)
    (hmsg : ∀ X : Cx, X.N = [self, p, (Str.ofString "__class__")] → X.env.scope = C8.fnScope st → ∃ t : TE, PE X e1 t ∧ ∀ (σ : L2.St) (y : V), σ[1]? = some (some y) → okV y = true → Msg t σ)
    (hst : ∀ (env : Env), starEach [e1] env = (false, eval e1 env) :: starEach [] env)
    (hint : ∀ (env : Env), swapsWith (.Call (.Attribute (.Call (.Name (Str.ofString "super") p0) [] [] p1) (Str.ofString "__init__") p2) [e1] [] p3) none p4.line env = pure false)
    (hcall : ∀ (env : Env), ∃ pl : Sem Bool, eval (.Call (.Attribute (.Call (.Name (Str.ofString "super") p0) [] [] p1) (Str.ofString "__init__") p2) [e1] [] p3) env = (do
      let ov ← attributeBase (.Call (.Name (Str.ofString "super") p0) [] [] p1) (Str.ofString "__init__") env (eval (.Call (.Name (Str.ofString "super") p0) [] [] p1) env)
      standAt p2.atName
      let (f, first) ← holding [ov] (getMethod ov (Str.ofString "__init__") pl)
      callWith p3 f first (backTo p3 (starEach [e1] env)) []))
    (d1 : (self == ("__debug__" : Str)) = false) (d2 : (self == ("__classdict__" : Str)) = false) (d3 : (p == ("__debug__" : Str)) = false) (d4 : (p == ("__classdict__" : Str)) = false) :
    FnOk P w K mg base CX (k + 1) fI fd [self, p] (spI C [f]) := by
  have l1 : (C8.fnScope st).names.lookup self = some .local := S.par self (by simp)
  have l2 : (C8.fnScope st).names.lookup p = some .local := S.par p (by simp)
  refine init_fn XI S hm hks hkc har (by rw [hs]; rfl) (by rw [hs]; exact l1) hbody (fun vs H Q E ⟨a, ys, e, el, _⟩ => by rw [e, List.length_cons, el]; rfl) (fun A outer s H vs Q E _ ⟨a, ys, e, el, ok, ea, q⟩ => ?_) hst (fun _ => rfl) hint hcall
  obtain ⟨y, rfl⟩ : ∃ y, ys = [y] := by
    match ys, el with
    | [y], _ => exact ⟨y, rfl⟩
  subst e
  obtain ⟨t, ht, hm2⟩ := hmsg (ncx CX P w K mg base [self, p, (Str.ofString "__class__")] (nfI qual st cA cd) fI A outer s H E) rfl rfl
  refine ⟨a, _, _, rfl, ea, pa_cons ht pa_nil (hst _), pss_one (ps_ost (pe_var (i := 0) rfl (.inl l1) d1 d2) (pe_var (i := 1) rfl (.inl l2) d3 d4)), ?_⟩
  have oy : okV y = true := by simpa using ok
  refine hm2 (startF [self, p, (Str.ofString "__class__")] [.ref a, y] [none]) y rfl oy H _ fun v => ?_
  refine ⟨by simp, ea, y, rfl, .ref a, rfl, a, C, rfl, XI.T, hno, .inl ⟨ea, fun dx hd na => ?_⟩⟩
  exact q dx hd na
end
end ME
namespace MM
open PySem PySem.Spec PyProof.Rows L2 ME
/-! ### raise of such an exception -/
def okD : D → Bool
  | .int i => decide (i.natAbs.log2 < 1920)
  | .str s => decide (s.length ≤ 100000)
  | _ => false
def mRaise (c : Str) (fl : List Str) (ms : MA) : MSt := fun δ h => (ms δ h).st δ fun ds h1 => if ds.length = fl.length ∧ ds.all okD = true then .exc c ((fl.zip ds).reverse) δ h1 else .stuck
theorem okD_ok {K L H} {d : D} {v : V} (q : Rep K L H d v) (h : okD d = true) : okV v = true := by
  cases d with
  | int i => unfold Rep at q; subst q; exact h
  | str s => unfold Rep at q; subst q; exact h
  | _ => cases h
theorem okDs_ok {K L H} : ∀ {ds : List D} {vs : List V}, RepL K L H ds vs → ds.all okD = true → vs.all okV = true
  | [], _, w, _ => by rw [w.nil_inv]; rfl
  | d :: ds, _, w, h => by
    obtain ⟨v, vs, rfl, q, w2⟩ := w.cons_inv
    rw [List.all_cons, Bool.and_eq_true] at h
    rw [List.all_cons, okD_ok q h.1, okDs_ok w2 h.2]; rfl
theorem RepF.app {K L H} : ∀ {a b : List (Str × D)} {x y : List (Str × V)}, RepF K L H a x → RepF K L H b y → RepF K L H (a ++ b) (x ++ y)
  | [], _, _, _, e, h => by
    have e : _ = [] := e
    rw [e]; exact h
  | d :: a, b, _, y, ⟨v, vs, e, q, w⟩, h => by rw [e]; exact ⟨v, vs ++ y, rfl, q, RepF.app w h⟩
theorem repF_rev {K L H} : ∀ {fl : List Str} {ds : List D} {vs : List V}, RepL K L H ds vs → RepF K L H ((fl.zip ds).reverse) ((fl.zip vs).reverse)
  | [], _, _, _ => rfl
  | _ :: _, [], _, w => by rw [w.nil_inv]; rfl
  | f :: fl, d :: ds, _, w => by
    obtain ⟨v, vs, rfl, q, w2⟩ := w.cons_inv
    show RepF K L H (((f, d) :: fl.zip ds).reverse) (((f, v) :: fl.zip vs).reverse)
    rw [List.reverse_cons, List.reverse_cons]
    exact RepF.app (repF_rev w2) ⟨v, [], rfl, q, rfl⟩
section
variable {X : Cx} {CY : CXT} {x : Str} {C fI : Addr} {k : Nat} {fd : FuncData} {ps : List Str} {sp : Sp} {p pos : Pos} {e : Expr} {es : List Expr} {ta : TA}
/-- such an exception made: its context is None -/
theorem pmkN (T : OexC X.K C) (iC : PySem.W.findIn X.K (.ref C) "__init__" = some (some (.ref fI))) (tI : PySem.W.typeIn X.K (.ref fI) = some (.type "function")) (F1 : FnOk X.prog X.w X.K X.mg X.base CY k fI fd ps sp) (room : Room (k + 1) X.A)
    (bi : Binds X.K fd ps []) (out : Passes CY X (fun _ _ _ => False)) (hg : Gl X x) (hm : X.mg x = some (.ref C)) (ha : PA X (e :: es) ta)
    (hdb : (x == ("__debug__" : Str)) = false) (he : starEach (e :: es) X.env = (false, eval e X.env) :: starEach es X.env) (hpl : (backTo pos (starEach es X.env)).any (·.1) = false) :
    L2N.PMk X (.Call (.Name x p) (e :: es) [] pos) (tMkO C sp [] ta) := fun pins s σ H Q I want => by
  obtain ⟨z1, z2, z3, z4, ml, z6, z7, z8, z9, z10, z11, z12, z13, z14, z15, at_, good⟩ := T.cls
  refine wpAny_Call_Name_kw (ld_glob I hg hm (PySem.W.callWith_K (h₀ := X.base) I.ok.mod.kin T.kC (thn (ha.run pos pins s σ H _ I want) fun us s1 got => ?_) he hpl) hdb)
  obtain ⟨vs, H1, I1, rv, small, more⟩ := got
  refine ⟨I1.kIn, ?_⟩
  show wpAny _ _ (call (.ref C) us) _ _ _
  obtain ⟨G, gs, dr, tk, os⟩ := s1
  obtain ⟨a, ea⟩ : ∃ a, a = G.objs.size + 1 := ⟨_, rfl⟩
  have big : G.objs.size ≤ a := by omega
  have none1 : H1 a = none := I1.hok.fresh big
  have ask := more a none1
  rw [List.append_nil] at ask
  obtain ⟨G2, eG2⟩ : ∃ G2, G2 = (G.push (PySem.W.kdv_tup us)).push (PySem.HandSPX.excO C G.objs.size) := ⟨_, rfl⟩
  have up : ∀ b o, G.get? b = some o → G2.get? b = some o := fun b o q => by
    rw [eG2]
    exact Heap.get?_push_of_some _ (Heap.get?_push_of_some _ q)
  have mine : G2.get? a = some (PySem.HandSPX.excO C G.objs.size) := by
    rw [eG2, ea]
    heap_get
  have I2 := I1.laid (h' := G2) (t' := tk) (a := a) (o := exo a C none) up big (exo_ok mine)
  have r2 : Vals (V.ref a :: vs) (Value.ref a :: us) := .cons rfl rv
  have cnt : (Value.ref a :: us).length = ps.length := r2.length.symm.trans (F1.len _ _ _ _ ask)
  have fits : us.length ≤ sizeLine := by
    have := Paired.length rv
    rw [sizeLine_eq]
    omega
  have bnd := bi ⟨G2, gs, dr, tk, os⟩ (Value.ref a :: us) I2.kIn (by rw [List.append_nil]; exact cnt)
  rw [List.append_nil] at bnd
  have body := F1.run _ X.stack _ _ ⟨Value.ref a :: us, []⟩ (Value.ref a :: us) _ _ (fun _ _ _ => False) (room.make C us []) (I2.env0.make C us []) bnd r2 ask
  rw [ea, eG2] at body
  refine wpAny_call (PySem.HandSPX.call_own F.excBase_ValueError (fun Y => PySem.HandSPX.refsVE_contains Y ml good) (I1.kIn _ _ at_) (PySem.W.looks_findIn I1.kIn iC) (fun self => PySem.W.bind_fn I1.kIn self tI) fits (codeAny_mono body fun r s' fin => ?_))
  match r, fin with
  | .error er, fin => exact out pins σ _ _ er s' (by rw [ea, eG2] at I2; exact I2) fin
  | .ok (.ret u), fin =>
    obtain ⟨v, H2, os2, bare2, un2, hok2, rv2, ev, d, fs, e1, e2, e3, q2⟩ := fin
    subst ev
    obtain ⟨h2, g2, d2, t2, os'⟩ := s'
    rw [eG2] at up
    obtain ⟨t0, GG, J, kG, ge, hoe, na⟩ := mk_end0 (d2 := d2) (t2 := t2) I1 (Nat.le_succ _) up un2 hok2 os2 bare2 e1 e2 e3
    exact ⟨rv2, _, _, _, ⟨GG, g2, d2, t2, os'⟩, _, .ref C, some d, rfl, J, kG, ge, hoe, ⟨rfl, rfl, fun vs q => by cases q; rfl⟩, rfl, rfl, na, rfl, bare2, raises_own T.exC T.tyC, q2⟩
end
section
variable {X : Cx} {W : WX} {pos p pos2 : Pos} {e : Expr} {es : List Expr} {mas : MA}
theorem psm_raise {c : Str} {C fI : Addr} {fd : FuncData} {ps fl : List Str} {k : Nat} (hc : X.calm = true) (tk : L2N.Takes X W) (T : OexC X.K C) (hC : PySem.W.nsIn X.K mainGlobals c = some (some (.ref C)))
    (iC : PySem.W.findIn X.K (.ref C) "__init__" = some (some (.ref fI))) (tI : PySem.W.typeIn X.K (.ref fI) = some (.type "function")) (F1 : FnOk X.prog X.w X.K X.mg X.base (L2N.CX X.prog X.w) k fI fd ps (spI C fl)) (hr : Room (k + 1) X.A) (hb : Binds X.K fd ps [])
    (hg : Gl X c) (hm : X.mg c = some (.ref C)) (hl : fl.length ≤ 1000) (ha : PAM X W (e :: es) mas)
    (hdb : (c == ("__debug__" : Str)) = false := by decide) (he : starEach (e :: es) X.env = (false, eval e X.env) :: starEach es X.env := by rfl) (hpl : (backTo pos (starEach es X.env)).any (·.1) = false := by rfl) :
    PSM X W (.Raise (some (.Call (.Name c p) (e :: es) [] pos)) none pos2) (mRaise c fl mas) := by
  have h0 := L2N.ps_raise (pos := pos2) hc tk (pmkN (p := p) (pos := pos) T iC tI F1 hr hb (fun _ _ _ _ _ _ _ q => (no_exc q).elim) hg hm ha hdb he hpl)
  refine PS.imp h0 fun D σ H ⟨L, h, δ, r0, s, a⟩ => ?_
  show tMkO C (spI C fl) [] (tA X.K W mas) σ H fun cls d H' => W cls d σ H'
  refine ⟨L, h, δ, r0, s, Ans.imp (AnsS.bind (rp := RepL X.K) s a) fun vs H1 ⟨L1, h1, ds, x1, r1, p1, s1, a1⟩ => ?_⟩
  by_cases z : ds.length = fl.length ∧ ds.all okD = true
  · rw [if_pos z] at a1
    have lv : vs.length = fl.length := by rw [← p1.length]; exact z.1
    refine ⟨by omega, fun a ha' => ?_⟩
    rw [List.append_nil]
    refine ⟨a, vs, rfl, lv, okDs_ok p1 z.2, upd_same, fun dx hd na => ?_⟩
    rw [upd_ne na] at hd
    refine ⟨rfl, dx, (fl.zip vs).reverse, upd_same, by rw [upd_ne na, upd_same], hd, ?_⟩
    have hH : upd (del (upd (upd (upd H1 a (exo a C none)) dx (exd dx ((fl.zip vs).reverse))) a (exo a C (some dx))) a) dx (.xd ((fl.zip vs).reverse)) = upd H1 dx (.xd ((fl.zip vs).reverse)) := by
      funext b
      by_cases hbd : b = dx
      · rw [hbd, upd_same, upd_same]
      · rw [upd_ne hbd, upd_ne hbd]
        by_cases hba : b = a
        · rw [hba, del_same, ha']
        · rw [del_ne hba, upd_ne hba, upd_ne hbd, upd_ne hba]
    rw [hH]
    obtain ⟨x2, r2⟩ := r1.grow (H' := upd H1 dx (.xd ((fl.zip vs).reverse))) fun c o ec => by
      rw [upd_ne (fun z => by rw [z, hd] at ec; cases ec)]; exact ec
    exact a1 L1 _ σ dx _ x2 r2 (s1.mono x2) upd_same ((repF_rev p1).mono x2) (.ref C) ⟨C, rfl, hC⟩
  · rw [if_neg z] at a1
    exact a1.elim
end
end MM
namespace ME
open PySem PySem.Spec PyProof.Rows L2 NdefX MM
/-- the class c of exceptions, its fields fl -/
structure XAt (P : Program) (w : World) (K : PySem.W.Frag) (mg : Str → Option Value) (c : Str) (fl : List Str) : Prop where
  ex : ∃ (C fI : Addr) (fd : FuncData) (ps : List Str), OexC K C ∧ PySem.W.nsIn K mainGlobals c = some (some (.ref C)) ∧ mg c = some (.ref C) ∧ PySem.W.findIn K (.ref C) "__init__" = some (some (.ref fI)) ∧ PySem.W.typeIn K (.ref fI) = some (.type "function") ∧
    L2.Binds K fd ps [] ∧ ∀ base, FnOk P w K mg base (L2N.CX P w) 1 fI fd ps (spI C fl)
section
variable {X : Cx} {W : WX} {pos p pos2 : Pos} {e : Expr} {es : List Expr} {mas : MA} {n : Nat} {c : Str} {fl : List Str}
theorem psm_raiseX (x : XAt X.prog X.w X.K X.mg c fl) (hc : X.calm = true) (tk : L2N.Takes X W) (hr : Room n X.A) (hn : 2 ≤ n) (hl : fl.length ≤ 1000) (hg : Gl X c) (ha : PAM X W (e :: es) mas)
    (hdb : (c == ("__debug__" : Str)) = false := by decide) (he : starEach (e :: es) X.env = (false, eval e X.env) :: starEach es X.env := by rfl) (hpl : (backTo pos (starEach es X.env)).any (·.1) = false := by rfl) :
    PSM X W (.Raise (some (.Call (.Name c p) (e :: es) [] pos)) none pos2) (mRaise c fl mas) := by
  obtain ⟨C, fI, fd, ps, T, hC, hm, iC, tI, hb, F⟩ := x.ex
  exact psm_raise hc tk T hC iC tI (F X.base) (hr.mono hn) hb hg hm hl ha hdb he hpl
end
theorem bindsX {K : PySem.W.Frag} {fd : FuncData} {ps : List Str} (h : ∀ us : List Value, us.length = ps.length → bindArgs fd ⟨us, []⟩ = pure (ps.zip us)) : L2.Binds K fd ps [] := L2.Binds.all h
end ME
namespace MM
open PySem PySem.Spec PyProof.Rows L2
/-- a statement that nothing is said of -/
def mStuck : MSt := fun _ _ => .stuck
theorem psm_stuck {X : Cx} {W : WX} {st : Stmt} : PSM X W st mStuck := ⟨fun _ _ _ _ _ _ ⟨_, _, _, _, _, a⟩ => a.elim⟩
end MM

set_option maxHeartbeats 2000000
/-! try: body, except c as n: suite -/
namespace MM
open PySem PySem.Spec PyProof.Rows L2
/-- behind the suite the name is gone -/
def clr (i : Nat) : SR → SR
  | .ok (.next δ) h => .ok (.next (δ.set i none)) h
  | .ok (.brk δ) h => .ok (.brk (δ.set i none)) h
  | .ok (.cont δ) h => .ok (.cont (δ.set i none)) h
  | .ok (.ret d) h => .ok (.ret d) h
  | _ => .stuck
def xoD (a d : Addr) (fs : List (Str × D)) : D := .xo a d (fs.map (·.1)) (fs.map (·.2))
open Classical in
noncomputable def mTry (body : MSt) (hit : Str → Option Bool) (i : Nat) (suite : Addr → Addr → Str → List (Str × D) → MSt) : MSt := fun δ h => match body δ h with
  | .exc c fs δ' h' => (match hit c with
    | some true => if z : ∃ r, ∀ a d, clr i (suite a d c fs (δ'.set i (some (xoD a d fs))) h') = r then choose z else .stuck
    | some false => .exc c fs δ' h'
    | none => .stuck)
  | r => r
theorem mTry_exc {body : MSt} {hit : Str → Option Bool} {i : Nat} {suite : Addr → Addr → Str → List (Str × D) → MSt} {δ δ' : MS} {h h' : MH} {c : Str} {fs : List (Str × D)} {r : SR} (e : body δ h = .exc c fs δ' h') (hc : hit c = some true)
    (q : ∀ a d, clr i (suite a d c fs (δ'.set i (some (xoD a d fs))) h') = r) : mTry body hit i suite δ h = r := by
  unfold mTry
  rw [e]
  simp only [hc]
  have z : ∃ r, ∀ a d, clr i (suite a d c fs (δ'.set i (some (xoD a d fs))) h') = r := ⟨r, q⟩
  rw [dif_pos z, ← Classical.choose_spec z 0 0]
  exact q 0 0
theorem mTry_ok {body : MSt} {hit : Str → Option Bool} {i : Nat} {suite : Addr → Addr → Str → List (Str × D) → MSt} {δ : MS} {h h' : MH} {f : Fl} (e : body δ h = .ok f h') : mTry body hit i suite δ h = .ok f h' := by
  unfold mTry
  rw [e]
section
variable {K : PySem.W.Frag} {L : TL} {H : Hp}
/-- what is tracked is no dict of an exception -/
theorem nl_xd {h : MH} {dx : Addr} {xs : List (Str × V)} (r : Rel K L H h) (e : H dx = some (.xd xs)) : NL L dx := fun n z => by
  have hn : n < h.length := by
    have := (List.getElem?_eq_some_iff.mp z).1
    rwa [r.len] at this
  have o := r.at' n _ (List.getElem?_eq_getElem hn)
  generalize h[n] = mo at o
  cases mo with
  | dead =>
    have o : L[n]? = some none := o
    rw [z] at o
    cases o
  | lst ds =>
    unfold OAt at o
    obtain ⟨a, xs, e1, e2, _⟩ := o
    rw [z] at e1
    cases e1
    rw [e] at e2
    cases e2
  | dic kvs =>
    unfold OAt at o
    obtain ⟨a, xs, e1, e2, _⟩ := o
    rw [z] at e1
    cases e1
    rw [e] at e2
    cases e2
  | ldc kvs =>
    unfold OAt at o
    obtain ⟨a, xs, o1, e1, e2, _⟩ := o
    rw [z] at e1
    cases e1
    rw [e] at e2
    cases e2
  | ins C fs =>
    unfold OAt at o
    obtain ⟨a, dx, Ca, ws, e1, e2, _⟩ := o
    rw [z] at e1
    cases e1
    rw [e] at e2
    cases e2
theorem repF_parts : ∀ {fs : List (Str × D)} {xs : List (Str × V)}, RepF K L H fs xs → xs = (fs.map (·.1)).zip (xs.map (·.2)) ∧ RepL K L H (fs.map (·.2)) (xs.map (·.2))
  | [], xs, e => by
    have e : xs = [] := e
    rw [e]; exact ⟨rfl, .nil⟩
  | d :: fs, xs, ⟨v, vs, e, q, w⟩ => by
    obtain ⟨i1, i2⟩ := repF_parts w
    rw [e]
    refine ⟨?_, .cons q i2⟩
    show (d.1, v) :: vs = (d.1, v) :: (fs.map (·.1)).zip (vs.map (·.2))
    rw [← i1]
theorem rep_xo {h : MH} {a dx : Addr} {fs : List (Str × D)} {xs : List (Str × V)} (r : Rel K L H h) (e : H dx = some (.xd xs)) (q : RepF K L H fs xs) : Rep K L H (xoD a dx fs) (.ref a) := by
  obtain ⟨p1, p2⟩ := repF_parts q
  unfold xoD Rep
  exact ⟨rfl, xs.map (·.2), .inl (by rw [← p1]; exact e), nl_xd r e, by rw [List.length_map, List.length_map], p2⟩
theorem RepS.unset {δ : MS} {σ : L2.St} {i : Nat} (r : RepS K L H δ σ) : RepS K L H (δ.set i none) (σ.set i none) := by
  refine ⟨by rw [List.length_set, List.length_set, r.len], fun j d e => ?_⟩
  by_cases z : i = j
  · subst z
    by_cases hl : i < δ.length
    · rw [List.getElem?_set_self hl] at e; cases e
    · rw [List.getElem?_eq_none (by rw [List.length_set]; omega)] at e; cases e
  · rw [List.getElem?_set_ne z] at e ⊢
    exact r.at' j d e
end
section
variable {X : Cx} {W : WX} {x n : Str} {cE : Value} {i : Nat} {body suite : List Stmt} {b₀ : Stmt} {np pos pos' : Pos} {mb : MSt} {hit : Str → Option Bool} {ms : Addr → Addr → Str → List (Str × D) → MSt}
theorem psm_try (hs : X.stack = X.env :: X.outer) (hf : X.env.frame = some X.env.locals) (hN : X.N.Nodup) (hi : X.N[i]? = some n) (hln : X.env.kindOf n = some .local) (hc : Names X x cE) (tk : L2N.Takes X W)
    (hexm : ∀ c ev b, EV X.K c ev → hit c = some b → PySem.W.exmOne X.K ev cE = some b)
    (hb : ∀ (W : WX) (pn : List (Addr × Obj)) (xe : Value → Shared → Prop), L2N.Takes (X.tr pn xe) W → PassesOwn (model X.prog X.w) X.A X.env xe → PSsM (X.tr pn xe) W body mb)
    (hsu : ∀ (a : Addr) (oe : Obj) (cls : Value) (dd : Addr) (pn : List (Addr × Obj)) (c : Str) (fs : List (Str × D)), L2N.Zn cls (some dd) oe → (∃ vs, oe.data = .fields vs) → EV X.K c cls → hit c = some true → PSsM (X.suite a ((a, oe) :: pn)) W0 (b₀ :: suite) (ms a dd c fs)) :
    PSM X W (.Try body [.ExceptHandler (some (.Name x np)) (some n) (b₀ :: suite) pos'] [] [] pos) (mTry mb hit i ms) := by
  have base := L2N.ps_try_as (np := np) (pos := pos) (pos' := pos') (tb := fun W => tS X.K W mb) (ts := fun a cls d => fun D σ H => ∃ c fs dd, EV X.K c cls ∧ hit c = some true ∧ d = some dd ∧ tS X.K W0 (ms a dd c fs) D σ H) hs hf hN hi hln hc tk
    (fun W pn xe t p => hb W pn xe t p)
    (fun a oe cls d pn hz hv => ⟨fun pins s σ H D I ⟨c, fs, dd, ev, hc, ed, t⟩ => by
      subst ed
      exact (hsu a oe cls dd pn c fs hz hv ev hc).run pins s σ H D I t⟩)
  refine PS.imp base fun D σ H ⟨L, h, δ, r0, s, a⟩ => ⟨L, h, δ, r0, s, ?_⟩
  unfold mTry at a
  generalize mb δ h = res at a ⊢
  cases res with
  | stuck => exact a
  | ok f h' => exact a
  | exc c fs δ' h' =>
    intro L' H' σ' dx xs ex r' s' e q ev hev
    cases hh : hit c with
    | none => simp only [hh] at a; exact a.elim
    | some b =>
      refine ⟨b, hexm c ev b hev hh, fun hb1 a1 na => ?_, fun hb1 => ?_⟩
      · subst hb1
        simp only [hh] at a
        split at a
        case isFalse => exact a.elim
        rename_i z
        have uni := Classical.choose_spec z a1 dx
        rw [← uni] at a
        refine ⟨c, fs, dx, hev, hh, rfl, L', h', _, r', s'.set (rep_xo r' e q), ?_⟩
        generalize ms a1 dx c fs (δ'.set i (some (xoD a1 dx fs))) h' = out at a ⊢
        cases out with
        | stuck => exact a.elim
        | exc _ _ _ _ => exact a.elim
        | ok f h3 =>
          cases f with
          | next δ3 => exact fun L4 H4 σ4 x4 r4 s4 => a L4 H4 _ (ex.trans x4) r4 s4.unset
          | brk δ3 => exact fun L4 H4 σ4 x4 r4 s4 => a L4 H4 _ (ex.trans x4) r4 s4.unset
          | cont δ3 => exact fun L4 H4 σ4 x4 r4 s4 => a L4 H4 _ (ex.trans x4) r4 s4.unset
          | ret d => exact fun L4 H4 v x4 r4 s4 => a L4 H4 v (ex.trans x4) r4 s4
      · subst hb1
        simp only [hh] at a
        exact a L' H' σ' dx xs ex r' s' e q ev hev
end
end MM
namespace MM
open PySem PySem.Spec PyProof.Rows L2
/-! ### what a suite asks of its exception -/
section
variable {X : Cx} {W : WX} {a C dd : Addr} {oe : Obj} {pn : List (Addr × Obj)} {e : Expr} {te : TE} {me : ME} {pos : Pos} {n c : Str}
/-- a field -/
theorem pe_xfR (T : XfC X.K C) (hno : PySem.W.findIn X.K (.ref C) n = some none) (hz : L2N.Zn (.ref C) (some dd) oe) (hf : ∃ vs, oe.data = .fields vs) (he : PE (X.suite a ((a, oe) :: pn)) e te)
    (hb : attributeBase e n X.env (eval e X.env) = eval e X.env) :
    PE (X.suite a ((a, oe) :: pn)) (.Attribute e n pos) (fun σ H Q => te σ H fun x H1 => x = .ref a ∧ ∃ fs v, Rd H1 dd (.xd fs) ∧ fs.lookup n = some v ∧ Q v H1) := ⟨fun pins s σ H Q I want => by
  refine attr_of hb (thn (he.run pins s σ H _ I want) fun u s1 got => ?_)
  obtain ⟨x, H1, I1, rx, rfl, fs, v, rd, look, q⟩ := got
  have eu : u = Value.ref a := rx
  rw [eu]
  have pinned := (I1.pin (a, oe) (List.mem_append_left _ List.mem_cons_self)).1
  have dic : ObjOk X.prog X.w H1 s1.heap dd (.xd fs) := rd.ok I1.hok
  obtain ⟨mA, hns, hr⟩ := dic
  obtain ⟨od, at_, keys⟩ := lookIn_ns hns
  obtain ⟨u2, hu, ru⟩ := RelO.some_of (v := v) (o := mA n) (by rw [← look]; exact hr n)
  have J : PySem.W.InstAt s1.heap a oe C (some od) := by
    refine ⟨pinned, hz.1, ?_, by rw [hz.2.1]; exact at_⟩
    obtain ⟨vs, hd⟩ := hf
    unfold PySem.W.notCls
    rw [hd] <;> rfl
  exact HandSPX.exc_get I1.kIn J T.ga T.gg T.exC (PySem.W.findObj_own T.hdC hno rfl (by rw [keys, hu])) (handed_of ru) ⟨v, H1, I1.tok _, ru, q⟩⟩
def mXf (a dd : Addr) (n : Str) (m : ME) : ME := fun δ h => (m δ h).bnd fun v h1 => match v with
  | .xo a' d' fl ds => if a' = a ∧ d' = dd then (match (fl.zip ds).lookup n with
    | some d => .ok d h1
    | none => .stuck) else .stuck
  | _ => .stuck
theorem lookup_rep {K L H} : ∀ {fl : List Str} {ds : List D} {xs : List V} {d : D}, RepL K L H ds xs → (fl.zip ds).lookup n = some d → ∃ v, (fl.zip xs).lookup n = some v ∧ Rep K L H d v
  | [], _, _, _, _, e => by cases e
  | _ :: _, [], _, _, _, e => by cases e
  | f :: fl, d0 :: ds, xs, d, w, e => by
    obtain ⟨v, vs, rfl, q, w2⟩ := w.cons_inv
    show ∃ v', (((f, v) :: fl.zip vs)).lookup n = some v' ∧ _
    have e' : ((f, d0) :: fl.zip ds).lookup n = some d := e
    unfold List.lookup at e' ⊢
    cases z : n == f with
    | true =>
      simp only [z] at e' ⊢
      cases e'
      exact ⟨v, rfl, q⟩
    | false =>
      simp only [z] at e' ⊢
      exact lookup_rep w2 e'
theorem pem_xf (T : XfC X.K C) (hno : PySem.W.findIn X.K (.ref C) n = some none) (hz : L2N.Zn (.ref C) (some dd) oe) (hf : ∃ vs, oe.data = .fields vs) (he : PEM (X.suite a ((a, oe) :: pn)) W e me)
    (hb : attributeBase e n X.env (eval e X.env) = eval e X.env) : PEM (X.suite a ((a, oe) :: pn)) W (.Attribute e n pos) (mXf a dd n me) :=
  PE.imp (pe_xfR T hno hz hf he hb) fun σ H Q ⟨L, h, δ, r, s, w⟩ => ⟨L, h, δ, r, s, Ans.imp (Ans.bind (rp := Rep X.K) w) fun v H1 ⟨L1, h1, d, x1, r1, p1, a1⟩ => by
    cases d with
    | xo a' d' fl ds =>
      replace a1 : Ans (X.suite a ((a, oe) :: pn)).K (Rep (X.suite a ((a, oe) :: pn)).K) L1 H1 (if a' = a ∧ d' = dd then (match (fl.zip ds).lookup n with
        | some d => R.ok d h1
        | none => .stuck) else .stuck) Q (WE W σ) := a1
      by_cases z : a' = a ∧ d' = dd
      · rw [if_pos z] at a1
        obtain ⟨rfl, rfl⟩ := z
        cases lk : (fl.zip ds).lookup n with
        | none => simp only [lk] at a1; exact a1.elim
        | some d2 =>
          simp only [lk] at a1
          unfold Rep at p1
          obtain ⟨ev, xs, rd, _, _, rl⟩ := p1
          obtain ⟨v2, l2, q2⟩ := lookup_rep rl lk
          exact ⟨ev, _, v2, rd, l2, ans_okE r1 q2 a1⟩
      · rw [if_neg z] at a1
        exact a1.elim
    | _ => exact a1.elim⟩
end
end MM
namespace MM
open PySem PySem.Spec PyProof.Rows L2
section
variable {X : Cx} {W : WX} {a D dd Da : Addr} {oe : Obj} {pn : List (Addr × Obj)} {e : Expr} {te : TE} {me : ME} {pos p p2 : Pos} {c2 : Str} {b : Bool}
/-- isinstance of it, asked for one class of the top -/
theorem isX_call (Cl : ExcC X.K D) (hz : L2N.Zn (.ref D) (some dd) oe) (hf : ∃ vs, oe.data = .fields vs) :
    CallR (X.suite a ((a, oe) :: pn)) (.builtin "isinstance") (fun xs H Q => ∃ (cv : Addr) (k : Bool) (fs : List (Str × V)), xs = [.ref a, .ref cv] ∧ PySem.W.kitOne X.K (.ref D) (.ref cv) = some k ∧ Rd H dd (.xd fs) ∧ Q (.bl k) H) := fun pins s σ H xs us Q I r want => by
  obtain ⟨cv, k, fs, rfl, kit, rd, q⟩ := want
  match us, r with
  | [u1, u2], .cons r1 (.cons r2 .nil) =>
    have e1 : u1 = Value.ref a := r1
    have e2 : u2 = Value.ref cv := r2
    rw [e1, e2]
    have pinned := (I.pin (a, oe) (List.mem_append.mpr (.inl List.mem_cons_self))).1
    obtain ⟨mA, hns, _⟩ := (show ObjOk X.prog X.w H s.heap dd (.xd fs) from rd.ok I.hok)
    obtain ⟨od, at_, _⟩ := lookIn_ns hns
    have J : PySem.W.InstAt s.heap a oe D (some od) := by
      refine ⟨pinned, hz.1, ?_, by rw [hz.2.1]; exact at_⟩
      obtain ⟨vs, hd⟩ := hf
      unfold PySem.W.notCls
      rw [hd] <;> rfl
    have some_ : (PySem.W.clsIn X.K D).isSome = true := by
      obtain ⟨cd, hc, _⟩ := PySem.W.any_some Cl.hd
      rw [hc]; rfl
    exact PySem.W.kia_one (PySem.W.kitx_exc some_ Cl.hg Cl.hk Cl.hs Cl.ha Cl.hn Cl.ht Cl.hm) I.kIn J kit (fun z => nomatch z) fun tk => ⟨.bl k, H, I.kept (t' := tk) fun _ _ z => z, rfl, q⟩
/-- its answer, as the text of the classes has it -/
def mXis (a dd : Addr) (k : Bool) (m : ME) : ME := fun δ h => (m δ h).bnd fun v h1 => match v with
  | .xo a' d' _ _ => if a' = a ∧ d' = dd then .ok (.bl k) h1 else .stuck
  | _ => .stuck
theorem pem_xis (Cl : ExcC X.K D) (hz : L2N.Zn (.ref D) (some dd) oe) (hf : ∃ vs, oe.data = .fields vs) (kit : PySem.W.kitOne X.K (.ref D) (.ref Da) = some b) (hgi : Gl X "isinstance") (hmi : X.mg "isinstance" = none) (hg2 : Gl X c2) (hm2 : X.mg c2 = some (.ref Da))
    (he : PEM (X.suite a ((a, oe) :: pn)) W e me) (hd2 : (c2 == ("__debug__" : Str)) = false)
    (hs1 : starEach [e, .Name c2 p2] X.env = (false, eval e X.env) :: starEach [.Name c2 p2] X.env) (hs2 : starEach [.Name c2 p2] X.env = (false, eval (.Name c2 p2) X.env) :: starEach [] X.env) :
    PEM (X.suite a ((a, oe) :: pn)) W (.Call (.Name "isinstance" p) [e, .Name c2 p2] [] pos) (mXis a dd b me) := by
  have arg : PA (X.suite a ((a, oe) :: pn)) [e, .Name c2 p2] _ := pa_cons he (pa_cons (pe_glob (v := .ref Da) hg2 hm2 rfl hd2) pa_nil hs2) hs1
  refine PE.imp (pe_callB (isX_call Cl hz hf) hgi hmi PyProof.Rows.Boot.«isinstance» arg (by decide) (by decide) hs1 (by show (backTo pos (starEach [.Name c2 p2] X.env)).any (·.1) = false; rw [hs2]; rfl)) fun σ H Q ⟨L, h, δ, r, s, w⟩ => ?_
  refine ⟨L, h, δ, r, s, Ans.imp (Ans.bind (rp := Rep X.K) w) fun v H1 ⟨L1, h1, d, x1, r1, p1, a1⟩ => ?_⟩
  show ∃ (cv : Addr) (k : Bool) (fs : List (Str × V)), [v, V.ref Da] = [.ref a, .ref cv] ∧ PySem.W.kitOne X.K (.ref D) (.ref cv) = some k ∧ Rd H1 dd (.xd fs) ∧ Q (.bl k) H1
  cases d with
  | xo a' d' fl ds =>
    replace a1 : Ans (X.suite a ((a, oe) :: pn)).K (Rep (X.suite a ((a, oe) :: pn)).K) L1 H1 (if a' = a ∧ d' = dd then R.ok (MM.D.bl b) h1 else .stuck) Q (WE W σ) := a1
    by_cases z : a' = a ∧ d' = dd
    · rw [if_pos z] at a1
      obtain ⟨rfl, rfl⟩ := z
      unfold Rep at p1
      obtain ⟨ev, xs, rd, _⟩ := p1
      exact ⟨Da, b, _, by rw [ev], kit, rd, ans_okE r1 rep_bl a1⟩
    · rw [if_neg z] at a1
      exact a1.elim
  | _ => exact a1.elim
end
end MM
namespace MM
open PySem PySem.Spec PyProof.Rows L2
/-! ### defs that are called in a suite -/
def FnMH (P : Program) (w : World) (K : PySem.W.Frag) (mg : Str → Option Value) (base : Heap) (k : Nat) (f : Addr) (fd : FuncData) (ps : List Str) (m : List D → MH → R D) : Prop := L2H.FnH P w K mg base (L2N.CX P w) k f fd ps (spOf K m)
section
variable {P : Program} {w : World} {K : PySem.W.Frag} {mg : Str → Option Value} {base : Heap}
theorem fnMH_body {x qn : Str} {st : Stmt} {f : Addr} {fd : FuncData} {N ps : List Str} {k : Nat} {m : MSt} {g : List D → MH → R D} (F : Fun K x qn st f fd) (S : FnScope N ps (defScope st))
    (hg : ∀ ds h, g ds h = .stuck ∨ (ds.length = ps.length ∧ (g ds h = mEnd h (m (mStart N.length ds) h) ∨ g ds h = mEndN (m (mStart N.length ds) h))))
    (body : ∀ (cdv : Value) (A : Around) (outer : List Env) (s : Shared) (H : Hp) (E : XK) (p : Addr × Obj), L2H.Hot1 A p → L2H.RoomH k (A.deeper (envOfC qn (defScope st) s.heap.objs.size f cdv)) →
      L2N.Takes (L2H.cxH (L2N.CX P w) P w K mg base N qn (defScope st) f cdv A outer s H E p) (fun c d _ H => E c d H) →
      PassesOwn (model P w) (A.deeper (envOfC qn (defScope st) s.heap.objs.size f cdv)) (envOfC qn (defScope st) s.heap.objs.size f cdv) (L2H.cxH (L2N.CX P w) P w K mg base N qn (defScope st) f cdv A outer s H E p).xe →
      PSsM (L2H.cxH (L2N.CX P w) P w K mg base N qn (defScope st) f cdv A outer s H E p) (fun c d _ H => E c d H) (defBody st) m) :
    FnMH P w K mg base (k + 1) f fd ps g := by
  obtain ⟨oc, od, kV, doc, pm, an, cdv, ct, osl, rfl, lk, hcd⟩ := F.ex
  refine L2H.fn_ofH lk hcd S (fun vs H Q E ⟨L, h, ds, r, q, a⟩ => ?_) (fun A outer s H vs Q E p hot hr ⟨L, h, ds, r, q, a⟩ => ?_)
  · rcases hg ds h with z | ⟨z, _⟩
    · rw [z] at a; exact a.elim
    · rw [← q.length]; exact z
  · refine ⟨_, body cdv A outer s H E p hot hr (L2N.takes_of rfl rfl rfl rfl) (passes_of rfl), ?_⟩
    refine ⟨L, h, mStart N.length ds, r, repS_start q, ?_⟩
    have hx : ∀ (c : Str) (fs : List (Str × D)) (h' : MH) (δ : MS), Ans K (Rep K) L H (.exc c fs h') Q E → AnsS K { nx := fun _ H' => Q .non H', rt := Q } (fun c d _ H => E c d H) L H (.exc c fs δ h') := fun c fs h' δ a L' H' σ' dx xs e r _ q1 q2 => a L' H' dx xs e r q1 q2
    rcases hg ds h with z | ⟨_, z | z⟩
    · rw [z] at a; exact a.elim
    · rw [z] at a
      generalize m (mStart N.length ds) h = res at a ⊢
      cases res with
      | stuck => exact a.elim
      | exc c fs δ h' =>
        unfold mEnd leaveX at a
        simp only at a
        split at a
        case isFalse => exact a.elim
        rename_i zz
        intro L' H' σ' dx xs e r' _ q1 q2
        obtain ⟨x1, r1⟩ := r.leave r' e zz.1
        exact a _ H' dx xs x1 r1 q1 (q2.take zz.2)
      | ok fl h' =>
        cases fl with
        | next δ => exact fun L' H' σ' e r' s' => ans_leave r e r' rep_none a
        | ret d => exact fun L' H' v e r' s' => ans_leave r e r' s' a
        | brk _ => exact a.elim
        | cont _ => exact a.elim
    · rw [z] at a
      generalize m (mStart N.length ds) h = res at a ⊢
      cases res with
      | stuck => exact a.elim
      | exc c fs δ h' => exact hx c fs h' δ a
      | ok fl h' =>
        cases fl with
        | next δ => exact fun L' H' σ' e r' s' => a L' H' .non e r' rep_none
        | ret d => exact fun L' H' v e r' s' => a L' H' v e r' s'
        | brk _ => exact a.elim
        | cont _ => exact a.elim
end
section
variable {X : Cx} {W : WX} {pos : Pos} {e : Expr} {es : List Expr} {mas : MA}
/-- a call there -/
theorem pem_callH {x : Str} {st : Stmt} {f : Addr} {fd : FuncData} {ps : List Str} {k : Nat} {m : List D → MH → R D} {p : Pos} (F : FnMH X.prog X.w X.K X.mg X.base k f fd ps m) (DA : DefAt X.K X.mg x st f fd ps) (hr : L2H.RoomH k X.A) (hc : L2H.HotC X) (tk : L2N.Takes X W) (hg : Gl X x) (ha : PAM X W (e :: es) mas)
    (hdb : (x == ("__debug__" : Str)) = false := by decide) (he : starEach (e :: es) X.env = (false, eval e X.env) :: starEach es X.env := by rfl) (hpl : (backTo pos (starEach es X.env)).any (·.1) = false := by rfl) :
    PEM X W (.Call (.Name x p) (e :: es) [] pos) (mCall m mas) :=
  PE.imp (L2H.pe_callH (E := WE W) F hr hc hg DA.mg' DA.fn.kp DA.bi (fun σ => L2N.passAt tk σ) ha hdb he hpl) fun σ H Q ⟨L, h, δ, r0, s, a⟩ => ⟨L, h, δ, r0, s, Ans.imp (Ans.bind (rp := RepL X.K) a) fun vs H1 ⟨L1, h1, ds, x1, r1, p1, a1⟩ => ⟨L1, h1, ds, r1, p1, a1⟩⟩
/-- the suite bears its exception -/
theorem hot_suite {X : Cx} {a : Addr} {oe : Obj} {cls : Value} {d : Option Addr} {pn : List (Addr × Obj)} (hz : L2N.Zn cls d oe) (hf : ∃ vs, oe.data = .fields vs) : L2H.HotC (X.suite a ((a, oe) :: pn)) := by
  obtain ⟨vs, e⟩ := hf
  exact ⟨(a, oe), ⟨rfl, vs, e, hz.2.2 vs e⟩, List.mem_cons_self⟩
theorem room_suite {X : Cx} {k : Nat} (r : Room k X.A) (a : Addr) (pn : List (Addr × Obj)) : L2H.RoomH k (X.suite a pn).A := L2H.roomH_mark r _
theorem takes_suite {X : Cx} {a : Addr} {pn : List (Addr × Obj)} : L2N.Takes (X.suite a pn) W0 := takes0N
end
end MM
namespace MM
open PySem PySem.Spec PyProof.Rows L2
theorem FnMH.mono {P : Program} {w : World} {K : PySem.W.Frag} {mg : Str → Option Value} {base : Heap} {j k : Nat} {f : Addr} {fd : FuncData} {ps : List Str} {m : List D → MH → R D} (F : FnMH P w K mg base j f fd ps m) (h : j ≤ k) : FnMH P w K mg base k f fd ps m :=
  ⟨F.len, fun A outer s H args us vs Q E p hr => F.run A outer s H args us vs Q E p (hr.mono h)⟩
/-- what a clause wants to know of the class it names -/
structure XTry (K : PySem.W.Frag) (mg : Str → Option Value) (c : Str) (fl : List Str) (C : Addr) : Prop where
  at' : PySem.W.nsIn K mainGlobals c = some (some (.ref C))
  mg' : mg c = some (.ref C)
  xf : XfC K C
  no : ∀ f ∈ fl, PySem.W.findIn K (.ref C) f = some none
  xc : ExcC K C
  ty : PySem.W.typeIn K (.ref C) = some (.type "type")
  own : PySem.W.subIn K (.ref C) (.ref C) = some true
def hitOne (c : Str) : Str → Option Bool := fun x => if x = c then some true else none
section
variable {X : Cx} {W : WX} {n c : Str} {fl : List Str} {C : Addr} {i : Nat} {body suite : List Stmt} {b₀ : Stmt} {np pos pos' : Pos} {mb : MSt} {ms : Addr → Addr → List (Str × D) → MSt}
theorem psm_try1 (x : XTry X.K X.mg c fl C) (hs : X.stack = X.env :: X.outer) (hf : X.env.frame = some X.env.locals) (hN : X.N.Nodup) (hi : X.N[i]? = some n) (hln : X.env.kindOf n = some .local) (hg : Gl X c) (hd : (c == ("__debug__" : Str)) = false) (tk : L2N.Takes X W)
    (hb : ∀ (W : WX) (pn : List (Addr × Obj)) (xe : Value → Shared → Prop), L2N.Takes (X.tr pn xe) W → PassesOwn (model X.prog X.w) X.A X.env xe → PSsM (X.tr pn xe) W body mb)
    (hsu : ∀ (a : Addr) (oe : Obj) (dd : Addr) (pn : List (Addr × Obj)) (fs : List (Str × D)), L2N.Zn (.ref C) (some dd) oe → (∃ vs, oe.data = .fields vs) → PSsM (X.suite a ((a, oe) :: pn)) W0 (b₀ :: suite) (ms a dd fs)) :
    PSM X W (.Try body [.ExceptHandler (some (.Name c np)) (some n) (b₀ :: suite) pos'] [] [] pos) (mTry mb (hitOne c) i fun a dd _ fs => ms a dd fs) := by
  have key : ∀ {c2 : Str} {ev : Value}, EV X.K c2 ev → hitOne c c2 = some true → ev = .ref C := fun {c2 ev} ⟨a2, e, na⟩ h => by
    unfold hitOne at h
    split at h
    · rename_i z
      rw [z, x.at'] at na
      rw [e]
      cases na
      rfl
    · cases h
  refine psm_try hs hf hN hi hln ⟨hg, hd, .inl x.mg'⟩ tk (fun c2 ev b e h => ?_) hb (fun a oe cls dd pn c2 fs hz hv e h => ?_)
  · have hb : b = true := by
      unfold hitOne at h
      split at h
      · exact (Option.some.inj h).symm
      · cases h
    subst hb
    rw [key e h]
    exact PySem.W.exm_ref x.xf.exC x.xf.hdC x.ty x.own
  · have ec := key e h
    subst ec
    exact hsu a oe dd pn fs hz hv
end
end MM

/-! enumerate(a text) -/
namespace MEn
open PySem PySem.Spec PyProof.Rows L2
/-- pairs of a place and the sign there, each pair new -/
def Ity (x : Str) : It where
  go i _ := i < x.cps.size
  yld i H v H' := ∃ T c, v = .ref T ∧ H T = none ∧ H' = upd H T (.tup [.int (i : Nat), .str ⟨#[c]⟩]) ∧ x.cps[i]? = some c
  stop i _ := x.cps.size ≤ i
/-- before turn i: the counter at e stands at i, and so does the text's walk at it -/
structure EnS (x : Str) (t : Tok) (e it : Addr) (i : Nat) (h : Heap) : Prop where
  cnt : ∃ old, IsEnum h e it (i : Int) old
  txt : h.IsStrIter it (strIterType x) x t i
  two : e ≠ it
section
variable {x : Str} {t : Tok} {e it : Addr} {i : Nat} {h h' : Heap}
theorem EnS.both (S : EnS x t e it i h) {p : Addr → Prop} (pe : p e) (pt : p it) : ∀ b ∈ [e, it], p b := fun b hb => by
  cases hb with
  | head => exact pe
  | tail _ hb => cases hb with
    | head => exact pt
    | tail _ hb => cases hb
theorem EnS.stay (S : EnS x t e it i h) (k : ∀ b ∈ [e, it], ∀ o, h.get? b = some o → h'.get? b = some o) : EnS x t e it i h' := by
  have ke := k e (.head _)
  have kt := k it (.tail _ (.head _))
  obtain ⟨old, q⟩ := S.cnt
  obtain ⟨o, q1, q2⟩ := S.txt
  exact ⟨⟨old, ke _ q⟩, ⟨o, kt o q1, q2⟩, S.two⟩
theorem EnS.objs (S : EnS x t e it i h) : ∀ b ∈ [e, it], ∃ o, h.get? b = some o ∧ ∀ v, o.data ≠ .cell v := by
  obtain ⟨old, q⟩ := S.cnt
  obtain ⟨o, q1, _, q3⟩ := S.txt
  refine S.both ⟨_, q, fun v z => ?_⟩ ⟨o, q1, fun v z => ?_⟩
  · cases z
  · rw [q3] at z; cases z
theorem EnS.old (S : EnS x t e it i h) : ∀ b ∈ [e, it], b < h.objs.size := fun b hb => let ⟨_, q, _⟩ := S.objs b hb; Heap.lt_size q
variable {X : Cx} {pins : List (Addr × Obj)} {σ : L2.St} {H : Hp} {s : Shared} {E : Value → Shared → Prop} {elts : List Expr} {kk : Nat} {tpos : Pos}
/-- a turn that gives a pair -/
theorem EnS.turn (S : EnS x t e it i s.heap) (I : Inv X pins σ H s) (hc : X.calm = true) (hf : ∀ b ∈ [e, it], FpOk X pins H b) (hg : i < x.cps.size) :
    wpAny (model X.prog X.w) X.A (pyNext (.ref e)) (fun r s1 => ∃ u, r = some u ∧ wpAny (model X.prog X.w) X.A (letOwnedTupleGo (.Tuple elts kk tpos) (.ref e) u) (fun _ s2 => ∃ y H', Inv X pins σ H' s2 ∧ RelV y u ∧ (Ity x).yld i H y H' ∧ EnS x t e it (i + 1) s2.heap ∧ ∀ b ∈ [e, it], H' b = none) E s1) E s := by
  obtain ⟨old, q⟩ := S.cnt
  have young := S.old
  have inList := List.mem_cons_self (a := e) (l := [it])
  refine wpAny_pyNext_enum_itemD (Draws.text (A := X.A.in1) (I.ok.hd hc) it x t) q S.txt hg S.two (fun z => S.two (List.mem_singleton.mp z)) ?_
  rintro u h1 tk ⟨c, tu, hcx, rfl⟩ ho txt1 pair1 - kept1
  refine ⟨_, rfl, wpAny_letOwnedTupleGo_enum (s := { s with heap := h1, toks := tk + 1 }) ho fun h2 cnt2 sb => ?_⟩
  have pair2 := (sb.2 _ (Nat.ne_of_gt (young e inList))).trans pair1
  have fresh : H s.heap.objs.size = none := I.hok.fresh (Nat.le_refl _)
  have rest : ∀ b ob, b ∉ [e, it] → s.heap.get? b = some ob → h2.get? b = some ob := fun b ob hb z => by
    have b1 : b ≠ e := fun y => hb (y ▸ inList)
    have b2 : b ≠ it := fun y => hb (by rw [y]; exact .tail _ (.head _))
    rw [sb.2 b b1]
    exact kept1 b ob b1 b2 z
  have J := I.turnedNew (t' := tk + 1) (ch := [e, it]) rest hf (Nat.le_refl _) (show L2.ObjOk X.prog X.w (upd H s.heap.objs.size (.tup [.int (i : Nat), .str ⟨#[c]⟩])) h2 s.heap.objs.size (.tup [.int (i : Nat), .str ⟨#[c]⟩]) from
    ⟨show 2 ≤ sizeLine by decide, [.int (i : Int) tk, .str ⟨#[c]⟩ tu], .cons ⟨tk, rfl⟩ (.cons ⟨tu, rfl⟩ .nil), _, pair2, rfl, _, rfl⟩)
  obtain ⟨o, q1, q2⟩ := txt1
  refine ⟨.ref s.heap.objs.size, _, J, rfl, ⟨_, c, rfl, fresh, rfl, hcx⟩, ⟨⟨_, by rw [Int.natCast_succ]; exact cnt2⟩, ⟨o, (sb.2 it S.two.symm).trans q1, q2⟩, S.two⟩, fun b hb => ?_⟩
  rw [upd_ne (Nat.ne_of_lt (young b hb))]
  exact (hf b hb).1
/-- the text is at its end -/
theorem EnS.over (S : EnS x t e it i s.heap) (I : Inv X pins σ H s) (hc : X.calm = true) (hf : ∀ b ∈ [e, it], FpOk X pins H b) (hg : x.cps.size ≤ i) :
    wpAny (model X.prog X.w) X.A (pyNext (.ref e)) (fun r s1 => r = none ∧ Inv X pins σ H s1) E s := by
  obtain ⟨old, q⟩ := S.cnt
  have txt := S.txt
  obtain ⟨n0, n1, _, n3, n4, n5⟩ := hf it (.tail _ (.head _))
  have none' : x.cps[i]? = none := Array.getElem?_eq_none hg
  have leave : ∀ (h' : Heap) (y : Addr), Heap.ExtBut it s.heap h' → (∃ o, h'.get? y = some o ∧ o.cls = .type "StopIteration") →
      wpAny (model X.prog X.w) X.A (isInstance (.ref y) (.type "StopIteration") >>= fun c => if c = true then pure (none : Option Value) else throw (Value.ref y)) (fun r s1 => r = none ∧ Inv X pins σ H s1) E { s with heap := h' } := by
    rintro h' y eb ⟨o, z1, z2⟩
    exact wpAny_bind (wpAny_isInstance (T := "StopIteration") ⟨o, z1, z2⟩ isSubtype_stop (wpAny_pure ⟨rfl, I.turned (t' := s.toks) eb n0 n1 n3 n4 n5⟩))
  have ty : s.TypeIs (.ref e) "enumerate" := ⟨_, q, rfl⟩
  unfold pyNext
  refine wpAny_bind (wpAny_attempt (wpAny_callSpecial?_slot ty F.slot_enumerate_next (wpAny_call_entry F.slot_enumerate_next ty F.entry_enumerate_next ?_ (F.args_enumerate_next_1 _))))
  refine wpAny_bind (m := field (.ref e) 2) (wpAny_field q rfl (x := .ref it) rfl ?_)
  unfold strIterType at txt
  split at txt
  · exact wpAny_bind (wpAny_nextOf_ascii_end (I.ok.hd hc) txt none' leave)
  · exact wpAny_bind (wpAny_nextOf_wide_end (I.ok.hd hc) txt none' leave)
end
theorem turn_enumY {P : Program} {w : World} {K : PySem.W.Frag} {elts : List Expr} {kk : Nat} {tpos : Pos} (x : Str) (t : Tok) (e it : Addr) : Turn P w K (.Tuple elts kk tpos) (Ity x) [e, it] e (EnS x t e it) where
  mem := .head _
  obj := fun _ _ S => S.objs
  keep := fun _ _ _ S => S.stay
  item := by rintro X rfl rfl rfl hc i pins s σ H E I hf S hg; exact S.turn I hc hf hg
  done := by rintro X rfl rfl rfl hc i pins s σ H E I hf S hg; exact S.over I hc hf hg
  self := fun _ _ _ _ _ S k => by obtain ⟨_, q⟩ := S.cnt; exact wpAny_pyIter_enum q k
def iEnumY (ta : TA) : TI := fun σ H R => ta σ H fun vs H1 => ∃ x, vs = [.str x] ∧ R (Ity x) H1
theorem pi_enumY {X : Cx} {a : Expr} {ta : TA} {p pos tpos : Pos} {elts : List Expr} {kk : Nat} (hg : Gl X "enumerate") (hm : X.mg "enumerate" = none) (ha : PA X [a] ta) (hs : starEach [a] X.env = [(false, eval a X.env)] := by rfl) :
    PI X (.Tuple elts kk tpos) (.Call (.Name "enumerate" p) [a] [] pos) (iEnumY ta) where
  run pins s σ H R I q := by
    refine Call_ (ld_blt I hg hm boot_enumerate (PyProof.Rows.callWith_type1 (thn (ha.run pos pins s σ H _ I q) ?_) hs rfl))
    rintro us s1 ⟨_, H1, I1, rx, x, rfl, qx⟩
    obtain ⟨u, rfl, ru⟩ := rx.one
    obtain ⟨t, rfl⟩ := ru
    refine call_enumerate_str fun h' he hit _ hk => wpAny_pyIter_enum he ⟨s1.heap.objs.size + 1, _, _, Ity x, H1, rfl, I1.kept (t' := s1.toks) hk, turn_enumY x t (s1.heap.objs.size + 1) s1.heap.objs.size, ⟨⟨.none, he⟩, hit, Nat.succ_ne_self _⟩, ?_, qx⟩
    have ok : ∀ n, FpOk X pins H1 (s1.heap.objs.size + n) := fun n => I1.fpOk (Nat.le_add_right _ n) (I1.hok.fresh (Nat.le_add_right _ n))
    exact EnS.both (x := x) (t := t) (i := 0) ⟨⟨.none, he⟩, hit, Nat.succ_ne_self _⟩ (ok 1) (ok 0)
end MEn
namespace MM
open PySem PySem.Spec PyProof.Rows L2
section
variable {X : Cx} {W : WX} {pos : Pos} {tg a e : Expr} {es : List Expr} {mas : MA}
def fEnum2 (ds : List D) (h : MH) : R Src := match ds with
  | [.str s] => .ok ⟨List.zipWith (fun x y => .tup [x, y]) ((List.range s.cps.size).map fun (i : Nat) => .int i) (charsD s), fun _ => True⟩ h
  | ds => fEnum ds h
theorem tI_enum {K : PySem.W.Frag} {mas : MA} {σ : L2.St} {H : Hp} {R : L2.It → Hp → Prop} (t : tI K W (fun δ h => (mas δ h).bnd fEnum) σ H R) : iEnum K (tA K W mas) σ H R := by
  refine tI_args (G := fun vs H1 R => ∃ a xs, vs = [.ref a] ∧ SqL K H1 a xs ∧ R (Ite K a) H1) (fun L H h ds vs S Q r w e k => ?_) (fun ds h => ?_) t
  · unfold fEnum at e
    split at e
    · rename_i d
      obtain ⟨v, rfl, q⟩ := w.one
      cases e1 : lstD d h with
      | none => simp only [e1] at e; cases e
      | some es =>
        simp only [e1] at e
        cases e
        obtain ⟨p, xs, rfl, s, w2⟩ := lstD_of r q e1
        refine ⟨p, xs, rfl, s, k _ (Trod.pair (n := es.length) (by simp) rfl (fun L' H' h' i x r' e' hi => ?_) (fun L' H' h' x r' e' => ?_) fun L' H' h' i v H'' x r' e' hi hy => ?_)⟩ <;>
          obtain ⟨p', ys, ep, s', w3⟩ := lstD_of r' (q.mono x) e' <;> cases ep
        · obtain ⟨u, e5, _⟩ := w3.get (List.getElem?_eq_getElem hi)
          exact ⟨ys, u, s', e5⟩
        · exact ⟨ys, s', by rw [w3.length]; exact Nat.le_refl _⟩
        · obtain ⟨T, x, h1, h2, h3, h4⟩ := hy
          obtain ⟨c, e6, q6⟩ := w3.get' (h4 ys s')
          exact ⟨T, _, x, h1, h2, h3, ⟨.int i, by rw [List.getElem?_map, List.getElem?_range hi]; rfl, rep_int⟩, c, e6, q6⟩
    · cases e
  · unfold fEnum
    split
    · split
      · exact .inl ⟨_, rfl⟩
      · exact .inr rfl
    · exact .inr rfl
theorem pim_enum2 {tpos p pos : Pos} {elts : List Expr} {kk : Nat} (hg : Gl X "enumerate") (hm : X.mg "enumerate" = none) (ha : PAM X W [e] mas) (hs : starEach [e] X.env = [(false, eval e X.env)] := by rfl) :
    PIM X W (.Tuple elts kk tpos) (.Call (.Name "enumerate" p) [e] [] pos) (fun δ h => (mas δ h).bnd fEnum2) := by
  refine PI.imp ((pi_enum hg hm ha hs).or (MEn.pi_enumY hg hm ha hs)) fun σ H R t => ?_
  obtain ⟨L, h, δ, r, s, q⟩ := t
  have q : AnsI X.K W σ L H ((mas δ h).bnd fEnum2) R := q
  cases em : mas δ h with
  | stuck => rw [em] at q; exact q.elim
  | exc c fs h1 =>
    rw [em] at q
    exact .inl ⟨L, h, δ, r, s, by rw [em]; exact q⟩
  | ok ds h1 =>
    rw [em, MM.R.bnd_ok] at q
    by_cases z : ∃ t, ds = [D.str t]
    · obtain ⟨t, rfl⟩ := z
      refine .inr ⟨L, h, δ, r, s, ?_⟩
      rw [em]
      intro L' H' vs x r' w
      obtain ⟨v, rfl, q1⟩ := w.one
      refine ⟨t, by rw [rep_str_inv q1], q L' H' _ x r' (Trod.pair (n := t.cps.size) (by simp) (by simp [charsD]) (fun _ _ _ i _ _ _ hi => hi) (fun _ _ _ _ _ _ => Nat.le_refl _) fun L' H' h' i v H'' x r' e' hi hy => ?_)⟩
      obtain ⟨T, c, h1, h2, h3, h4⟩ := hy
      refine ⟨T, _, _, h1, h2, h3, ⟨.int i, by rw [List.getElem?_map, List.getElem?_range hi]; rfl, rep_int⟩, .str ⟨#[c]⟩, ?_, rep_str⟩
      unfold charsD
      rw [List.getElem?_map, Array.getElem?_toList, h4]; rfl
    · have e : fEnum2 ds h1 = fEnum ds h1 := by
        unfold fEnum2
        split
        · rename_i t
          exact absurd ⟨t, rfl⟩ z
        · rfl
      rw [e] at q
      exact .inl (tI_enum ⟨L, h, δ, r, s, by show AnsI X.K W σ L H ((mas δ h).bnd fEnum) R; rw [em]; exact q⟩)
end
end MM

/-! instances of the top's classes: fields, methods, how they are made, + of two of them, isinstance -/
namespace MM
open PySem PySem.Spec PyProof.Rows L2

def insO (h : MH) (d : D) : Option (Nat × Str × List (Str × D)) := match d with
  | .ref n => (match h[n]? with
    | some (.ins C fs) => some (n, C, fs)
    | _ => none)
  | _ => none
theorem insO_at {h : MH} {d : D} {n C fs} (e : insO h d = some (n, C, fs)) : d = .ref n ∧ h[n]? = some (.ins C fs) := by
  cases d with
  | ref k =>
    unfold insO at e
    simp only at e
    split at e
    · rename_i C' fs' z
      cases e
      exact ⟨rfl, z⟩
    · cases e
  | _ => cases e
@[simp] theorem insO_ref {h : MH} {n C fs} (e : h[n]? = some (.ins C fs)) : insO h (.ref n) = some (n, C, fs) := by unfold insO; simp only [e]
section
variable {K : PySem.W.Frag} {L : TL} {H : Hp} {h : MH}
theorem insO_of {d : D} {v : V} {n C fs} (r : Rel K L H h) (q : Rep K L H d v) (e : insO h d = some (n, C, fs)) :
    ∃ a dx Ca ws, v = .ref a ∧ L[n]? = some (some a) ∧ H a = some (.ins Ca dx ws) ∧ RepF K L H fs ws ∧ PySem.W.nsIn K mainGlobals C = some (some (.ref Ca)) := by
  obtain ⟨rfl, z⟩ := insO_at e
  obtain ⟨a, dx, Ca, ws, e1, e2, w, hC⟩ := r.at' n _ z
  exact ⟨a, dx, Ca, ws, q.ref e1, e1, e2, w, hC⟩
theorem RepF.look : ∀ {fs : List (Str × D)} {ws : List (Str × V)}, RepF K L H fs ws → ∀ f : Str,
    (∀ d, fs.lookup f = some d → ∃ v, ws.lookup f = some v ∧ Rep K L H d v) ∧ (fs.lookup f = none → ws.lookup f = none)
  | [], _, r, f => by cases r; exact ⟨fun d e => (by cases e), fun _ => rfl⟩
  | (g, d0) :: fs, _, ⟨v, vs, e, q, w⟩, f => by
    subst e
    cases hb : f == g with
    | true => exact ⟨fun d e => ⟨v, by simp [List.lookup, hb], by simp [List.lookup, hb] at e; subst e; exact q⟩, fun e => by simp [List.lookup, hb] at e⟩
    | false =>
      have i := RepF.look w f
      exact ⟨fun d e => by simp only [List.lookup, hb] at e ⊢; exact i.1 d e, fun e => by simp only [List.lookup, hb] at e ⊢; exact i.2 e⟩
theorem RepF.len : ∀ {fs : List (Str × D)} {ws : List (Str × V)}, RepF K L H fs ws → fs.length = ws.length
  | [], _, r => by cases r; rfl
  | p :: fs, _, ⟨v, vs, e, q, w⟩ => by subst e; rw [List.length_cons, List.length_cons, RepF.len w]
def putFD (f : Str) (v : D) : List (Str × D) → List (Str × D)
  | [] => [(f, v)]
  | (g, x) :: r => if g = f then (g, v) :: r else (g, x) :: putFD f v r
theorem RepF.put {f : Str} {d : D} {v : V} (q : Rep K L H d v) : ∀ {fs : List (Str × D)} {ws : List (Str × V)}, RepF K L H fs ws → RepF K L H (putFD f d fs) (putF f v ws)
  | [], _, r => by cases r; exact ⟨v, [], rfl, q, rfl⟩
  | (g, d0) :: fs, _, ⟨u, vs, e, q0, w⟩ => by
    subst e
    by_cases hg : g = f
    · rw [show putFD f d ((g, d0) :: fs) = (g, d) :: fs from if_pos hg, show putF f v ((g, u) :: vs) = (g, v) :: vs from if_pos hg]
      exact ⟨v, vs, rfl, q, w⟩
    · rw [show putFD f d ((g, d0) :: fs) = (g, d0) :: putFD f d fs from if_neg hg, show putF f v ((g, u) :: vs) = (g, u) :: putF f v vs from if_neg hg]
      exact ⟨u, _, rfl, q0, RepF.put q w⟩
end
/-- a class of the top, and names that no class of it has -/
structure ClsT (K : PySem.W.Frag) (C : Str) (a : Addr) (fl : List Str) : Prop where
  at' : PySem.W.nsIn K mainGlobals C = some (some (.ref a))
  cls : Cls K a
  no : ∀ f ∈ fl, NoAttr K a f
/-- f is a field of the classes cs -/
def FldT (K : PySem.W.Frag) (f : Str) (cs : List Str) : Prop := ∀ C ∈ cs, ∃ a fl, ClsT K C a fl ∧ f ∈ fl
theorem fldT_nil {K : PySem.W.Frag} {f : Str} : FldT K f [] := fun C h => nomatch h
theorem fldT_cons {K : PySem.W.Frag} {f C : Str} {a : Addr} {fl cs : List Str} (c : ClsT K C a fl) (t : FldT K f cs) (h : f ∈ fl := by decide +kernel) : FldT K f (C :: cs) := fun C' m => by
  rcases List.mem_cons.mp m with e | m
  · subst e; exact ⟨a, fl, c, h⟩
  · exact t C' m
theorem FldT.get {K : PySem.W.Frag} {f C : Str} {cs : List Str} {Ca : Addr} (t : FldT K f cs) (m : C ∈ cs) (hC : PySem.W.nsIn K mainGlobals C = some (some (.ref Ca))) : Cls K Ca ∧ NoAttr K Ca f := by
  obtain ⟨a, fl, c, hf⟩ := t C m
  have e := c.at'
  rw [hC] at e
  cases e
  exact ⟨c.cls, c.no f hf⟩
section
variable {X : Cx} {W : WX} {pos p : Pos} {o e a b : Expr} {es : List Expr} {mo me ma mb : ME} {mas : MA}
/-! ### fields -/
def fldG (cs : List Str) (f : Str) (d : D) (h1 : MH) : R D := match insO h1 d with
  | some (_, C, fs) => if C ∈ cs then (match fs.lookup f with
    | some x => .ok x h1
    | none => .stuck) else .stuck
  | none => .stuck
def mFld (cs : List Str) (f : Str) (m : ME) : ME := fun δ h => (m δ h).bnd (fldG cs f)
theorem pem_fld {f : Str} {cs : List Str} (t : FldT X.K f cs) (ho : PEM X W o mo) (hb : attributeBase o f X.env (eval o X.env) = eval o X.env := by rfl) : PEM X W (.Attribute o f pos) (mFld cs f mo) :=
  PE.imp (pe_fld ho hb) fun σ H Q ⟨L, h, δ, r, s, a⟩ => ⟨L, h, δ, r, s, Ans.imp (Ans.bind (rp := Rep X.K) a) fun v H1 ⟨L1, h1, d, x1, r1, p1, a1⟩ => by
    unfold fldG at a1
    cases ei : insO h1 d with
    | none => simp only [ei] at a1; exact a1.elim
    | some q =>
      obtain ⟨n, C, fs⟩ := q
      simp only [ei] at a1
      obtain ⟨ad, dx, Ca, ws, rfl, e1, e2, w, hC⟩ := insO_of r1 p1 ei
      by_cases m : C ∈ cs
      · rw [if_pos m] at a1
        obtain ⟨c1, c2⟩ := t.get m hC
        cases el : fs.lookup f with
        | none => simp only [el] at a1; exact a1.elim
        | some x =>
          simp only [el] at a1
          obtain ⟨u, e3, q⟩ := (w.look f).1 x el
          exact ⟨ad, Ca, dx, ws, u, rfl, e2, c1, c2, e3, ans_okE r1 q a1⟩
      · rw [if_neg m] at a1; exact a1.elim⟩
/-- o.f = e -/
def setFG (cs : List Str) (f : Str) (d o : D) (h2 : MH) : Option MH := match insO h2 o with
  | some (n, C, fs) => if C ∈ cs ∧ fs.length < 1000 then some (h2.set n (.ins C (putFD f d fs))) else none
  | none => none
def mFldS (cs : List Str) (f : Str) (m mo : ME) : MSt := fun δ h => (m δ h).st δ fun d h1 => (mo δ h1).st δ fun o h2 => match setFG cs f d o h2 with
  | some h3 => .ok (.next δ) h3
  | none => .stuck
theorem ins_write {K : PySem.W.Frag} {L : TL} {H : Hp} {h : MH} {n : Nat} {C f : Str} {fs : List (Str × D)} {ad dx Ca : Addr} {ws : List (Str × V)} {d : D} {v : V} (r : Rel K L H h) (e1 : L[n]? = some (some ad)) (e2 : H ad = some (.ins Ca dx ws)) (w : RepF K L H fs ws)
    (hC : PySem.W.nsIn K mainGlobals C = some (some (.ref Ca))) (q : Rep K L H d v) : Ext L H L (upd H ad (.ins Ca dx (putF f v ws))) ∧ Rel K L (upd H ad (.ins Ca dx (putF f v ws))) (h.set n (.ins C (putFD f d fs))) := by
  have nf : ∀ o u, H ad ≠ some (.frz o u) := fun o u z => by rw [e2] at z; cases z
  exact r.write e1 nf ⟨ad, dx, Ca, _, rfl, upd_same, (w.mono (ext_write e1 nf)).put (q.mono (ext_write e1 nf)), hC⟩
theorem psm_fld {f : Str} {cs : List Str} {p' : Pos} (t : FldT X.K f cs) (ho : PEM X W o mo) (he : PEM X W e me) (hs : swapsWith e (some (.Attribute o f p')) pos.line X.env = pure false := by rfl) : PSM X W (.Assign [.Attribute o f p'] e pos) (mFldS cs f me mo) :=
  PS.imp (ps_fld ho he hs) fun D σ H ⟨L, h, δ, r, s, a⟩ => ⟨L, h, δ, r, s, Ans.imp (AnsS.bind (rp := Rep X.K) s a) fun y H1 ⟨L1, h1, d, x1, r1, p1, s1, a1⟩ => ⟨L1, h1, δ, r1, s1, Ans.imp (AnsS.bind (rp := Rep X.K) s1 a1) fun x H2 ⟨L2, h2, ob, x2, r2, p2, s2, a2⟩ => by
    unfold setFG at a2
    cases ei : insO h2 ob with
    | none => simp only [ei] at a2; exact a2.elim
    | some q =>
      obtain ⟨n, C, fs⟩ := q
      simp only [ei] at a2
      obtain ⟨ad, dx, Ca, ws, rfl, e1, e2, w, hC⟩ := insO_of r2 p2 ei
      by_cases m : C ∈ cs ∧ fs.length < 1000
      · rw [if_pos m] at a2
        obtain ⟨c1, c2⟩ := t.get m.1 hC
        obtain ⟨x3, r3⟩ := ins_write (f := f) r2 e1 e2 w hC (p1.mono x2)
        exact ⟨ad, Ca, dx, ws, rfl, e2, c1, c2, by rw [← w.len]; exact m.2, (a2.mono x3).nx r3 (s2.mono x3)⟩
      · rw [if_neg m] at a2; exact a2.elim⟩⟩
/-- o.f op= e -/
def mFldAug (cs : List Str) (f : Str) (g : D → D → MH → R D) (mo m : ME) : MSt := fun δ h => (mo δ h).st δ fun o h1 => match insO h1 o with
  | some (n, C, fs) => if C ∈ cs then (match fs.lookup f with
    | some x => (m δ h1).st δ fun y h2 => (g x y h2).st δ fun z h3 => (match insO h3 o with
      | some (_, C', fs') => if C' = C ∧ fs'.length < 1000 then .ok (.next δ) (h3.set n (.ins C (putFD f z fs'))) else .stuck
      | none => .stuck)
    | none => .stuck) else .stuck
  | none => .stuck
theorem psm_fldAug {f : Str} {cs : List Str} {op : Operator} {rd : R2} {g : D → D → MH → R D} {tp : Pos} (t : FldT X.K f cs) (hop : InOp X op rd) (hm : OpM X.K rd g) (ho : PEM X W o mo) (he : PEM X W e me) : PSM X W (.AugAssign (.Attribute o f tp) op e pos) (mFldAug cs f g mo me) :=
  PS.imp (ps_fldaug ho he hop) fun D σ H ⟨L, h, δ, r, s, a⟩ => ⟨L, h, δ, r, s, Ans.imp (AnsS.bind (rp := Rep X.K) s a) fun y H1 ⟨L1, h1, ob, x1, r1, p1, s1, a1⟩ => by
    cases ei : insO h1 ob with
    | none => simp only [ei] at a1; exact a1.elim
    | some q =>
      obtain ⟨n, C, fs⟩ := q
      simp only [ei] at a1
      obtain ⟨ad, dx, Ca, ws, rfl, e1, e2, w, hC⟩ := insO_of r1 p1 ei
      by_cases m : C ∈ cs
      · rw [if_pos m] at a1
        obtain ⟨c1, c2⟩ := t.get m hC
        cases el : fs.lookup f with
        | none => simp only [el] at a1; exact a1.elim
        | some x =>
          simp only [el] at a1
          obtain ⟨u, e3, qx⟩ := (w.look f).1 x el
          refine ⟨ad, Ca, dx, ws, u, rfl, e2, c1, c2, e3, L1, h1, δ, r1, s1, Ans.imp (AnsS.bind (rp := Rep X.K) s1 a1) fun y H2 ⟨L2, h2, dy, x2, r2, p2, s2, a2⟩ => ?_⟩
          refine hm L2 H2 h2 x dy u y _ _ r2 (qx.mono x2) p2 (Ans.imp (AnsS.bind (rp := Rep X.K) s2 a2) fun z H3 ⟨L3, h3, dz, x3, r3, p3, s3, a3⟩ => ?_)
          cases ej : insO h3 ob with
          | none => simp only [ej] at a3; exact a3.elim
          | some q3 =>
            obtain ⟨n', C', fs'⟩ := q3
            simp only [ej] at a3
            by_cases m2 : C' = C ∧ fs'.length < 1000
            · rw [if_pos m2] at a3
              obtain ⟨rfl, m3⟩ := m2
              obtain ⟨eo, _⟩ := insO_at ei
              obtain ⟨eo', _⟩ := insO_at ej
              rw [eo] at eo'
              cases eo'
              obtain ⟨ad', dx', Ca', ws', ev, f1, f2, w', hC'⟩ := insO_of r3 ((p1.mono x2).mono x3) ej
              cases ev
              rw [hC] at hC'
              cases hC'
              obtain ⟨x4, r4⟩ := ins_write (f := f) r3 f1 f2 w' hC p3
              exact ⟨dx', ws', f2, by rw [← w'.len]; exact m3, (a3.mono x4).nx r4 (s3.mono x4)⟩
            · rw [if_neg m2] at a3; exact a3.elim
      · rw [if_neg m] at a1; exact a1.elim⟩
end
end MM
namespace MM
open PySem PySem.Spec PyProof.Rows L2
/-! ### what is called on an instance -/
/-- where a method of a class stands -/
structure MthAt (K : PySem.W.Frag) (Ca : Addr) (x qn : Str) (st : Stmt) (f : Addr) (fd : FuncData) (ps : List Str) : Prop where
  fn : Fun K x qn st f fd
  me : Meth K Ca x f
  bi : Binds K fd ps []
section
variable {X : Cx} {W : WX} {pos p apos : Pos} {o e a b : Expr} {es : List Expr} {mo me ma mb : ME} {mas : MA} {k : Nat} {f Ca : Addr} {fd : FuncData} {ps : List Str} {sp : Sp} {E : L2.St → XK} {ta : TE} {t : TA} {m x : Str}
def tMethS (C : Addr) (m : Str) (sp : Sp) (E : L2.St → XK) (ta : TE) (t : TA) : TE := fun σ H Q => ta σ H fun x H1 => ∃ a dx fs, x = .ref a ∧ H1 a = some (.ins C dx fs) ∧ fs.lookup m = none ∧ t σ H1 fun vs H2 => sp (x :: vs) H2 Q (E σ)
theorem pe_methS {CX : CXT} {pl : Sem Bool} (he : PE X o ta) (c : Cls X.K Ca) (hm : Meth X.K Ca m f) (F : FnOk X.prog X.w X.K X.mg X.base CX k f fd ps sp) (hr : Room k X.A) (hb : Binds X.K fd ps []) (hx : ∀ σ, PassesAt CX X σ (E σ)) (ha : PA X (e :: es) t)
    (hst : starEach (e :: es) X.env = (false, eval e X.env) :: starEach es X.env := by rfl) (hpl : (backTo pos (starEach es X.env)).any (·.1) = false := by rfl)
    (ht : eval (.Call (.Attribute o m apos) (e :: es) [] pos) X.env = (do let ov ← eval o X.env; standAt apos.atName; let (g, fst) ← holding [ov] (getMethod ov m pl); callWith pos g fst (backTo pos (starEach (e :: es) X.env)) (backToKw pos (keywordEach [] X.env))) := by rfl) :
    PE X (.Call (.Attribute o m apos) (e :: es) [] pos) (tMethS Ca m sp E ta t) := ⟨fun pins s σ H Q I h =>
  PySem.W.methodCall_KW (pl := pl) (thn (he.run pins s σ H _ I h) fun u s1 ⟨x, H1, I1, rx, a, dx, fs, ex, ea, l, q⟩ => by
    subst ex
    obtain rfl : u = Value.ref a := rx
    exact getmeth_ok I1 ea c hm l (PySem.W.callWith_K (first := [.ref a]) (h₀ := X.base) I.ok.mod.kin hm.kp (thn (ha.run pos pins s1 σ H1 _ I1 q) fun us s2 ⟨vs, H2, I2, r, q2⟩ => ⟨I2.kIn, run_fnS (us := .ref a :: us) (vs := .ref a :: vs) F hr hb (hx σ) I2 (.cons rfl r) q2⟩) hst hpl)) ht⟩
theorem pe_methS0 {CX : CXT} {pl : Sem Bool} (he : PE X o ta) (c : Cls X.K Ca) (hm : Meth X.K Ca m f) (F : FnOk X.prog X.w X.K X.mg X.base CX k f fd ps sp) (hr : Room k X.A) (hb : Binds X.K fd ps []) (hx : ∀ σ, PassesAt CX X σ (E σ))
    (ht : eval (.Call (.Attribute o m apos) [] [] pos) X.env = (do let ov ← eval o X.env; standAt apos.atName; let (g, fst) ← holding [ov] (getMethod ov m pl); callWith pos g fst (backTo pos (starEach [] X.env)) (backToKw pos (keywordEach [] X.env))) := by rfl) :
    PE X (.Call (.Attribute o m apos) [] [] pos) (tMethS Ca m sp E ta tNil) := ⟨fun pins s σ H Q I h =>
  PySem.W.methodCall_KW (pl := pl) (thn (he.run pins s σ H _ I h) fun u s1 ⟨x, H1, I1, rx, a, dx, fs, ex, ea, l, q⟩ => by
    subst ex
    obtain rfl : u = Value.ref a := rx
    exact getmeth_ok I1 ea c hm l (PySem.W.callWith_K0 (first := [.ref a]) I1.kIn hm.kp (run_fnS (us := [.ref a]) (vs := [.ref a]) F hr hb (hx σ) I1 (.cons rfl .nil) q))) ht⟩
/-- o.m(..), o an instance of C -/
def isI (C m : Str) (d : D) (h : MH) : Bool := match insO h d with
  | some (_, C', fs) => decide (C' = C ∧ fs.lookup m = none)
  | none => false
theorem isI_inv {C m : Str} {d : D} {h : MH} (e : isI C m d h = true) : ∃ n fs, insO h d = some (n, C, fs) ∧ fs.lookup m = none := by
  unfold isI at e
  split at e
  · rename_i n C' fs ei
    obtain ⟨rfl, z⟩ := of_decide_eq_true e
    exact ⟨n, fs, ei, z⟩
  · cases e
def mMeth (C m : Str) (g : List D → MH → R D) (mo : ME) (ms : MA) : ME := fun δ h => (mo δ h).bnd fun d h1 => if isI C m d h1 = true then (ms δ h1).bnd fun ds h2 => g (d :: ds) h2 else .stuck
theorem tMeth_of {C m : Str} {fl : List Str} {g : List D → MH → R D} (c : ClsT X.K C Ca fl) {σ : L2.St} {H : Hp} {Q : VK} (t : tE X.K W (mMeth C m g mo mas) σ H Q) : tMethS Ca m (spOf X.K g) (WE W) (tE X.K W mo) (tA X.K W mas) σ H Q := by
  obtain ⟨L, h, δ, r, s, a⟩ := t
  refine ⟨L, h, δ, r, s, Ans.imp (Ans.bind (rp := Rep X.K) a) fun v H1 ⟨L1, h1, d, x1, r1, p1, a1⟩ => ?_⟩
  by_cases z : isI C m d h1 = true
  · rw [if_pos z] at a1
    obtain ⟨n, fs, ei, z⟩ := isI_inv z
    obtain ⟨ad, dx, Ca', ws, rfl, e1, e2, w, hC⟩ := insO_of r1 p1 ei
    have e := c.at'
    rw [hC] at e
    cases e
    exact ⟨ad, dx, ws, rfl, e2, (w.look m).2 z, L1, h1, δ, r1, s.mono x1, Ans.imp (Ans.bind (rp := RepL X.K) a1) fun vs H2 ⟨L2, h2, ds, x2, r2, p2, a2⟩ => ⟨L2, h2, d :: ds, r2, .cons (p1.mono x2) p2, a2⟩⟩
  · rw [if_neg z] at a1; exact a1.elim
theorem pem_meth {C m qn : Str} {fl : List Str} {st : Stmt} {g : List D → MH → R D} (c : ClsT X.K C Ca fl) (F : FnM X.prog X.w X.K X.mg X.base k f fd ps g) (DA : MthAt X.K Ca m qn st f fd ps) (hr : Room k X.A) (tk : L2N.Takes X W) (ho : PEM X W o mo) (ha : PAM X W (e :: es) mas)
    (hst : starEach (e :: es) X.env = (false, eval e X.env) :: starEach es X.env := by rfl) (hpl : (backTo pos (starEach es X.env)).any (·.1) = false := by rfl)
    {pl : Sem Bool} (ht : eval (.Call (.Attribute o m apos) (e :: es) [] pos) X.env = (do let ov ← eval o X.env; standAt apos.atName; let (g, fst) ← holding [ov] (getMethod ov m pl); callWith pos g fst (backTo pos (starEach (e :: es) X.env)) (backToKw pos (keywordEach [] X.env))) := by rfl) :
    PEM X W (.Call (.Attribute o m apos) (e :: es) [] pos) (mMeth C m g mo mas) :=
  PE.imp (pe_methS (E := WE W) ho c.cls DA.me F hr DA.bi (fun σ => L2N.passAt tk σ) ha hst hpl ht) fun _ _ _ t => tMeth_of c t
theorem pem_meth0 {C m qn : Str} {fl : List Str} {st : Stmt} {g : List D → MH → R D} (c : ClsT X.K C Ca fl) (F : FnM X.prog X.w X.K X.mg X.base k f fd ps g) (DA : MthAt X.K Ca m qn st f fd ps) (hr : Room k X.A) (tk : L2N.Takes X W) (ho : PEM X W o mo)
    {pl : Sem Bool} (ht : eval (.Call (.Attribute o m apos) [] [] pos) X.env = (do let ov ← eval o X.env; standAt apos.atName; let (g, fst) ← holding [ov] (getMethod ov m pl); callWith pos g fst (backTo pos (starEach [] X.env)) (backToKw pos (keywordEach [] X.env))) := by rfl) :
    PEM X W (.Call (.Attribute o m apos) [] [] pos) (mMeth C m g mo mNil) :=
  PE.imp (pe_methS0 (E := WE W) ho c.cls DA.me F hr DA.bi (fun σ => L2N.passAt tk σ) ht) fun σ H Q t => by
    obtain ⟨L, h, δ, r, s, a⟩ := t
    refine ⟨L, h, δ, r, s, Ans.imp (Ans.bind (rp := Rep X.K) a) fun v H1 ⟨L1, h1, d, x1, r1, p1, a1⟩ => ?_⟩
    by_cases z : isI C m d h1 = true
    · rw [if_pos z] at a1
      obtain ⟨n, fs, ei, z⟩ := isI_inv z
      obtain ⟨ad, dx, Ca', ws, rfl, e1, e2, w, hC⟩ := insO_of r1 p1 ei
      have e := c.at'
      rw [hC] at e
      cases e
      exact ⟨ad, dx, ws, rfl, e2, (w.look m).2 z, L1, h1, [d], r1, .cons p1 .nil, a1⟩
    · rw [if_neg z] at a1; exact a1.elim
/-! ### C(..) -/
def tMakeS (C : Addr) (sp : Sp) (E : L2.St → XK) (t : TA) : TE := fun σ H Q => t σ H fun vs H1 => ∀ x dx, H1 x = none → H1 dx = none → dx ≠ x →
  sp (.ref x :: vs) (upd (upd H1 dx (.own x)) x (.ins C dx [])) (fun v H2 => v = .non ∧ Q (.ref x) H2) (E σ)
theorem run_makeS {CX : CXT} {σ : L2.St} {pins : List (Addr × Obj)} {H : Hp} {s : Shared} {Q : VK} {us : List Value} {vs : List V} (M : Mk X.K Ca f) (F : FnOk X.prog X.w X.K X.mg X.base CX k f fd ps sp) (hr : Room (k + 1) X.A) (hb : Binds X.K fd ps [])
    (hx : PassesAt CX X σ (E σ)) (I : Inv X pins σ H s) (r : Vals vs us) (h : ∀ x dx, H x = none → H dx = none → dx ≠ x → sp (.ref x :: vs) (upd (upd H dx (.own x)) x (.ins Ca dx [])) (fun v H2 => v = .non ∧ Q (.ref x) H2) (E σ)) :
    wpAny (model X.prog X.w) X.A (call (.ref Ca) us) (EP X pins σ Q) X.xe s := by
  have hq := h (s.heap.objs.size + 1) s.heap.objs.size (I.hok.fresh (Nat.le_succ _)) (I.hok.fresh (Nat.le_refl _)) (Nat.ne_of_lt (Nat.lt_succ_self _))
  have I2 := Inv.made (C := Ca) I
  have r2 : Vals (V.ref (s.heap.objs.size + 1) :: vs) (Value.ref (s.heap.objs.size + 1) :: us) := .cons rfl r
  have hl : (Value.ref (s.heap.objs.size + 1) :: us).length = ps.length := by rw [← r2.length]; exact F.len _ _ _ _ hq
  have bd := hb _ (Value.ref (s.heap.objs.size + 1) :: us) I2.kIn (by rw [List.append_nil]; exact hl)
  rw [List.append_nil] at bd
  refine wpAny_call (make_map (f := f) I.kIn M.makes M.init (beq_iff_eq.mp M.fn) (codeAny_mono (F.run _ X.stack _ _ ⟨Value.ref (s.heap.objs.size + 1) :: us, []⟩ (Value.ref (s.heap.objs.size + 1) :: us) _ _ (E σ) (hr.make Ca us []) (I2.env0.make Ca us []) bd r2 hq) fun r s' hq' => ?_))
  cases r with
  | error e => exact hx pins _ _ e s' I2 hq'
  | ok fl =>
    cases fl with
    | ret u =>
      obtain ⟨v, H', I3, rv, ev, q3⟩ := I2.after hq'
      subst ev
      exact ⟨rv, V.ref (s.heap.objs.size + 1), H', I3, rfl, q3⟩
    | _ => exact False.elim hq'
theorem pe_makeS {CX : CXT} (M : Mk X.K Ca f) (F : FnOk X.prog X.w X.K X.mg X.base CX k f fd ps sp) (hr : Room (k + 1) X.A) (hg : Gl X x) (hm : X.mg x = some (.ref Ca)) (hb : Binds X.K fd ps []) (hx : ∀ σ, PassesAt CX X σ (E σ)) (ha : PA X (e :: es) t)
    (hdb : (x == ("__debug__" : Str)) = false := by decide) (he : starEach (e :: es) X.env = (false, eval e X.env) :: starEach es X.env := by rfl) (hpl : (backTo pos (starEach es X.env)).any (·.1) = false := by rfl) : PE X (.Call (.Name x p) (e :: es) [] pos) (tMakeS Ca sp E t) :=
  ⟨fun pins s σ H Q I h => wpAny_Call_Name_kw (ld_glob I hg hm (PySem.W.callWith_K (h₀ := X.base) I.ok.mod.kin M.kp (thn (ha.run pos pins s σ H _ I h) fun us s1 ⟨vs, H1, I1, r, q⟩ => ⟨I1.kIn, run_makeS M F hr hb (hx σ) I1 r q⟩) he hpl) hdb)⟩
theorem pe_makeS0 {CX : CXT} (M : Mk X.K Ca f) (F : FnOk X.prog X.w X.K X.mg X.base CX k f fd ps sp) (hr : Room (k + 1) X.A) (hg : Gl X x) (hm : X.mg x = some (.ref Ca)) (hb : Binds X.K fd ps []) (hx : ∀ σ, PassesAt CX X σ (E σ))
    (hdb : (x == ("__debug__" : Str)) = false := by decide) : PE X (.Call (.Name x p) [] [] pos) (tMakeS Ca sp E tNil) :=
  ⟨fun pins s σ H Q I h => wpAny_Call_Name_kw (ld_glob I hg hm (PySem.W.callWith_K0 I.kIn M.kp (run_makeS (us := []) M F hr hb (hx σ) I .nil h)) hdb)⟩
def mkD (C : Str) (g : List D → MH → R D) (ds : List D) (h : MH) : R D := (g (.ref h.length :: ds) (h ++ [.ins C []])).bnd fun d h2 => match d with
  | .non => .ok (.ref h.length) h2
  | _ => .stuck
def mMake (C : Str) (g : List D → MH → R D) (ms : MA) : ME := fun δ h => (ms δ h).bnd fun ds h1 => mkD C g ds h1
theorem mk_of {K : PySem.W.Frag} {C : Str} {fl : List Str} {g : List D → MH → R D} (c : ClsT K C Ca fl) {L : TL} {H : Hp} {h : MH} {ds : List D} {vs : List V} {Q : VK} {E : XK} (r : Rel K L H h) (w : RepL K L H ds vs) (a : Ans K (Rep K) L H (mkD C g ds h) Q E)
    {x dx : Addr} (hx : H x = none) (hd : H dx = none) (ne : dx ≠ x) : spOf K g (.ref x :: vs) (upd (upd H dx (.own x)) x (.ins Ca dx [])) (fun v H2 => v = .non ∧ Q (.ref x) H2) E := by
  obtain ⟨x1, r1⟩ := r.fresh (o := .own x) hd
  have hx1 : upd H dx (.own x) x = none := by rw [upd_ne ne.symm]; exact hx
  obtain ⟨x2, r2⟩ := r1.alloc (m := .ins C []) (o := .ins Ca dx []) hx1 ⟨x, dx, Ca, [], rfl, upd_same, rfl, c.at'⟩
  have at0 : (L ++ [some x])[h.length]? = some (some x) := by rw [getElem?_snoc, if_pos r.len.symm]
  refine ⟨_, _, .ref h.length :: ds, r2, .cons ?_ (w.mono (x1.trans x2)), ?_⟩
  · unfold Rep
    exact ⟨x, rfl, .inl at0⟩
  · refine Ans.imp (Ans.bind (rp := Rep K) (rp2 := Rep K) (Ans.mono (x1.trans x2) a)) fun v H2 ⟨L2, h2, d, x3, r3, p3, a3⟩ => ?_
    cases d with
    | non =>
      refine ⟨by unfold Rep at p3; exact p3, ans_okE r3 ?_ a3⟩
      unfold Rep
      refine ⟨x, rfl, ?_⟩
      exact x3.live _ _ at0
    | _ => exact a3.elim
theorem pem_make {C x qn : Str} {fl : List Str} {st : Stmt} {g : List D → MH → R D} (c : ClsT X.K C Ca fl) (M : Mk X.K Ca f) (F : FnM X.prog X.w X.K X.mg X.base k f fd ps g) (bi : Binds X.K fd ps []) (hr : Room (k + 1) X.A) (tk : L2N.Takes X W) (hg : Gl X x) (hm : X.mg x = some (.ref Ca)) (ha : PAM X W (e :: es) mas)
    (hdb : (x == ("__debug__" : Str)) = false := by decide) (he : starEach (e :: es) X.env = (false, eval e X.env) :: starEach es X.env := by rfl) (hpl : (backTo pos (starEach es X.env)).any (·.1) = false := by rfl) : PEM X W (.Call (.Name x p) (e :: es) [] pos) (mMake C g mas) :=
  PE.imp (pe_makeS (E := WE W) M F hr hg hm bi (fun σ => L2N.passAt tk σ) ha hdb he hpl) fun σ H Q ⟨L, h, δ, r, s, a⟩ => ⟨L, h, δ, r, s, Ans.imp (Ans.bind (rp := RepL X.K) a) fun vs H1 ⟨L1, h1, ds, x1, r1, p1, a1⟩ x dx nx nd ne => mk_of c r1 p1 a1 nx nd ne⟩
theorem pem_make0 {C x qn : Str} {fl : List Str} {st : Stmt} {g : List D → MH → R D} (c : ClsT X.K C Ca fl) (M : Mk X.K Ca f) (F : FnM X.prog X.w X.K X.mg X.base k f fd ps g) (bi : Binds X.K fd ps []) (hr : Room (k + 1) X.A) (tk : L2N.Takes X W) (hg : Gl X x) (hm : X.mg x = some (.ref Ca))
    (hdb : (x == ("__debug__" : Str)) = false := by decide) : PEM X W (.Call (.Name x p) [] [] pos) (mMake C g mNil) :=
  PE.imp (pe_makeS0 (E := WE W) M F hr hg hm bi (fun σ => L2N.passAt tk σ) hdb) fun σ H Q ⟨L, h, δ, r, s, a⟩ x dx nx nd ne => mk_of c r .nil a nx nd ne
/-! ### isinstance(x, C) -/
def isCG (C : Str) (d : D) (h1 : MH) : R D := match insO h1 d with
  | some (_, C', _) => if C' = C then .ok (.bl true) h1 else .stuck
  | none => .stuck
def mIsC (C : Str) (m : ME) : ME := fun δ h => (m δ h).bnd (isCG C)
theorem pem_isC {C : Str} {fl : List Str} {p2 : Pos} (c : ClsT X.K C Ca fl) (ic : C8.InsC X.K Ca) (hc : X.mg C = some (.ref Ca)) (ho : PEM X W o mo) (hg : Gl X "isinstance") (hm : X.mg "isinstance" = none) (hgC : Gl X C) (hdb : (C == ("__debug__" : Str)) = false := by decide)
    (he : starEach [o, .Name C p2] X.env = (false, eval o X.env) :: starEach [.Name C p2] X.env := by rfl) (he2 : starEach [.Name C p2] X.env = (false, eval (.Name C p2) X.env) :: starEach [] X.env := by rfl) (hpl : (backTo pos (starEach [.Name C p2] X.env)).any (·.1) = false := by rfl) :
    PEM X W (.Call (.Name "isinstance" p) [o, .Name C p2] [] pos) (mIsC C mo) :=
  PE.imp (pe_callB (C8.call_isC ic) hg hm PyProof.Rows.boot_isinstance (pa_cons ho (pa_cons (pe_glob (v := .ref Ca) hgC hc rfl hdb) pa_nil he2) he) (by decide) (by decide) he hpl) fun σ H Q ⟨L, h, δ, r, s, a⟩ => ⟨L, h, δ, r, s, Ans.imp (Ans.bind (rp := Rep X.K) a) fun v H1 ⟨L1, h1, d, x1, r1, p1, a1⟩ => by
    unfold isCG at a1
    cases ei : insO h1 d with
    | none => simp only [ei] at a1; exact a1.elim
    | some q =>
      obtain ⟨n, C', fs⟩ := q
      simp only [ei] at a1
      obtain ⟨ad, dx, Ca', ws, rfl, e1, e2, w, hC⟩ := insO_of r1 p1 ei
      by_cases z : C' = C
      · rw [if_pos z] at a1
        subst z
        have e := c.at'
        rw [hC] at e
        cases e
        exact ⟨ad, dx, ws, rfl, e2, ans_okE r1 rep_bl a1⟩
      · rw [if_neg z] at a1; exact a1.elim⟩
/-! ### a + b of two instances of one class -/
structure OpAt (K : PySem.W.Frag) (Ca : Addr) (op : Operator) (f : Addr) : Prop where
  sf : PySem.W.selfFirst K Ca = true
  at' : PySem.W.findIn K (.ref Ca) (PySem.dunder op.info.2) = some (some (.ref f))
  fn : PySem.W.isFn K (.ref f) = true
def rOwn (Ca : Addr) (sp : Sp) : R2 := fun x y H Q => ∃ a b dx fs dx' fs', x = .ref a ∧ y = .ref b ∧ H a = some (.ins Ca dx fs) ∧ H b = some (.ins Ca dx' fs') ∧ sp [x, y] H Q (fun _ _ _ => False)
theorem op_ownBin {CX : CXT} {op : Operator} (oa : OpAt X.K Ca op f) (F : FnOk X.prog X.w X.K X.mg X.base CX k f fd ps sp) (hr : Room k X.A) (hb : Binds X.K fd ps []) (hx : ∀ σ, PassesAt CX X σ (fun _ _ _ => False)) : OpR X (binaryOp op) (rOwn Ca sp) := by
  rintro pins s σ H x y u v Q I rx ry ⟨a, b, dx, fs, dx', fs', rfl, rfl, ea, eb, h⟩
  obtain rfl : u = Value.ref a := rx
  obtain rfl : v = Value.ref b := ry
  obtain ⟨mA, O, _⟩ := ins_get I.hok ea
  obtain ⟨od, J, _⟩ := O.look
  obtain ⟨mB, O', _⟩ := ins_get I.hok eb
  obtain ⟨od', J', _⟩ := O'.look
  obtain ⟨m, fr⟩ := I.fr
  refine PySem.W.binop_K fr I.ok.mod.kin J J'.type oa.sf oa.at' oa.fn (wpAny_mono (run_fnS (E := fun _ _ _ _ => False) (us := [.ref a, .ref b]) F hr hb (hx σ) I (.cons (show RelV (.ref a) (.ref a) from rfl) (.cons (show RelV (.ref b) (.ref b) from rfl) .nil)) h) (fun r s' q => ?_) fun _ _ z => z)
  obtain ⟨z, H', I', rz, q⟩ := q
  cases z with
  | int i => obtain ⟨tk, rfl⟩ := rz; exact ⟨.int i, H', I', ⟨_, rfl⟩, q⟩
  | str i => obtain ⟨tk, rfl⟩ := rz; exact ⟨.str i, H', I', ⟨_, rfl⟩, q⟩
  | byt i => obtain ⟨tk, rfl⟩ := rz; exact ⟨.byt i, H', I', ⟨_, rfl⟩, q⟩
  | flt i => obtain ⟨tk, rfl⟩ := rz; exact ⟨.flt i, H', I', ⟨_, rfl⟩, q⟩
  | non => cases (show r = Value.none from rz); exact ⟨.non, H', I', rfl, q⟩
  | bl i => cases (show r = Value.bool i from rz); exact ⟨.bl i, H', I', rfl, q⟩
  | ref i => cases (show r = Value.ref i from rz); exact ⟨.ref i, H', I', rfl, q⟩
  | ty i => cases (show r = Value.type i from rz); exact ⟨.ty i, H', I', rfl, q⟩
def opOwn (C : Str) (g : List D → MH → R D) : D → D → MH → R D := fun x y h => match insO h x, insO h y with
  | some (_, C1, _), some (_, C2, _) => if C1 = C ∧ C2 = C then (g [x, y] h).nx else .stuck
  | _, _ => .stuck
theorem opOwn_ok {K : PySem.W.Frag} {C : Str} {fl : List Str} {g : List D → MH → R D} (c : ClsT K C Ca fl) : OpM K (rOwn Ca (spOf K g)) (opOwn C g) := by
  intro L H h dx dy x y Q E r px py a
  unfold opOwn at a
  split at a
  · rename_i n C1 fs n2 C2 fs2 ei ej
    split at a
    · rename_i z
      obtain ⟨rfl, rfl⟩ := z
      obtain ⟨ad, ex, Ca1, ws, rfl, e1, e2, w, hC⟩ := insO_of r px ei
      obtain ⟨ad2, ex2, Ca2, ws2, rfl, f1, f2, w2, hC2⟩ := insO_of r py ej
      have e := c.at'
      rw [hC] at e
      cases e
      have e := c.at'
      rw [hC2] at e
      cases e
      exact ⟨ad, ad2, ex, ws, ex2, ws2, rfl, rfl, e2, f2, L, h, [dx, dy], r, .cons px (.cons py .nil), Ans.nx a⟩
    · exact a.elim
  · exact a.elim
end
/-! ### what they give -/
section
variable {δ : MS} {h : MH} {m mo : ME} {ms : MA} {cs : List Str} {f C : Str} {g : List D → MH → R D} {n : Nat} {fs : List (Str × D)} {x d : D}
@[simp] theorem mFld_eq : mFld cs f m δ h = (m δ h).bnd (fldG cs f) := rfl
@[simp] theorem mFldS_eq : mFldS cs f m mo δ h = (m δ h).st δ fun d h1 => (mo δ h1).st δ fun o h2 => match setFG cs f d o h2 with | some h3 => .ok (.next δ) h3 | none => .stuck := rfl
@[simp] theorem mMeth_eq : mMeth C f g mo ms δ h = (mo δ h).bnd fun d h1 => if isI C f d h1 = true then (ms δ h1).bnd fun ds h2 => g (d :: ds) h2 else .stuck := rfl
@[simp] theorem mMake_eq : mMake C g ms δ h = (ms δ h).bnd fun ds h1 => mkD C g ds h1 := rfl
@[simp] theorem mIsC_eq : mIsC C m δ h = (m δ h).bnd (isCG C) := rfl
theorem fldG_ok (e : h[n]? = some (.ins C fs)) (hc : C ∈ cs) (el : fs.lookup f = some x) : fldG cs f (.ref n) h = .ok x h := by
  unfold fldG
  simp only [insO_ref e, if_pos hc, el]
theorem setFG_ok (e : h[n]? = some (.ins C fs)) (hc : C ∈ cs) (hl : fs.length < 1000) : setFG cs f d (.ref n) h = some (h.set n (.ins C (putFD f d fs))) := by
  unfold setFG
  simp only [insO_ref e, if_pos (And.intro hc hl)]
theorem isI_ok (e : h[n]? = some (.ins C fs)) (el : fs.lookup f = none) : isI C f (.ref n) h = true := by
  unfold isI
  simp [insO_ref e, el]
theorem isCG_ok (e : h[n]? = some (.ins C fs)) : isCG C (.ref n) h = .ok (.bl true) h := by
  unfold isCG
  simp only [insO_ref e, if_true]
theorem opOwn_eq {n2 : Nat} {fs2} (e : h[n]? = some (.ins C fs)) (e2 : h[n2]? = some (.ins C fs2)) : opOwn C g (.ref n) (.ref n2) h = (g [.ref n, .ref n2] h).nx := by
  unfold opOwn
  simp only [insO_ref e, insO_ref e2, and_self, if_true]
end
end MM

/-! texts of any length; loops over a range -/
namespace MM
open PySem PySem.Spec PyProof.Rows L2
theorem ix_txN {l : List Nat} {k c : Nat} {h : MH} (hl : l.length ≤ 16777216) (e : l[k]? = some c) : opIx (.str (tx l)) (.int k) h = .ok (.str (tx [c])) h := opIx_of (by
  show (if (tx l).length ≤ 16777216 then _ else none) = _
  rw [if_pos (by rw [tx_len]; exact hl)]
  show Option.map _ (L2.atI l k) = _
  rw [atI_ok (by omega) (by simpa using e)]
  rfl)
theorem cut_mid (l : List Nat) {i j : Nat} (hij : i ≤ j) : cutS (tx l) (some (i : Int)) (some (j : Int)) = tx ((l.drop i).take (j - i)) := by
  unfold cutS
  rw [HT.sIx_nat, HT.sIx_nat, tx_len, tl_tx]
  show tx _ = tx _
  congr 1
  rcases Nat.le_total i l.length with q | q
  · rw [Nat.min_eq_left q]
    rcases Nat.le_total j l.length with q2 | q2
    · rw [Nat.min_eq_left q2]
    · rw [Nat.min_eq_right q2, List.take_of_length_le (by simp), List.take_of_length_le (by simp; omega)]
  · rw [Nat.min_eq_right q, List.drop_eq_nil_of_le q, List.drop_eq_nil_of_le (Nat.le_refl _), List.take_nil, List.take_nil]
theorem sl_mid {l : List Nat} {i j : Nat} {h : MH} (hl : l.length ≤ 16777216) (hij : i ≤ j) : opSl (.str (tx l)) (some (i : Int)) (some (j : Int)) h = .ok (.str (tx ((l.drop i).take (j - i)))) h := by
  unfold opSl slG
  simp only []
  rw [if_pos (by rw [tx_len]; exact hl), cut_mid l hij]
theorem fLen_tx {l : List Nat} {h : MH} (hl : l.length ≤ 16777216) : fLen [.str (tx l)] h = .ok (.int l.length) h := by rw [fLen_str (by rw [tx_len]; exact hl), tx_len]
theorem opAddS_tx {a b : List Nat} {h : MH} (hl : a.length + b.length ≤ 16777216) : opAddS (.str (tx a)) (.str (tx b)) h = .ok (.str (tx (a ++ b))) h := by
  show opAdd (.str (tx a)) (.str (tx b)) h = _
  rw [opAdd_str (by rw [tx_len, tx_len]; exact hl), tx_app]
theorem drop_cons_iff {α : Type} {l r : List α} {k : Nat} {c : α} (e : l.drop k = c :: r) : l[k]? = some c ∧ l.drop (k + 1) = r ∧ k < l.length := by
  have hk : k < l.length := by
    rcases Nat.lt_or_ge k l.length with z | z
    · exact z
    · rw [List.drop_eq_nil_of_le z] at e; cases e
  rw [List.drop_eq_getElem_cons hk] at e
  obtain ⟨e1, e2⟩ := List.cons.inj e
  exact ⟨by rw [List.getElem?_eq_getElem hk, e1], e2, hk⟩
section
variable {PS' : Fl → MH → Prop} {ES : XPS}
/-- a loop over range(N) whose body always goes on -/
theorem TmS_range {tgt : MG} {body : MSt} {N : Nat} (I : Nat → MS → MH → Prop)
    (step : ∀ i δ h, i < N → I i δ h → ∃ δ1, tgt (.int (i : Int)) δ = some δ1 ∧ TmS (body δ1 h) (Nx (I (i + 1))) ES)
    (fin : ∀ δ h, I N δ h → PS' (.next δ) h) {δ : MS} {h : MH} (i0 : I 0 δ h) : TmS (forM (fun _ => True) tgt body ((List.range N).map fun (i : Nat) => D.int i) δ h) PS' ES := by
  refine TmS_forN (fun ds δ h => ∃ k, k ≤ N ∧ ds = ((List.range N).map fun (i : Nat) => D.int i).drop k ∧ I k δ h) (fun _ _ _ _ => trivial) (fun x r δ h ⟨k, hk, e, i⟩ => ?_) (fun δ h ⟨k, hk, e, i⟩ => ?_) ⟨0, Nat.zero_le _, rfl, i0⟩
  · obtain ⟨e1, e2, e3⟩ := drop_cons_iff e.symm
    simp at e3
    have : x = .int (k : Int) := by
      rw [List.getElem?_map, List.getElem?_range e3] at e1
      exact (Option.some.inj e1).symm
    subst this
    obtain ⟨δ1, q1, q2⟩ := step k δ h e3 i
    exact ⟨δ1, q1, q2.imp fun f h2 ⟨δ2, ef, i2⟩ => ⟨δ2, ef, k + 1, e3, e2.symm, i2⟩⟩
  · have := congrArg List.length e
    simp at this
    have : k = N := by omega
    subst this
    exact fin _ _ i
/-- .. or comes to an end in it -/
theorem TmS_rangeR {tgt : MG} {body : MSt} {N : Nat} (I : Nat → MS → MH → Prop)
    (step : ∀ i δ h, i < N → I i δ h → ∃ δ1, tgt (.int (i : Int)) δ = some δ1 ∧ TmS (body δ1 h) (fun f h2 => match f with | .next δ2 => I (i + 1) δ2 h2 | .cont δ2 => I (i + 1) δ2 h2 | .brk δ2 => PS' (.next δ2) h2 | .ret d => PS' (.ret d) h2) ES)
    (fin : ∀ δ h, I N δ h → PS' (.next δ) h) {δ : MS} {h : MH} (i0 : I 0 δ h) : TmS (forM (fun _ => True) tgt body ((List.range N).map fun (i : Nat) => D.int i) δ h) PS' ES := by
  refine TmS_for (fun ds δ h => ∃ k, k ≤ N ∧ ds = ((List.range N).map fun (i : Nat) => D.int i).drop k ∧ I k δ h) (fun _ _ _ _ => trivial) (fun x r δ h ⟨k, hk, e, i⟩ => ?_) (fun δ h ⟨k, hk, e, i⟩ => ?_) ⟨0, Nat.zero_le _, rfl, i0⟩
  · obtain ⟨e1, e2, e3⟩ := drop_cons_iff e.symm
    simp at e3
    have : x = .int (k : Int) := by
      rw [List.getElem?_map, List.getElem?_range e3] at e1
      exact (Option.some.inj e1).symm
    subst this
    obtain ⟨δ1, q1, q2⟩ := step k δ h e3 i
    refine ⟨δ1, q1, q2.imp fun f h2 q => ?_⟩
    cases f with
    | next δ2 => exact ⟨k + 1, e3, e2.symm, q⟩
    | cont δ2 => exact ⟨k + 1, e3, e2.symm, q⟩
    | brk δ2 => exact q
    | ret d => exact q
  · have := congrArg List.length e
    simp at this
    have : k = N := by omega
    subst this
    exact fin _ _ i
theorem TmS.exN {s : SR} {P : Fl → MH → Prop} (t : TmS s P (fun _ _ _ _ => False)) : ∃ f h, s = .ok f h ∧ P f h := by
  cases s with
  | ok f h => exact ⟨f, h, rfl, t⟩
  | exc _ _ _ _ => exact t.elim
  | stuck => exact t.elim
end
/-- a def that ends with an exception -/
theorem mFn_exc {n N : Nat} {ms : MSt} {ds : List D} {h g : MH} {c : Str} {fs : List (Str × D)} {δ : MS} (e : ds.length = n) (r : ms (mStart N ds) h = .exc c fs δ (h ++ g)) (q : (fs.all fun p => p.2.lows h.length) = true) : mFn n N ms ds h = .exc c fs h := by
  rw [mFn_eq e, r]
  show leaveX h c fs (h ++ g) = _
  unfold leaveX
  rw [if_pos ⟨(LeftOf.refl h).app, q⟩, take_app rfl]
theorem mFn_exc0 {n N : Nat} {ms : MSt} {ds : List D} {h : MH} {c : Str} {fs : List (Str × D)} {δ : MS} (e : ds.length = n) (r : ms (mStart N ds) h = .exc c fs δ h) (q : (fs.all fun p => p.2.lows h.length) = true) : mFn n N ms ds h = .exc c fs h := mFn_exc (g := []) e (by rw [List.append_nil]; exact r) q
/-- a def that ends with nothing said -/
theorem mFn_next {n N : Nat} {ms : MSt} {ds : List D} {h g : MH} {δ : MS} (e : ds.length = n) (r : ms (mStart N ds) h = .ok (.next δ) (h ++ g)) : mFn n N ms ds h = .ok .non h := by
  rw [mFn_eq e, r]
  show leave h .non (h ++ g) = _
  rw [leave_eq (LeftOf.refl h).app rfl, take_app rfl]
theorem mFn_next0 {n N : Nat} {ms : MSt} {ds : List D} {h : MH} {δ : MS} (e : ds.length = n) (r : ms (mStart N ds) h = .ok (.next δ) h) : mFn n N ms ds h = .ok .non h := mFn_next (g := []) e (by rw [List.append_nil]; exact r)
/-- the list that a def has at the end of its heap -/
theorem lst?_end {h : MH} {acc : List D} : lst? (h ++ [.lst acc]) h.length = some acc := lst?_of (by simp)
theorem set_end {h : MH} {o o' : MO} : (h ++ [o]).set h.length o' = h ++ [o'] := by simp
theorem fAppend_end {h : MH} {acc : List D} {x : D} (hz : acc.length < 16777216) : fAppend (.ref h.length) [x] (h ++ [.lst acc]) = .ok .non (h ++ [.lst (acc ++ [x])]) := by
  unfold fAppend
  simp only [lst?_end]
  rw [if_pos hz, set_end]
theorem frz_end {h : MH} {acc : List D} : frz (.ref h.length) (h ++ [.lst acc]) = .ok (.rol acc) (h ++ [.dead]) := by
  unfold frz
  simp only [lst?_end, set_end]
theorem isTy_end {T : String} {h : MH} {acc : List D} : isTy T (.ref h.length) (h ++ [.lst acc]) = (T == "list") := isTy_ref lst?_end
end MM

set_option maxHeartbeats 2000000
/-! what a class of containers wants: [x] * n, xs[a:b] = ys, in and len of own instances, properties, d.pop(k) -/
namespace MSl
open PySem PySem.Spec PyProof.Rows L2
section
variable {prog : Program} {w : World} {A : Around} {E : Value → Shared → Prop} {s : Shared}
/-- a part of a list gives way to another list: the bounds as the slice tells them, also beyond the end -/
theorem put_cut {l b sl : Addr} {items new : Array Value} {n n2 : Nat} {vl vu : Value} {lo hi : Option Int} {a c : Nat} {Q : Unit → Shared → Prop} (el : s.heap.get? l = some { cls := .type "list", data := .seq items n }) (eb : s.heap.get? b = some { cls := .type "list", data := .seq new n2 })
    (apart : l ≠ b) (os : s.heap.IsSliceOf sl vl vu .none) (p1 : IsPart vl lo) (p2 : IsPart vu hi) (bd : sliceBounds lo hi none items.size = ((a : Int), (c : Int), 1)) (hac : a ≤ c) (room : items.size + new.size ≤ sizeLine)
    (k : Q () { s with heap := s.heap.update l (Obj.mapSeq fun xs => xs.extract 0 a ++ new ++ xs.extract c xs.size) }) : wpAny (model prog w) A (setItem (.ref l) (.ref sl) (.ref b)) Q E s := by
  have tl := (PySem.IsL.isList el).typeIs
  have tb := (PySem.IsL.isList eb).typeIs
  obtain ⟨ob, g1, g2, g3⟩ := id os
  have ts : s.TypeIs (.ref sl) "slice" := ⟨ob, g1, g2⟩
  have other : Builtin.List.listSameRef (.ref l) (.ref b) = false := beq_eq_false_iff_ne.mpr apart
  have big : (items.extract 0 a ++ new ++ items.extract c items.size).size ≤ sizeLine + 1 := by
    simp only [Array.size_append, Array.size_extract]; omega
  unfold setItem
  refine wpAny_holding (wpAny_bind (wpAny_sequenceKey tl (by decide) (wpAny_bind (wpAny_callSpecial?_slot (name := Str.ofString "__setitem__") tl slot_list_setitem (wpAny_call_entry slot_list_setitem tl entry_list_setitem ?_ (args_list_setitem _ _ _))))))
  show wpAny _ _ (Builtin.List.listSubscript? (.ref sl) >>= _) _ _ s
  unfold Builtin.List.listSubscript?
  refine wpAny_bind (wpAny_bind (wpAny_specialOf ts slice_no_index ?_))
  simp only [Option.isNone_none, if_true]
  refine wpAny_pure ?_
  show wpAny _ _ (typeOf (.ref sl) >>= _) _ _ s
  refine wpAny_bind (wpAny_typeOf ts (PySem.W.KFB.if_not (by decide) ?_))
  rw [listSliceParts_eq]
  refine wpAny_bind (wpAny_bind (wpAny_field g1 g3 (x := .none) rfl (wpAny_bind (wpAny_listPart .none ?_))))
  rw [if_neg (show ¬ ((rawPart none == rawInt 0) = true) from Bool.false_ne_true)]
  refine wpAny_bind (wpAny_field g1 g3 (x := vl) rfl (wpAny_bind (wpAny_listPart p1 (wpAny_bind (wpAny_field g1 g3 (x := vu) rfl (wpAny_bind (wpAny_listPart p2 (wpAny_pure ?_))))))))
  simp only [other, Bool.false_eq_true, if_false]
  unfold Builtin.List.listAllItems
  refine wpAny_bind (wpAny_bind (wpAny_typeOf tb (PySem.W.KFB.if_so (by decide) ?_)))
  unfold Builtin.List.listItems
  refine wpAny_bind (wpAny_seqItems eb rfl (wpAny_pure (wpAny_bind (wpAny_bind (wpAny_seqItems el rfl (wpAny_pure (wpAny_bind (wpAny_of_eq ((sliceIndices_raw lo hi none items.size (by simp)).trans (congrArg (pure : Int × Int × Int → Sem (Int × Int × Int)) bd)) ?_))))))))
  show wpAny _ _ (if ((1 : Int) == 1) = true then _ else _) _ _ s
  rw [if_pos (by decide)]
  refine wpAny_bind (wpAny_rule ?_)
  simp only [notLongL room, Bool.false_eq_true, if_false]
  show wpAny _ _ (updateSeq l (fun xs => xs.extract 0 ((a : Int)).toNat ++ new ++ xs.extract (max (a : Int) (c : Int)).toNat xs.size) >>= _) _ _ s
  rw [show (max (a : Int) (c : Int)).toNat = c by omega, Int.toNat_natCast]
  refine wpAny_bind (wpAny_updateSeq (hz := Nat.le_trans (Nat.le_add_right _ _) room) (_hz' := big) el rfl (wpAny_bind (wpAny_letGo ?_)))
  exact wpAny_pure ⟨.none, rfl, wpAny_pure k⟩
theorem cut_bounds {a c n : Nat} (hac : a ≤ c) : sliceBounds (some (a : Int)) (some (c : Int)) none n = (((min a n : Nat) : Int), ((min c n : Nat) : Int), 1) := by
  unfold sliceBounds
  simp only [Option.getD_none, show ¬ ((a : Int) < 0) by omega, show ¬ ((c : Int) < 0) by omega, if_false, show (1 : Int) > 0 by decide, if_true]
  refine Prod.ext ?_ (Prod.ext ?_ rfl)
  · show max 0 (min (a : Int) (n : Int)) = ((min a n : Nat) : Int)
    omega
  · show max 0 (min (c : Int) (n : Int)) = ((min c n : Nat) : Int)
    omega
end
section
variable {X : Cx}
theorem vals_cut {its its2 : List Value} {a c : Nat} : its.toArray.extract 0 a ++ its2.toArray ++ its.toArray.extract c its.toArray.size = (its.take a ++ its2 ++ its.drop c).toArray := splice_eq its its2 a c
theorem put_cutV {pins : List (Addr × Obj)} {s : Shared} {σ : L2.St} {H : Hp} {l b sl : Addr} {xs ys : List V} {a c : Nat} {vl vu : Value} {Q : Unit → Shared → Prop} (I : Inv X pins σ H s) (hl : H l = some (.lst xs)) (hb : H b = some (.lst ys)) (apart : l ≠ b)
    (os : s.heap.IsSliceOf sl vl vu .none) (p1 : IsPart vl (some (a : Int))) (p2 : IsPart vu (some (c : Int))) (hac : a ≤ c) (room : xs.length + ys.length ≤ sizeLine) (k : ∀ s', Inv X pins σ (upd H l (.lst (xs.take a ++ ys ++ xs.drop c))) s' → Q () s') :
    wpAny (model X.prog X.w) X.A (setItem (.ref l) (.ref sl) (.ref b)) Q X.xe s := by
  obtain ⟨z, i1, n1, r1, e1, g1⟩ := I.lstM hl
  obtain ⟨z2, i2, n2, r2, e2, g2⟩ := I.lstM hb
  have tk : ∀ (α : Type) (ls : List α) (m : Nat), ls.take (min m ls.length) = ls.take m := fun α ls m => by
    rcases Nat.le_total m ls.length with q | q
    · rw [Nat.min_eq_left q]
    · rw [Nat.min_eq_right q, List.take_of_length_le (Nat.le_refl _), List.take_of_length_le q]
  have dr : ∀ (α : Type) (ls : List α) (m : Nat), ls.drop (min m ls.length) = ls.drop m := fun α ls m => by
    rcases Nat.le_total m ls.length with q | q
    · rw [Nat.min_eq_left q]
    · rw [Nat.min_eq_right q, List.drop_eq_nil_of_le (Nat.le_refl _), List.drop_eq_nil_of_le q]
  refine put_cut (a := min a i1.length) (c := min c i1.length) g1 g2 apart os p1 p2 (by rw [List.size_toArray]; exact cut_bounds hac) (by omega) (by rw [List.size_toArray, List.size_toArray]; omega) (k _ ?_)
  refine I.lset (its' := i1.take (min a i1.length) ++ i2 ++ i1.drop (min c i1.length)) (t' := s.toks) hl g1 vals_cut ?_ ?_
  · rw [tk, dr]
    exact ((r1.take a).append r2).append (r1.drop c)
  · rw [List.length_append, List.length_append, List.length_take, List.length_drop]
    omega
/-- xs[a:c] = ys -/
def sCut (tv to : TE) (tl th : TO) : TS := fun D σ H => tv σ H fun v H1 => to σ H1 fun x H2 => tl σ H2 fun a H3 => th σ H3 fun c H4 => ∃ (l b : Addr) (xs ys : List V) (i j : Nat), x = .ref l ∧ v = .ref b ∧ l ≠ b ∧ H4 l = some (.lst xs) ∧ H4 b = some (.lst ys) ∧
  a = some (i : Int) ∧ c = some (j : Int) ∧ i ≤ j ∧ xs.length + ys.length ≤ sizeLine ∧ D.nx σ (upd H4 l (.lst (xs.take i ++ ys ++ xs.drop j)))
theorem ps_cut {o value : Expr} {lo hi : Option Expr} {p2 pos' pos : Pos} {tv to : TE} {tl th : TO} (hv : PE X value tv) (ho : PE X o to) (hl : PO X lo tl) (hh : PO X hi th) (hs : swapsWith value (some (.Subscript o (.Slice lo hi none p2) pos')) pos.line X.env = pure false := by rfl) :
    PS X (.Assign [.Subscript o (.Slice lo hi none p2) pos'] value pos) (sCut tv to tl th) := by
  refine ⟨fun pins s σ H D I h => wpAny_Assign_Subscript (thn (hv.run pins s σ H _ I h) fun r s1 ⟨v, H1, I1, rv, q1⟩ => thn (ho.run pins s1 σ H1 _ I1 q1) fun u s2 ⟨x, H2, I2, rx, q2⟩ => ?_) hs⟩
  refine wpAny_Slice (thn (hl.run pins s2 σ H2 _ I2 q2) fun vl s3 ⟨a, H3, I3, pl, q3⟩ => thn (hh.run pins s3 σ H3 _ I3 q3) fun vu s4 ⟨c, H4, I4, pu, q4⟩ => ?_)
  rw [evalPart_none]
  refine wpAny_pure ?_
  obtain ⟨l, b, xs, ys, i, j, rfl, rfl, apart, el, eb, rfl, rfl, hij, room, fin⟩ := q4
  obtain rfl : u = Value.ref l := rx
  obtain rfl : r = Value.ref b := rv
  have I5 : Inv X pins σ H4 { s4 with heap := s4.heap.push { cls := .type "slice", data := .fields #[vl, vu, .none] } } := I4.kept (t' := s4.toks) fun b ob q => Heap.get?_push_of_some _ q
  exact put_cutV I5 el eb apart (Heap.IsSliceOf.new ..) pl pu hij room fun s' I6 => ⟨σ, _, I6, fin⟩
end
end MSl
namespace MM
open PySem PySem.Spec PyProof.Rows L2
section
variable {X : Cx} {W : WX} {pos : Pos} {e o i : Expr} {me mo mi : ME} {K : PySem.W.Frag}
/-! ### [..] * n: the list that is multiplied is new, and so is the product -/
def opRep (x y : D) (h : MH) : R D := match x, y with
  | .ref n, .int k => (match lst? h n with
    | some ds => if -(2 ^ 63 : Int) ≤ k ∧ k < 2 ^ 63 ∧ ds.length * k.toNat ≤ 16777216 then .ok (.ref h.length) (h ++ [.lst (List.replicate k.toNat ds).flatten]) else .stuck
    | none => .stuck)
  | _, _ => .stuck
theorem RepL.rep {L H} {ds : List D} {vs : List V} (w : RepL K L H ds vs) : ∀ k : Nat, RepL K L H (List.replicate k ds).flatten (List.replicate k vs).flatten
  | 0 => .nil
  | k + 1 => by
    rw [List.replicate_succ, List.replicate_succ, List.flatten_cons, List.flatten_cons]
    exact w.append (RepL.rep w k)
theorem opRep_ok : OpM K rRep opRep := by
  intro L H h dx dy x y Q E r px py a
  unfold opRep at a
  split at a
  · rename_i n k
    cases z : lst? h n with
    | none => simp only [z] at a; exact a.elim
    | some ds =>
      simp only [z] at a
      by_cases hz : -(2 ^ 63 : Int) ≤ k ∧ k < 2 ^ 63 ∧ ds.length * k.toNat ≤ 16777216
      · rw [if_pos hz] at a
        obtain ⟨p, xs, e1, e2, w⟩ := r.lst (lst?_at z)
        refine ⟨p, k, xs, px.ref e1, rep_int_inv py, e2, hz.1, hz.2.1, by rw [← w.length]; exact szl hz.2.2, fun q hq => ?_⟩
        obtain ⟨x1, r1⟩ := r.alloc (m := .lst (List.replicate k.toNat ds).flatten) (o := .lst (List.replicate k.toNat xs).flatten) hq ⟨q, _, rfl, upd_same, (RepL.rep w _).mono (ext_alloc hq)⟩
        refine ans_of ⟨x1, r1, ?_⟩ a
        unfold Rep
        exact ⟨q, rfl, .inl (by rw [getElem?_snoc, if_pos r.len.symm])⟩
      · rw [if_neg hz] at a; exact a.elim
  · exact a.elim
/-! ### xs[a:c] = ys, ys a new list -/
def cutG (d o : D) (l u : Option Int) (h : MH) : Option MH := match d, o, l, u with
  | .ref n, .ref m, some a, some c => (lst? h n).bind fun ys => (lst? h m).bind fun xs => if n ≠ m ∧ 0 ≤ a ∧ a ≤ c ∧ xs.length + ys.length ≤ 16777216 then some (h.set m (.lst (xs.take a.toNat ++ ys ++ xs.drop c.toNat))) else none
  | _, _, _, _ => none
def mCut (m mo : ME) (lo hi : MOp) : MSt := fun δ h => (m δ h).st δ fun d h1 => (mo δ h1).st δ fun o h2 => (lo δ h2).st δ fun l h3 => (hi δ h3).st δ fun u h4 => match cutG d o l u h4 with
  | some h5 => .ok (.next δ) h5
  | none => .stuck
theorem psm_cut {lo hi : Option Expr} {p2 pos' : Pos} {ml mh : MOp} (he : PEM X W e me) (ho : PEM X W o mo) (hl : POM X W lo ml) (hh : POM X W hi mh) (hs : swapsWith e (some (.Subscript o (.Slice lo hi none p2) pos')) pos.line X.env = pure false := by rfl) :
    PSM X W (.Assign [.Subscript o (.Slice lo hi none p2) pos'] e pos) (mCut me mo ml mh) :=
  PS.imp (MSl.ps_cut he ho hl hh hs) fun D σ H ⟨L, h, δ, r, s, a⟩ => ⟨L, h, δ, r, s, Ans.imp (AnsS.bind (rp := Rep X.K) s a) fun v H1 ⟨L1, h1, d, x1, r1, p1, s1, a1⟩ =>
    ⟨L1, h1, δ, r1, s1, Ans.imp (AnsS.bind (rp := Rep X.K) s1 a1) fun vo H2 ⟨L2, h2, d2, x2, r2, p2, s2, a2⟩ => ⟨L2, h2, δ, r2, s2, Ans.imp (AnsS.bind (rp := rpO) s2 a2) fun l H3 ⟨L3, h3, l', x3, r3, p3, s3, a3⟩ =>
      ⟨L3, h3, δ, r3, s3, Ans.imp (AnsS.bind (rp := rpO) s3 a3) fun u H4 ⟨L4, h4, u', x4, r4, p4, s4, a4⟩ => by
        cases p3
        cases p4
        cases eg : cutG d d2 l u h4 with
        | none => rw [eg] at a4; exact a4.elim
        | some h5 =>
          rw [eg] at a4
          unfold cutG at eg
          split at eg
          · rename_i n m a c
            obtain ⟨ys, g1, eg⟩ := Option.bind_eq_some_iff.mp eg
            obtain ⟨xs, g2, eg⟩ := Option.bind_eq_some_iff.mp eg
            split at eg
            · rename_i z
              obtain ⟨z1, z2, z3, z4⟩ := z
              cases eg
              obtain ⟨pb, ws, e1, e2, w1⟩ := r4.lst (lst?_at g1)
              obtain ⟨pl, vs, e3, e4, w2⟩ := r4.lst (lst?_at g2)
              obtain ⟨i, rfl⟩ := Int.eq_ofNat_of_zero_le z2
              obtain ⟨j, rfl⟩ := Int.eq_ofNat_of_zero_le (Int.le_trans z2 z3)
              simp only [Int.toNat_natCast] at a4
              have pd := (p1.mono (x2.trans (x3.trans x4))).ref e1
              have po := (p2.mono (x3.trans x4)).ref e3
              obtain ⟨x5, r5⟩ := r4.wr e3 e4 (((w2.take i).append w1).append (w2.drop j))
              exact ⟨pl, pb, vs, ws, i, j, po, pd, fun z => z1 (r4.inj _ _ pl (by rw [z]; exact e1) e3), e4, e2, rfl, rfl, by omega, by rw [← w1.length, ← w2.length]; exact szl z4, (a4.mono x5).nx r5 (s4.mono x5)⟩
            · cases eg
          · cases eg⟩⟩⟩⟩
end
end MM

set_option maxHeartbeats 2000000
namespace MM
open PySem PySem.Spec PyProof.Rows L2
section
variable {X : Cx} {W : WX} {pos p apos : Pos} {o e a b : Expr} {es : List Expr} {mo me ma mb : ME} {mas : MA} {k : Nat} {f Ca : Addr} {fd : FuncData} {ps : List Str} {sp : Sp} {ta : TE} {t : TA} {x : Str}
/-! ### v in o, o an instance with __contains__ -/
structure SpcAt (K : PySem.W.Frag) (Ca : Addr) (nm : Str) (f : Addr) : Prop where
  at' : PySem.W.findIn K (.ref Ca) nm = some (some (.ref f))
  fn : PySem.W.isFn K (.ref f) = true
def rInOwn (no : Bool) (Ca : Addr) (sp : Sp) : R2 := fun x y H Q => ∃ b dx fs, y = .ref b ∧ H b = some (.ins Ca dx fs) ∧ sp [y, x] H (fun v H' => ∃ c, v = .bl c ∧ Q (.bl (no != c)) H') (fun _ _ _ => False)
theorem op_inOwn {CX : CXT} (oa : SpcAt X.K Ca "__contains__" f) (F : FnOk X.prog X.w X.K X.mg X.base CX k f fd ps sp) (hr : Room k X.A) (hb : Binds X.K fd ps []) (hx : ∀ σ, PassesAt CX X σ (fun _ _ _ => False)) : OpR X (compareOp .In) (rInOwn false Ca sp) := by
  rintro pins s σ H x y u v Q I rx ry ⟨b, dx, fs, rfl, eb, h⟩
  obtain rfl : v = Value.ref b := ry
  obtain ⟨mA, O, _⟩ := ins_get I.hok eb
  obtain ⟨od, J, _⟩ := O.look
  obtain ⟨m, fr⟩ := I.fr
  refine PySem.W.in_K fr I.ok.mod.kin J oa.at' oa.fn (wpAny_mono (run_fnS (E := fun _ _ _ _ => False) (us := [.ref b, u]) F hr hb (hx σ) I (.cons (show RelV (.ref b) (.ref b) from rfl) (.cons rx .nil)) h) (fun r s' q => ?_) fun _ _ z => z)
  obtain ⟨z, H', I', rz, c, rfl, q⟩ := q
  cases (show r = Value.bool c from rz)
  exact wpAny_pure ⟨.bl c, H', I', rfl, by simpa using q⟩
theorem op_ninOwn {CX : CXT} (oa : SpcAt X.K Ca "__contains__" f) (F : FnOk X.prog X.w X.K X.mg X.base CX k f fd ps sp) (hr : Room k X.A) (hb : Binds X.K fd ps []) (hx : ∀ σ, PassesAt CX X σ (fun _ _ _ => False)) : OpR X (compareOp .NotIn) (rInOwn true Ca sp) := by
  rintro pins s σ H x y u v Q I rx ry ⟨b, dx, fs, rfl, eb, h⟩
  obtain rfl : v = Value.ref b := ry
  obtain ⟨mA, O, _⟩ := ins_get I.hok eb
  obtain ⟨od, J, _⟩ := O.look
  obtain ⟨m, fr⟩ := I.fr
  refine PySem.W.notIn_K fr I.ok.mod.kin J oa.at' oa.fn (wpAny_mono (run_fnS (E := fun _ _ _ _ => False) (us := [.ref b, u]) F hr hb (hx σ) I (.cons (show RelV (.ref b) (.ref b) from rfl) (.cons rx .nil)) h) (fun r s' q => ?_) fun _ _ z => z)
  obtain ⟨z, H', I', rz, c, rfl, q⟩ := q
  cases (show r = Value.bool c from rz)
  exact wpAny_pure ⟨.bl (!c), H', I', rfl, by simpa using q⟩
def opInOwn (no : Bool) (C : Str) (g : List D → MH → R D) : D → D → MH → R D := fun x y h => match insO h y with
  | some (_, C1, _) => if C1 = C then (g [y, x] h).nx.bnd fun d h' => (match d with
    | .bl c => .ok (.bl (no != c)) h'
    | _ => .stuck) else .stuck
  | none => .stuck
theorem opInOwn_ok {K : PySem.W.Frag} {no : Bool} {C : Str} {fl : List Str} {g : List D → MH → R D} (c : ClsT K C Ca fl) : OpM K (rInOwn no Ca (spOf K g)) (opInOwn no C g) := by
  intro L H h dx dy x y Q E r px py a
  unfold opInOwn at a
  split at a
  · rename_i n C1 fs ei
    split at a
    · rename_i z
      subst z
      obtain ⟨ad, ex, Ca1, ws, rfl, e1, e2, w, hC⟩ := insO_of r py ei
      have e := c.at'
      rw [hC] at e
      cases e
      refine ⟨ad, ex, ws, rfl, e2, L, h, [dy, dx], r, .cons py (.cons px .nil), ?_⟩
      refine Ans.imp (Ans.nx (Ans.bind (rp := Rep K) a)) fun v H1 ⟨L1, h1, d, x1, r1, p1, a1⟩ => ?_
      cases d with
      | bl c => exact ⟨c, rep_bl_inv p1, ans_okE r1 rep_bl a1⟩
      | _ => exact a1.elim
    · exact a.elim
  · exact a.elim
/-! ### len(o), o an instance with __len__ -/
def rLenOwn (Ca : Addr) (sp : Sp) : List V → Hp → VK → Prop := fun xs H Q => ∃ b dx fs, xs = [.ref b] ∧ H b = some (.ins Ca dx fs) ∧ sp [.ref b] H (fun v H' => ∃ n : Int, v = .int n ∧ (0 ≤ n ∧ n < 2 ^ 63) ∧ Q (.int n) H') (fun _ _ _ => False)
theorem run_in1 {CX : CXT} {E : L2.St → XK} {pins : List (Addr × Obj)} {σ : L2.St} {H : Hp} {s : Shared} {Q : VK} {us : List Value} {vs : List V} (F : FnOk X.prog X.w X.K X.mg X.base CX k f fd ps sp) (hr : Room (k + 1) X.A) (hb : Binds X.K fd ps []) (hx : PassesAt CX X σ (E σ))
    (I : Inv X pins σ H s) (r : Vals vs us) (h : sp vs H Q (E σ)) : wpAny (model X.prog X.w) X.A.in1 (call (.ref f) us) (EP X pins σ Q) X.xe s := by
  have bd := hb s us I.kIn (by rw [List.append_nil, ← r.length]; exact F.len _ _ _ _ h)
  rw [List.append_nil] at bd
  refine wpAny_call (codeAny_mono (F.run X.A.in1 X.stack s H ⟨us, []⟩ us vs Q (E σ) hr.in1 I.env0.in1 bd r h) fun out s' q => ?_)
  rcases out with er | fl
  · exact hx pins H s er s' I q
  · cases fl <;> first | exact I.after q | exact q.elim
theorem call_lenOwn {CX : CXT} (oa : SpcAt X.K Ca "__len__" f) (F : FnOk X.prog X.w X.K X.mg X.base CX k f fd ps sp) (hr : Room (k + 1) X.A) (hb : Binds X.K fd ps []) (hx : ∀ σ, PassesAt CX X σ (fun _ _ _ => False)) : CallR X (.builtin "len") (rLenOwn Ca sp) := by
  rintro pins s σ H xs us Q I rx ⟨b, dx, fs, rfl, eb, h⟩
  obtain rfl := Vals.ref1 rx
  obtain ⟨mA, O, _⟩ := ins_get I.hok eb
  obtain ⟨od, J, _⟩ := O.look
  obtain ⟨m, fr⟩ := I.fr
  refine PySem.W.len_K fr I.ok.mod.kin J oa.at' oa.fn (wpAny_mono (run_in1 (E := fun _ _ _ _ => False) (us := [.ref b]) F hr hb (hx σ) I (.cons (show RelV (.ref b) (.ref b) from rfl) .nil) h) (fun r s' q => ?_) fun _ _ z => z)
  obtain ⟨z, H', I', rz, n, rfl, hn, q⟩ := q
  obtain ⟨tk, rfl⟩ := rz
  exact ⟨hn, .int n, H', I'.tok _, ⟨_, rfl⟩, q⟩
def fLenOwn (C : Str) (g : List D → MH → R D) (ds : List D) (h : MH) : R D := match ds with
  | [d] => (match insO h d with
    | some (_, C1, _) => if C1 = C then (g [d] h).nx.bnd fun v h' => (match v with
      | .int n => if 0 ≤ n ∧ n < 2 ^ 63 then .ok (.int n) h' else .stuck
      | _ => .stuck) else .stuck
    | none => .stuck)
  | _ => .stuck
theorem fLenOwn_ok {K : PySem.W.Frag} {C : Str} {fl : List Str} {g : List D → MH → R D} (c : ClsT K C Ca fl) : CallM K (rLenOwn Ca (spOf K g)) (fLenOwn C g) := by
  intro L H h ds vs Q E r w a
  unfold fLenOwn at a
  split at a
  · rename_i d
    obtain ⟨v, rfl, q⟩ := w.one
    split at a
    · rename_i n C1 fs ei
      split at a
      · rename_i z
        subst z
        obtain ⟨ad, ex, Ca1, ws, rfl, e1, e2, w', hC⟩ := insO_of r q ei
        have e := c.at'
        rw [hC] at e
        cases e
        refine ⟨ad, ex, ws, rfl, e2, L, h, [d], r, .cons q .nil, ?_⟩
        refine Ans.imp (Ans.nx (Ans.bind (rp := Rep K) a)) fun v H1 ⟨L1, h1, y, x1, r1, p1, a1⟩ => ?_
        cases y with
        | int n =>
          simp only at a1
          by_cases z : 0 ≤ n ∧ n < 2 ^ 63
          · rw [if_pos z] at a1
            exact ⟨n, rep_int_inv p1, z, ans_okE r1 rep_int a1⟩
          · rw [if_neg z] at a1
            exact a1.elim
        | _ => exact a1.elim
      · exact a.elim
    · exact a.elim
  · exact a.elim
/-! ### o.f, a property -/
def mProp (C : Str) (g : List D → MH → R D) (mo : ME) : ME := fun δ h => (mo δ h).bnd fun d h1 => match insO h1 d with
  | some (_, C1, _) => if C1 = C then (g [d] h1).nx else .stuck
  | none => .stuck
theorem pem_prop {C : Str} {pp : Addr} {fl : List Str} {g : List D → MH → R D} (c : ClsT X.K C Ca fl) (hp : PropOf X.K Ca x pp f) (F : FnM X.prog X.w X.K X.mg X.base k f fd ps g) (hb : Binds X.K fd ps []) (hr : Room (k + 1) X.A) (ho : PEM X W o mo)
    (hab : attributeBase o x X.env (eval o X.env) = eval o X.env := by rfl) : PEM X W (.Attribute o x pos) (mProp C g mo) :=
  PE.imp (pe_prop (E := fun _ _ _ => False) (dvs := []) (ds := []) ho c.cls hp F hr hb .nil (fun pins σ H s e s' I c => L2N.passAt (X := X.nox) takes0N σ pins H s e s' I c) hab) fun σ H Q ⟨L, h, δ, r, s, a⟩ => ⟨L, h, δ, r, s, Ans.imp (Ans.bind (rp := Rep X.K) a) fun v H1 ⟨L1, h1, d, x1, r1, p1, a1⟩ => by
    cases ei : insO h1 d with
    | none => simp only [ei] at a1; exact a1.elim
    | some q =>
      obtain ⟨n, C1, fs⟩ := q
      simp only [ei] at a1
      by_cases z : C1 = C
      · rw [if_pos z] at a1
        subst z
        obtain ⟨ad, ex, Ca1, ws, rfl, e1, e2, w, hC⟩ := insO_of r1 p1 ei
        have e := c.at'
        rw [hC] at e
        cases e
        exact ⟨ad, ex, ws, rfl, e2, L1, h1, [d], r1, .cons p1 .nil, Ans.nx a1⟩
      · rw [if_neg z] at a1; exact a1.elim⟩
/-! ### d.pop(k), there -/
def mDPop (mo me : ME) : ME := fun δ h => (mo δ h).bnd fun d h1 => match d with
  | .ref n => (match dic? h1 n with
    | some _ => (me δ h1).bnd fun y h2 => (match dic? h2 n, keyD y with
      | some kvs, some k => (match valD kvs k with
        | some v => .ok v (h2.set n (.dic (kvs.filter fun p => decide (p.1 ≠ k))))
        | none => .stuck)
      | _, _ => .stuck)
    | none => .stuck)
  | _ => .stuck
theorem repK_drop {K : PySem.W.Frag} {L H} {k : Key} : ∀ {kvs : List (Key × D)} {ws : List (Key × V)}, RepK K L H kvs ws → RepK K L H (kvs.filter fun p => decide (p.1 ≠ k)) (dropK ws k)
  | [], _, w => by cases w; rfl
  | p :: r, _, ⟨u, us, e, q, w⟩ => by
    subst e
    have i := repK_drop (k := k) w
    by_cases hk : p.1 = k
    · rw [List.filter_cons_of_neg (by simp [hk])]
      show RepK K L H _ (List.filter _ _)
      rw [List.filter_cons_of_neg (by simp [hk])]
      exact i
    · rw [List.filter_cons_of_pos (by simp [hk])]
      show RepK K L H _ (List.filter _ _)
      rw [List.filter_cons_of_pos (by simp [hk])]
      exact ⟨u, _, rfl, q, i⟩
theorem pem_dpop {cpos : Pos} (ho : PEM X W o mo) (he : PEM X W e me) (m : M1 X o "pop" apos e cpos) : PEM X W (.Call (.Attribute o "pop" apos) [e] [] cpos) (mDPop mo me) :=
  PE.imp (pe_dpop1 ho he m) fun σ H Q ⟨L, h, δ, r, s, a⟩ => ⟨L, h, δ, r, s, Ans.imp (Ans.bind (rp := Rep X.K) a) fun v H1 ⟨L1, h1, d, x1, r1, p1, a1⟩ => by
    cases d with
    | ref n =>
      simp only at a1
      cases e1 : dic? h1 n with
      | none => simp only [e1] at a1; exact a1.elim
      | some kvs0 =>
        simp only [e1] at a1
        obtain ⟨ad, ws0, f1, f2, w0⟩ := r1.dic (dic?_at e1)
        refine ⟨ad, p1.ref f1, .inl ⟨ws0, .inl f2⟩, L1, h1, δ, r1, s.mono x1, Ans.imp (Ans.bind (rp := Rep X.K) a1) fun y H2 ⟨L2, h2, dy, x2, r2, p2, a2⟩ => ?_⟩
        cases e2 : dic? h2 n with
        | none => simp only [e2] at a2; exact a2.elim
        | some kvs =>
          cases e3 : keyD dy with
          | none => simp only [e2, e3] at a2; exact a2.elim
          | some k =>
            simp only [e2, e3] at a2
            cases e4 : valD kvs k with
            | none => simp only [e4] at a2; exact a2.elim
            | some x =>
              simp only [e4] at a2
              obtain ⟨ad2, ws, g1, g2, w⟩ := r2.dic (dic?_at e2)
              have : ad2 = ad := by
                have z := (p1.mono x2).ref g1
                have z2 := p1.ref f1
                rw [z2] at z; cases z; rfl
              subst this
              obtain ⟨u, e5, qu⟩ := (show ∃ u, valV ws k = some u ∧ Rep X.K L2 H2 x u by
                have z := repO_K (k := k) w
                rw [e4] at z
                exact z)
              have nf : ∀ o u, H2 ad2 ≠ some (.frz o u) := fun o u z => by rw [g2] at z; cases z
              obtain ⟨x3, r3⟩ := r2.write (m := .dic (kvs.filter fun p => decide (p.1 ≠ k))) g1 nf (o := .dK (dropK ws k)) ⟨ad2, dropK ws k, rfl, upd_same, (repK_drop w).mono (ext_write g1 nf)⟩
              exact ⟨ws, k, u, g2, keyD_ok p2 e3, e5, ans_of ⟨x3, r3, qu.mono x3⟩ a2⟩
    | _ => exact a1.elim⟩
/-! ### list(range(a, b)) -/
def fLRg (x y : D) (h : MH) : R D := match x, y with
  | .int i, .int j => if (0 ≤ i ∧ i ≤ 16777216) ∧ 0 ≤ j ∧ j ≤ 16777216 then .ok (.rol ((List.range (j - i).toNat).map fun (n : Nat) => D.int (i + n))) h else .stuck
  | _, _ => .stuck
def mLRg (ma mb : ME) : ME := fun δ h => (ma δ h).bnd fun x h1 => (mb δ h1).bnd fun y h2 => fLRg x y h2
theorem pem_listRg {p2 pos2 : Pos} (hc : X.calm = true) (hg : Gl X "list") (hm : X.mg "list" = none) (hg2 : Gl X "range") (hm2 : X.mg "range" = none) (ha : PEM X W a ma) (hb : PEM X W b mb)
    (na : starEach [.Call (.Name "range" p2) [a, b] [] pos2] X.env = (false, eval (.Call (.Name "range" p2) [a, b] [] pos2) X.env) :: starEach [] X.env := by rfl) (nb : starEach [a, b] X.env = (false, eval a X.env) :: starEach [b] X.env := by rfl)
    (nc : starEach [b] X.env = (false, eval b X.env) :: starEach [] X.env := by rfl) (nh : (backTo pos2 (starEach [b] X.env)).any (·.1) = false := by rfl) : PEM X W (.Call (.Name "list" p) [.Call (.Name "range" p2) [a, b] [] pos2] [] pos) (mLRg ma mb) :=
  PE.imp (pe_listRg hc hg hm (prg_2 hg2 hm2 ha hb nb nc nh) na) fun σ H Q ⟨L, h, δ, r, s, a⟩ => ⟨L, h, δ, r, s, Ans.imp (Ans.bind (rp := Rep X.K) a) fun v H1 ⟨L1, h1, d, x1, r1, p1, a1⟩ => ⟨L1, h1, δ, r1, s.mono x1, Ans.imp (Ans.bind (rp := Rep X.K) a1) fun u H2 ⟨L2, h2, e, x2, r2, p2, a2⟩ => by
    unfold fLRg at a2
    split at a2
    · rename_i i j _
      split at a2
      · rename_i z
        refine ⟨i, j, by rw [rep_int_inv (p1.mono x2)], by rw [rep_int_inv p2], RgOk.of_le z.1.1 z.2.2 z.1.2 z.2.1, fun q hq => ?_⟩
        have w : ∀ (ls : List Nat), RepL X.K L2 H2 (ls.map fun (n : Nat) => D.int (i + n)) (ls.map fun (n : Nat) => V.int (i + n)) := fun ls => by
          induction ls with
          | nil => exact .nil
          | cons n ls ih => exact .cons rep_int ih
        exact ans_of (rep_rol r2 hq (w _)) a2
      · exact a2.elim
    · exact a2.elim⟩⟩
/-! ### what no run reaches -/
def mStuckE : ME := fun _ _ => .stuck
theorem pem_stuck : PEM X W e mStuckE := ⟨fun pins s σ H Q I ⟨L, h, δ, r, s', a⟩ => a.elim⟩
end
/-- where a property's getter stands -/
structure PrpAt (K : PySem.W.Frag) (x qn : Str) (st : Stmt) (f : Addr) (fd : FuncData) (ps : List Str) : Prop where
  fn : Fun K x qn st f fd
  bi : Binds K fd ps []
section
variable {δ : MS} {h h' : MH} {m mo a b : ME} {C : Str} {g : List D → MH → R D} {n k : Nat} {fs : List (Str × D)} {ds es : List D} {x d : D}
@[simp] theorem mProp_eq : mProp C g mo δ h = (mo δ h).bnd fun d h1 => match insO h1 d with | some (_, C1, _) => if C1 = C then (g [d] h1).nx else .stuck | none => .stuck := rfl
@[simp] theorem mLRg_eq : mLRg a b δ h = (a δ h).bnd fun x h1 => (b δ h1).bnd fun y h2 => fLRg x y h2 := rfl
theorem fLRg_ok {i j : Int} (z : (0 ≤ i ∧ i ≤ 16777216) ∧ 0 ≤ j ∧ j ≤ 16777216) : fLRg (.int i) (.int j) h = .ok (.rol ((List.range (j - i).toNat).map fun (n : Nat) => D.int (i + n))) h := if_pos z
@[simp] theorem nx_ok {α : Type} {y : α} : (R.ok y h : R α).nx = .ok y h := rfl
theorem opRep_at {z : Int} (e : lst? h n = some ds) (hz : -(2 ^ 63 : Int) ≤ z ∧ z < 2 ^ 63 ∧ ds.length * z.toNat ≤ 16777216) : opRep (.ref n) (.int z) h = .ok (.ref h.length) (h ++ [.lst (List.replicate z.toNat ds).flatten]) := by
  unfold opRep
  simp only [e, if_pos hz]
theorem cutG_at {i j : Nat} (e1 : lst? h n = some ds) (e2 : lst? h k = some es) (ne : n ≠ k) (hij : i ≤ j) (hz : es.length + ds.length ≤ 16777216) : cutG (.ref n) (.ref k) (some (i : Int)) (some (j : Int)) h = some (h.set k (.lst (es.take i ++ ds ++ es.drop j))) := by
  unfold cutG
  simp only [e1, e2, Option.bind_some]
  rw [if_pos ⟨ne, by omega, by omega, hz⟩]
  simp
end
end MM

namespace L2
open PySem PySem.Spec PyProof.Rows GenW
section
variable {X : Cx}
/-! ### for, in a generator's body -/
def tGFor (wi : TI) (g : TG) (tb : TGn) : TGn := fun D ys σ H => wi σ H fun J H1 => ∃ W : Nat → Nat → List V → St → Hp → Prop, (∃ m, W 0 m ys σ H1) ∧ ∀ i m ys σ H, W i m ys σ H →
  (J.stop i H ∧ D.nx ys σ H) ∨ (J.go i H ∧ ∃ N : List V → St → Hp → Prop, (∀ ys' σ' H', N ys' σ' H' → ∃ m', m' < m ∧ W (i + 1) m' ys' σ' H') ∧ ∀ x H', J.yld i H x H' → g x σ H' fun σ2 H2 => tb { D with nx := N, ct := N, bk := D.nx } ys σ2 H2)
/-- the frame that waits for a loop -/
theorem gs_for {tg iter : Expr} {body : List Stmt} {wi : TI} {g : TG} {tb : TGn} {pos : Pos} (hp : PassesOwn (model X.prog X.w) X.A X.env X.xe) (hc : X.calm = true) (hi : PI X tg iter wi) (hg : PG X tg g) (hb : GSs X body tb)
    (hs : ∀ x, foldedSetIterable iter X.env x = pure x := by intro _; rfl) : GS X (.For tg iter body [] pos) (tGFor wi g tb) := by
  refine ⟨fun A S ip R n ys s₀ c fs K J gd lv s σ H D gc hn k hI ht => ?_⟩
  obtain ⟨acc, cc, rv, I⟩ := hI
  rw [exec_For]
  refine seg_bind_wrap (wpAny_standAt ?_)
  refine seg_bind_wrap ?_
  rw [gc.over]
  refine wpAny_mono (hi.run _ s σ H _ I ht) (fun v s1 h1 => ?_) fun x s' hx => k.exc n s₀ x s' hx
  refine seg_bind_wrap (wpAny_of_eq (hs v) ?_)
  refine seg_bind_wrap (wpAny_standAt ?_)
  refine seg_bind_wrap (wpAny_holding ?_)
  rw [gc.over]
  refine wpAny_mono h1 (fun itv s2 h2 => ?_) fun x s' hx => k.exc n s₀ x s' hx
  obtain ⟨it, fp, tn, It, H2, e, I2, T, st2, f2, W, ⟨m0, w0⟩, turn⟩ := h2
  subst e
  refine seg_call fun p => ?_
  have stat : ∀ {acc' : Array Value} {c' : Nat} {H' : Hp}, (∀ b ∈ fp, H' b = none) → ∀ b ∈ fp, FpOk X ((S, lstObj acc' c') :: ip) H' b := fun {acc' c' H'} hn' b hb => by
    obtain ⟨_, q1, q2, q3, q4, q5⟩ := f2 b hb
    refine ⟨hn' b hb, q1, q2, q3, q4, fun p hp => ?_⟩
    rcases List.mem_append.mp hp with z | z
    · exact q5 p (List.mem_append_left _ z)
    · rcases List.mem_cons.mp z with z | z
      · rw [z]; exact q5 (S, lstObj acc cc) (List.mem_append_right _ List.mem_cons_self)
      · exact q5 p (List.mem_append_right _ (List.mem_cons_of_mem _ z))
  have fpS : ∀ b ∈ fp, b ≠ S := fun b hb z => (f2 b hb).2.2.2.2.2 (S, lstObj acc cc) (List.mem_append_right _ List.mem_cons_self) z.symm
  have gl := fun (kk : Result → Sem PySem.Fin) => gc_loop (k := kk) (c' := .forLoop tg (.ref it) body [] X.env) (l := lv []) (kp := []) (p := p) gc rfl rfl
  have gb := fun (kk : Result → Sem PySem.Fin) => gc_loop (k := kk) (c' := .block [] X.env) (l := lv []) (kp := []) (p := p) gc rfl rfl
  have loop : ∀ (m i n : Nat) (ys : List V) (s₀ s : Shared) (σ : St) (H : Hp), n + ys.length = sizeLine → W i m ys σ H → GI X S ip ys σ H s → tn i s.heap → (∀ b ∈ fp, H b = none) →
      Seg (model X.prog X.w) A R (GY X S) n s₀ (.forLoop tg (.ref it) body [] X.env) ((model X.prog X.w).den (.forLoop tg (.ref it) body [] X.env))
        (.ret (fun r => ((match r with | .ok f => (.pure f : Sem Flow) | .error e => .raise e).onRaise (cameBack X.env)).wrap K J gd lv) none (gd false) (lv []) c p [] :: fs) s := by
    intro m
    induction m using Nat.strongRecOn with
    | ind m ih =>
      intro i n ys s₀ s σ H hn w hI st fr
      have ee : ∀ (c' : Code) (hw : c'.weight = 0) (hu : c'.cUnits = 0) (n : Nat) (s₀ : Shared) (x : Value) (s' : Shared), X.xe x s' → Seg (model X.prog X.w) A R (GY X S) n s₀ c'
          (((do noteFrame x X.env; theTreesLotGoes x : Sem Unit).bind fun _ => .raise x) : Sem PySem.Fin)
          (.ret (fun r => ((match r with | .ok f => (.pure f : Sem Flow) | .error e => .raise e).onRaise (cameBack X.env)).wrap K J gd lv) none (gd false) (lv []) c p [] :: fs) s' := fun c' hw hu n s₀ x s' hx => by
        rw [Sem.bind_eq_wrap]
        refine seg_wrap ?_
        rw [(gc_loop (k := _) (c' := c') (l := lv []) (kp := []) (p := p) gc hw hu).over]
        refine wpAny_bind (wpAny_mono (hp x s' hx) (fun _ s'' hcb => wpAny_theTreesLotGoes ?_) fun y s'' hcb => ?_)
        · exact seg_leaf (.error x) (seg_cameBack gc k hcb)
        · exact seg_leaf (.error y) (seg_cameBack gc k hcb)
      show Seg _ A R (GY X S) n s₀ _ ((forTurn tg (.ref it) body [] X.env).onRaise (fun x => do noteFrame x X.env; theTreesLotGoes x)) _ s
      rw [Sem.onRaise_eq_wrap]
      unfold forTurn
      refine seg_bind_wrap (wpAny_standAt ?_)
      refine seg_bind_wrap (wpAny_onRaise ?_)
      rw [(gl _).over]
      obtain ⟨acc1, cc1, r1, I1⟩ := hI
      rcases turn i m ys σ H w with ⟨stop, qn⟩ | ⟨go, N, hN, step⟩
      · refine wpAny_mono (T.done X rfl rfl rfl hc i _ s σ H X.xe I1 (stat fr) st stop) (fun r s4 ⟨hr, I4⟩ => ?_) fun x s' hx => wpAny_standAt (ee _ rfl rfl n s₀ x s' hx)
        subst hr
        refine seg_again (c' := .block [] X.env) rfl ?_
        show Seg _ A R (GY X S) n s₀ _ ((execs [] X.env).onRaise (fun x => do noteFrame x X.env; theTreesLotGoes x) >>= fun f => pure (Fin.done f)) _ s4
        rw [Sem.onRaise_eq_wrap, Sem.bind_eq_wrap', Sem.wrap_wrap]
        refine seg_execs_nil ?_
        exact seg_leaf (.ok .next) (k.ok n ys s₀ s4 .next hn ⟨σ, H, ⟨acc1, cc1, r1, I4⟩, qn⟩)
      · refine wpAny_mono (T.item X rfl rfl rfl hc i _ s σ H X.xe I1 (stat fr) st go) (fun r s4 ⟨u, hr, h4⟩ => ?_) fun x s' hx => wpAny_standAt (ee _ rfl rfl n s₀ x s' hx)
        subst hr
        refine seg_bind_wrap ?_
        rw [(gl _).over]
        refine wpAny_mono h4 (fun _ s5 ⟨x, H5, I5, r5, y5, st5, fr5⟩ => ?_) fun x s' hx => ee _ rfl rfl n s₀ x s' hx
        have I5' := I5.pinned (stat fr5) (T.obj _ _ st5)
        refine seg_bind_wrap ?_
        rw [(gl _).over]
        refine wpAny_mono (hg.run _ s5 σ H5 x u _ I5' r5 (step x H5 y5)) (fun _ s6 ⟨σ6, H6, I6, q6⟩ => ?_) fun x s' hx => ee _ rfl rfl n s₀ x s' hx
        rw [Sem.bind_eq_wrap', Sem.wrap_wrap]
        have pinned : ∀ {ys' : List V} {σ7 : St} {H7 : Hp} {s7 : Shared}, GI X S (ip ++ pinsAt fp s5.heap) ys' σ7 H7 s7 → GI X S ip ys' σ7 H7 s7 ∧ tn (i + 1) s7.heap ∧ ∀ b ∈ fp, H7 b = none := fun {ys' σ7 H7 s7} h7 => by
          obtain ⟨acc7, cc7, r7, I7⟩ := h7
          have I7' : Inv X (((S, lstObj acc7 cc7) :: ip) ++ pinsAt fp s5.heap) σ7 H7 s7 := I7
          refine ⟨⟨acc7, cc7, r7, I7'.unpinned⟩, T.keep _ _ _ st5 fun b hb o e => (I7'.pin (b, o) (List.mem_append_right _ (List.mem_append_right _ (mem_pinsAt hb e)))).1, fun b hb => ?_⟩
          obtain ⟨o, e, _⟩ := T.obj _ _ st5 b hb
          exact (I7'.pin (b, o) (List.mem_append_right _ (List.mem_append_right _ (mem_pinsAt hb e)))).2.1
        have gc' : GC X S (ip ++ pinsAt fp s5.heap) A (.forLoop tg (.ref it) body [] X.env) (.ret (fun r => ((match r with | .ok f => (.pure f : Sem Flow) | .error e => .raise e).onRaise (cameBack X.env)).wrap K J gd lv) none (gd false) (lv []) c p [] :: fs) id :=
          ⟨gc.pn, fun p hp => (List.mem_append.mp hp).elim (gc.ip p) fun z => fpS p.1 (of_pinsAt z).1, gc.apart, (gl _).over, (gl _).split, (gl _).guard, rfl⟩
        refine hb.run A S (ip ++ pinsAt fp s5.heap) R n ys s₀ _ _ _ _ id id s6 σ6 H6 { D with nx := N, ct := N, bk := D.nx } gc' hn ⟨fun n' ys' s₀' s7 f hn' hs' => ?_, fun n' s₀' x s7 hx => ee _ rfl rfl n' s₀' x s7 hx⟩ ⟨acc1, cc1, r1, I6⟩ q6
        cases f with
        | next =>
          obtain ⟨σ7, H7, I7, n7⟩ := hs'
          obtain ⟨m', hm, w7⟩ := hN ys' σ7 H7 n7
          obtain ⟨g1, g2, g3⟩ := pinned I7
          exact seg_again rfl (ih m' hm (i + 1) n' ys' s₀' s7 σ7 H7 hn' w7 g1 g2 g3)
        | cont =>
          obtain ⟨σ7, H7, I7, n7⟩ := hs'
          obtain ⟨m', hm, w7⟩ := hN ys' σ7 H7 n7
          obtain ⟨g1, g2, g3⟩ := pinned I7
          exact seg_again rfl (ih m' hm (i + 1) n' ys' s₀' s7 σ7 H7 hn' w7 g1 g2 g3)
        | brk =>
          obtain ⟨σ7, H7, I7, q7⟩ := hs'
          exact seg_leaf (.ok .next) (k.ok n' ys' s₀' s7 .next hn' ⟨σ7, H7, (pinned I7).1, q7⟩)
        | ret v =>
          obtain ⟨x7, σ7, H7, I7, r7, q7⟩ := hs'
          exact seg_leaf (.ok (.ret v)) (k.ok n' ys' s₀' s7 (.ret v) hn' ⟨x7, σ7, H7, (pinned I7).1, r7, q7⟩)
  exact loop m0 0 n ys s₀ s2 σ H2 hn w0 ⟨acc, cc, rv, I2⟩ st2 fun b hb => (f2 b hb).1
end
end L2

namespace L2
open PySem PySem.Spec PyProof.Rows
/-- the keys that are drawn out of a dict of int keys -/
theorem drawn_ints {ks : List Int} {vs : List (Key × Value)} {acc : Array Value} (hk : vs.map (·.1) = ks.map Sum.inl) (hz : acc.size = vs.length) (ha : ∀ (j : Nat) (v : Value), acc[j]? = some v → ∃ k x, vs[j]? = some (k, x) ∧ keyIs k v = true) : IntsAre acc.toList ks := by
  have lk : ks.length = vs.length := by simpa using (congrArg List.length hk).symm
  refine ints_each (by rw [Array.length_toList, hz, lk]) fun j v e => ?_
  obtain ⟨k, x, e1, e2⟩ := ha j v (by rw [← Array.getElem?_toList]; exact e)
  have e3 : (ks.map (Sum.inl (β := Str)))[j]? = some k := by rw [← hk, List.getElem?_map, e1]; rfl
  obtain ⟨y, e4, rfl⟩ := List.getElem?_map.symm.trans e3 |> Option.map_eq_some_iff.mp
  rcases keyIs_shape e2 with ⟨i, t, ek, rfl⟩ | ⟨z, t, ek, _⟩
  · cases ek; exact ⟨_, t, e4, rfl⟩
  · cases ek
variable {X : Cx}
/-- sorted(d), however many int keys it has -/
theorem call_sortedDIx (hcalm : X.calm = true) : CallR X (.builtin "sorted") (fun xs H Q => ∃ (a : Addr) (kvs : List (Key × V)) (ks : List Int), xs = [.ref a] ∧ Rd H a (.dK kvs) ∧ kvs.map (·.1) = ks.map Sum.inl ∧ ks.length ≤ 1000000 ∧
    ∀ (ys : List Int) (p : Addr), ys.Perm ks → ys.Pairwise (· ≤ ·) → H p = none → Q (.ref p) (upd H p (.lst (ys.map V.int)))) := by
  rintro pins s σ H xs us Q I rx ⟨a, kvs, ks, rfl, hd, hks, hz, q⟩
  obtain rfl := Vals.ref1 rx
  obtain ⟨_, lo, vs, rel, dd⟩ := dk_rd I.hok hd
  obtain ⟨ep, hat⟩ := dd.dictAt
  have keys : vs.map (·.1) = ks.map Sum.inl := rel.keys.symm.trans hks
  have lk : vs.length = ks.length := by simpa using congrArg List.length keys
  have small : ks.length ≤ sizeLine := by rw [sizeLine_eq]; omega
  refine Calls.call_function_entry kind_sorted plain_sorted entry_sorted (args_sorted1 _) ?_
  unfold Builtin.«sorted»
  refine wpAny_bind (m := checkCount "sorted" 1 1 _) (wpAny_pure (wpAny_bind (PySem.W.kdu_collect (A := X.A.in1) (PySem.W.kdl_dict (knd := mixKind X.prog X.w) (kvs := vs) (ep := ep) lo) (I.ok.hd hcalm) hat (by omega) ?_)))
  rintro h1 tk acc kept ⟨z1, z2⟩
  have hI := drawn_ints keys z1 z2
  have al : acc.toList.length = ks.length := by rw [Array.length_toList, z1, lk]
  have J : Inv X pins σ H { s with heap := h1, toks := tk } := I.kept kept
  refine wpAny_bind (wpAny_newList ?_ (by omega))
  have new : (h1.push (seqObj "list" acc.toList.toArray 0)).get? h1.objs.size = some (seqObj "list" acc.toList.toArray 0) := Heap.get?_push_size _ rfl
  show wpAny _ _ _ _ _ { s with heap := h1.push (seqObj "list" acc.toList.toArray 0), toks := tk }
  refine wpAny_bind (wpAny_holding (wpAny_call_entry slot_list_sort ⟨_, new, rfl⟩ entry_list_sort
    (SrtO.list_sort_ord (s := { s with heap := h1.push (seqObj "list" acc.toList.toArray 0), toks := tk }) SrtO.swo_int new (by omega) (fun h2 => SrtO.ints_sortable hI h2) fun out hs hb => ⟨_, rfl, ?_⟩) (args_list_sort _)))
  obtain ⟨k1, k2, k3⟩ := SrtO.ints_out hI hs hb
  obtain ⟨e', at'⟩ := sortedHeap_at (vs := acc.toList) (out := out.toArray) new
  have fresh : H h1.objs.size = none := J.hok.fresh (Nat.le_refl _)
  refine wpAny_pure ⟨_, rfl, .ref h1.objs.size, upd H h1.objs.size (.lst ((out.map SrtO.iv).map V.int)), J.laid (t' := tk) (fun b u e => ?_) (Nat.le_refl _) ⟨by rw [List.length_map, k2.length_eq]; exact small, out, e', vals_of_ints k1, at'⟩, rfl, q _ _ k2 k3 fresh⟩
  have old : b < h1.objs.size := Heap.lt_size e
  exact (sortedHeap_old (Nat.ne_of_lt old) (by rw [size_push']; exact Nat.lt_succ_of_lt old)).trans (Heap.get?_push_of_some _ e)
end L2

namespace MM
open PySem PySem.Spec PyProof.Rows L2
/-! ### sorted(d): a dict whose keys are ints -/
def leZ (a b : Int) : Bool := decide (a ≤ b)
def intKs : List (Key × D) → Option (List Int)
  | [] => some []
  | (.inl i, _) :: r => (intKs r).map fun l => i :: l
  | (.inr _, _) :: _ => none
theorem intKs_ok {K L H} : ∀ {kvs : List (Key × D)} {l : List Int} {ws : List (Key × V)}, intKs kvs = some l → RepK K L H kvs ws → ws.map (·.1) = l.map Sum.inl
  | [], _, _, e, w => by
    cases e
    have : _ = [] := w
    rw [this]; rfl
  | (.inl i, d) :: r, _, _, e, w => by
    obtain ⟨l, e1, rfl⟩ := Option.map_eq_some_iff.mp (show (intKs r).map (fun l => i :: l) = some _ from e)
    obtain ⟨v, vs, rfl, _, w2⟩ := w
    simp only [List.map_cons]
    rw [intKs_ok e1 w2]
  | (.inr _, _) :: _, _, _, e, _ => by cases e
theorem sortI_is {ks ys : List Int} (hp : ys.Perm ks) (hs : ys.Pairwise (· ≤ ·)) : ys = ks.mergeSort leZ :=
  List.Perm.eq_of_pairwise (le := fun a b => a ≤ b) (fun a b _ _ h1 h2 => Int.le_antisymm h1 h2) hs
    ((List.pairwise_mergeSort (le := leZ) (fun a b c h1 h2 => by unfold leZ at *; simp at *; omega) (fun a b => by unfold leZ; simp; omega) ks).imp fun h => by unfold leZ at h; simpa using h) (hp.trans (List.mergeSort_perm ks leZ).symm)
def fSortK (ds : List D) (h : MH) : R D := match ds with
  | [.ref n] => (match dic? h n with
    | some kvs => (match intKs kvs with
      | some l => if l.length ≤ 1000000 then .ok (.rol ((l.mergeSort leZ).map D.int)) h else .stuck
      | none => .stuck)
    | none => .stuck)
  | _ => .stuck
theorem fSortK_ok {K : PySem.W.Frag} : CallM K (fun xs H Q => ∃ (a : Addr) (kvs : List (Key × V)) (ks : List Int), xs = [.ref a] ∧ Rd H a (.dK kvs) ∧ kvs.map (·.1) = ks.map Sum.inl ∧ ks.length ≤ 1000000 ∧
    ∀ (ys : List Int) (p : Addr), ys.Perm ks → ys.Pairwise (· ≤ ·) → H p = none → Q (.ref p) (upd H p (.lst (ys.map V.int)))) fSortK := by
  intro L H h ds vs Q E r w a
  unfold fSortK at a
  split at a
  · rename_i n
    obtain ⟨v, rfl, q⟩ := w.one
    split at a
    · rename_i kvs ed
      split at a
      · rename_i l el
        split at a
        · rename_i hz
          obtain ⟨p, ws, z1, z2, w2⟩ := r.dic (dic?_at ed)
          obtain ⟨a', rfl, z⟩ := (show ∃ a, v = .ref a ∧ (L[n]? = some (some a) ∨ L[n]? = some none) by unfold Rep at q; exact q)
          have ea : a' = p := by
            rcases z with z | z <;> rw [z1] at z
            · cases z; rfl
            · cases z
          subst ea
          refine ⟨a', ws, l, rfl, .inl z2, intKs_ok el w2, hz, fun ys p' hp hs hn => ?_⟩
          rw [sortI_is hp hs]
          have wi : ∀ (l : List Int), RepL K L H (l.map D.int) (l.map V.int) := fun l => by
            induction l with
            | nil => exact .nil
            | cons n ls ih => exact .cons rep_int ih
          exact ans_of (rep_rol r hn (wi _)) a
        · exact a.elim
      · exact a.elim
    · exact a.elim
  · exact a.elim
end MM

namespace MM
open PySem PySem.Spec PyProof.Rows L2
/-- room in a suite, too -/
theorem _root_.L2H.RoomH.units {k : Nat} {A : Around} (r : L2H.RoomH k A) : A.units + 64 < cLine := Nat.lt_of_le_of_lt (Nat.add_le_add_left (by omega) _) (Nat.lt_of_le_of_lt (Nat.le_of_eq (Nat.add_assoc A.units (16 * k) 200).symm) r.un)
/-! ### a generator method: for x in ..: yield x -/
abbrev MGd := List D → MH → R Src
/-- what it hands out, of a heap that it leaves as it is -/
def spG (K : PySem.W.Frag) (n : Nat) (g : MGd) : SpG := fun vs H Q E => ∃ L h ds S, Rel K L H h ∧ RepL K L H ds vs ∧ ds.length = n ∧ g ds h = .ok S h ∧ S.g h ∧ S.ds.length ≤ sizeLine ∧ ∀ L' H' zs, Ext L H L' H' → Rel K L' H' h → RepL K L' H' S.ds zs → Q zs H'
def mGen (N : Nat) (mi : MI) : MGd := fun ds h => mi (mStart N ds) h
section
variable {P : Program} {w : World} {K : PySem.W.Frag} {mg : Str → Option Value} {base : Heap}
theorem gfnM_for {x qn v : Str} {st : Stmt} {f : Addr} {fd : FuncData} {N ps : List Str} {k i : Nat} {mi : MI} {iter : Expr} {p1 p2 p3 p4 p5 : Pos} (F : Fun K x qn st f fd) (S : GScope N ps (defScope st))
    (hb : defBody st = [.For (.Name v p1) iter [.Expr (.Yield (some (.Name v p2)) p3) p4] [] p5]) (hN : N[i]? = some v)
    (hi : ∀ (cdv : Value) (A : Around) (outer : List Env) (s : Shared) (H : Hp) (E : XK) (pn : List (Addr × Obj)), Room k (A.deeper (envOfC qn (defScope st) s.heap.objs.size f cdv)) →
      PIM (gcxOf P w K mg base N qn (defScope st) f cdv A outer s H E pn) (fun c d _ H => E c d H) (.Name v p1) iter mi ∧
      (∀ x, foldedSetIterable iter (gcxOf P w K mg base N qn (defScope st) f cdv A outer s H E pn).env x = pure x) ∧
      PG (gcxOf P w K mg base N qn (defScope st) f cdv A outer s H E pn) (.Name v p1) (gName i) ∧
      PEM (gcxOf P w K mg base N qn (defScope st) f cdv A outer s H E pn) (fun c d _ H => E c d H) (.Name v p2) (mVar i) ∧ interactive (gcxOf P w K mg base N qn (defScope st) f cdv A outer s H E pn).env = false) :
    GFn P w K mg base (k + 1) f fd ps (spG K ps.length (mGen N.length mi)) := by
  obtain ⟨oc, od, kV, doc, pm, an, cdv, ct, osl, rfl, lk, hcd⟩ := F.ex
  refine gfn_of lk hcd S (fun vs H Q E ⟨L, h, ds, Sr, r, q, hl, _⟩ => by rw [← q.length]; exact hl) fun A outer s H vs Q E pn hr ⟨L, h, ds, Sr, r, q, hl, eg, hg, hz, hq⟩ => ?_
  obtain ⟨h1, h2, h3, h4, h5⟩ := hi cdv A outer s H E pn hr
  rw [hb]
  refine ⟨_, gss_cons (gs_for owns_gcx rfl h1 h3 (gss_cons (gs_yield h4 S.co h5) gss_nil) h2) gss_nil, ?_⟩
  have sl : i < N.length := (List.getElem?_eq_some_iff.mp hN).1
  have ml : (mStart N.length ds).length = N.length := by
    have : ps.length ≤ N.length := by have := congrArg List.length S.pre; rw [List.length_take] at this; omega
    unfold mStart
    simp; omega
  refine ⟨L, h, mStart N.length ds, r, repS_start q, ?_⟩
  rw [show mi (mStart N.length ds) h = .ok Sr h from eg]
  intro L1 H1 J x1 r1 tr
  refine ⟨fun t m ys σ' H' => ∃ L' δ', Ext L1 H1 L' H' ∧ Rel K L' H' h ∧ t ≤ Sr.ds.length ∧ m = Sr.ds.length - t ∧ RepL K L' H' (Sr.ds.take t) ys ∧ RepS K L' H' δ' σ' ∧ δ'.length = N.length,
    ⟨Sr.ds.length, L1, mStart N.length ds, Ext.refl _ _, r1, Nat.zero_le _, rfl, .nil, (repS_start q).mono x1, ml⟩, ?_⟩
  rintro t m ys σ' H' ⟨L', δ', e', r', ht, rfl, rl, rs, dl⟩
  by_cases hlt : t < Sr.ds.length
  · refine .inr ⟨tr.go L' H' h t e' r' hg hlt, fun ys' σ2 H2 => ∃ L2 δ2, Ext L1 H1 L2 H2 ∧ Rel K L2 H2 h ∧ RepL K L2 H2 (Sr.ds.take (t + 1)) ys' ∧ RepS K L2 H2 δ2 σ2 ∧ δ2.length = N.length,
      fun ys' σ2 H2 ⟨L2, δ2, z1, z2, z3, z4, z5⟩ => ⟨Sr.ds.length - (t + 1), by omega, L2, δ2, z1, z2, hlt, rfl, z3, z4, z5⟩, fun x H'' hy => ?_⟩
    obtain ⟨x2, r2, d, hd, pd⟩ := tr.yld L' H' h t x H'' e' r' hg hlt hy
    have yl : ys.length = t := by rw [← rl.length, List.length_take]; omega
    refine ⟨by omega, L', h, δ'.set i (some d), r2, (rs.mono x2).set pd, ?_⟩
    rw [mVar_eq (d := d) (by rw [List.getElem?_set_self (by omega)])]
    intro L3 H3 u x3 r3 p3
    refine ⟨L3, δ'.set i (some d), (e'.trans x2).trans x3, r3, ?_, ((rs.mono x2).set pd).mono x3, by rw [List.length_set, dl]⟩
    have et : Sr.ds.take (t + 1) = Sr.ds.take t ++ [d] := by rw [List.take_add_one, hd]; rfl
    rw [et]
    exact (rl.mono (x2.trans x3)).append (.cons p3 .nil)
  · have : t = Sr.ds.length := by omega
    subst this
    rw [List.take_length] at rl
    exact .inl ⟨tr.stop L' H' h e' r' hg, hq L' H' ys (x1.trans e') r' rl⟩
end
/-! ### list(o.m()) -/
open Classical in
noncomputable def mListG (C m : Str) (g : MGd) (mo : ME) : ME := fun δ h => (mo δ h).bnd fun d h1 => if isI C m d h1 = true then (match g [d] h1 with
  | .ok S h2 => if h2 = h1 ∧ S.g h1 ∧ S.ds.length ≤ 16777216 then .ok (.rol S.ds) h1 else .stuck
  | _ => .stuck) else .stuck
section
variable {X : Cx} {W : WX} {o : Expr} {mo : ME} {k : Nat} {f Ca : Addr} {fd : FuncData} {C m qn nm : Str} {fl : List Str} {st : Stmt} {g : MGd} {p pos pos' apos : Pos}
theorem pem_listG (c : ClsT X.K C Ca fl) (F : GFn X.prog X.w X.K X.mg X.base k f fd ["self"] (spG X.K 1 g)) (DA : MthAt X.K Ca m qn st f fd ["self"]) (hr : Room (k + 3) X.A) (hg : Gl X "list") (hm : X.mg "list" = none) (ho : PEM X W o mo)
    {pl : Sem Bool} (ht : eval (.Call (.Attribute o m apos) [] [] pos') X.env = (do let ov ← eval o X.env; standAt apos.atName; let (f, first) ← holding [ov] (getMethod ov m pl); callWith pos' f first (backTo pos' (starEach [] X.env)) (backToKw pos' (keywordEach [] X.env))) := by rfl)
    (he : starEach [.Call (.Attribute o m apos) [] [] pos'] X.env = (false, eval (.Call (.Attribute o m apos) [] [] pos') X.env) :: starEach [] X.env := by rfl) :
    PEM X W (.Call (.Name "list" p) [.Call (.Attribute o m apos) [] [] pos'] [] pos) (mListG C m g mo) :=
  PE.imp (pe_listG (pgen_meth0 (E := fun _ _ _ => False) (dvs := []) (ds := []) ho c.cls DA.me F (hr.mono (by omega)) DA.bi .nil ht) (fun _ _ _ _ _ _ _ cx => by obtain ⟨_, _, _, _, _, _, _, _, _, _, _, _, q⟩ := cx; exact q.elim) (fun _ _ _ q => q.elim) hr hg hm (by decide +kernel) (by decide) (by decide) he) fun σ H Q ⟨L, h, δ, r, s, a⟩ => by
    refine ⟨L, h, δ, r, s, Ans.imp (Ans.bind (rp := Rep X.K) a) fun v H1 ⟨L1, h1, d, x1, r1, p1, a1⟩ => ?_⟩
    by_cases z : isI C m d h1 = true
    · rw [if_pos z] at a1
      obtain ⟨n, fs, ei, zl⟩ := isI_inv z
      obtain ⟨ad, dx, Ca', ws, rfl, e1, e2, w, hC⟩ := insO_of r1 p1 ei
      have e := c.at'
      rw [hC] at e
      cases e
      cases eg : g [d] h1 with
      | stuck => rw [eg] at a1; exact a1.elim
      | exc _ _ _ => rw [eg] at a1; exact a1.elim
      | ok S h2 =>
        rw [eg] at a1
        by_cases z2 : h2 = h1 ∧ S.g h1 ∧ S.ds.length ≤ 16777216
        · simp only [if_pos z2] at a1
          obtain ⟨rfl, z3, z4⟩ := z2
          refine ⟨ad, dx, ws, rfl, e2, (w.look m).2 zl, L1, h2, [d], S, r1, .cons p1 .nil, rfl, eg, z3, szl z4, fun L' H' zs x' r' wz p' hp' => ?_⟩
          exact ans_of (rep_rol r' hp' wz) (a1.mono x')
        · simp only [if_neg z2] at a1; exact a1.elim
    · rw [if_neg z] at a1; exact a1.elim
end
end MM

set_option maxHeartbeats 2000000
namespace L2
open PySem PySem.Spec PyProof.Rows GenW
/-! ### yield from a list -/
section
variable {prog : Program} {w : World} {A : Around} {E : Value → Shared → Prop} {s : Shared}
theorem special_lst_item {it l : Addr} {i : Nat} {items : Array Value} {x : Value} {Q : Option Value → Shared → Prop} (hit : s.heap.IsListIter it l i) (hl : s.heap.IsList l items) (hx : items[i]? = some x)
    (hQ : ∀ h', h'.IsListIter it l (i + 1) → Heap.SameBut it s.heap h' → Q (some x) { s with heap := h' }) : wpAny (model prog w) A (callSpecial? (.ref it) "__next__") Q E s := by
  obtain ⟨o, ho, hc, hd⟩ := id hit
  obtain ⟨ol, hol, _, nl, hdl⟩ := hl
  refine wpAny_callSpecial?_slot (name := Str.ofString "__next__") hit.typeIs slot_listiter_next (wpAny_call_entry slot_listiter_next hit.typeIs entry_listiter_next ?_ (args_listiter_next _))
  show wpAny _ _ (field (.ref it) 0 >>= _) _ _ s
  refine wpAny_bind (wpAny_field ho hd (x := .ref l) rfl ?_)
  show wpAny _ _ (if (Value.ref l == Value.none) = true then _ else _) _ _ s
  rw [if_neg (show ¬ ((Value.ref l == Value.none) = true) from Bool.false_ne_true)]
  show wpAny _ _ (field (.ref it) 1 >>= _) _ _ s
  refine wpAny_bind (wpAny_field ho hd (x := .int i 0) rfl ?_)
  show wpAny _ _ (seqItems? (.ref l) >>= _) _ _ s
  refine wpAny_bind (wpAny_seqItems hol hdl ?_)
  simp only [Int.toNat_natCast, hx]
  refine wpAny_bind (wpAny_setField ho hd (by simp) (wpAny_pure ⟨x, rfl, hQ _ ?_ (Heap.SameBut.update ..)⟩))
  exact ⟨_, Heap.get?_update_self _ ho (Obj.isFreed_of_fields (Obj.data_mapFields hd _)), (Obj.cls_mapFields ..).trans hc, by
    rw [Obj.data_mapFields hd]; simp [rawInt]⟩
theorem special_lst_end {it l : Addr} {i : Nat} {items : Array Value} {Q : Option Value → Shared → Prop} (hh : A.handled = none) (hit : s.heap.IsListIter it l i) (hl : s.heap.IsList l items) (hx : items[i]? = none)
    (hE : ∀ e h', StopX e h' → Heap.ExtBut it s.heap h' → E e { s with heap := h' }) : wpAny (model prog w) A (callSpecial? (.ref it) "__next__") Q E s := by
  obtain ⟨o, ho, hc, hd⟩ := id hit
  obtain ⟨ol, hol, _, nl, hdl⟩ := hl
  refine wpAny_callSpecial?_slot (name := Str.ofString "__next__") hit.typeIs slot_listiter_next (wpAny_call_entry slot_listiter_next hit.typeIs entry_listiter_next ?_ (args_listiter_next _))
  show wpAny _ _ (field (.ref it) 0 >>= _) _ _ s
  refine wpAny_bind (wpAny_field ho hd (x := .ref l) rfl ?_)
  show wpAny _ _ (if (Value.ref l == Value.none) = true then _ else _) _ _ s
  rw [if_neg (show ¬ ((Value.ref l == Value.none) = true) from Bool.false_ne_true)]
  show wpAny _ _ (field (.ref it) 1 >>= _) _ _ s
  refine wpAny_bind (wpAny_field ho hd (x := .int i 0) rfl ?_)
  show wpAny _ _ (seqItems? (.ref l) >>= _) _ _ s
  refine wpAny_bind (wpAny_seqItems hol hdl ?_)
  simp only [Int.toNat_natCast, hx]
  refine wpAny_bind (wpAny_rule (wpAny_bind (wpAny_setField ho hd (by simp) ?_)))
  show wpAny _ _ (newExc (.type "StopIteration") [] >>= _) _ _ _
  refine wpAny_bind ?_
  simp only [newExc, newTuple]
  refine wpAny_bind (wpAny_newObj_type ?_ (by size_fits))
  refine wpAny_bind (m := firstArgMember _ _) (wpAny_of_eq (a := Value.none) (by first | rfl | (simp only [firstArgMember]; rfl)) ?_)
  refine wpAny_newObj_type ?_ (by size_fits)
  simp only [raiseNew]
  refine wpAny_bind (wpAny_handled ?_)
  first | rw [show A.in1.handled = none from hh] | rw [hh]
  refine wpAny_bind (wpAny_pure (wpAny_throw ?_))
  refine hE _ _ ⟨_, _, _, rfl, Heap.get?_push_size _ rfl, rfl, rfl, ?_⟩ (((Heap.SameBut.update ..).extBut.push _).push _)
  first
    | rfl
    | (rw [Array.getElem?_append_left (by decide)]; rfl)
    | kernel_rfl
end
theorem close_lst : typeLookup (.type "list_iterator") "close" = pure none := by rw [typeLookup_type, builtinLookup_eq_fast]; kernel_rfl
def tYfLst (te : TE) : TYf := fun σ H Q => te σ H fun x H1 => ∃ a xs, x = .ref a ∧ H1 a = some (.lst xs) ∧ Q xs H1
theorem yf_lst {X : Cx} {e : Expr} {te : TE} (he : PE X e te) : YfE X e (tYfLst te) := by
  refine ⟨fun pins s σ H Q I h => ?_⟩
  refine thn (he.run pins s σ H _ I h) fun v s1 ⟨x, H1, I1, r1, a, xs, ex, ha, hq⟩ => ?_
  subst ex
  obtain rfl : v = Value.ref a := r1
  obtain ⟨hlen, its, n, rits, _, el⟩ := I1.lstM ha
  have ht : s1.heap.IsList a its.toArray := ⟨_, el, rfl, n, rfl⟩
  refine ⟨"list", ht.typeIs, by decide, wpAny_pyIter_list ht ?_⟩
  have ksz : ∀ b o, s1.heap.get? b = some o → b ≠ s1.heap.objs.size := fun b o e => Nat.ne_of_lt (Heap.lt_size e)
  have kp : ∀ b o, s1.heap.get? b = some o → (s1.heap.push { cls := .type "list_iterator", data := .fields #[.ref a, .int 0 0] }).get? b = some o := fun b o e => Heap.get?_push_of_some _ e
  refine ⟨s1.heap.objs.size, H1, xs, fun j h => h.IsListIter s1.heap.objs.size a j ∧ h.IsList a its.toArray, rfl, I1.kept (t' := s1.toks) kp, .inr I1.sz, Nat.ne_of_gt I1.lt, fun y c hy => ?_, I1.hok.fresh (Nat.le_refl _), fun p hp => ?_,
    ⟨⟨_, Heap.get?_push_size _ rfl, rfl, rfl⟩, ht.push _⟩, ⟨⟨"list_iterator", fun j h q => ?_, close_lst, by decide⟩, fun j h h' q hk => ?_, fun A' j x s2 Q' E' hA hx q hQ => ?_, fun A' s2 Q' E' hA q hE => ?_⟩, hq⟩
  · obtain ⟨v, o, ho, _⟩ := I1.cell y c hy
    exact ksz c o ho
  · exact ksz p.1 _ (I1.pin p hp).1
  · obtain ⟨⟨o, ho, hc, _⟩, _⟩ := q
    exact ⟨o, ho, hc⟩
  · obtain ⟨⟨o, ho, r⟩, o2, ho2, r2⟩ := q
    exact ⟨⟨o, hk _ o (.inl rfl) ho, r⟩, o2, hk _ o2 (.inr (by rw [ha]; exact fun z => by cases z)) ho2, r2⟩
  · obtain ⟨q1, q2⟩ := q
    obtain ⟨u, hu, ru⟩ := rits.get hx
    have hne : a ≠ s1.heap.objs.size := ksz a _ el
    exact special_lst_item q1 q2 (x := u) (by simpa using hu) fun h' q1' hs => hQ u h' s2.toks ru ⟨q1', q2.extBut hs.extBut hne⟩ fun b o hb eb => hs.extBut b o hb eb
  · obtain ⟨q1, q2⟩ := q
    have hnone : its.toArray[xs.length]? = none := by
      have e := rits.length
      have e2 : its[xs.length]? = none := List.getElem?_eq_none_iff.mpr (by omega)
      simpa using e2
    exact special_lst_end hA q1 q2 hnone fun e h' hS hk => hE e h' s2.toks hS fun b o hb eb => hk b o hb eb
end L2

set_option maxHeartbeats 2000000
namespace L2
open PySem PySem.Spec PyProof.Rows GenW
/-! ### len(self.f) in a def: all objects and generators stay -/
section
variable {P : Program} {w : World} {K : PySem.W.Frag} {mg : Str → Option Value} {base : Heap}
theorem len_body {X : Cx} {pins : List (Addr × Obj)} {σ : L2.St} {H : Hp} {s : Shared} {fl : Str} {p1 p2 p3 p4 p5 : Pos} {a C dx l : Addr} {fs : List (Str × V)} {xs : List V} {Q : Flow → Shared → Prop} {E : Value → Shared → Prop} (I : Inv X pins σ H s)
    (h0 : X.N[0]? = some ("self" : Str)) (e0 : σ[0]? = some (some (V.ref a))) (vis : Vis X.env.scope "self") (hn : Gl X "len") (hm : X.mg "len" = none) (ha : H a = some (.ins C dx fs)) (c : Cls X.K C) (n : NoAttr X.K C fl) (lk : fs.lookup fl = some (.ref l)) (hl : H l = some (.lst xs))
    (h : Q (.ret (.int xs.length (s.toks + 1 + 1))) { s with toks := s.toks + 1 + 1 + 1 }) :
    wpAny (model X.prog X.w) X.A (execs [.Return (some (.Call (.Name "len" p1) [.Attribute (.Name "self" p2) fl p3] [] p4)) p5] X.env) Q E s := by
  refine wpAny_execs_cons (wpAny_Return_some ?_)
  refine wpAny_Call_Name_kw (ld_blt (u := .builtin "len") I hn hm (by decide +kernel) ?_)
  refine PyProof.Rows.callWith_builtin1 ?_ rfl rfl
  rw [show starEach [Expr.Attribute (.Name "self" p2) fl p3] X.env = (false, eval (.Attribute (.Name "self" p2) fl p3) X.env) :: starEach [] X.env from rfl]
  show wpAny _ _ (spliced ((false, eval (.Attribute (.Name "self" p2) fl p3) X.env) :: backTo p4 (starEach [] X.env))) _ _ _
  refine Calls.spliced_cons (attr_of rfl ?_)
  obtain ⟨m, hns, hlk⟩ := I.loc
  obtain ⟨u, ru, lku⟩ := hlk 0 "self" (V.ref a) h0 e0 vis
  obtain rfl : u = Value.ref a := ru
  obtain ⟨mA, O, rf, _, _, _⟩ := ins_get I.hok ha
  obtain ⟨u2, hu2, ru2⟩ := RelO.some_of (v := V.ref l) (o := mA fl) (by rw [← lk]; exact rf fl)
  obtain rfl : u2 = Value.ref l := ru2
  obtain ⟨z, its, nn, r2, hl2, e2⟩ := I.lstM hl
  have tl : ({ s with toks := s.toks + 1 } : Shared).heap.IsList l its.toArray := ⟨_, e2, rfl, nn, rfl⟩
  have fin := get_map (prog := X.prog) (w := X.w) (A := X.A) (expr := true) (mA := mA) (E := E) (Q := fun v s₁ => wpAny (model X.prog X.w) X.A (spliced (backTo p4 (starEach [] X.env)))
      (fun vs s₂ => wpAny (model X.prog X.w) X.A (call (.builtin "len") (v :: vs)) (fun v s' => Q (Flow.ret v) s') E s₂) E s₁) I.kIn O (c.get fl) c.hd n hu2 rfl (by
    refine Calls.spliced_nil ?_
    refine Calls.call_len_list tl (by rw [List.size_toArray, ← hl2]; rw [sizeLine_eq] at z; omega) ?_
    rw [List.size_toArray, ← hl2]
    exact h)
  rcases lku with ⟨hk, hm'⟩ | ⟨hk, cc, hc, hcell⟩
  · exact wpAny_Name (wpAny_loadName_local I.ok.kind hk hns hm' fin) (by decide)
  · rcases hk with hk | hk
    · exact wpAny_Name (wpAny_loadName_cell I.ok.kind hk hc hcell fin) (by decide)
    · exact wpAny_Name (wpAny_loadName_free I.ok.kind hk hc hcell fin (by decide)) (by decide)
theorem lenKept {x qn fl : Str} {st : Stmt} {f : Addr} {fd : FuncData} {p1 p2 p3 p4 p5 : Pos} {k : Nat} {A : Around} {outer : List Env} {s : Shared} {H : Hp} {args : Args} {a C dx l : Addr} {fs : List (Str × V)} {xs : List V} {R : Result → Shared → Prop}
    (F : Fun K x qn st f fd) (S : FnScope ["self"] ["self"] (defScope st)) (hb : defBody st = [.Return (some (.Call (.Name "len" p1) [.Attribute (.Name "self" p2) fl p3] [] p4)) p5])
    (hn : (defScope st).names.lookup ("len" : Str) = some NameKind.globalImplicit) (hm : mg "len" = none) (hr : Room (k + 1) A) (e0 : Env0 P w K mg base A outer s H) (hbt : BindsTo s fd args [("self", .ref a)])
    (ha : H a = some (.ins C dx fs)) (c : Cls K C) (n : NoAttr K C fl) (lk : fs.lookup fl = some (.ref l)) (hl : H l = some (.lst xs))
    (h : ∀ s' tk, s'.os = s.os → s'.gens = s.gens → (∀ b o, s.heap.get? b = some o → s'.heap.get? b = some o) → R (.ok (.ret (.int xs.length tk))) s') :
    codeAny (model P w) A (.call (.ref f) args) R s := by
  obtain ⟨oc, od, kV, doc, pm, an, cdv, ct, osl, rfl, lkf, hcd⟩ := F.ex
  have KX : K.In s.heap := e0.mod.kin.keeps fun b o e => (e0.bs b o e).1
  have lim : s.heap.NoLimit := e0.mod.nolimit.keeps fun b o e => (e0.bs b o e).1
  have hkind : ∀ y ∈ [(("self" : Str), Value.ref a)], (defScope st).names.lookup y.1 = some .local ∨ ((defScope st).names.lookup y.1 = some .cell ∧ ((cellsFrom (s.heap.objs.size + 1) (defScope st).names []).lookup y.1).isSome = true) := fun y hy => by
    rw [List.mem_singleton.mp hy]
    rcases S.par "self" (List.mem_singleton.mpr rfl) with q | q
    · exact .inl q
    · exact .inr ⟨q, PySem.W.cellsFrom_some _ _ _ (.inl q)⟩
  refine codeAny_call_function hr.depth (KX _ _ lkf) rfl S.co S.gen rfl (PySem.W.codeRec_of KX hcd) (hbt _ _ _ _ ?_)
  refine wpAny_newFunctionEnv_cells S.kind hkind fun env he s1 x => ?_
  subst he
  refine ⟨lim.keeps x.toInCall.keep, codeAny_func ?_⟩
  have I : Inv (cxOf (CX P w) P w K mg base ["self"] qn (defScope st) f cdv A outer s H (fun _ _ _ => False)) [] (start ["self"] [V.ref a]) H s1 := inv_start S hr.hd e0 rfl (.cons (show RelV (.ref a) (.ref a) from rfl) .nil) x
  obtain ⟨h1, tk, rfl, kp⟩ := x.done
  have rr := h { s with heap := h1, toks := tk + 1 + 1 + 1 } (tk + 1 + 1) rfl rfl kp
  rw [hb]
  exact len_body I rfl rfl ((S.par "self" (List.mem_singleton.mpr rfl)).imp id .inl) hn hm ha c n lk hl rr
end
/-! ### a generator that is made behind the list that it will fill -/
def gcxO (P : Program) (w : World) (K : PySem.W.Frag) (mg : Str → Option Value) (base : Heap) (N : List Str) (qual : Str) (scope : Scope) (f : Addr) (cd : Value) (A : Around) (outer : List Env) (s s1 : Shared) (H : Hp) (E : XK) (pn : List (Addr × Obj)) : Cx :=
  { gcxOf P w K mg base N qual scope f cd A outer s1 H E pn with
    s_0 := s
    xe := fun e s' => wpAny (model P w) (A.deeper (envOfC qual scope s1.heap.objs.size f cd)) (leaving (envOfC qual scope s1.heap.objs.size f cd) e)
      (fun _ s'' => CX P w outer H s E e s'' ∧ ∀ p ∈ pn, s''.heap.get? p.1 = some p.2) (fun _ _ => False) s' }
section
variable {P : Program} {w : World} {K : PySem.W.Frag} {mg : Str → Option Value} {base : Heap} {N : List Str} {qual : Str} {scope : Scope} {f : Addr} {cd : Value} {A : Around} {outer : List Env} {s s1 s2 : Shared} {H : Hp} {E : XK} {pn pins : List (Addr × Obj)} {σ : L2.St}
theorem Inv.older (e0 : Env0 P w K mg base A outer s H) (hk : ∀ b o, s.heap.get? b = some o → s1.heap.get? b = some o) (hsz : s.heap.objs.size ≤ s1.heap.objs.size) (hos : s1.os = s.os)
    (I : Inv (gcxOf P w K mg base N qual scope f cd A outer s1 H E []) [] σ H s2) : Inv (gcxO P w K mg base N qual scope f cd A outer s s1 H E []) [] σ H s2 :=
  ⟨⟨I.ok.mod, I.ok.kind, I.ok.glob, I.ok.blt, Nat.le_trans hsz I.ok.above, I.ok.inj, I.ok.has, fun x c h1 h2 => Nat.le_trans hsz (I.ok.cab x c h1 h2), I.ok.hd, I.ok.frames, I.ok.stk, I.ok.exf, e0.bs, e0.bsz, I.ok.noex, I.ok.exfs, e0.funs, I.ok.frf⟩,
    I.os.trans hos, I.bare, (Un.kept hk).trans I.base, I.loc, I.cell, I.free, I.freeC, I.pin, I.hok, I.len⟩
theorem Inv.pinnedO {H' : Hp} (I : Inv (gcxO P w K mg base N qual scope f cd A outer s s1 H E []) [] σ H' s2)
    (h : ∀ p ∈ pn ++ pins, s2.heap.get? p.1 = some p.2 ∧ H' p.1 = none ∧ p.1 ≠ (envOfC qual scope s1.heap.objs.size f cd).locals ∧ p.1 ∉ frs outer ∧ ∀ v, p.2.data ≠ .cell v) :
    Inv (gcxO P w K mg base N qual scope f cd A outer s s1 H E pn) pins σ H' s2 :=
  ⟨⟨I.ok.mod, I.ok.kind, I.ok.glob, I.ok.blt, I.ok.above, I.ok.inj, I.ok.has, I.ok.cab, I.ok.hd, I.ok.frames, I.ok.stk, I.ok.exf, I.ok.bs, I.ok.bsz, I.ok.noex, I.ok.exfs, I.ok.funs, I.ok.frf⟩, I.os, I.bare, I.base, I.loc, I.cell, I.free, I.freeC, h, I.hok, I.len⟩
end
/-- all but the object at S is kept -/
theorem Un.keptBut {fs : List Addr} {S : Addr} {H : Hp} {h h' : Heap} (k : ∀ b u, b ≠ S → h.get? b = some u → h'.get? b = some u) : Un fs [S] H H h h' :=
  ⟨fun b ob q _ _ hx => k b ob (fun z => hx (List.mem_singleton.mpr z)) q, fun b ob q _ _ hx => ⟨ob.slots, k b ob (fun z => hx (List.mem_singleton.mpr z)) q⟩, fun _ _ _ n _ => n, fun b ob q hx => ⟨ob, k b ob (fun z => hx (List.mem_singleton.mpr z)) q⟩,
    fun _ _ q => q, fun _ _ _ q => q, fun _ ps q => ⟨#[], by rw [q]; simp⟩⟩
theorem HOk.keptBut {P : Program} {w : World} {H : Hp} {h h' : Heap} {S : Addr} (ok : HOk P w H h) (hS : H S = none) (k : ∀ b u, b ≠ S → h.get? b = some u → h'.get? b = some u) : HOk P w H h' := fun b u e => by
  have nit : ∀ b u, H b = some u → b ≠ S := fun b u e z => by rw [z, hS] at e; cases e
  refine (ok b u e).stay (fun c v hc q => k c v ?_ q) (fun _ q => q) fun _ _ q => q
  rcases hc with z | z
  · rw [z]; exact nit b u e
  · exact nit c _ z
/-- what such a call gives -/
def GMadeO (P : Program) (w : World) (k : Nat) (outer : List Env) (H : Hp) (s : Shared) (S : Addr) (Q : List V → Hp → Prop) (E : XK) (u : Value) (s1 s' : Shared) : Prop :=
  ∃ (a : Addr) (g : Nat) (c : Code), u = .ref a ∧ S ≠ a ∧ s'.heap.IsGen a g ∧ s'.gens[g]? = some (.fresh c) ∧ s'.os = s1.os ∧ AllBare s'.gens ∧ (∀ b o, s1.heap.get? b = some o → s'.heap.get? b = some o) ∧
    ∀ (A : Around) (s2 : Shared), Room k A → A.frames = some outer → (∀ b o, b ≠ S → s'.heap.get? b = some o → s2.heap.get? b = some o) → (∃ c, s2.heap.get? S = some (lstObj #[] c)) → s2.os = s.os → AllBare s2.gens →
      Seg (model P w) A (REnd P w outer H s [] S a g Q E) (YItem s S a g) sizeLine s2 c ((model P w).den c) [] s2
theorem gfnO_run {P : Program} {w : World} {K : PySem.W.Frag} {mg : Str → Option Value} {base : Heap} {k : Nat} {f : Addr} {name qual : Str} {params : Arguments} {body : List Stmt} {scope : Scope} {dV kV doc pm cdv ct oc : Value} {an od : Option Addr}
    {osl : Array (Option Value)} {N ps : List Str} {A : Around} {outer : List Env} {s s1 : Shared} {S : Addr} {H : Hp} {args : Args} {us : List Value} {vs : List V} {Q : List V → Hp → Prop} {E : XK}
    (lk : K.lookup f = some ⟨oc, od, .func (PySem.W.fnOf name qual params body scope dV kV doc pm an cdv ct), osl⟩) (hcd : PySem.W.codeIn K cdv qual = true) (Sc : GScope N ps scope) (hl : vs.length = ps.length)
    (hbody : ∀ (A : Around) (pn : List (Addr × Obj)), Room k (A.deeper (envOfC qual scope s1.heap.objs.size f cdv)) →
      ∃ t, GSs (gcxO P w K mg base N qual scope f cdv A outer s s1 H E pn) body t ∧ t { nx := fun ys _ H' => Q ys H', rt := fun ys v H' => v = .non ∧ Q ys H' } [] (start N vs) H)
    (hr : Room (k + 1) A) (e0 : Env0 P w K mg base A outer s H) (e1 : Env0 P w K mg base A outer s1 H) (hk0 : ∀ b o, s.heap.get? b = some o → s1.heap.get? b = some o) (hS0 : s.heap.objs.size ≤ S) (hS1 : S < s1.heap.objs.size) (hSn : H S = none)
    (hos1 : s1.os = s.os) (hb : BindsTo s1 (PySem.W.fnOf name qual params body scope dV kV doc pm an cdv ct) args (ps.zip us)) (r : Vals vs us) :
    codeAny (model P w) A (.call (.ref f) args) (fun r s' => match r with | .ok (.ret u) => GMadeO P w (k + 1) outer H s S Q E u s1 s' | _ => False) s1 := by
  have KX : K.In s1.heap := e1.mod.kin.keeps fun b o e => (e1.bs b o e).1
  have lim : s1.heap.NoLimit := e1.mod.nolimit.keeps fun b o e => (e1.bs b o e).1
  have hkind : ∀ y ∈ ps.zip us, scope.names.lookup y.1 = some .local ∨ (scope.names.lookup y.1 = some .cell ∧ ((cellsFrom (s1.heap.objs.size + 1) scope.names []).lookup y.1).isSome = true) := fun ⟨n, v⟩ hy => by
    rcases Sc.par n (List.of_mem_zip hy).1 with q | q
    · exact .inl q
    · exact .inr ⟨q, PySem.W.cellsFrom_some _ _ _ (.inl q)⟩
  refine codeAny_call_generator hr.depth (KX _ _ lk) rfl Sc.co Sc.gen rfl (PySem.W.codeRec_of KX hcd) (hb _ _ _ _ ?_)
  refine wpAny_newFunctionEnv_cells Sc.kind hkind fun env he s3 x => ?_
  subst he
  have lim1 : s3.heap.NoLimit := lim.keeps x.toInCall.keep
  refine ⟨lim1, ?_⟩
  obtain ⟨h1, tk, es1, hk1⟩ := x.done
  have os3 : s3.os = s1.os := by rw [es1]
  have gen3 : s3.gens = s1.gens := by rw [es1]
  have lt1 : s1.heap.objs.size < s3.heap.objs.size := x.toInCall.ns.lt
  have kp1 : ∀ b o, s1.heap.get? b = some o → s3.heap.get? b = some o := x.toInCall.keep
  have hS3 : S < s3.heap.objs.size := Nat.lt_trans hS1 lt1
  have main : ∀ (go : Obj) (nm qn : Value) (tk2 : Nat), go.cls = .type "generator" → go.data = .fields #[.int s3.gens.size 0, nm, qn] → go.slots = #[] → (∀ h : Heap, (h.push go).get? h.objs.size = some go) →
      GMadeO P w (k + 1) outer H s S Q E (.ref s3.heap.objs.size) s1 { s3 with gens := s3.gens.push (.fresh (.func body (envOfC qual scope s1.heap.objs.size f cdv))), toks := tk2, heap := s3.heap.push go } := by
    intro go nm qn tk2 hgc hgd0 hgs hgp
    have hgen : ∀ h : Heap, h.get? s3.heap.objs.size = some go → h.IsGen s3.heap.objs.size s3.gens.size := fun h e => ⟨go, nm, qn, e, hgc, hgd0, hgs⟩
    have hpushed : (s3.heap.push go).get? s3.heap.objs.size = some go := hgp _
    refine ⟨s3.heap.objs.size, s3.gens.size, _, rfl, Nat.ne_of_lt hS3, hgen _ hpushed, Array.getElem?_push_size .., os3, AllBare.push (by rw [gen3]; exact e1.bare) rfl, fun b o e => Heap.get?_push_of_some _ (kp1 b o e), ?_⟩
    intro Aw s2 hrw hfr hk2 hSo hos hba
    have e1w : Env0 P w K mg base Aw outer s1 H := ⟨hfr, e1.mod, e1.bs, e1.bsz, e1.funs, e1.frf, e1.hok, e1.bare⟩
    have e0w : Env0 P w K mg base Aw outer s H := ⟨hfr, e0.mod, e0.bs, e0.bsz, e0.funs, e0.frf, e0.hok, e0.bare⟩
    obtain ⟨t, ht, hq⟩ := hbody Aw [(s3.heap.objs.size, go)] (hrw.deeper _)
    have hsz : s.heap.objs.size ≤ s1.heap.objs.size := Nat.le_trans hS0 (Nat.le_of_lt hS1)
    have I1 : Inv (gcxO P w K mg base N qual scope f cdv Aw outer s s1 H E []) [] (start N vs) H s3 := Inv.older e0w hk0 hsz hos1 (inv_startG Sc hrw.hd e1w hl r x)
    have kp2 : ∀ b o, b ≠ S → s3.heap.get? b = some o → s2.heap.get? b = some o := fun b o hb' e => hk2 b o hb' (Heap.get?_push_of_some _ e)
    have cellS : ∀ y c, (cellsFrom (s1.heap.objs.size + 1) scope.names []).lookup y = some c → c ≠ S := fun y c e z => by
      have := x.above y c (PySem.mem_of_lookup e)
      rw [z] at this
      exact absurd (Nat.lt_of_lt_of_le hS1 (Nat.le_of_lt this)) (Nat.lt_irrefl _)
    have I2 : Inv (gcxO P w K mg base N qual scope f cdv Aw outer s s1 H E []) [] (start N vs) H s2 :=
      I1.call' (ch := [S]) (hos.trans (os3.trans hos1).symm) (Un.keptBut kp2) (HOk.keptBut I1.hok hSn kp2) hba fun b z => by
        rw [List.mem_singleton.mp z]
        exact ⟨.inr hS0, Nat.ne_of_lt hS1, cellS, fun p hp => by simp [gcxO, gcxOf] at hp⟩
    obtain ⟨cS, heS⟩ := hSo
    have hea : s2.heap.get? s3.heap.objs.size = some go := hk2 s3.heap.objs.size go (Nat.ne_of_gt hS3) hpushed
    have hgd : ∀ v, go.data ≠ .cell v := fun v q => by rw [hgd0] at q; cases q
    have SnF : S ∉ frs outer := fun z => by
      obtain ⟨_, o, ho, _⟩ := e0.funs.mem z
      exact absurd (Nat.lt_of_lt_of_le (Heap.lt_size ho) hS0) (Nat.lt_irrefl _)
    have aH : H s3.heap.objs.size = none := I1.hok.fresh (Nat.le_refl _)
    have aL : s3.heap.objs.size ≠ s1.heap.objs.size := Nat.ne_of_gt lt1
    have aF : s3.heap.objs.size ∉ frs outer := I1.nofs (Nat.le_refl _)
    have hG : GI (gcxO P w K mg base N qual scope f cdv Aw outer s s1 H E [(s3.heap.objs.size, go)]) S [] [] (start N vs) H s2 := by
      refine ⟨#[], cS, .nil, Inv.pinnedO I2 fun p hp => ?_⟩
      rcases List.mem_append.mp hp with z | z
      · rw [List.mem_singleton.mp z]
        exact ⟨hea, aH, aL, aF, hgd⟩
      · rw [List.mem_singleton.mp z]
        exact ⟨heS, hSn, Nat.ne_of_lt hS1, SnF, fun v q => by cases q⟩
    have hAp : Apart (gcxO P w K mg base N qual scope f cdv Aw outer s s1 H E [(s3.heap.objs.size, go)]) S := ⟨hS0, Nat.ne_of_lt hS1, cellS⟩
    have hpn : ∀ p ∈ [(s3.heap.objs.size, go)], p.1 ≠ S := fun p hp => by
      rw [List.mem_singleton.mp hp]
      exact Nat.ne_of_gt hS3
    have pinned : ∀ {ip : List (Addr × Obj)} {ys : List V} {s' : Shared} {σ' : L2.St} {H' : Hp}, GI (gcxO P w K mg base N qual scope f cdv Aw outer s s1 H E [(s3.heap.objs.size, go)]) S ip ys σ' H' s' → s'.heap.IsGen s3.heap.objs.size s3.gens.size := fun {ip ys s' σ' H'} hI => by
      obtain ⟨acc, cc, _, J⟩ := hI
      exact hgen _ (J.pin (s3.heap.objs.size, go) (List.mem_append_left _ (List.mem_singleton.mpr rfl))).1
    refine seg_func ?_
    refine seg_imp (R := GR (gcxO P w K mg base N qual scope f cdv Aw outer s s1 H E [(s3.heap.objs.size, go)]) S (fun ys v H' => v = .non ∧ Q ys H') fun e s' => CX P w outer H s E e s' ∧ ∀ p ∈ [(s3.heap.objs.size, go)], s'.heap.get? p.1 = some p.2)
      (Y := GY (gcxO P w K mg base N qual scope f cdv Aw outer s s1 H E [(s3.heap.objs.size, go)]) S) (fun n s₀ r s1' hR => ?_) (fun n s₀ v s1' kap kap' hkk hY => ?_) sizeLine ?_
    · cases r with
      | error e =>
        obtain ⟨q1, q2⟩ := hR
        exact .inr ⟨e, rfl, q1, hgen _ (q2 (s3.heap.objs.size, go) (List.mem_singleton.mpr rfl))⟩
      | ok fl =>
        cases fl with
        | next => exact False.elim hR
        | brk => exact False.elim hR
        | cont => exact False.elim hR
        | ret u =>
          obtain ⟨ys, v, ip, σ', H', hn, hI, rv, ev, hQ⟩ := hR
          subst ev
          have eu : u = Value.none := rv
          subst eu
          obtain ⟨a1, _, _, acc, cc, ra, ea⟩ := hI.at
          obtain ⟨_, _, _, J⟩ := hI
          exact .inl ⟨.inl rfl, H', ys, acc, cc, J.os, J.bare, J.base, J.hok, a1, ea, ra, by omega, hQ⟩
    · obtain ⟨ys, xx, ip, σ', H', hn, h2, hI, h3⟩ := hY
      obtain ⟨_, _, _, acc, cc, ra, ea⟩ := hI.at
      have hg := pinned hI
      obtain ⟨_, _, _, J⟩ := hI
      have hsz : acc.size = ys.length := by
        have e1 := ra.length
        have e2 : acc.toList.length = acc.size := by simp
        omega
      exact ⟨J.os, J.bare, J.nolimit, hg, ⟨acc, cc, ea, by rw [hsz]; exact hn⟩, fun s' z => hkk _ _ (h3 s' z)⟩
    · refine ht.run Aw S [] _ sizeLine [] s2 _ [] _ _ id id s2 (start N vs) H _ ⟨hpn, fun p hp => (by simp at hp), hAp, over_func, rfl, rfl, rfl⟩ (Nat.add_zero _) ⟨fun n ys s₀ s' fl hn hs => ?_, fun n s₀ e s' hx => ?_⟩ hG hq
      · cases fl with
        | next =>
          obtain ⟨σ', H', hI, hQ⟩ := hs
          exact seg_end (.ok (.ret .none)) ⟨ys, .non, [], σ', H', hn, hI, rfl, rfl, hQ⟩
        | brk => obtain ⟨_, _, _, q⟩ := hs; exact False.elim q
        | cont => obtain ⟨_, _, _, q⟩ := hs; exact False.elim q
        | ret u =>
          obtain ⟨v, σ', H', hI, rv, ev, hQ⟩ := hs
          exact seg_end (.ok (.ret u)) ⟨ys, v, [], σ', H', hn, hI, rv, ev, hQ⟩
      · refine seg_wrap ?_
        rw [over_func]
        refine wpAny_mono (show wpAny (model P w) (Aw.deeper (envOfC qual scope s1.heap.objs.size f cdv)) (leaving (envOfC qual scope s1.heap.objs.size f cdv) e) (fun _ s'' => CX P w outer H s E e s'' ∧ ∀ p ∈ [(s3.heap.objs.size, go)], s''.heap.get? p.1 = some p.2) (fun _ _ => False) s' from hx) (fun _ s'' q => ?_) fun _ s'' q => q.elim
        exact seg_end (.error e) q
  exact main _ _ _ _ rfl rfl rfl fun h => Heap.get?_push_size _ rfl
end L2

set_option maxHeartbeats 2000000
namespace MM
open PySem PySem.Spec PyProof.Rows L2 GenW
/-! ### list(o): o's class has __iter__ (yield from self.f) and __len__ (return len(self.f)) -/
def rListO (C : Addr) (fl : Str) : List V → Hp → VK → Prop := fun xs H Q => ∃ a dx fs l ys, xs = [.ref a] ∧ H a = some (.ins C dx fs) ∧ fs.lookup fl = some (.ref l) ∧ H l = some (.lst ys) ∧ ∀ p, H p = none → Q (.ref p) (upd H p (.lst ys))
section
variable {X : Cx} {k : Nat} {C fi fn : Addr} {fdI fdN : FuncData} {qi qn fl : Str} {stI stN : Stmt} {p1 p2 p3 p4 q1 q2 q3 q4 q5 : Pos}
theorem iter_run (DI : MthAt X.K C "__iter__" qi stI fi fdI ["self"]) (SI : GScope ["self"] ["self"] (defScope stI)) (hI : defBody stI = [.Expr (.YieldFrom (.Attribute (.Name "self" p1) fl p2) p3) p4]) (c : Cls X.K C) (n : NoAttr X.K C fl)
    {pins : List (Addr × Obj)} {σ : L2.St} {H : Hp} {s s1 : Shared} {S a dx l : Addr} {fs : List (Str × V)} {ys : List V} {A : Around} (I : Inv X pins σ H s) (I1 : Inv X pins σ H s1) (hA : A.frames = some X.stack) (hr : Room (k + 1) A) (hk0 : ∀ b o, s.heap.get? b = some o → s1.heap.get? b = some o)
    (hS0 : s.heap.objs.size ≤ S) (hS1 : S < s1.heap.objs.size) (hos : s1.os = s.os) (ha : H a = some (.ins C dx fs)) (hl : fs.lookup fl = some (.ref l)) (hy : H l = some (.lst ys)) :
    codeAny (model X.prog X.w) A (.call (.ref fi) ⟨[.ref a], []⟩) (fun r s' => match r with | .ok (.ret u) => GMadeO X.prog X.w (k + 1) X.stack H s S (fun zs H' => zs = ys ∧ H' = H) (fun _ _ _ => False) u s1 s' | _ => False) s1 := by
  obtain ⟨oc, od, kV, doc, pm, an, cdv, ct, osl, rfl, lk, hcd⟩ := DI.fn.ex
  have e0 : Env0 X.prog X.w X.K X.mg X.base A X.stack s H := by
    have e := I.env0
    exact ⟨hA, e.mod, e.bs, e.bsz, e.funs, e.frf, e.hok, e.bare⟩
  have e1 : Env0 X.prog X.w X.K X.mg X.base A X.stack s1 H := by
    have e := I1.env0
    exact ⟨hA, e.mod, e.bs, e.bsz, e.funs, e.frf, e.hok, e.bare⟩
  have hb := DI.bi s1 [.ref a] I1.kIn rfl
  refine gfnO_run (vs := [.ref a]) lk hcd SI rfl (fun A' pn hr' => ?_) hr e0 e1 hk0 hS0 hS1 (I.hok.fresh hS0) hos hb (.cons (show RelV (.ref a) (.ref a) from rfl) .nil)
  rw [hI]
  refine ⟨_, gss_cons (gs_yieldFrom (yf_lst (pe_fld (pe_var (i := 0) rfl ((SI.par "self" (List.mem_singleton.mpr rfl)).imp id .inl)) rfl)) hr'.hd ?_) gss_nil, ?_⟩
  · show interactive (envOfC qi (defScope stI) s1.heap.objs.size fi cdv) = false
    simp [interactive, envOfC, SI.kind]
  · exact ⟨.ref a, rfl, a, C, dx, fs, .ref l, rfl, ha, c, n, hl, l, ys, rfl, hy, by obtain ⟨z, _⟩ := I.lstM hy; simpa using z, ⟨rfl, rfl⟩⟩
theorem call_listO (DI : MthAt X.K C "__iter__" qi stI fi fdI ["self"]) (SI : GScope ["self"] ["self"] (defScope stI)) (hI : defBody stI = [.Expr (.YieldFrom (.Attribute (.Name "self" p1) fl p2) p3) p4])
    (DN : MthAt X.K C "__len__" qn stN fn fdN ["self"]) (SN : FnScope ["self"] ["self"] (defScope stN)) (hN : defBody stN = [.Return (some (.Call (.Name "len" q1) [.Attribute (.Name "self" q2) fl q3] [] q4)) q5])
    (hln : (defScope stN).names.lookup ("len" : Str) = some NameKind.globalImplicit) (hmg : X.mg "len" = none) (c : Cls X.K C) (n : NoAttr X.K C fl) (hr : Room (k + 5) X.A) : CallR X (.type "list") (rListO C fl) := by
  rintro pins s σ H xs us Q I rv ⟨a, dx, fs, l, ys, rfl, ha, hlk, hy, hq⟩
  obtain ⟨u, rfl, ru⟩ := rv.one
  obtain rfl : u = Value.ref a := ru
  have r3 : Room (k + 3) X.A.in1.in1 := Room.in1 (Room.in1 hr)
  refine callType_codes (Q₁ := fun obj s₁ => obj = .ref s.heap.objs.size ∧ s₁ = { s with heap := s.heap.push { cls := .type "list", data := .seq #[] } }) PySem.F.called_list (PySem.F.typeCall_list_1 _) PySem.F.entry_list_init
    (code_list_new _ ⟨rfl, rfl⟩) fun obj s₁ h₁ => ?_
  obtain ⟨rfl, rfl⟩ := h₁
  have hS : (s.heap.push { cls := .type "list", data := .seq #[] }).get? s.heap.objs.size = some { cls := .type "list", data := .seq #[] } := Heap.get?_push_size _ rfl
  refine ⟨⟨_, hS, rfl⟩, PySem.F.args_list_init_2 _ _, ?_⟩
  show wpAny _ _ (do let old ← Builtin.List.listItems (.ref s.heap.objs.size); Builtin.List.listUpdate (.ref s.heap.objs.size) (fun _ => #[]); letGo old.toList.reverse; Builtin.List.listExtendWith (.ref s.heap.objs.size) (.ref a) .none) _ _ _
  refine wpAny_bind ?_
  unfold Builtin.List.listItems
  refine wpAny_bind (wpAny_seqItems hS rfl (wpAny_pure ?_))
  show wpAny _ _ (updateSeq s.heap.objs.size (fun _ => #[]) >>= fun _ => letGo (#[] : Array Value).toList.reverse >>= fun _ => Builtin.List.listExtendWith (.ref s.heap.objs.size) (.ref a) .none) _ _ _
  refine wpAny_bind (wpAny_updateSeq hS rfl ?_)
  have hS2 := Heap.get?_update_self (Obj.mapSeq (fun _ => (#[] : Array Value))) hS rfl
  refine wpAny_bind (wpAny_letGo ?_)
  have up : ∀ (h : Heap) (f : Obj → Obj), (∀ b o, s.heap.get? b = some o → h.get? b = some o) → ∀ b o, s.heap.get? b = some o → (h.update s.heap.objs.size f).get? b = some o := fun h f q b o e =>
    (Heap.get?_update_other _ _ (Ne.symm (Nat.ne_of_lt (Heap.lt_size e)))).trans (q b o e)
  have k1 : ∀ b o, s.heap.get? b = some o → (s.heap.push { cls := .type "list", data := .seq #[] }).get? b = some o := fun b o e => Heap.get?_push_of_some _ e
  have k2 := up _ (Obj.mapSeq (fun _ => (#[] : Array Value))) k1
  generalize eh2 : (s.heap.push { cls := .type "list", data := .seq #[] }).update s.heap.objs.size (Obj.mapSeq (fun _ => (#[] : Array Value))) = h2 at hS2 k2
  have I2 : Inv X pins σ H { s with heap := h2 } := I.kept (t' := s.toks) k2
  have hne : s.heap.objs.size ≠ a := fun z => by
    have := I.hok.fresh (Nat.le_refl s.heap.objs.size)
    rw [z, ha] at this
    cases this
  unfold Builtin.List.listExtendWith
  obtain ⟨mA, J, _⟩ := ins_get I2.hok ha
  obtain ⟨od, J, _⟩ := J.look
  obtain ⟨m0, hF⟩ := I2.fr
  show wpAny _ _ _ _ _ ({ s with heap := h2 } : Shared)
  refine wpAny_bind (J.type.here ?_)
  have z1 : Builtin.List.listSameRef (.ref s.heap.objs.size) (.ref a) = false := by simp [Builtin.List.listSameRef, hne]
  have z2 : (Value.ref C == Value.type "list") = false := rfl
  have z3 : (Value.ref C == Value.type "tuple") = false := rfl
  simp only [z1, z2, z3, Bool.or_false, Bool.false_eq_true, if_false]
  refine wpAny_bind (PySem.W.owit_iter hF I2.ok.mod.kin J DI.me.at_ DI.me.fn ?_)
  refine wpAny_call (codeAny_mono (iter_run (k := k) (A := X.A.in1.in1) DI SI hI c n I I2 I.ok.frames (r3.mono (by omega)) k2 (Nat.le_refl _) (Heap.lt_size hS2) rfl ha hlk hy) fun r s3 hG => ?_)
  cases r with
  | error e => exact hG.elim
  | ok fw =>
    cases fw with
    | next => exact hG.elim
    | brk => exact hG.elim
    | cont => exact hG.elim
    | ret u =>
      obtain ⟨g, gi, cd, rfl, hSg, hgen, hgs, hos, hb, hkp, wake⟩ := hG
      have hkp' : ∀ b o, h2.get? b = some o → s3.heap.get? b = some o := hkp
      have I3 : Inv X pins σ H s3 := I2.call' (ch := []) hos (Un.kept hkp) (I2.hok.kept hkp) hb fun b z => by simp at z
      have hosI : s3.os = s.os := hos
      show PySem.W.OwitIt _ _ _ _ _ s3
      unfold PySem.W.OwitIt
      refine wpAny_specialOf (Heap.IsGen.typeIs hgen) slot_gen_next.lookup ?_
      show wpAny _ _ _ _ _ s3
      refine wpAny_bind (wpAny_holding ?_)
      -- the hint
      unfold Builtin.List.listLengthHint
      obtain ⟨mA', J', _⟩ := ins_get I3.hok ha
      obtain ⟨od', J', _⟩ := J'.look
      obtain ⟨m1, hF'⟩ := I3.fr
      refine wpAny_bind (wpAny_bind (J'.type.here ((PySem.W.looks_findIn I3.kIn DN.me.at_).here ?_)))
      refine PySem.W.KFB.if_not rfl ?_
      show wpAny _ _ (if (some (Value.ref fn)).isSome = true then _ else _) _ _ _
      rw [if_pos (show (some (Value.ref fn)).isSome = true from rfl)]
      refine wpAny_bind (wpAny_rule ?_)
      obtain ⟨zy, _⟩ := I.lstM hy
      have e3 : Env0 X.prog X.w X.K X.mg X.base X.A.in1.in1.in1 X.stack s3 H := by
        have e := I3.env0
        exact ⟨I.ok.frames, e.mod, e.bs, e.bsz, e.funs, e.frf, e.hok, e.bare⟩
      refine wpAny_bind (wpAny_attempt (PySem.W.len_K hF' I3.ok.mod.kin J' DN.me.at_ DN.me.fn ?_))
      refine wpAny_call (lenKept (A := X.A.in1.in1.in1) (k := k) DN.fn SN hN hln hmg (Room.in1 (r3.mono (by omega))) e3 (DN.bi s3 [.ref a] I3.kIn rfl) ha c n hlk hy fun s4 tk o4 g4 k4 => ?_)
      refine ⟨⟨by omega, by rw [sizeLine_eq] at zy; omega⟩, ?_⟩
      show wpAny _ _ _ _ _ ({ s4 with toks := s4.toks + 1 } : Shared)
      refine wpAny_bind (m := asInt? (Value.int (ys.length : Int) s4.toks)) (wpAny_pure ?_)
      show wpAny _ _ (if Builtin.List.listTooLong (ys.length : Int).toNat = true then _ else pure _) _ _ _
      rw [Int.toNat_natCast, notLongL zy, if_neg Bool.false_ne_true]
      refine wpAny_pure ?_
      -- the turns
      have nl : s.heap.NoLimit := I.nolimit
      have hcl : cStatics < s.heap.objs.size := let ⟨_, hn, _⟩ := nl; hn.lt
      have turns : ∀ s5 : Shared, s5.os = s.os → AllBare s5.gens → (∀ b o, b ≠ s.heap.objs.size → s3.heap.get? b = some o → s5.heap.get? b = some o) → (∃ c, s5.heap.get? s.heap.objs.size = some (lstObj #[] c)) → s5.gens[gi]? = some (.fresh cd) →
          codeAny (model X.prog X.w) X.A.in1 (.builtin "list.extend.loop" ⟨[.ref s.heap.objs.size, .ref g, .none], []⟩) (wants (fun r s₂ => r = .none ∧ EP X pins σ Q (.ref s.heap.objs.size) s₂) X.xe) s5 := by
        intro s5 os5 b5 k5 l5 g5
        have hg5 : s5.heap.IsGen g gi := by
          obtain ⟨o, nm, qn, ho, r⟩ := hgen
          exact ⟨o, nm, qn, k5 g o (Ne.symm hSg) ho, r⟩
        have nl5 : s5.heap.NoLimit := nl.keeps fun b o e => k5 b o (Nat.ne_of_lt (Heap.lt_size e)) (hkp' b o (k2 b o e))
        refine drain (P := X.prog) (w := X.w) (outer := X.stack) (H := H) (sc := s) (ex := []) (Q := fun zs H' => zs = ys ∧ H' = H) (EX := fun _ _ _ => False) (A := X.A.in1) (g := gi) hr.hd (by have := hr.dp; show X.A.depth < _; omega) hSg (Nat.ne_of_gt hcl)
          (fun s' acc c H' ys' w1 w2 w3 w4 w5 w6 w7 w8 w9 => ?_) (fun e s' hc => ?_) sizeLine s5 hg5 nl5 ⟨_, g5, rfl, ?_⟩
        · obtain ⟨rfl, rfl⟩ := w9
          exact ⟨rfl, .ref s.heap.objs.size, _, I.drained (Nat.le_refl _) w3 w1 w2 .nil w4 w5 w6 w7 w8, rfl, hq _ w8⟩
        · obtain ⟨_, _, _, _, _, _, _, _, _, _, _, _, q⟩ := hc
          exact q.elim
        · exact wake _ _ (Room.in1 (Room.in1 (Room.in1 (hr.mono (by omega))))) I.ok.frames k5 l5 os5 (allBare_setGen b5 rfl)
      obtain ⟨mS, hmS⟩ : ∃ c, h2.get? s.heap.objs.size = some (lstObj #[] c) := ⟨_, hS2⟩
      have hS4 : s4.heap.get? s.heap.objs.size = some (lstObj #[] mS) := k4 _ _ (hkp' _ _ hmS)
      have k34 : ∀ b o, b ≠ s.heap.objs.size → s3.heap.get? b = some o → s4.heap.get? b = some o := fun b o _ e => k4 b o e
      refine wpAny_ite_split (fun _ => ?_) (fun _ => wpAny_pure ⟨plainId_quiet PySem.F.plain_extend_loop _, turns _ (o4.trans hosI) (by rw [show ({ s4 with toks := s4.toks + 1 } : Shared).gens = s3.gens from g4]; exact hb) k34 ⟨mS, hS4⟩ (by rw [show ({ s4 with toks := s4.toks + 1 } : Shared).gens = s3.gens from g4]; exact hgs)⟩)
      refine wpAny_bind (wpAny_rule ?_)
      refine wpAny_bind ?_
      show wpAny _ _ (updateSeq s.heap.objs.size (·.push .none) >>= fun _ => updateSeq s.heap.objs.size (·.pop)) _ _ _
      refine wpAny_bind (wpAny_updateSeq (s := { s4 with toks := s4.toks + 1 }) hS4 rfl ?_)
      have hS5 := Heap.get?_update_self (Obj.mapSeq (·.push Value.none)) hS4 rfl
      refine wpAny_updateSeq (hz := by seq_fits) hS5 rfl ?_
      have hS6 := Heap.get?_update_self (Obj.mapSeq (·.pop)) hS5 rfl
      refine wpAny_pure ⟨plainId_quiet PySem.F.plain_extend_loop _, turns _ (o4.trans hosI) (by show AllBare s4.gens; rw [g4]; exact hb) (fun b o hb' e => ?_) ⟨_, hS6⟩ (by show s4.gens[gi]? = _; rw [g4]; exact hgs)⟩
      exact (Heap.get?_update_other _ _ (Ne.symm hb')).trans ((Heap.get?_update_other _ _ (Ne.symm hb')).trans (k4 b o e))
end
def fListO (C fl : Str) (ds : List D) (h : MH) : R D := match ds with
  | [d] => (match insO h d with
    | some (_, C1, fs) => if C1 = C then (match fs.lookup fl with
      | some (.ref l) => (match lst? h l with
        | some xs => .ok (.rol xs) h
        | none => .stuck)
      | _ => .stuck) else .stuck
    | none => .stuck)
  | _ => .stuck
theorem fListO_ok {K : PySem.W.Frag} {C : Str} {Ca : Addr} {fls : List Str} {fl : Str} (c : ClsT K C Ca fls) : CallM K (rListO Ca fl) (fListO C fl) := by
  intro L H h ds vs Q E r w a
  unfold fListO at a
  split at a
  · rename_i d
    obtain ⟨v, rfl, q⟩ := w.one
    split at a
    · rename_i n C1 fs ei
      split at a
      · rename_i z
        subst z
        obtain ⟨ad, ex, Ca1, ws, rfl, e1, e2, w', hC⟩ := insO_of r q ei
        have e := c.at'
        rw [hC] at e
        cases e
        split at a
        · rename_i l el
          obtain ⟨u, e3, qu⟩ := (w'.look fl).1 _ el
          split at a
          · rename_i xs exs
            obtain ⟨al, zs, f1, f2, wz⟩ := r.lst (lst?_at exs)
            obtain rfl : u = V.ref al := qu.ref f1
            exact ⟨ad, ex, ws, al, zs, rfl, e2, e3, f2, fun p hp => ans_of (rep_rol r hp wz) a⟩
          · exact a.elim
        · exact a.elim
      · exact a.elim
    · exact a.elim
  · exact a.elim
end MM

namespace MM
open PySem PySem.Spec PyProof.Rows L2
section
variable {X : Cx} {W : WX} {a D dd : Addr} {oe : Obj} {pn : List (Addr × Obj)} {e : Expr} {te : TE} {me : ME} {pos p p2 : Pos} {c2 : Str} {b : Bool} {T : String}
/-! ### isinstance of a caught exception, asked for a built-in class -/
theorem isX_callB (Cl : ExcC X.K D) (hz : L2N.Zn (.ref D) (some dd) oe) (hf : ∃ vs, oe.data = .fields vs) :
    CallR (X.suite a ((a, oe) :: pn)) (.builtin "isinstance") (fun xs H Q => ∃ (T : String) (k : Bool) (fs : List (Str × V)), xs = [.ref a, .ty T] ∧ PySem.W.kitOne X.K (.ref D) (.type T) = some k ∧ Rd H dd (.xd fs) ∧ Q (.bl k) H) := fun pins s σ H xs us Q I r want => by
  obtain ⟨T, k, fs, rfl, kit, rd, q⟩ := want
  match us, r with
  | [u1, u2], .cons r1 (.cons r2 .nil) =>
    have e1 : u1 = Value.ref a := r1
    have e2 : u2 = Value.type T := r2
    rw [e1, e2]
    have pinned := (I.pin (a, oe) (List.mem_append.mpr (.inl List.mem_cons_self))).1
    obtain ⟨mA, hns, _⟩ := (show ObjOk X.prog X.w H s.heap dd (.xd fs) from rd.ok I.hok)
    obtain ⟨od, at_, _⟩ := lookIn_ns hns
    have J : PySem.W.InstAt s.heap a oe D (some od) := by
      refine ⟨pinned, hz.1, ?_, by rw [hz.2.1]; exact at_⟩
      obtain ⟨vs, hd⟩ := hf
      unfold PySem.W.notCls
      rw [hd] <;> rfl
    have some_ : (PySem.W.clsIn X.K D).isSome = true := by
      obtain ⟨cd, hc, _⟩ := PySem.W.any_some Cl.hd
      rw [hc]; rfl
    exact PySem.W.kia_one (PySem.W.kitx_exc some_ Cl.hg Cl.hk Cl.hs Cl.ha Cl.hn Cl.ht Cl.hm) I.kIn J kit (fun z => nomatch z) fun tk => ⟨.bl k, H, I.kept (t' := tk) fun _ _ z => z, rfl, q⟩
theorem pem_xisB (T : String) (Cl : ExcC X.K D) (hz : L2N.Zn (.ref D) (some dd) oe) (hf : ∃ vs, oe.data = .fields vs) (kit : PySem.W.kitOne X.K (.ref D) (.type T) = some b) (hgi : Gl X "isinstance") (hmi : X.mg "isinstance" = none) (hg2 : Gl X c2) (hm2 : X.mg c2 = none) (hv2 : bootBuiltins c2 = some (.type T))
    (he : PEM (X.suite a ((a, oe) :: pn)) W e me) (hd2 : (c2 == ("__debug__" : Str)) = false) (hn2 : c2 ≠ "__name__")
    (hs1 : starEach [e, .Name c2 p2] X.env = (false, eval e X.env) :: starEach [.Name c2 p2] X.env) (hs2 : starEach [.Name c2 p2] X.env = (false, eval (.Name c2 p2) X.env) :: starEach [] X.env) :
    PEM (X.suite a ((a, oe) :: pn)) W (.Call (.Name "isinstance" p) [e, .Name c2 p2] [] pos) (mXis a dd b me) := by
  have arg : PA (X.suite a ((a, oe) :: pn)) [e, .Name c2 p2] _ := pa_cons he (pa_cons (pe_bltn (v := .ty T) hg2 hm2 hv2 rfl hn2 hd2) pa_nil hs2) hs1
  refine PE.imp (pe_callB (isX_callB Cl hz hf) hgi hmi PyProof.Rows.Boot.«isinstance» arg (by decide) (by decide) hs1 (by show (backTo pos (starEach [.Name c2 p2] X.env)).any (·.1) = false; rw [hs2]; rfl)) fun σ H Q ⟨L, h, δ, r, s, w⟩ => ?_
  refine ⟨L, h, δ, r, s, Ans.imp (Ans.bind (rp := Rep X.K) w) fun v H1 ⟨L1, h1, d, x1, r1, p1, a1⟩ => ?_⟩
  show ∃ (T1 : String) (k : Bool) (fs : List (Str × V)), [v, V.ty T] = [.ref a, .ty T1] ∧ PySem.W.kitOne X.K (.ref D) (.type T1) = some k ∧ Rd H1 dd (.xd fs) ∧ Q (.bl k) H1
  cases d with
  | xo a' d' fl ds =>
    replace a1 : Ans (X.suite a ((a, oe) :: pn)).K (Rep (X.suite a ((a, oe) :: pn)).K) L1 H1 (if a' = a ∧ d' = dd then R.ok (MM.D.bl b) h1 else .stuck) Q (WE W σ) := a1
    by_cases z : a' = a ∧ d' = dd
    · rw [if_pos z] at a1
      obtain ⟨rfl, rfl⟩ := z
      unfold Rep at p1
      obtain ⟨ev, xs, rd, _⟩ := p1
      exact ⟨T, b, _, by rw [ev], kit, rd, ans_okE r1 rep_bl a1⟩
    · rw [if_neg z] at a1
      exact a1.elim
  | _ => exact a1.elim
end
end MM
namespace MM
open PySem PySem.Spec PyProof.Rows L2
/-! ### a clause that names a class above that of the exception -/
structure XCl (K : PySem.W.Frag) (mg : Str → Option Value) (B : Str) (aB C : Addr) : Prop where
  mg' : mg B = some (.ref aB)
  exB : PySem.W.subIn K (.ref aB) (.type "BaseException") = some true
  hdB : PySem.W.hasDictIn K aB = true
  tyB : PySem.W.typeIn K (.ref aB) = some (.type "type")
  up : PySem.W.subIn K (.ref C) (.ref aB) = some true
section
variable {X : Cx} {W : WX} {n c B : Str} {fl : List Str} {C aB : Addr} {i : Nat} {body suite : List Stmt} {b₀ : Stmt} {np pos pos' : Pos} {mb : MSt} {ms : Addr → Addr → List (Str × D) → MSt}
theorem psm_try1b (x : XTry X.K X.mg c fl C) (y : XCl X.K X.mg B aB C) (hs : X.stack = X.env :: X.outer) (hf : X.env.frame = some X.env.locals) (hN : X.N.Nodup) (hi : X.N[i]? = some n) (hln : X.env.kindOf n = some .local) (hg : Gl X B) (hd : (B == ("__debug__" : Str)) = false) (tk : L2N.Takes X W)
    (hb : ∀ (W : WX) (pn : List (Addr × Obj)) (xe : Value → Shared → Prop), L2N.Takes (X.tr pn xe) W → PassesOwn (model X.prog X.w) X.A X.env xe → PSsM (X.tr pn xe) W body mb)
    (hsu : ∀ (a : Addr) (oe : Obj) (dd : Addr) (pn : List (Addr × Obj)) (fs : List (Str × D)), L2N.Zn (.ref C) (some dd) oe → (∃ vs, oe.data = .fields vs) → PSsM (X.suite a ((a, oe) :: pn)) W0 (b₀ :: suite) (ms a dd fs)) :
    PSM X W (.Try body [.ExceptHandler (some (.Name B np)) (some n) (b₀ :: suite) pos'] [] [] pos) (mTry mb (hitOne c) i fun a dd _ fs => ms a dd fs) := by
  have key : ∀ {c2 : Str} {ev : Value}, EV X.K c2 ev → hitOne c c2 = some true → ev = .ref C := fun {c2 ev} ⟨a2, e, na⟩ h => by
    unfold hitOne at h
    split at h
    · rename_i z
      rw [z, x.at'] at na
      rw [e]
      cases na
      rfl
    · cases h
  refine psm_try hs hf hN hi hln ⟨hg, hd, .inl y.mg'⟩ tk (fun c2 ev b e h => ?_) hb (fun a oe cls dd pn c2 fs hz hv e h => ?_)
  · have hb : b = true := by
      unfold hitOne at h
      split at h
      · exact (Option.some.inj h).symm
      · cases h
    subst hb
    rw [key e h]
    exact PySem.W.exm_ref y.exB y.hdB y.tyB y.up
  · have ec := key e h
    subst ec
    exact hsu a oe dd pn fs hz hv
end
end MM
namespace MM
open PySem PySem.Spec PyProof.Rows L2
/-! ### + of two lists, wherever they stand -/
def opAddL (x y : D) (h : MH) : R D := match lstD x h, lstD y h with
  | some ds, some es => if ds.length + es.length ≤ 16777216 then .ok (.rol (ds ++ es)) h else .stuck
  | _, _ => opAddS x y h
def opAddLN (x y : D) (h : MH) : R D := match lstD x h, lstD y h with
  | some ds, some es => if ds.length + es.length ≤ 16777216 then .ok (.ref h.length) (h ++ [.lst (ds ++ es)]) else .stuck
  | _, _ => opAddS x y h
theorem opAddL_ok {K : PySem.W.Frag} : OpM K (rAddS K) opAddL := by
  intro L H h dx dy x y Q E r px py a
  unfold opAddL at a
  split at a
  · rename_i ds es e1 e2
    split at a
    · rename_i z
      obtain ⟨p, xs, rfl, s, w⟩ := lstD_of r px e1
      obtain ⟨q, ys, rfl, s', w'⟩ := lstD_of r py e2
      exact .inr ⟨p, q, xs, ys, rfl, rfl, s, s', by rw [← w.length, ← w'.length]; exact szl z, fun p hp => ans_of (rep_rol r hp (w.append w')) a⟩
    · exact a.elim
  · exact opAddS_ok L H h dx dy x y Q E r px py a
theorem opAddLN_ok {K : PySem.W.Frag} : OpM K (rAddS K) opAddLN := by
  intro L H h dx dy x y Q E r px py a
  unfold opAddLN at a
  split at a
  · rename_i ds es e1 e2
    split at a
    · rename_i z
      obtain ⟨p, xs, rfl, s, w⟩ := lstD_of r px e1
      obtain ⟨q, ys, rfl, s', w'⟩ := lstD_of r py e2
      exact .inr ⟨p, q, xs, ys, rfl, rfl, s, s', by rw [← w.length, ← w'.length]; exact szl z, fun p hp => ans_of (rep_new r hp (w.append w')) a⟩
    · exact a.elim
  · exact opAddS_ok L H h dx dy x y Q E r px py a
@[simp] theorem opAddL_int {i j : Int} {h : MH} : opAddL (.int i) (.int j) h = .ok (.int (i + j)) h := rfl
@[simp] theorem opAddL_str {x y : Str} {h : MH} (e : x.length + y.length ≤ 16777216) : opAddL (.str x) (.str y) h = .ok (.str (x ++ y)) h := if_pos e
end MM

set_option maxHeartbeats 2000000
namespace MSl
open PySem PySem.Spec PyProof.Rows L2
section
variable {prog : Program} {w : World} {A : Around} {E : Value → Shared → Prop} {s : Shared}
theorem zipIdx_cut (a n : Nat) : ∀ (xs : List Value) (k : Nat), k + xs.length = n → (xs.zipIdx k).filterMap (fun (x, k) => if ((decide ((a : Int) ≤ (k : Int)) && decide ((k : Int) < (n : Int))) && (((k : Int) - (a : Int)) % 1 == 0)) = true then none else some x) = xs.take (a - k)
  | [], k, _ => by simp
  | x :: xs, k, h => by
    rw [List.length_cons] at h
    rw [List.zipIdx_cons, List.filterMap_cons]
    have ih := zipIdx_cut a n xs (k + 1) (by omega)
    have md : (((k : Int) - (a : Int)) % 1 == 0) = true := by simp [Int.emod_one]
    by_cases z : a ≤ k
    · have : ((decide ((a : Int) ≤ (k : Int)) && decide ((k : Int) < (n : Int))) && (((k : Int) - (a : Int)) % 1 == 0)) = true := by
        rw [md, Bool.and_true, Bool.and_eq_true]
        exact ⟨decide_eq_true (by omega), decide_eq_true (by omega)⟩
      simp only [this, if_true]
      rw [ih, show a - k = 0 by omega, show a - (k + 1) = 0 by omega]
      simp
    · have : ((decide ((a : Int) ≤ (k : Int)) && decide ((k : Int) < (n : Int))) && (((k : Int) - (a : Int)) % 1 == 0)) = false := by
        rw [decide_eq_false (by omega : ¬ (a : Int) ≤ (k : Int))]; rfl
      simp only [this, Bool.false_eq_true, if_false]
      rw [ih, show a - k = (a - (k + 1)) + 1 by omega, List.take_succ_cons]
/-- the end of a list goes -/
theorem del_cut {l sl : Addr} {items : Array Value} {n : Nat} {vl vu : Value} {lo hi : Option Int} {a : Nat} {Q : Unit → Shared → Prop} (el : s.heap.get? l = some { cls := .type "list", data := .seq items n }) (os : s.heap.IsSliceOf sl vl vu .none) (p1 : IsPart vl lo) (p2 : IsPart vu hi)
    (bd : sliceBounds lo hi none items.size = ((a : Int), (items.size : Int), 1)) (room : items.size ≤ sizeLine)
    (k : ∀ f : Array Value → Array Value, f items = (items.toList.take a).toArray → Q () { s with heap := s.heap.update l (Obj.mapSeq f) }) : wpAny (model prog w) A (delItem (.ref l) (.ref sl)) Q E s := by
  have tl := (PySem.IsL.isList el).typeIs
  obtain ⟨ob, g1, g2, g3⟩ := id os
  have ts : s.TypeIs (.ref sl) "slice" := ⟨ob, g1, g2⟩
  unfold delItem
  refine wpAny_holding (wpAny_bind (wpAny_sequenceKey tl (by decide) (wpAny_bind (wpAny_callSpecial?_slot (name := Str.ofString "__delitem__") tl F.slot_list_delitem (wpAny_call_entry F.slot_list_delitem tl F.entry_list_delitem ?_ (F.args_list_delitem_2 _ _))))))
  show wpAny _ _ (Builtin.List.listSubscript? (.ref sl) >>= _) _ _ s
  unfold Builtin.List.listSubscript?
  refine wpAny_bind (wpAny_bind (wpAny_specialOf ts slice_no_index ?_))
  simp only [Option.isNone_none, if_true]
  refine wpAny_pure ?_
  show wpAny _ _ (typeOf (.ref sl) >>= _) _ _ s
  refine wpAny_bind (wpAny_typeOf ts (PySem.W.KFB.if_not (by decide) ?_))
  rw [listSliceParts_eq]
  refine wpAny_bind (wpAny_bind (wpAny_field g1 g3 (x := .none) rfl (wpAny_bind (wpAny_listPart .none ?_))))
  rw [if_neg (show ¬ ((rawPart none == rawInt 0) = true) from Bool.false_ne_true)]
  refine wpAny_bind (wpAny_field g1 g3 (x := vl) rfl (wpAny_bind (wpAny_listPart p1 (wpAny_bind (wpAny_field g1 g3 (x := vu) rfl (wpAny_bind (wpAny_listPart p2 (wpAny_pure ?_))))))))
  unfold Builtin.List.listItems
  refine wpAny_bind (wpAny_bind (wpAny_seqItems el rfl (wpAny_pure (wpAny_bind (wpAny_of_eq ((sliceIndices_raw lo hi none items.size (by simp)).trans (congrArg (pure : Int × Int × Int → Sem (Int × Int × Int)) bd)) ?_)))))
  refine wpAny_bind (wpAny_rule ?_)
  have sm : ∀ xs : Array Value, xs = items → (xs.toList.zipIdx.filterMap fun (x, k) => if ((decide ((a : Int) ≤ (k : Int)) && decide ((k : Int) < (items.size : Int))) && (((k : Int) - (a : Int)) % 1 == 0)) = true then none else some x).toArray = (items.toList.take a).toArray := fun xs e => by
    subst e
    rw [zipIdx_cut a xs.size xs.toList 0 (by simp)]
    rw [Nat.sub_zero]
  show wpAny _ _ (updateSeq l (fun xs => (xs.toList.zipIdx.filterMap fun (x, k) => if ((decide ((a : Int) ≤ (k : Int)) && decide ((k : Int) < (items.size : Int))) && (((k : Int) - (a : Int)) % 1 == 0)) = true then none else some x).toArray) >>= _) _ _ s
  refine wpAny_bind (wpAny_updateSeq el rfl (wpAny_bind (wpAny_letGo ?_)) room (by rw [sm items rfl]; simp; omega))
  exact wpAny_pure ⟨.none, rfl, wpAny_pure (k _ (sm items rfl))⟩
theorem tail_bounds {a n : Nat} : sliceBounds (some (a : Int)) none none n = (((min a n : Nat) : Int), (n : Int), 1) := by
  unfold sliceBounds
  simp only [Option.getD_none, show ¬ ((a : Int) < 0) by omega, if_false, show (1 : Int) > 0 by decide, if_true]
  refine Prod.ext ?_ (Prod.ext ?_ rfl)
  · show max 0 (min (a : Int) (n : Int)) = ((min a n : Nat) : Int)
    omega
  · rfl
end
section
variable {X : Cx}
theorem del_cutV {pins : List (Addr × Obj)} {s : Shared} {σ : L2.St} {H : Hp} {l sl : Addr} {xs : List V} {a : Nat} {vl vu : Value} {Q : Unit → Shared → Prop} (I : Inv X pins σ H s) (hl : H l = some (.lst xs)) (os : s.heap.IsSliceOf sl vl vu .none) (p1 : IsPart vl (some (a : Int))) (p2 : IsPart vu none)
    (k : ∀ s', Inv X pins σ (upd H l (.lst (xs.take a))) s' → Q () s') : wpAny (model X.prog X.w) X.A (delItem (.ref l) (.ref sl)) Q X.xe s := by
  obtain ⟨z, i1, n1, r1, e1, g1⟩ := I.lstM hl
  refine del_cut (a := min a i1.length) g1 os p1 p2 (by rw [List.size_toArray]; exact tail_bounds) (by rw [List.size_toArray]; omega) fun f hf => k _ ?_
  refine I.lset (f := f) (its' := i1.take (min a i1.length)) (t' := s.toks) hl g1 (by rw [hf]) ?_ ?_
  · have : i1.take (min a i1.length) = i1.take a := by
      rcases Nat.le_total a i1.length with q | q
      · rw [Nat.min_eq_left q]
      · rw [Nat.min_eq_right q, List.take_of_length_le (Nat.le_refl _), List.take_of_length_le q]
    rw [this]
    exact r1.take a
  · rw [List.length_take]; omega
/-- del xs[a:] -/
def sDelT (to : TE) (tl th : TO) : TS := fun D σ H => to σ H fun x H2 => tl σ H2 fun a H3 => th σ H3 fun c H4 => ∃ (l : Addr) (xs : List V) (i : Nat), x = .ref l ∧ H4 l = some (.lst xs) ∧ a = some (i : Int) ∧ c = none ∧ D.nx σ (upd H4 l (.lst (xs.take i)))
theorem ps_delT {o : Expr} {lo hi : Option Expr} {p2 pos' pos : Pos} {to : TE} {tl th : TO} (ho : PE X o to) (hl : PO X lo tl) (hh : PO X hi th) : PS X (.Delete [.Subscript o (.Slice lo hi none p2) pos'] pos) (sDelT to tl th) := by
  refine ⟨fun pins s σ H D I h => ?_⟩
  refine wpAny_Delete (wpAny_deleteEach_cons (wpAny_delete_Subscript (thn (ho.run pins s σ H _ I h) fun u s2 ⟨x, H2, I2, rx, q2⟩ => ?_)))
  refine wpAny_Slice (thn (hl.run pins s2 σ H2 _ I2 q2) fun vl s3 ⟨a, H3, I3, pl, q3⟩ => thn (hh.run pins s3 σ H3 _ I3 q3) fun vu s4 ⟨c, H4, I4, pu, q4⟩ => ?_)
  rw [evalPart_none]
  refine wpAny_pure ?_
  obtain ⟨l, xs, i, rfl, el, rfl, rfl, fin⟩ := q4
  obtain rfl : u = Value.ref l := rx
  have I5 : Inv X pins σ H4 { s4 with heap := s4.heap.push { cls := .type "slice", data := .fields #[vl, vu, .none] } } := I4.kept (t' := s4.toks) fun b ob q => Heap.get?_push_of_some _ q
  exact del_cutV I5 el (Heap.IsSliceOf.new ..) pl pu fun s' I6 => wpAny_deleteEach_nil ⟨σ, _, I6, fin⟩
end
end MSl
namespace MM
open PySem PySem.Spec PyProof.Rows L2
section
variable {X : Cx} {W : WX} {pos p : Pos} {e o : Expr} {es : List Expr} {me mo mv : ME} {mas : MA} {K : PySem.W.Frag}
/-! ### del xs[a:] -/
def delG (o : D) (l u : Option Int) (h : MH) : Option MH := match o, l, u with
  | .ref m, some a, none => (lst? h m).bind fun xs => if 0 ≤ a then some (h.set m (.lst (xs.take a.toNat))) else none
  | _, _, _ => none
def mDelT (mo : ME) (lo hi : MOp) : MSt := fun δ h => (mo δ h).st δ fun o h2 => (lo δ h2).st δ fun l h3 => (hi δ h3).st δ fun u h4 => match delG o l u h4 with
  | some h5 => .ok (.next δ) h5
  | none => .stuck
theorem psm_delT {lo hi : Option Expr} {p2 pos' : Pos} {ml mh : MOp} (ho : PEM X W o mo) (hl : POM X W lo ml) (hh : POM X W hi mh) : PSM X W (.Delete [.Subscript o (.Slice lo hi none p2) pos'] pos) (mDelT mo ml mh) :=
  PS.imp (MSl.ps_delT ho hl hh) fun D σ H ⟨L, h, δ, r, s, a⟩ => ⟨L, h, δ, r, s, Ans.imp (AnsS.bind (rp := Rep X.K) s a) fun vo H2 ⟨L2, h2, d2, x2, r2, p2, s2, a2⟩ => ⟨L2, h2, δ, r2, s2, Ans.imp (AnsS.bind (rp := rpO) s2 a2) fun l H3 ⟨L3, h3, l', x3, r3, p3, s3, a3⟩ =>
      ⟨L3, h3, δ, r3, s3, Ans.imp (AnsS.bind (rp := rpO) s3 a3) fun u H4 ⟨L4, h4, u', x4, r4, p4, s4, a4⟩ => by
        cases p3
        cases p4
        cases eg : delG d2 l u h4 with
        | none => rw [eg] at a4; exact a4.elim
        | some h5 =>
          rw [eg] at a4
          unfold delG at eg
          split at eg
          · rename_i m a
            obtain ⟨xs, g2, eg⟩ := Option.bind_eq_some_iff.mp eg
            split at eg
            · rename_i z
              cases eg
              obtain ⟨pl, vs, e3, e4, w2⟩ := r4.lst (lst?_at g2)
              obtain ⟨i, rfl⟩ := Int.eq_ofNat_of_zero_le z
              simp only [Int.toNat_natCast] at a4
              have po := (p2.mono (x3.trans x4)).ref e3
              obtain ⟨x5, r5⟩ := r4.wr e3 e4 (w2.take i)
              exact ⟨pl, vs, i, po, e4, rfl, rfl, (a4.mono x5).nx r5 (s4.mono x5)⟩
            · cases eg
          · cases eg⟩⟩⟩
/-! ### a, b = a tuple or a list -/
theorem _root_.L2.PG.or {t1 t2 : TG} (h1 : PG X e t1) (h2 : PG X e t2) : PG X e (fun v σ H Q => t1 v σ H Q ∨ t2 v σ H Q) :=
  ⟨fun pins s σ H v u Q I r q => q.elim (h1.run pins s σ H v u Q I r) (h2.run pins s σ H v u Q I r)⟩
def mgSeq (n : Nat) (gs : MGs) : MG := fun d δ => match d with
  | .tup ds => if ds.length = n then gs ds δ else none
  | .rol ds => if ds.length = n then gs ds δ else none
  | _ => none
theorem pgm_seq {S : List Nat} {es : List Expr} {k n : Nat} {gs : MGs} (hc : X.calm = true) (h : PGsM X es S gs)
    (hn : (assignEach es X.env).length = n := by rfl) (hst : (assignEach es X.env).findIdx? (·.1) = none := by rfl) : PGM X (.Tuple es k pos) S (mgSeq n gs) :=
  PG.imp (PG.or (pg_tup hc h hn hst) (pg_lst hc h hn hst)) fun v σ H Q ⟨L, h, δ, d, r, s, p, δ', e, q⟩ => by
    cases d with
    | tup ds =>
      obtain ⟨a, xs, rfl, st, w⟩ := tup_of p
      replace e : (if ds.length = n then gs ds δ else none) = some δ' := e
      by_cases hl : ds.length = n
      · rw [if_pos hl] at e
        exact .inl ⟨a, xs, rfl, st, by rw [← w.length]; exact hl, L, h, δ, ds, r, s, w, δ', e, q⟩
      · rw [if_neg hl] at e; cases e
    | rol ds =>
      obtain ⟨a, xs, rfl, st, w⟩ := rol_sf p
      replace e : (if ds.length = n then gs ds δ else none) = some δ' := e
      by_cases hl : ds.length = n
      · rw [if_pos hl] at e
        exact .inr ⟨a, xs, rfl, st, by rw [← w.length]; exact hl, L, h, δ, ds, r, s, w, δ', e, q⟩
      · rw [if_neg hl] at e; cases e
    | _ => cases e
/-! ### f(e, ..), f a name that holds a def of the top -/
/-- a def of the top, found by its name -/
structure DefN (P : Program) (w : World) (K : PySem.W.Frag) (mg : Str → Option Value) (base : Heap) (k : Nat) (n : Str) (m : List D → MH → R D) : Prop where
  ex : ∃ (f : Addr) (fd : FuncData) (ps : List Str), PySem.W.nsIn K mainGlobals n = some (some (.ref f)) ∧ FnM P w K mg base k f fd ps m ∧ PySem.W.keepIn K (.ref f) = true ∧ Binds K fd ps []
theorem DefN.mono {P : Program} {w : World} {mg : Str → Option Value} {base : Heap} {j k : Nat} {n : Str} {m : List D → MH → R D} (d : DefN P w K mg base j n m) (h : j ≤ k) : DefN P w K mg base k n m :=
  let ⟨f, fd, ps, a, b, c⟩ := d.ex
  ⟨f, fd, ps, a, FnM.mono b h, c⟩
def TabM (P : Program) (w : World) (K : PySem.W.Frag) (mg : Str → Option Value) (base : Heap) (k : Nat) (tab : List (Str × (List D → MH → R D))) : Prop := ∀ n m, tab.lookup n = some m → DefN P w K mg base k n m
theorem tab_nil {P : Program} {w : World} {mg : Str → Option Value} {base : Heap} {k : Nat} : TabM P w K mg base k [] := fun n m h => by cases h
theorem tab_cons {P : Program} {w : World} {mg : Str → Option Value} {base : Heap} {k : Nat} {n : Str} {m : List D → MH → R D} {tab : List (Str × (List D → MH → R D))} (d : DefN P w K mg base k n m) (t : TabM P w K mg base k tab) : TabM P w K mg base k ((n, m) :: tab) := fun n' m' h => by
  rw [List.lookup] at h
  split at h
  · rename_i z
    cases h
    have : n' = n := by simpa using z
    rw [this]; exact d
  · exact t n' m' h
def mCallV (tab : List (Str × (List D → MH → R D))) (mv : ME) (mas : MA) : ME := fun δ h => (mv δ h).bnd fun d h1 => match d with
  | .kon n => (match tab.lookup n with
    | some m => (mas δ h1).bnd fun ds h2 => m ds h2
    | none => .stuck)
  | _ => .stuck
theorem pem_callV {x : Str} {k : Nat} {tab : List (Str × (List D → MH → R D))} (hv : PEM X W (.Name x p) mv) (T : TabM X.prog X.w X.K X.mg X.base k tab) (hr : Room k X.A) (tk : L2N.Takes X W) (ha : PAM X W (e :: es) mas)
    (he : starEach (e :: es) X.env = (false, eval e X.env) :: starEach es X.env := by rfl) (hpl : (backTo pos (starEach es X.env)).any (·.1) = false := by rfl) : PEM X W (.Call (.Name x p) (e :: es) [] pos) (mCallV tab mv mas) := by
  refine ⟨fun pins s σ H Q I ⟨L, h, δ, r0, s0, a⟩ => ?_⟩
  refine wpAny_Call_Name_kw (thn (hv.run pins s σ H _ I ⟨L, h, δ, r0, s0, Ans.bind (rp := Rep X.K) a⟩) fun u s1 ⟨v, H1, I1, rv, L1, h1, d, x1, r1, p1, a1⟩ => ?_)
  cases d with
  | kon n =>
    simp only at a1
    cases et : tab.lookup n with
    | none => rw [et] at a1; exact a1.elim
    | some m =>
      rw [et] at a1
      obtain ⟨f, fd, ps, hn, F, hk, hb⟩ := (T n m et).ex
      have : v = .ref f := by
        unfold Rep at p1
        obtain ⟨a2, e1, e2⟩ := p1
        rw [hn] at e2
        cases e2
        exact e1
      subst this
      obtain rfl : u = Value.ref f := rv
      refine PySem.W.callWith_K (h₀ := X.base) I1.ok.mod.kin hk (thn (ha.run pos pins s1 σ H1 _ I1 ⟨L1, h1, δ, r1, s0.mono x1, Ans.bind (rp := RepL X.K) a1⟩) fun us s2 ⟨vs, H2, I2, r2, L2, h2, ds, x2, rr2, p2, a2⟩ => ⟨I2.kIn, ?_⟩) he hpl
      exact run_fnS (E := WE W) F hr hb (L2N.passAt tk σ) I2 r2 ⟨L2, h2, ds, rr2, p2, a2⟩
  | _ => exact a1.elim
theorem pem_kon {n : Str} {st : Stmt} {f : Addr} {fd : FuncData} {ps : List Str} (DA : DefAt X.K X.mg n st f fd ps) (hn : PySem.W.nsIn X.K mainGlobals n = some (some (.ref f))) (hg : Gl X n) (hd : (n == ("__debug__" : Str)) = false := by decide) : PEM X W (.Name n p) (mC (.kon n)) :=
  PE.imp (pe_glob (v := .ref f) hg DA.mg' rfl hd) fun σ H Q ⟨L, h, δ, r, s, a⟩ => ans_okE r (by unfold Rep; exact ⟨f, rfl, hn⟩) a
end
end MM

set_option maxHeartbeats 2000000
namespace MM
open PySem PySem.Spec PyProof.Rows L2
open Classical in
/-- the turns of a dict comprehension -/
noncomputable def dcM (g : MH → Prop) (tgt : MG) (cond : MT) (kx vx : ME) (n : Nat) (δ0 : MS) : List D → MH → R Unit
  | [], h => if g h then .ok () h else .stuck
  | x :: r, h => if g h then (match tgt x δ0 with
      | some δ1 => (cond δ1 h).nx.bnd fun b h1 => if b then (kx δ1 h1).nx.bnd fun kd h2 => (vx δ1 h2).nx.bnd fun y h3 => (match keyD kd, dic? h3 n with
          | some k, some acc => if acc.length < 16777216 then dcM g tgt cond kx vx n δ0 r (h3.set n (.dic (putD acc k y))) else .stuck
          | _, _ => .stuck) else dcM g tgt cond kx vx n δ0 r h1
      | none => .stuck) else .stuck
/-- a dict that nobody changes from now on; one that may change -/
noncomputable def mDc (src : MI) (tgt : MG) (cond : MT) (kx vx : ME) (vs : List Nat) : ME := fun δ h => (src δ h).bnd fun S h1 => (dcM S.g tgt cond kx vx h1.length (wipeM δ vs) S.ds (h1 ++ [.dic []])).bnd fun _ h2 => match dic? h2 h1.length with
  | some (p :: acc) => leave h1 (.rdc ((p :: acc).map (·.1)) ((p :: acc).map (·.2))) (h2.set h1.length .dead)
  | _ => .stuck
noncomputable def mDcN (src : MI) (tgt : MG) (cond : MT) (kx vx : ME) (vs : List Nat) : ME := fun δ h => (src δ h).bnd fun S h1 => (dcM S.g tgt cond kx vx h1.length (wipeM δ vs) S.ds (h1 ++ [.dic []])).bnd fun _ h2 => match dic? h2 h1.length with
  | some acc => .ok (.ref h1.length) h2
  | none => .stuck
theorem oat_nild {K L H a} : OAt K L (upd H a (.dK [])) (some (some a)) (.dic []) := ⟨a, [], rfl, upd_same, rfl⟩
theorem repK_len {K L H} : ∀ {ds : List (Key × D)} {vs}, RepK K L H ds vs → ds.length = vs.length
  | [], _, rfl => rfl
  | d :: ds, _, ⟨v, vs, rfl, q, w⟩ => by rw [List.length_cons, List.length_cons, repK_len w]
theorem repK_parts {K L H} : ∀ {ds : List (Key × D)} {vs}, RepK K L H ds vs → vs = (ds.map (·.1)).zip (vs.map (·.2)) ∧ RepL K L H (ds.map (·.2)) (vs.map (·.2))
  | [], _, rfl => ⟨rfl, .nil⟩
  | d :: ds, _, ⟨v, vs, rfl, q, w⟩ => by
    obtain ⟨a, b⟩ := repK_parts w
    refine ⟨?_, .cons q b⟩
    simp only [List.map_cons, List.zip_cons_cons]
    rw [← a]
theorem dc_turns {K : PySem.W.Frag} {J : L2.It} {S : List Nat} {g : MG} {cond : MT} {kx vx : ME} {vs : List Nat} (hs : ∀ i ∈ S, i ∈ vs) {L1 : TL} {H1 : Hp} {h1 : MH} {Sr : Src} {δ : MS} {σ : L2.St} {Dl : Addr} {k : Unit → MH → R D} {Q : VK} {E : XK}
    (r1 : Rel K L1 H1 h1) (s1 : RepS K L1 H1 δ σ) (tr : Trod K L1 H1 J Sr.ds Sr.g) (hD : H1 Dl = none)
    (a : Ans K (Rep K) L1 H1 ((dcM Sr.g g cond kx vx h1.length (wipeM δ vs) Sr.ds (h1 ++ [.dic []])).bnd k) Q E)
    (hd : ∀ L' H' h', Ext L1 H1 L' H' → Rel K L' H' h' → (∃ o, L'[h1.length]? = some o ∧ ∀ b, o = some b → b = Dl) → Ans K (Rep K) L1 H1 (k () h') Q E → Q (.ref Dl) H') :
    ∃ W : Nat → Nat → Hp → Prop, (∃ m, W 0 m (upd H1 Dl (.dK []))) ∧ ∀ i m H, W i m H →
      (J.stop i H ∧ Q (.ref Dl) H) ∨ (J.go i H ∧ ∃ Nx : Hp → Prop, (∀ H', Nx H' → ∃ m', m' < m ∧ W (i + 1) m' H') ∧ ∀ x H', J.yld i H x H' → tG K S g x (wipe σ vs) H' fun σ2 H2 => wipe σ2 vs = wipe σ vs ∧ tT K W0 cond σ2 H2 fun b H3 =>
        if b = true then tE K W0 kx σ2 H3 fun y H4 => tE K W0 vx σ2 H4 fun z H5 => ∃ kvs k, y = kV k ∧ H5 Dl = some (.dK kvs) ∧ kvs.length < sizeLine ∧ Nx (upd H5 Dl (.dK (putK kvs k z))) else Nx H3) := by
  obtain ⟨xa, ra⟩ := r1.alloc (m := .dic []) hD oat_nild
  have at0 : (L1 ++ [some Dl])[h1.length]? = some (some Dl) := by rw [getElem?_snoc, if_pos r1.len.symm]
  have own : ∀ {L' : TL} {H' : Hp}, Ext (L1 ++ [some Dl]) (upd H1 Dl (.dK [])) L' H' → ∃ o, L'[h1.length]? = some o ∧ ∀ b, o = some b → b = Dl := fun x => by
    rcases x.live _ _ at0 with z | z
    · exact ⟨_, z, fun b e => (Option.some.inj e).symm⟩
    · exact ⟨_, z, fun b e => by cases e⟩
  refine ⟨fun i m H' => ∃ L' h', Ext (L1 ++ [some Dl]) (upd H1 Dl (.dK [])) L' H' ∧ Rel K L' H' h' ∧ m = Sr.ds.length - i ∧ i ≤ Sr.ds.length ∧ Ans K (Rep K) L1 H1 ((dcM Sr.g g cond kx vx h1.length (wipeM δ vs) (Sr.ds.drop i) h').bnd k) Q E,
    ⟨Sr.ds.length, _, _, Ext.refl _ _, ra, by simp, Nat.zero_le _, by rw [List.drop_zero]; exact a⟩, ?_⟩
  rintro i m H' ⟨L', h', x', r', rfl, hi, a'⟩
  have x1' := xa.trans x'
  by_cases hlt : i < Sr.ds.length
  · rw [List.drop_eq_getElem_cons hlt] at a'
    unfold dcM at a'
    split at a'
    case isFalse => exact a'.elim
    rename_i hg'
    refine .inr ⟨tr.go L' H' h' i x1' r' hg' hlt, fun H2 => ∃ L2 h2, Ext (L1 ++ [some Dl]) (upd H1 Dl (.dK [])) L2 H2 ∧ Rel K L2 H2 h2 ∧ Ans K (Rep K) L1 H1 ((dcM Sr.g g cond kx vx h1.length (wipeM δ vs) (Sr.ds.drop (i + 1)) h2).bnd k) Q E,
      fun H2 ⟨L2, h2, e1, e2, e3⟩ => ⟨Sr.ds.length - (i + 1), by omega, L2, h2, e1, e2, rfl, hlt, e3⟩, fun x H'' hy => ?_⟩
    obtain ⟨x2, r2, d, hd', pd⟩ := tr.yld L' H' h' i x H'' x1' r' hg' hlt hy
    have hdd : Sr.ds[i] = d := by
      rw [List.getElem?_eq_getElem hlt] at hd'
      exact Option.some.inj hd'
    rw [hdd] at a'
    cases et : g d (wipeM δ vs) with
    | none => rw [et] at a'; exact a'.elim
    | some δ1 =>
      simp only [et] at a'
      refine ⟨L', h', wipeM δ vs, d, r2, (s1.wipe vs).mono (x1'.trans x2), pd, δ1, et, fun σ2 s2 o2 => ⟨?_, ?_⟩⟩
      · rw [wipe_eq o2 hs, wipe_wipe]
      · rw [R.bnd_assoc] at a'
        refine ⟨L', h', δ1, r2, s2, Ans.imp (Ans.nx (Ans.bind0 (rp := rpB) (x1'.trans x2) a')) fun b H3 ⟨L3, h3, b', x3, r3, p3, a3⟩ => ?_⟩
        cases p3
        cases b with
        | false => exact iteF ⟨L3, h3, (x'.trans x2).trans x3, r3, a3⟩
        | true =>
          refine iteT ?_
          simp only [if_true] at a3
          rw [R.bnd_assoc] at a3
          refine ⟨L3, h3, δ1, r3, s2.mono x3, Ans.imp (Ans.nx (Ans.bind0 (rp := Rep K) ((x1'.trans x2).trans x3) a3)) fun y H4 ⟨L4, h4, dy, x4, r4, p4, a4⟩ => ?_⟩
          rw [R.bnd_assoc] at a4
          refine ⟨L4, h4, δ1, r4, (s2.mono x3).mono x4, Ans.imp (Ans.nx (Ans.bind0 (rp := Rep K) (((x1'.trans x2).trans x3).trans x4) a4)) fun z H5 ⟨L5, h5, dz, x5, r5, p5, a5⟩ => ?_⟩
          have x6 := (x'.trans x2).trans (x3.trans (x4.trans x5))
          cases ek : keyD dy with
          | none => rw [ek] at a5; exact a5.elim
          | some ky =>
            cases el : dic? h5 h1.length with
            | none => rw [ek, el] at a5; exact a5.elim
            | some acc =>
              simp only [ek, el] at a5
              obtain ⟨ad, xs, e1, e2, w⟩ := r5.dic (dic?_at el)
              obtain ⟨o, eo, ho⟩ := own x6
              rw [e1] at eo; cases eo
              have : ad = Dl := ho ad rfl
              subst this
              by_cases hz : acc.length < 16777216
              · rw [if_pos hz] at a5
                refine ⟨xs, ky, keyD_ok p4 ek, e2, by rw [sizeLine_eq, ← repK_len w]; exact hz, ?_⟩
                have nf : ∀ o u, H5 ad ≠ some (.frz o u) := fun o u z => by rw [e2] at z; cases z
                obtain ⟨x7, r7⟩ := r5.write (m := .dic (putD acc ky dz)) e1 nf (o := .dK (putK xs ky z)) ⟨ad, _, rfl, upd_same, (repK_put p5 w).mono (ext_write e1 nf)⟩
                exact ⟨L5, _, x6.trans x7, r7, a5⟩
              · rw [if_neg hz] at a5; exact a5.elim
  · have e : i = Sr.ds.length := by omega
    subst e
    rw [List.drop_length] at a'
    unfold dcM at a'
    split at a'
    case isFalse => exact a'.elim
    rename_i hg'
    exact .inl ⟨tr.stop L' H' h' x1' r' hg', hd L' H' h' x1' r' (own x') a'⟩
theorem dc_end {K : PySem.W.Frag} {L1 L' : TL} {H1 H' : Hp} {h1 h' : MH} {p : Key × D} {acc : List (Key × D)} {Dl : Addr} {Q : VK} {E : XK} (r1 : Rel K L1 H1 h1) (x : Ext L1 H1 L' H') (r' : Rel K L' H' h') (o : ∃ o, L'[h1.length]? = some o ∧ ∀ b, o = some b → b = Dl) (e : dic? h' h1.length = some (p :: acc))
    (a : Ans K (Rep K) L1 H1 (leave h1 (.rdc ((p :: acc).map (·.1)) ((p :: acc).map (·.2))) (h'.set h1.length .dead)) Q E) : Q (.ref Dl) H' := by
  obtain ⟨ad, xs, e1, e2, w⟩ := r'.dic (dic?_at e)
  obtain ⟨o, eo, ho⟩ := o
  rw [e1] at eo; cases eo
  have : ad = Dl := ho ad rfl
  subst this
  obtain ⟨xk, rk⟩ := r'.kill (n := h1.length) (List.getElem?_eq_some_iff.mp (dic?_at e)).1
  refine ans_leave r1 (x.trans xk) rk ?_ a
  unfold Rep
  obtain ⟨z1, z2⟩ := repK_parts w
  exact ⟨ad, xs.map (·.2), rfl, .inl (by rw [← z1]; exact e2), NL.kill r' e1, ⟨by simp, by simp⟩, z2.mono xk⟩
theorem dc_endN {K : PySem.W.Frag} {L1 L' : TL} {H1 H' : Hp} {h1 h' : MH} {acc : List (Key × D)} {Dl : Addr} {Q : VK} {E : XK} (r1 : Rel K L1 H1 h1) (x : Ext L1 H1 L' H') (r' : Rel K L' H' h') (o : ∃ o, L'[h1.length]? = some o ∧ ∀ b, o = some b → b = Dl) (e : dic? h' h1.length = some acc)
    (a : Ans K (Rep K) L1 H1 (.ok (.ref h1.length) h') Q E) : Q (.ref Dl) H' := by
  obtain ⟨ad, xs, e1, e2, w⟩ := r'.dic (dic?_at e)
  obtain ⟨o, eo, ho⟩ := o
  rw [e1] at eo; cases eo
  have : ad = Dl := ho ad rfl
  subst this
  refine ans_okE r' ?_ (a.mono x)
  unfold Rep
  exact ⟨ad, rfl, .inl e1⟩
theorem tDc_of {K : PySem.W.Frag} {W : WX} {S : List Nat} {mi : MI} {g : MG} {cond : MT} {kx vx : ME} {vs : List Nat} (hs : ∀ i ∈ S, i ∈ vs) {σ : L2.St} {H : Hp} {Q : VK} (t : tE K W (mDc mi g cond kx vx vs) σ H Q) : tDc (tI K W mi) (tG K S g) (tT K W0 cond) (tE K W0 kx) (tE K W0 vx) vs σ H Q := by
  obtain ⟨L, h, δ, r, s, a⟩ := t
  refine ⟨L, h, δ, r, s, ?_⟩
  unfold mDc at a
  generalize mi δ h = m at a
  cases m with
  | stuck => exact a.elim
  | exc c fs h1 => exact a
  | ok Sr h1 =>
    intro L1 H1 J x1 r1 tr Dl hD
    refine dc_turns hs r1 (s.mono x1) tr hD (Ans.mono x1 a) fun L' H' h' x' r' o a' => ?_
    cases el : dic? h' h1.length with
    | none => rw [el] at a'; exact a'.elim
    | some acc =>
      cases acc with
      | nil => rw [el] at a'; exact a'.elim
      | cons p acc => simp only [el] at a'; exact dc_end r1 x' r' o el a'
theorem tDcN_of {K : PySem.W.Frag} {W : WX} {S : List Nat} {mi : MI} {g : MG} {cond : MT} {kx vx : ME} {vs : List Nat} (hs : ∀ i ∈ S, i ∈ vs) {σ : L2.St} {H : Hp} {Q : VK} (t : tE K W (mDcN mi g cond kx vx vs) σ H Q) : tDc (tI K W mi) (tG K S g) (tT K W0 cond) (tE K W0 kx) (tE K W0 vx) vs σ H Q := by
  obtain ⟨L, h, δ, r, s, a⟩ := t
  refine ⟨L, h, δ, r, s, ?_⟩
  unfold mDcN at a
  generalize mi δ h = m at a
  cases m with
  | stuck => exact a.elim
  | exc c fs h1 => exact a
  | ok Sr h1 =>
    intro L1 H1 J x1 r1 tr Dl hD
    refine dc_turns hs r1 (s.mono x1) tr hD (Ans.mono x1 a) fun L' H' h' x' r' o a' => ?_
    cases el : dic? h' h1.length with
    | none => rw [el] at a'; exact a'.elim
    | some acc => simp only [el] at a'; exact dc_endN r1 x' r' o el a'
section
variable {X : Cx} {W : WX} {ek ev tg iter : Expr} {ifs : List Expr} {scope : Scope} {own : List (Str × Nat)} {pos : Pos} {mi : MI} {S : List Nat} {g : MG} {cond : MT} {mk mv : ME}
theorem pem_dc (hc : X.calm = true) (hN : X.N.Nodup) (hi : PIM X W tg iter mi) (ok : BlkOk X.N X.env.scope scope own) (hS : ∀ i ∈ S, i ∈ own.map (·.2))
    (hg : ∀ (s : Shared) (H : Hp) (C : Addr) (cl : List (Str × Addr)) (fp : List Addr), PGM (X.blk s H scope (compEnvC scope cl C X.env) fp) tg S g)
    (ht : ∀ (s : Shared) (H : Hp) (C : Addr) (cl : List (Str × Addr)) (fp : List Addr), PTsM (X.blk s H scope (compEnvC scope cl C X.env) fp) W0 ifs cond)
    (hk : ∀ (s : Shared) (H : Hp) (C : Addr) (cl : List (Str × Addr)) (fp : List Addr), PEM (X.blk s H scope (compEnvC scope cl C X.env) fp) W0 ek mk)
    (he : ∀ (s : Shared) (H : Hp) (C : Addr) (cl : List (Str × Addr)) (fp : List Addr), PEM (X.blk s H scope (compEnvC scope cl C X.env) fp) W0 ev mv) (hs : ∀ x, foldedSetIterable iter X.env x = pure x := by intro _; rfl) :
    PEM X W (.DictComp ek ev [⟨tg, iter, ifs, 0⟩] scope pos) (mDc mi g cond mk mv (own.map (·.2))) :=
  PE.imp (pe_dc (wi := tI X.K W mi) (g := tG X.K S g) (tt := tT X.K W0 cond) (tk := tE X.K W0 mk) (tv := tE X.K W0 mv) hc hN hi ok hg ht hk he hs) fun _ _ _ t => tDc_of hS t
theorem pem_dcN (hc : X.calm = true) (hN : X.N.Nodup) (hi : PIM X W tg iter mi) (ok : BlkOk X.N X.env.scope scope own) (hS : ∀ i ∈ S, i ∈ own.map (·.2))
    (hg : ∀ (s : Shared) (H : Hp) (C : Addr) (cl : List (Str × Addr)) (fp : List Addr), PGM (X.blk s H scope (compEnvC scope cl C X.env) fp) tg S g)
    (ht : ∀ (s : Shared) (H : Hp) (C : Addr) (cl : List (Str × Addr)) (fp : List Addr), PTsM (X.blk s H scope (compEnvC scope cl C X.env) fp) W0 ifs cond)
    (hk : ∀ (s : Shared) (H : Hp) (C : Addr) (cl : List (Str × Addr)) (fp : List Addr), PEM (X.blk s H scope (compEnvC scope cl C X.env) fp) W0 ek mk)
    (he : ∀ (s : Shared) (H : Hp) (C : Addr) (cl : List (Str × Addr)) (fp : List Addr), PEM (X.blk s H scope (compEnvC scope cl C X.env) fp) W0 ev mv) (hs : ∀ x, foldedSetIterable iter X.env x = pure x := by intro _; rfl) :
    PEM X W (.DictComp ek ev [⟨tg, iter, ifs, 0⟩] scope pos) (mDcN mi g cond mk mv (own.map (·.2))) :=
  PE.imp (pe_dc (wi := tI X.K W mi) (g := tG X.K S g) (tt := tT X.K W0 cond) (tk := tE X.K W0 mk) (tv := tE X.K W0 mv) hc hN hi ok hg ht hk he hs) fun _ _ _ t => tDcN_of hS t
end
end MM

set_option maxHeartbeats 2000000
namespace MM
open PySem PySem.Spec PyProof.Rows L2
/-! ### defs with keyword-only parameters -/
/-- where such a def of the text stands: kws its keyword-only parameters with their defaults -/
structure DefKw (K : PySem.W.Frag) (mg : Str → Option Value) (x : Str) (st : Stmt) (f : Addr) (fd : FuncData) (kws : List (Str × V)) : Prop where
  fn : FunD K x x (defArgs st) (defBody st) (defScope st) [] kws f fd
  mg' : mg x = some (.ref f)
section
variable {P : Program} {w : World} {K : PySem.W.Frag} {mg : Str → Option Value} {base : Heap}
theorem fnM_bodyD {x qn : Str} {st : Stmt} {f : Addr} {fd : FuncData} {N ps : List Str} {dvs : List V} {kws : List (Str × V)} {k : Nat} {m : MSt} {g : List D → MH → R D} (F : FunD K x qn (defArgs st) (defBody st) (defScope st) dvs kws f fd) (S : FnScope N ps (defScope st))
    (hg : ∀ ds h, g ds h = .stuck ∨ (ds.length = ps.length ∧ (g ds h = mEnd h (m (mStart N.length ds) h) ∨ g ds h = mEndN (m (mStart N.length ds) h))))
    (body : ∀ (cdv : Value) (A : Around) (outer : List Env) (s : Shared) (H : Hp) (E : XK), Room k (A.deeper (envOfC qn (defScope st) s.heap.objs.size f cdv)) →
      L2N.Takes (cxOf (L2N.CX P w) P w K mg base N qn (defScope st) f cdv A outer s H E) (fun c d _ H => E c d H) →
      PassesOwn (model P w) (A.deeper (envOfC qn (defScope st) s.heap.objs.size f cdv)) (envOfC qn (defScope st) s.heap.objs.size f cdv) (cxOf (L2N.CX P w) P w K mg base N qn (defScope st) f cdv A outer s H E).xe →
      PSsM (cxOf (L2N.CX P w) P w K mg base N qn (defScope st) f cdv A outer s H E) (fun c d _ H => E c d H) (defBody st) m) :
    FnM P w K mg base (k + 1) f fd ps g := by
  refine FunD.ok F S (fun vs H Q E ⟨L, h, ds, r, q, a⟩ => ?_) (fun cdv A outer s H vs Q E hr ⟨L, h, ds, r, q, a⟩ => ?_)
  · rcases hg ds h with z | ⟨z, _⟩
    · rw [z] at a; exact a.elim
    · rw [← q.length]; exact z
  · refine ⟨_, body cdv A outer s H E hr (L2N.takes_of rfl rfl rfl rfl) (passes_of rfl), ?_⟩
    refine ⟨L, h, mStart N.length ds, r, repS_start q, ?_⟩
    have hx : ∀ (c : Str) (fs : List (Str × D)) (h' : MH) (δ : MS), Ans K (Rep K) L H (.exc c fs h') Q E → AnsS K { nx := fun _ H' => Q .non H', rt := Q } (fun c d _ H => E c d H) L H (.exc c fs δ h') := fun c fs h' δ a L' H' σ' dx xs e r _ q1 q2 => a L' H' dx xs e r q1 q2
    rcases hg ds h with z | ⟨_, z | z⟩
    · rw [z] at a; exact a.elim
    · rw [z] at a
      generalize m (mStart N.length ds) h = res at a ⊢
      cases res with
      | stuck => exact a.elim
      | exc c fs δ h' =>
        unfold mEnd leaveX at a
        simp only at a
        split at a
        case isFalse => exact a.elim
        rename_i zz
        intro L' H' σ' dx xs e r' _ q1 q2
        obtain ⟨x1, r1⟩ := r.leave r' e zz.1
        exact a _ H' dx xs x1 r1 q1 (q2.take zz.2)
      | ok fl h' =>
        cases fl with
        | next δ => exact fun L' H' σ' e r' s' => ans_leave r e r' rep_none a
        | ret d => exact fun L' H' v e r' s' => ans_leave r e r' s' a
        | brk _ => exact a.elim
        | cont _ => exact a.elim
    · rw [z] at a
      generalize m (mStart N.length ds) h = res at a ⊢
      cases res with
      | stuck => exact a.elim
      | exc c fs δ h' => exact hx c fs h' δ a
      | ok fl h' =>
        cases fl with
        | next δ => exact fun L' H' σ' e r' s' => a L' H' .non e r' rep_none
        | ret d => exact fun L' H' v e r' s' => a L' H' v e r' s'
        | brk _ => exact a.elim
        | cont _ => exact a.elim
end
/-! ### the calls -/
/-- what is given, and what fills up -/
def mMore (mas : MA) (ds : List D) : MA := fun δ h => (mas δ h).bnd fun xs h1 => .ok (xs ++ ds) h1
/-- what is given by place, and by name -/
def mKwA (mas mks : MA) : MA := fun δ h => (mas δ h).bnd fun xs h1 => (mks δ h1).bnd fun ys h2 => .ok (xs ++ ys) h2
section
variable {X : Cx} {W : WX} {pos p kpos : Pos} {e : Expr} {es : List Expr} {me : ME} {mas mks : MA} {nm : Option Str} {kws : List Keyword}
def PKM (X : Cx) (W : WX) (kws : List Keyword) (m : MA) : Prop := PK X kws (tA X.K W m)
theorem PK.imp {t t' : TA} (h : PK X kws t) (k : ∀ σ H Q, t' σ H Q → t σ H Q) : PK X kws t' := ⟨fun pos pins s σ H Q I q => h.run pos pins s σ H Q I (k σ H Q q)⟩
theorem pkm_nil : PKM X W [] mNil := PK.imp pk_nil fun σ H Q ⟨L, h, δ, r, s, a⟩ => a L H [] (Ext.refl _ _) r .nil
theorem pkm_cons (ha : PEM X W e me) (hr : PKM X W kws mks) : PKM X W (⟨nm, e, kpos⟩ :: kws) (mCons me mks) :=
  PK.imp (pk_cons ha hr) fun σ H Q ⟨L, h, δ, r, s, a⟩ => ⟨L, h, δ, r, s, Ans.imp (Ans.bind (rp := Rep X.K) a) fun v H1 ⟨L1, h1, d, x1, r1, p1, a1⟩ =>
    ⟨L1, h1, δ, r1, s.mono x1, Ans.imp (Ans.bind (rp := RepL X.K) a1) fun vs H2 ⟨L2, h2, ds, x2, r2, p2, a2⟩ => a2 L2 H2 (v :: vs) (Ext.refl _ _) r2 (.cons (p1.mono x2) p2)⟩⟩
/-- every parameter is given: n by place, the others by name, in their order -/
theorem kbn_all {K : PySem.W.Frag} {x qual : Str} {params : Arguments} {body : List Stmt} {scope : Scope} {kws : List (Str × V)} {f : Addr} {fd : FuncData} {ps ks : List Str} {n : Nat} (F : FunD K x qual params body scope [] kws f fd)
    (h : ∀ (kV doc pm : Value) (an : Option Addr) (cdv ct : Value) (us ws : List Value), us.length = n → ws.length = ks.length → bindArgs (PySem.W.fnOf x qual params body scope .none kV doc pm an cdv ct) ⟨us, ks.zip ws⟩ = pure (ps.zip (us ++ ws))) :
    KBn K fd ps n ks (fun us ws => us ++ ws) (fun us ws => us ++ ws) := by
  obtain ⟨oc, od, dV, kV, doc, pm, an, cdv, ct, osl, rfl, lk, hcd, hD, hK⟩ := F.ex
  rcases hD with ⟨_, rfl⟩ | ⟨e, _⟩
  · exact ⟨fun s us ws X l1 l2 => .of_eq (h kV doc pm an cdv ct us ws l1 l2), fun r1 r2 => r1.append r2⟩
  · exact absurd rfl e
theorem run_fnNS {CX : CXT} {k n : Nat} {f : Addr} {fd : FuncData} {ps ks : List Str} {sp : Sp} {E : XK} {g : List Value → List Value → List Value} {gV : List V → List V → List V} {pins : List (Addr × Obj)} {σ : L2.St} {H : Hp} {s : Shared} {Q : VK} {us ws : List Value} {vs zs : List V} (F : FnOk X.prog X.w X.K X.mg X.base CX k f fd ps sp) (hr : Room k X.A) (hb : KBn X.K fd ps n ks g gV) (hx : PassesAt CX X σ E)
    (I : Inv X pins σ H s) (r : Vals vs us) (rz : Vals zs ws) (l1 : vs.length = n) (l2 : zs.length = ks.length) (h : sp (gV vs zs) H Q E) : wpAny (model X.prog X.w) X.A (call (.ref f) us (ks.zip ws)) (EP X pins σ Q) X.xe s := by
  have r2 := hb.rel r rz
  refine wpAny_call (codeAny_mono (F.run X.A X.stack s H ⟨us, ks.zip ws⟩ (g us ws) (gV vs zs) Q E hr I.env0 (hb.to s us ws I.kIn (r.length.symm.trans l1) (rz.length.symm.trans l2)) r2 h) fun r s' hq => ?_)
  cases r with
  | error e => exact hx pins H s e s' I hq
  | ok fl =>
    cases fl with
    | ret u => exact I.after hq
    | next => exact False.elim hq
    | brk => exact False.elim hq
    | cont => exact False.elim hq
def tCallNS (n m : Nat) (sp : Sp) (gV : List V → List V → List V) (E : L2.St → XK) (t tk : TA) : TE := fun σ H Q => t σ H fun vs H1 => tk σ H1 fun zs H2 => vs.length = n ∧ zs.length = m ∧ sp (gV vs zs) H2 Q (E σ)
theorem pe_callNS {CX : CXT} {k n : Nat} {f : Addr} {fd : FuncData} {ps ks : List Str} {sp : Sp} {E : L2.St → XK} {x : Str} {t tk : TA} {g : List Value → List Value → List Value} {gV : List V → List V → List V} (F : FnOk X.prog X.w X.K X.mg X.base CX k f fd ps sp) (hr : Room k X.A) (hg : Gl X x) (hm : X.mg x = some (.ref f)) (hk : PySem.W.keepIn X.K (.ref f) = true) (hb : KBn X.K fd ps n ks g gV) (hx : ∀ σ, PassesAt CX X σ (E σ))
    (ha : PA X (e :: es) t) (hkw : PK X kws tk) (hall : (backToKw pos (keywordEach kws X.env)).all (·.1.isSome) = true := by rfl) (hks : (backToKw pos (keywordEach kws X.env)).filterMap (·.1) = ks := by rfl)
    (hdb : (x == ("__debug__" : Str)) = false := by decide) (he : starEach (e :: es) X.env = (false, eval e X.env) :: starEach es X.env := by rfl)
    (hpl : ((backTo pos (starEach (e :: es) X.env)).any (·.1) || (backToKw pos (keywordEach kws X.env)).any (·.1.isNone)) = false := by rfl) :
    PE X (.Call (.Name x p) (e :: es) kws pos) (tCallNS n ks.length sp gV E t tk) := by
  refine ⟨fun pins s σ H Q I h => ?_⟩
  refine wpAny_Call_Name_kw (ld_glob I hg hm ?_ hdb)
  refine PySem.W.callWith_KW (h₀ := X.base) I.ok.mod.kin hk hall (thn (ha.run pos pins s σ H _ I h) fun us s1 ⟨vs, H1, I1, r, q⟩ => ?_) hpl he
  refine thn (hkw.run pos pins s1 σ H1 _ I1 q) fun ws s2 ⟨zs, H2, I2, rz, l1, l2, q2⟩ => ⟨I2.kIn, ?_⟩
  rw [hks]
  exact run_fnNS F hr hb (hx σ) I2 r rz l1 l2 q2
open Classical in
/-- f(e, .., k = v, ..): n by place, the others by name, in their order -/
noncomputable def mCallN (n m : Nat) (f : List D → MH → R D) (mas mks : MA) : ME := fun δ h => (mas δ h).bnd fun xs h1 => (mks δ h1).bnd fun ys h2 => if xs.length = n ∧ ys.length = m then f (xs ++ ys) h2 else .stuck
theorem pem_callN {x : Str} {st : Stmt} {f : Addr} {fd : FuncData} {ps ks : List Str} {k n : Nat} {kw : List (Str × V)} {m : List D → MH → R D} (F : FnM X.prog X.w X.K X.mg X.base k f fd ps m) (DA : DefKw X.K X.mg x st f fd kw) (hr : Room k X.A) (tk : L2N.Takes X W) (hg : Gl X x)
    (hb : ∀ (kV doc pm : Value) (an : Option Addr) (cdv ct : Value) (us ws : List Value), us.length = n → ws.length = ks.length → bindArgs (PySem.W.fnOf x x (defArgs st) (defBody st) (defScope st) .none kV doc pm an cdv ct) ⟨us, ks.zip ws⟩ = pure (ps.zip (us ++ ws)))
    (ha : PAM X W (e :: es) mas) (hkw : PKM X W kws mks) (hall : (backToKw pos (keywordEach kws X.env)).all (·.1.isSome) = true := by rfl) (hks : (backToKw pos (keywordEach kws X.env)).filterMap (·.1) = ks := by rfl)
    (hdb : (x == ("__debug__" : Str)) = false := by decide) (he : starEach (e :: es) X.env = (false, eval e X.env) :: starEach es X.env := by rfl)
    (hpl : ((backTo pos (starEach (e :: es) X.env)).any (·.1) || (backToKw pos (keywordEach kws X.env)).any (·.1.isNone)) = false := by rfl) :
    PEM X W (.Call (.Name x p) (e :: es) kws pos) (mCallN n ks.length m mas mks) :=
  PE.imp (pe_callNS (E := WE W) F hr hg DA.mg' DA.fn.kp (kbn_all DA.fn hb) (fun σ => L2N.passAt tk σ) ha hkw hall hks hdb he hpl) fun σ H Q ⟨L, h, δ, r0, s, a⟩ => ⟨L, h, δ, r0, s, Ans.imp (Ans.bind (rp := RepL X.K) a) fun vs H1 ⟨L1, h1, ds, x1, r1, p1, a1⟩ =>
    ⟨L1, h1, δ, r1, s.mono x1, Ans.imp (Ans.bind (rp := RepL X.K) a1) fun zs H2 ⟨L2, h2, ys, x2, r2, p2, a2⟩ => by
      split at a2
      · rename_i z
        exact ⟨by rw [← p1.length]; exact z.1, by rw [← p2.length]; exact z.2, L2, h2, ds ++ ys, r2, (p1.mono x2).append p2, a2⟩
      · exact a2.elim⟩⟩
/-- f(e, ..): the keyword-only ones by their defaults -/
theorem pem_callD {x : Str} {st : Stmt} {f : Addr} {fd : FuncData} {ps : List Str} {k : Nat} {kw : List (Str × V)} {dd : List D} {m : List D → MH → R D} (F : FnM X.prog X.w X.K X.mg X.base k f fd ps m) (DA : DefKw X.K X.mg x st f fd kw) (hr : Room k X.A) (tk : L2N.Takes X W) (hg : Gl X x)
    (hd : ∀ L H, RepL X.K L H dd (kw.map (·.2))) (n : Nat) (hk : kw ≠ []) (hn : n + kw.length = ps.length)
    (hb : ∀ (D : Addr) (doc pm : Value) (an : Option Addr) (cdv ct : Value) (us ks : List Value), us.length = n → ks.length = kw.length →
      KwChain D ((kw.map (·.1)).zip ks) (bindArgs (PySem.W.fnOf x x (defArgs st) (defBody st) (defScope st) .none (.ref D) doc pm an cdv ct) ⟨us, []⟩) (ps.zip (us ++ ks)))
    (ha : PAM X W (e :: es) mas)
    (hdb : (x == ("__debug__" : Str)) = false := by decide) (he : starEach (e :: es) X.env = (false, eval e X.env) :: starEach es X.env := by rfl) (hpl : (backTo pos (starEach es X.env)).any (·.1) = false := by rfl) :
    PEM X W (.Call (.Name x p) (e :: es) [] pos) (mCall m (mMore mas dd)) := by
  obtain ⟨us, r, b⟩ := DA.fn.binds0 n hk hn hb
  refine PE.imp (pe_callSD (E := WE W) F hr hg DA.mg' DA.fn.kp b r (fun σ => L2N.passAt tk σ) ha hdb he hpl) fun σ H Q ⟨L, h, δ, r0, s, a⟩ => ⟨L, h, δ, r0, s, ?_⟩
  unfold mCall mMore at a
  rw [R.bnd_assoc] at a
  exact Ans.imp (Ans.bind (rp := RepL X.K) a) fun vs H1 ⟨L1, h1, ds, x1, r1, p1, a1⟩ => ⟨L1, h1, ds ++ dd, r1, p1.append (hd L1 H1), a1⟩
/-! ### parameters with defaults -/
/-- where such a def of the text stands: dd the defaults -/
structure DefPd (K : PySem.W.Frag) (mg : Str → Option Value) (x : Str) (st : Stmt) (f : Addr) (fd : FuncData) (dd : List D) : Prop where
  ex : ∃ dvs : List V, FunD K x x (defArgs st) (defBody st) (defScope st) dvs [] f fd ∧ dvs ≠ [] ∧ dvs.length = dd.length ∧ ∀ L H, RepL K L H dd dvs
  mg' : mg x = some (.ref f)
theorem defPd_mk {K : PySem.W.Frag} {mg : Str → Option Value} {x : Str} {st : Stmt} {f : Addr} {fd : FuncData} {dd : List D} {oc kV doc pm cdv ct : Value} {od an od2 : Option Addr} {osl sl2 : Array (Option Value)} {T : Addr} {oc2 : Value} {arr : Array Value} {n : Nat}
    (e : fd = PySem.W.fnOf x x (defArgs st) (defBody st) (defScope st) (.ref T) kV doc pm an cdv ct) (l : K.lookup f = some ⟨oc, od, .func fd, osl⟩) (c : PySem.W.codeIn K cdv x = true) (lT : K.lookup T = some ⟨oc2, od2, .seq arr n, sl2⟩)
    (r : kRepL K dd arr.toList = true) (h0 : dd ≠ []) (kp : PySem.W.keepIn K (.ref f) = true) (m : mg x = some (.ref f)) : DefPd K mg x st f fd dd := by
  obtain ⟨dvs, w, q⟩ := kRepL_ok r
  have hl : dvs.length = dd.length := (q [] (fun _ => none)).length.symm
  have hn : dvs ≠ [] := fun z => h0 (List.length_eq_zero_iff.mp (by rw [← hl, z]; rfl))
  exact ⟨⟨dvs, ⟨⟨oc, od, .ref T, kV, doc, pm, an, cdv, ct, osl, e, l, c, .inr ⟨hn, T, _, arr.toList, n, rfl, lT, by rw [Array.toArray_toList], w⟩, .inl rfl⟩, kp⟩, hn, hl, q⟩, m⟩
theorem fnM_bodyP {P : Program} {w : World} {K : PySem.W.Frag} {mg : Str → Option Value} {base : Heap} {x : Str} {st : Stmt} {f : Addr} {fd : FuncData} {N ps : List Str} {dd : List D} {k : Nat} {m : MSt} {g : List D → MH → R D} (F : DefPd K mg x st f fd dd) (S : FnScope N ps (defScope st))
    (hg : ∀ ds h, g ds h = .stuck ∨ (ds.length = ps.length ∧ (g ds h = mEnd h (m (mStart N.length ds) h) ∨ g ds h = mEndN (m (mStart N.length ds) h))))
    (body : ∀ (cdv : Value) (A : Around) (outer : List Env) (s : Shared) (H : Hp) (E : XK), Room k (A.deeper (envOfC x (defScope st) s.heap.objs.size f cdv)) →
      L2N.Takes (cxOf (L2N.CX P w) P w K mg base N x (defScope st) f cdv A outer s H E) (fun c d _ H => E c d H) →
      PassesOwn (model P w) (A.deeper (envOfC x (defScope st) s.heap.objs.size f cdv)) (envOfC x (defScope st) s.heap.objs.size f cdv) (cxOf (L2N.CX P w) P w K mg base N x (defScope st) f cdv A outer s H E).xe →
      PSsM (cxOf (L2N.CX P w) P w K mg base N x (defScope st) f cdv A outer s H E) (fun c d _ H => E c d H) (defBody st) m) :
    FnM P w K mg base (k + 1) f fd ps g :=
  let ⟨_, F, _⟩ := F.ex
  fnM_bodyD F S hg body
/-- f(e, ..): n by place, the defaults behind the first j fill up -/
theorem pem_callP {x : Str} {st : Stmt} {f : Addr} {fd : FuncData} {ps : List Str} {k : Nat} {dd : List D} {m : List D → MH → R D} (F : FnM X.prog X.w X.K X.mg X.base k f fd ps m) (DA : DefPd X.K X.mg x st f fd dd) (hr : Room k X.A) (tk : L2N.Takes X W) (hg : Gl X x)
    (n j : Nat) (hn : n + (dd.length - j) = ps.length)
    (hb : ∀ (T : Addr) (kV doc pm : Value) (an : Option Addr) (cdv ct : Value) (us its : List Value), us.length = n → its.length = dd.length →
      ∃ k, bindArgs (PySem.W.fnOf x x (defArgs st) (defBody st) (defScope st) (.ref T) kV doc pm an cdv ct) ⟨us, []⟩ = seqItems? (.ref T) >>= k ∧ k (some its.toArray) = pure (ps.zip (us ++ its.drop j)))
    (ha : PAM X W (e :: es) mas)
    (hdb : (x == ("__debug__" : Str)) = false := by decide) (he : starEach (e :: es) X.env = (false, eval e X.env) :: starEach es X.env := by rfl) (hpl : (backTo pos (starEach es X.env)).any (·.1) = false := by rfl) :
    PEM X W (.Call (.Name x p) (e :: es) [] pos) (mCall m (mMore mas (dd.drop j))) := by
  obtain ⟨dvs, FD, h0, hl, q⟩ := DA.ex
  obtain ⟨us, r, b⟩ := FD.binds1 n j h0 (by rw [hl]; exact hn) fun T kV doc pm an cdv ct us its l1 l2 => hb T kV doc pm an cdv ct us its l1 (l2.trans hl)
  refine PE.imp (pe_callSD (E := WE W) F hr hg DA.mg' FD.kp b r (fun σ => L2N.passAt tk σ) ha hdb he hpl) fun σ H Q ⟨L, h, δ, r0, s, a⟩ => ⟨L, h, δ, r0, s, ?_⟩
  unfold mCall mMore at a
  rw [R.bnd_assoc] at a
  exact Ans.imp (Ans.bind (rp := RepL X.K) a) fun vs H1 ⟨L1, h1, ds, x1, r1, p1, a1⟩ => ⟨L1, h1, ds ++ dd.drop j, r1, p1.append ((q L1 H1).drop j), a1⟩
end
end MM

set_option maxHeartbeats 2000000
namespace RT
open PySem PySem.Spec PyProof.Rows
theorem nolen_rt : typeLookup (.type "reversed") "__len__" = pure none := by rw [typeLookup_type, builtinLookup_eq_fast]; kernel_rfl
theorem slot_rt_hint : Slot "reversed" "__length_hint__" "reversed.__length_hint__" :=
  .of (owner := "reversed") (n := "__length_hint__") (by rw [typeLookup_type, builtinLookup_eq_fast]; kernel_rfl) (by decide +kernel) (by decide +kernel) (by decide +kernel)
    (by first | exact .inl (by decide +kernel) | exact .inr (by decide +kernel)) (by rw [isSubtype_type]; kernel_rfl)
theorem entry_rt_hint : entryFor table "reversed.__length_hint__" = some Builtin.«reversed.__length_hint__» := entryFor_of_tree (by kernel_rfl)
theorem args_rt_hint (a : Value) : argsOk "reversed.__length_hint__" ⟨[a], []⟩ := by
  unfold argsOk; rw [signature?_of (id := "reversed.__length_hint__") (n := ['_', '_', 't', 'n', 'i', 'h', '_', 'h', 't', 'g', 'n', 'e', 'l', '_', '_']) (o := ['d', 'e', 's', 'r', 'e', 'v', 'e', 'r']) (by kernel_rfl) owner_rt]; kernel_rfl
section
variable {prog : Program} {w : World} {A : Around} {E : Value → Shared → Prop} {s : Shared}
theorem hint_rt {it t : Addr} {items : Array Value} {Q : Value → Shared → Prop} (hit : IsRt s.heap it t ((items.size : Int) - 1)) (ht : IsTup s.heap t items) (hsz : items.size ≤ sizeLine)
    (hQ : ∀ tk tk', Q (.int items.size tk) { s with toks := tk' }) : wpAny (model prog w) A (call (.builtin "reversed.__length_hint__") [.ref it]) Q E s := by
  obtain ⟨o, ho, hc, hd⟩ := id hit
  rw [sizeLine_eq] at hsz
  refine wpAny_call_entry slot_rt_hint hit.typeIs entry_rt_hint ?_ (args_rt_hint _)
  unfold Builtin.«reversed.__length_hint__»
  refine wpAny_bind (wpAny_of_eq (a := Value.ref it) rfl ?_)
  refine wpAny_bind (wpAny_field ho hd (x := .ref t) rfl ?_)
  rw [if_neg (show ¬ ((Value.ref t == Value.none) = true) from Bool.false_ne_true)]
  refine wpAny_bind (PyProof.Rows.len_tuple ht (by omega) ?_)
  refine wpAny_bind (wpAny_of_eq (a := some ((items.size : Nat) : Int)) rfl ?_)
  refine wpAny_bind (wpAny_field (s := { s with toks := s.toks + 1 + 1 }) ho hd (x := rawInt ((items.size : Int) - 1)) rfl ?_)
  show wpAny _ _ (if (items.size : Int) < ((items.size : Int) - 1) + 1 then _ else retInt (((items.size : Int) - 1) + 1)) _ _ _
  rw [if_neg (by omega), show ((items.size : Int) - 1) + 1 = (items.size : Int) by omega]
  refine wpAny_bind (wpAny_mkInt (wpAny_pure ⟨_, rfl, hQ _ _⟩))
theorem Walks.rt (hh : A.handled = none) (I t : Addr) (hne : t ≠ I) (items : Array Value) (hsz : items.size ≤ sizeLine) :
    Walks prog w A I [I, t] [I] items.size (fun i v => items[items.size - 1 - i]? = some v) (fun i h => i ≤ items.size ∧ IsRt h I t ((items.size : Int) - 1 - (i : Int)) ∧ IsTup h t items) where
  sub := fun b hb => by simp at hb; simp [hb]
  frame := fun _ _ _ x hk => ⟨x.1, x.2.1.at fun o e => hk I (by simp) o e, (let ⟨o, e, r⟩ := x.2.2; ⟨o, hk t (by simp) o e, r⟩)⟩
  item := fun i s Q E hi x hQ => by
    have e : (items.size : Int) - 1 - (i : Int) = ((items.size - 1 - i : Nat) : Int) := by omega
    have hit := x.2.1
    rw [e] at hit
    have hx : items[items.size - 1 - i]? = some (items[items.size - 1 - i]'(by omega)) := Array.getElem?_eq_getElem (by omega)
    refine next_rt_item hit x.2.2 hx hsz fun h' hit' hs' => ?_
    have e2 : ((items.size - 1 - i : Nat) : Int) - 1 = (items.size : Int) - 1 - ((i + 1 : Nat) : Int) := by omega
    rw [e2] at hit'
    exact hQ _ h' (s.toks + 1) hx ⟨hi, hit', (let ⟨o, e, r⟩ := x.2.2; ⟨o, (hs'.2 t hne).trans e, r⟩)⟩ fun b o hb eo => hs'.extBut b o (fun h => hb (by simp [h])) eo
  done := fun s Q E x hQ => by
    have e : (items.size : Int) - 1 - (items.size : Int) = -1 := by omega
    have hit := x.2.1
    rw [e] at hit
    exact next_rt_end hh hit fun h' he' => hQ h' s.toks fun b o hb eo => he' b o (fun h => hb (by simp [h])) eo
  self := fun _ _ _ _ x hQ => iter_rt x.2.1 hQ
/-- list(reversed(t)) -/
theorem call_list_rt {it t : Addr} {items : Array Value} {Q : Value → Shared → Prop} (hh : A.handled = none) (hit : IsRt s.heap it t ((items.size : Int) - 1)) (ht : IsTup s.heap t items) (hne : t ≠ it) (hn : items.size ≤ sizeLine)
    (hQ : ∀ (h' : Heap) (tk : Nat) (acc : Array Value) (c : Nat), (∀ b o, b ≠ it → s.heap.get? b = some o → h'.get? b = some o) → h'.get? s.heap.objs.size = some (MZ.lstO acc c) → ItemsOf (fun i v => items[items.size - 1 - i]? = some v) acc items.size →
      Q (.ref s.heap.objs.size) { s with heap := h', toks := tk }) : wpAny (model prog w) A (call (.type "list") [.ref it]) Q E s := by
  refine callType_codes (Q₁ := fun obj s₁ => obj = .ref s.heap.objs.size ∧ s₁ = { s with heap := s.heap.push { cls := .type "list", data := .seq #[] } }) PySem.F.called_list (PySem.F.typeCall_list_1 _) PySem.F.entry_list_init (code_list_new _ ⟨rfl, rfl⟩) fun obj s₁ q => ?_
  obtain ⟨rfl, rfl⟩ := q
  obtain ⟨S, eS⟩ : ∃ S, S = s.heap.objs.size := ⟨_, rfl⟩
  obtain ⟨h₀, e0⟩ : ∃ h₀ : Heap, h₀ = s.heap.push { cls := .type "list", data := .seq #[] } := ⟨_, rfl⟩
  have hS : h₀.get? S = some (MZ.lstO #[] 0) := by rw [e0, eS]; exact Heap.get?_push_size _ rfl
  have kp : ∀ c o, s.heap.get? c = some o → h₀.get? c = some o := fun c o e => by rw [e0]; exact Heap.get?_push_of_some _ e
  rw [← eS, ← e0]
  refine ⟨⟨_, hS, rfl⟩, PySem.F.args_list_init_2 _ _, ?_⟩
  have ne : ∀ {c : Addr} {o : Obj}, s.heap.get? c = some o → S ≠ c := fun {c o} e => by rw [eS]; exact Nat.ne_of_gt (Heap.lt_size e)
  obtain ⟨oi, hoi, _⟩ := id hit
  show wpAny _ _ (do let old ← Builtin.List.listItems (.ref S); Builtin.List.listUpdate (.ref S) (fun _ => #[]); letGo old.toList.reverse; Builtin.List.listExtendWith (.ref S) (.ref it) .none) _ _ { s with heap := h₀ }
  refine wpAny_bind ?_
  unfold Builtin.List.listItems
  refine wpAny_bind (wpAny_seqItems hS rfl (wpAny_pure ?_))
  show wpAny _ _ (updateSeq S (fun _ => #[]) >>= fun _ => letGo (#[] : Array Value).toList.reverse >>= fun _ => Builtin.List.listExtendWith (.ref S) (.ref it) .none) _ _ { s with heap := h₀ }
  refine wpAny_bind (wpAny_updateSeq hS rfl ?_)
  have hS₂ := Heap.get?_update_self (Obj.mapSeq (fun _ => (#[] : Array Value))) hS rfl
  have oth : ∀ c o, c ≠ S → h₀.get? c = some o → (h₀.update S (Obj.mapSeq (fun _ => (#[] : Array Value)))).get? c = some o := fun c o hc e => (Heap.get?_update_other _ _ (Ne.symm hc)).trans e
  refine wpAny_bind (wpAny_letGo ?_)
  obtain ⟨h₂, e3⟩ : ∃ h₂ : Heap, h₂ = h₀.update S (Obj.mapSeq (fun _ => (#[] : Array Value))) := ⟨_, rfl⟩
  rw [← e3] at hS₂ oth ⊢
  have k2 : ∀ {c : Addr} {o : Obj}, s.heap.get? c = some o → h₂.get? c = some o := fun {c o} e => oth c o (Ne.symm (ne e)) (kp c o e)
  have hit2 : IsRt h₂ it t ((items.size : Int) - 1) := hit.at fun o e => k2 e
  have ht2 : IsTup h₂ t items := let ⟨o, e, r⟩ := ht; ⟨o, k2 e, r⟩
  have hT : Shared.TypeIs { s with heap := h₂ } (.ref it) "reversed" := IsRt.typeIs (s := { s with heap := h₂ }) hit2
  unfold Builtin.List.listExtendWith
  refine wpAny_bind (wpAny_typeOf hT ?_)
  rw [show Builtin.List.listSameRef (.ref S) (.ref it) = false by simp [Builtin.List.listSameRef, ne hoi], show (Value.type "reversed" == Value.type "list") = false by decide, show (Value.type "reversed" == Value.type "tuple") = false by decide]
  simp only [Bool.or_false, Bool.false_eq_true, if_false]
  refine wpAny_bind (iter_rt (s := { s with heap := h₂ }) hit2 (wpAny_bind (wpAny_holding ?_)))
  unfold Builtin.List.listLengthHint
  refine wpAny_bind (wpAny_specialOf hT nolen_rt ?_)
  show wpAny _ _ (specialOf (Value.ref it) (Str.ofString "__length_hint__") >>= _) _ _ _
  refine wpAny_bind (wpAny_specialOf hT slot_rt_hint.lookup ?_)
  generalize hid : ("reversed.__length_hint__" : String) = id0
  wp_delta
  rw [show splitId id0 = some ("reversed", "__length_hint__") from by subst hid; decide +kernel]
  subst hid
  refine wpAny_bind (wpAny_isInstance (b := true) hT (by rw [isSubtype_type]; kernel_rfl) ?_)
  rw [if_neg (show ¬ ((!true) = true) by decide)]
  dsimp only
  rw [if_neg (by decide +kernel)]
  refine wpAny_bind (wpAny_rule (wpAny_bind (wpAny_of_eq (slot_rt_hint.bind _) ?_)))
  dsimp only
  refine wpAny_bind (wpAny_attempt (hint_rt (s := { s with heap := h₂ }) hit2 ht2 hn fun tk tk' => ?_))
  obtain ⟨N, hN⟩ : ∃ N : Int, N = (items.size : Int) := ⟨_, rfl⟩
  have hN0 : 0 ≤ N := by omega
  have hN1 : N ≤ 16777216 := by rw [sizeLine_eq] at hn; omega
  have f1 : Builtin.List.listFitsIndex N = true := by
    unfold Builtin.List.listFitsIndex
    simp only [Bool.and_eq_true, decide_eq_true_eq]
    omega
  have f2 : Builtin.List.listTooLong N.toNat = false := by
    unfold Builtin.List.listTooLong
    rw [sizeLine_eq]
    exact decide_eq_false (by omega)
  rw [← hN]
  have ai : asInt? (Value.int N tk) = pure (some N) := rfl
  refine wpAny_bind (wpAny_of_eq ai ?_)
  dsimp only
  rw [f1, f2, if_neg (show ¬ ((!true) = true) by decide), if_neg (show ¬ (N < 0) by omega), if_neg (show ¬ (false = true) by decide)]
  refine wpAny_pure ?_
  have h₂S : ∃ c, h₂.get? S = some (MZ.lstO #[] c) := ⟨_, hS₂⟩
  clear hS₂
  obtain ⟨c2, hS₂⟩ := h₂S
  have w1 := Walks.rt (prog := prog) (w := w) (A := A.in1.in1) hh it t hne items hn
  have hSf : S ∉ [it, t] := by
    simp only [List.mem_cons, List.not_mem_nil, or_false, not_or]
    obtain ⟨ot, hot, _⟩ := id ht
    exact ⟨ne hoi, ne hot⟩
  have e00 : ((items.size : Nat) : Int) - 1 - ((0 : Nat) : Int) = (items.size : Int) - 1 := by omega
  -- the loop
  have fin : ∀ (h₄ : Heap) (tk4 : Nat) (c4 : Nat), h₄.get? S = some (MZ.lstO #[] c4) → (∀ {c : Addr} {o : Obj}, s.heap.get? c = some o → h₄.get? c = some o) →
      codeAny (model prog w) A.in1 (.builtin "list.extend.loop" ⟨[.ref S, .ref it, .none], []⟩) (wants (fun r s₂ => r = .none ∧ Q (.ref S) s₂) E) { s with heap := h₄, toks := tk4 } := fun h₄ tk4 c4 hS₄ k4 => by
    have hit4 : IsRt h₄ it t ((items.size : Int) - 1 - ((0 : Nat) : Int)) := by rw [e00]; exact hit.at fun o e => k4 e
    have ht4 : IsTup h₄ t items := let ⟨o, e, r⟩ := ht; ⟨o, k4 e, r⟩
    refine codeAny_extend_loopS (s := { s with heap := h₄, toks := tk4 }) (w1.toS) hn _ hSf _ items.size 0 _ _ rfl (Nat.zero_le _) ⟨Nat.zero_le _, hit4, ht4⟩ hS₄ (ItemsOf.nil _) fun s' acc' c' hm hS' hacc => ?_
    refine ⟨rfl, ?_⟩
    rw [Moved.eq_with hm] at hS' ⊢
    rw [eS] at hS' ⊢
    refine hQ s'.heap s'.toks acc' c' (fun b o hb e => hm.heap b o (fun hmem => ?_) (k4 e)) hS' hacc
    rcases List.mem_cons.mp hmem with e' | hmem
    · exact ne e (by rw [e'])
    · exact hb (List.mem_singleton.mp hmem)
  split
  · refine wpAny_bind (wpAny_rule (wpAny_bind ?_))
    show wpAny _ _ (updateSeq S (·.push .none) >>= fun _ => updateSeq S (·.pop)) _ _ { s with heap := h₂, toks := tk' }
    refine wpAny_bind (wpAny_updateSeq hS₂ rfl ?_)
    have hS₃ := Heap.get?_update_self (Obj.mapSeq (·.push Value.none)) hS₂ rfl
    refine wpAny_updateSeq (hz := by seq_fits) hS₃ rfl ?_
    have hS₄ := Heap.get?_update_self (Obj.mapSeq (·.pop)) hS₃ rfl
    exact wpAny_pure ⟨plainId_quiet PySem.F.plain_extend_loop _, fin _ tk' _ hS₄ fun {c o} e => (Heap.get?_update_other _ _ (ne e)).trans ((Heap.get?_update_other _ _ (ne e)).trans (k2 e))⟩
  · exact wpAny_pure ⟨plainId_quiet PySem.F.plain_extend_loop _, fin h₂ tk' c2 hS₂ k2⟩
end
end RT
namespace MM
open PySem PySem.Spec PyProof.Rows L2
/-- list(reversed(x)), x a tuple: a new list -/
def tLstRev (K : PySem.W.Frag) (te : TE) : TE := fun σ H Q => te σ H fun v H1 => ∃ (a : Addr) (xs : List V), v = .ref a ∧ SqT K H1 a xs ∧ ∀ q, H1 q = none → Q (.ref q) (upd H1 q (.lst xs.reverse))
section
variable {X : Cx}
theorem pe_lstRev {e : Expr} {te : TE} {p p2 pos pos2 : Pos} (hc : X.calm = true) (hg : Gl X "list") (hm : X.mg "list" = none) (hg2 : Gl X "reversed") (hm2 : X.mg "reversed" = none) (he : PE X e te)
    (hs : starEach [e] X.env = (false, eval e X.env) :: starEach [] X.env := by rfl)
    (hs2 : starEach [.Call (.Name "reversed" p2) [e] [] pos2] X.env = (false, eval (.Call (.Name "reversed" p2) [e] [] pos2) X.env) :: starEach [] X.env := by rfl) :
    PE X (.Call (.Name "list" p) [.Call (.Name "reversed" p2) [e] [] pos2] [] pos) (tLstRev X.K te) := by
  refine ⟨fun pins s σ H Q I h => ?_⟩
  refine Call_ (ld_blt I hg hm boot_list (PyProof.Rows.callWith_type1 (args_cons (Call_ (ld_blt I hg2 hm2 PyProof.Rows.boot_reversed (PyProof.Rows.callWith_type1 (args_cons (thn (he.run pins s σ H _ I h) fun u s1 ⟨v, H1, I1, r1, q1⟩ => args_nil ?_) hs) hs rfl))) hs2) hs2 rfl))
  obtain ⟨a, xs, ev, hq, q⟩ := q1
  subst ev
  obtain rfl : u = Value.ref a := r1
  obtain ⟨its, rv, p', hz⟩ := I1.tuple hq
  have hn : its.toArray.size ≤ sizeLine := by rw [List.size_toArray, ← rv.length]; exact hz
  have hn63 := line63
  refine RT.call_reversed_tup p' (fun A E Q k => len_tuple p' (by simp only [List.size_toArray] at hn ⊢; omega) k) (args_nil ?_)
  have k0 : ∀ b o, s1.heap.get? b = some o → (s1.heap.push (RT.rtObj a ((its.toArray.size : Int) - 1))).get? b = some o := fun b o e => Heap.get?_push_of_some _ e
  obtain ⟨oa, hoa, hoc⟩ := id p'
  have hne : a ≠ s1.heap.objs.size := Nat.ne_of_lt (Heap.lt_size hoa)
  refine RT.call_list_rt (s := { s1 with heap := s1.heap.push (RT.rtObj a ((its.toArray.size : Int) - 1)), toks := s1.toks + 1 + 1 }) (I1.ok.hd hc) ⟨_, Heap.get?_push_size _ rfl, rfl, rfl⟩ ⟨oa, k0 _ _ hoa, hoc⟩ hne hn fun h' tk acc c hk hS hi => ?_
  have hk1 : ∀ b o, s1.heap.get? b = some o → h'.get? b = some o := fun b o e => hk b o (Nat.ne_of_lt (Heap.lt_size e)) (k0 b o e)
  have sz : (s1.heap.push (RT.rtObj a ((its.toArray.size : Int) - 1))).objs.size = s1.heap.objs.size + 1 := Heap.size_push ..
  have lo : s1.heap.objs.size ≤ (s1.heap.push (RT.rtObj a ((its.toArray.size : Int) - 1))).objs.size := by rw [sz]; exact Nat.le_succ _
  refine ⟨.ref _, upd H1 (s1.heap.push (RT.rtObj a ((its.toArray.size : Int) - 1))).objs.size (.lst xs.reverse), I1.laid (t' := tk) hk1 lo (show ObjOk X.prog X.w _ _ _ (.lst xs.reverse) from ⟨by rw [List.length_reverse]; exact hz, acc.toList, c, RT.vals_rev rv hi, ?_⟩), rfl, q _ (I1.hok.fresh lo)⟩
  rw [Array.toArray_toList]
  exact hS
end
/-- list(reversed(x)), of a tuple -/
def fRevT (d : D) (h : MH) : R D := match d with
  | .tup ds => .ok (.rol ds.reverse) h
  | _ => .stuck
def mRevT (m : ME) : ME := fun δ h => (m δ h).bnd fRevT
theorem pem_revT {X : Cx} {W : WX} {e : Expr} {me : ME} {p p2 pos pos2 : Pos} (hc : X.calm = true) (hg : Gl X "list") (hm : X.mg "list" = none) (hg2 : Gl X "reversed") (hm2 : X.mg "reversed" = none) (he : PEM X W e me)
    (hs : starEach [e] X.env = (false, eval e X.env) :: starEach [] X.env := by rfl)
    (hs2 : starEach [.Call (.Name "reversed" p2) [e] [] pos2] X.env = (false, eval (.Call (.Name "reversed" p2) [e] [] pos2) X.env) :: starEach [] X.env := by rfl) :
    PEM X W (.Call (.Name "list" p) [.Call (.Name "reversed" p2) [e] [] pos2] [] pos) (mRevT me) :=
  PE.imp (pe_lstRev hc hg hm hg2 hm2 he hs hs2) fun σ H Q ⟨L, h, δ, r, s, a⟩ => ⟨L, h, δ, r, s, Ans.imp (Ans.bind (rp := Rep X.K) a) fun v H1 ⟨L1, h1, d, x1, r1, p1, a1⟩ => by
    cases d with
    | tup ds =>
      obtain ⟨a, xs, rfl, st, w⟩ := tup_of p1
      refine ⟨a, xs, rfl, st, fun q hq => ?_⟩
      obtain ⟨x2, r2⟩ := r1.fresh (o := .lst xs.reverse) hq
      refine ans_okE r2 ?_ (a1.mono x2)
      unfold Rep
      exact ⟨q, xs.reverse, rfl, .inl ⟨.inl upd_same, r1.nl_new hq⟩, (w.mono x2).reverse⟩
    | _ => exact a1.elim⟩
end MM

set_option maxHeartbeats 2000000
/-! zip of any two of lists and tuples: a side told by what its iterator does -/
namespace MZ
open PySem PySem.Spec PyProof.Rows
/-- an iterator over what stands at l, k items behind it -/
structure Sd (prog : Program) (w : World) where
  It : Heap → Addr → Addr → Nat → Prop
  Ct : Heap → Addr → Array Value → Prop
  lv : ∀ {h i l k}, It h i l k → ∃ o, h.get? i = some o ∧ ∀ v, o.data ≠ .cell v
  itK : ∀ {h h' i l k}, It h i l k → (∀ o, h.get? i = some o → h'.get? i = some o) → It h' i l k
  ctK : ∀ {h h' l xs}, Ct h l xs → (∀ o, h.get? l = some o → h'.get? l = some o) → Ct h' l xs
  one : ∀ {A : Around} {E : Value → Shared → Prop} {s : Shared} {i l : Addr} {k : Nat} {xs : Array Value} {x : Value} {Q : Value → Shared → Prop}, It s.heap i l k → Ct s.heap l xs → xs[k]? = some x →
    (∀ h', It h' i l (k + 1) → Heap.SameBut i s.heap h' → Q x { s with heap := h' }) → wpAny (model prog w) A (Builtin.SmallTypes.nextOf (.ref i)) Q E s
  over : ∀ {A : Around} {E : Value → Shared → Prop} {s : Shared} {i l : Addr} {k : Nat} {xs : Array Value} {Q : Value → Shared → Prop}, A.handled = none → It s.heap i l k → Ct s.heap l xs → xs[k]? = none →
    (∀ h' e, Heap.ExtBut i s.heap h' → (∃ o, h'.get? e = some o ∧ o.cls = .type "StopIteration") → E (.ref e) { s with heap := h' }) → wpAny (model prog w) A (Builtin.SmallTypes.nextOf (.ref i)) Q E s
def sdL (prog : Program) (w : World) : Sd prog w where
  It := Heap.IsListIter
  Ct := Heap.IsList
  lv := fun ⟨o, e, _, d⟩ => ⟨o, e, fun v q => by rw [d] at q; cases q⟩
  itK := fun ⟨o, e, r⟩ k => ⟨o, k o e, r⟩
  ctK := fun ⟨o, e, r⟩ k => ⟨o, k o e, r⟩
  one := wpAny_nextOf_list_item
  over := wpAny_nextOf_list_end
def sdT (prog : Program) (w : World) : Sd prog w where
  It := Heap.IsTupleIter
  Ct := Heap.IsTuple
  lv := fun ⟨o, e, _, d⟩ => ⟨o, e, fun v q => by rw [d] at q; cases q⟩
  itK := fun ⟨o, e, r⟩ k => ⟨o, k o e, r⟩
  ctK := fun ⟨o, e, r⟩ k => ⟨o, k o e, r⟩
  one := RZ.nextOf_tuple_item
  over := RZ.nextOf_tuple_end
section
variable {prog : Program} {w : World} {A : Around} {E : Value → Shared → Prop} {s : Shared} {S1 S2 : Sd prog w} {z TI TO i1 i2 l1 l2 : Addr} {k : Nat} {xs ys : Array Value} {x y a b : Value}
/-- both sides have one more -/
theorem two_item {Q : Fin → Shared → Prop} (D : ZipApart z TI TO i1 i2 l1 l2) (hz : IsZip s.heap z TI TO .none) (hI : IsPair s.heap TI (.ref i1) (.ref i2)) (hO : IsPair s.heap TO a b) (h1 : S1.It s.heap i1 l1 k) (h2 : S2.It s.heap i2 l2 k)
    (c1 : S1.Ct s.heap l1 xs) (c2 : S2.Ct s.heap l2 ys) (hx : xs[k]? = some x) (hy : ys[k]? = some y)
    (hQ : ∀ h', IsZip h' z TI TO (rawInt s.heap.objs.size) → IsPair h' TO x y → S1.It h' i1 l1 (k + 1) → S2.It h' i2 l2 (k + 1) → IsPair h' s.heap.objs.size x y → h'.objs.size = s.heap.objs.size + 1 →
      (∀ c o, c ≠ z → c ≠ TO → c ≠ i1 → c ≠ i2 → s.heap.get? c = some o → h'.get? c = some o) → Q (.done (.ret (.ref s.heap.objs.size))) { s with heap := h' }) : wpAny (model prog w) A (Builtin.«zip.__next__» ⟨[.ref z], []⟩) Q E s := by
  refine wpAny_bind (m := field (.ref z) 2) (wpAny_field hz rfl (x := .bool false) rfl (wpAny_bind (m := field (.ref z) 3) (wpAny_field hz rfl (x := .ref TI) rfl (wpAny_bind (wpAny_seqItems hI rfl (wpAny_bind (m := Builtin.SmallTypes.ownedTupleIsFree (.ref z)) ?_))))))
  unfold Builtin.SmallTypes.ownedTupleIsFree
  refine wpAny_bind (wpAny_field hz rfl (x := .none) rfl (wpAny_pure ?_))
  simp only [if_true]
  refine wpAny_bind (wpAny_rule (wpAny_bind (wpAny_field hz rfl (x := .ref TO) rfl (wpAny_bind (wpAny_setField_rec hz (by simp) fun g1 z1 b1 => ?_)))))
  replace z1 : IsZip g1 z TI TO .ellipsis := z1
  refine wpAny_bind ?_
  simp only [List.zipIdx_cons, List.zipIdx_nil, List.forIn_cons, List.forIn_nil]
  have e1 : ∀ c o, c ≠ z → s.heap.get? c = some o → g1.get? c = some o := fun c o q e => b1.extBut _ _ q e
  refine wpAny_bind (wpAny_bind (wpAny_onRaise (wpAny_bind (m := Builtin.SmallTypes.nextOf (.ref i1)) (S1.one (S1.itK h1 fun o e => e1 _ o D.i1z e) (S1.ctK c1 fun o e => e1 _ o D.l1z e) hx fun g2 it2 b2 => wpAny_pure ?_))))
  have e2 : ∀ c o, c ≠ z → c ≠ i1 → s.heap.get? c = some o → g2.get? c = some o := fun c o q q' e => b2.extBut _ _ q' (e1 c o q e)
  have O2 : IsPair g2 TO a b := e2 _ _ D.TOz D.TOi1 hO
  refine wpAny_bind (wpAny_seqItems O2 rfl (wpAny_bind (wpAny_updateSeq_pair O2 fun g3 O3 b3 => wpAny_bind (wpAny_letGo (wpAny_pure ?_)))))
  replace O3 : IsPair g3 TO x b := O3
  have e3 : ∀ c o, c ≠ z → c ≠ i1 → c ≠ TO → s.heap.get? c = some o → g3.get? c = some o := fun c o q q' q'' e => b3.extBut _ _ q'' (e2 c o q q' e)
  refine wpAny_bind (wpAny_bind (wpAny_onRaise (wpAny_bind (m := Builtin.SmallTypes.nextOf (.ref i2)) (S2.one (S2.itK h2 fun o e => e3 _ o D.i2z D.i12.symm D.TOi2.symm e) (S2.ctK c2 fun o e => e3 _ o D.l2z D.l2i1 D.l2TO e) hy fun g4 it4 b4 => wpAny_pure ?_))))
  have O4 : IsPair g4 TO x b := b4.extBut _ _ D.TOi2 O3
  refine wpAny_bind (wpAny_seqItems O4 rfl (wpAny_bind (wpAny_updateSeq_pair O4 fun g5 O5 b5 => wpAny_bind (wpAny_letGo (wpAny_pure (wpAny_pure ?_))))))
  replace O5 : IsPair g5 TO x y := O5
  refine wpAny_bind (wpAny_seqItems O5 rfl (wpAny_bind (wpAny_newTuple ?_)))
  have size : g5.objs.size = s.heap.objs.size := by rw [b5.1, b4.1, b3.1, b2.1, b1.1]
  have z5 : IsZip g5 z TI TO .ellipsis := b5.extBut _ _ D.TOz.symm (b4.extBut _ _ D.i2z.symm (b3.extBut _ _ D.TOz.symm (b2.extBut _ _ D.i1z.symm z1)))
  have e5 : ∀ c o, c ≠ z → c ≠ TO → c ≠ i1 → c ≠ i2 → s.heap.get? c = some o → g5.get? c = some o := fun c o q1 q2 q3 q4 e => b5.extBut _ _ q2 (b4.extBut _ _ q4 (e3 c o q1 q3 q2 e))
  have u1 : S1.It g5 i1 l1 (k + 1) := S1.itK it2 fun o e => b5.extBut _ _ D.TOi1.symm (b4.extBut _ _ D.i12 (b3.extBut _ _ D.TOi1.symm e))
  have u2 : S2.It g5 i2 l2 (k + 1) := S2.itK it4 fun o e => b5.extBut _ _ D.TOi2.symm e
  have lz : z < g5.objs.size := Heap.lt_size z5
  refine wpAny_bind (m := Builtin.SmallTypes.ownedTupleHandOut (.ref z) (.ref g5.objs.size)) ?_
  unfold Builtin.SmallTypes.ownedTupleHandOut
  have z6 : IsZip (g5.push { cls := .type "tuple", data := .seq #[x, y] }) z TI TO .ellipsis := Heap.get?_push_of_some _ z5
  refine wpAny_bind (wpAny_setField_rec z6 (by simp) fun g7 z7 b7 => ?_)
  replace z7 : IsZip g7 z TI TO (rawInt g5.objs.size) := z7
  refine wpAny_setField_rec z7 (by simp) fun g8 z8 b8 => ?_
  replace z8 : IsZip g8 z TI TO (rawInt g5.objs.size) := z8
  have up : ∀ c o, c ≠ z → g5.get? c = some o → g8.get? c = some o := fun c o q e => b8.extBut _ _ q (b7.extBut _ _ q (Heap.get?_push_of_some _ e))
  have T8 : IsPair g8 g5.objs.size x y := b8.extBut _ _ (Nat.ne_of_gt lz) (b7.extBut _ _ (Nat.ne_of_gt lz) (Heap.get?_push_size _ rfl))
  have n8 : g8.objs.size = g5.objs.size + 1 := by rw [b8.1, b7.1, Heap.size_push]
  rw [size] at z8 T8 n8
  refine wpAny_pure ?_
  show Q (.done (.ret (.ref g5.objs.size))) _
  rw [size]
  exact hQ g8 z8 (up _ _ D.TOz O5) (S1.itK u1 fun o e => up _ o D.i1z e) (S2.itK u2 fun o e => up _ o D.i2z e) T8 n8 fun c o q1 q2 q3 q4 e => up c o q1 (e5 c o q1 q2 q3 q4 e)
/-- one side has no more -/
theorem two_end {Q : Fin → Shared → Prop} (hh : A.handled = none) (D : ZipApart z TI TO i1 i2 l1 l2) (hz : IsZip s.heap z TI TO .none) (hI : IsPair s.heap TI (.ref i1) (.ref i2)) (hO : IsPair s.heap TO a b) (h1 : S1.It s.heap i1 l1 k) (h2 : S2.It s.heap i2 l2 k)
    (c1 : S1.Ct s.heap l1 xs) (c2 : S2.Ct s.heap l2 ys) (hend : xs[k]? = none ∨ ys[k]? = none)
    (hE : ∀ h' e, (∀ c o, c ≠ z → c ≠ TO → c ≠ i1 → c ≠ i2 → s.heap.get? c = some o → h'.get? c = some o) → (∃ o, h'.get? e = some o ∧ o.cls = .type "StopIteration") → E (.ref e) { s with heap := h' }) : wpAny (model prog w) A (Builtin.«zip.__next__» ⟨[.ref z], []⟩) Q E s := by
  refine wpAny_bind (m := field (.ref z) 2) (wpAny_field hz rfl (x := .bool false) rfl (wpAny_bind (m := field (.ref z) 3) (wpAny_field hz rfl (x := .ref TI) rfl (wpAny_bind (wpAny_seqItems hI rfl (wpAny_bind (m := Builtin.SmallTypes.ownedTupleIsFree (.ref z)) ?_))))))
  unfold Builtin.SmallTypes.ownedTupleIsFree
  refine wpAny_bind (wpAny_field hz rfl (x := .none) rfl (wpAny_pure ?_))
  simp only [if_true]
  refine wpAny_bind (wpAny_rule (wpAny_bind (wpAny_field hz rfl (x := .ref TO) rfl (wpAny_bind (wpAny_setField_rec hz (by simp) fun g1 z1 b1 => ?_)))))
  replace z1 : IsZip g1 z TI TO .ellipsis := z1
  refine wpAny_bind ?_
  simp only [List.zipIdx_cons, List.zipIdx_nil, List.forIn_cons, List.forIn_nil]
  have e1 : ∀ c o, c ≠ z → s.heap.get? c = some o → g1.get? c = some o := fun c o q e => b1.extBut _ _ q e
  have i1' : S1.It g1 i1 l1 k := S1.itK h1 fun o e => e1 _ o D.i1z e
  have c1' : S1.Ct g1 l1 xs := S1.ctK c1 fun o e => e1 _ o D.l1z e
  refine wpAny_bind (wpAny_bind (wpAny_onRaise ?_))
  cases hx : xs[k]? with
  | none =>
    refine wpAny_bind (m := Builtin.SmallTypes.nextOf (.ref i1)) (S1.over hh i1' c1' hx fun g2 e b2 he => ?_)
    obtain ⟨oe, f1, f2⟩ := he
    have z2 : IsZip g2 z TI TO .ellipsis := b2 _ _ D.i1z.symm z1
    have ez : e ≠ z := fun q => by
      subst q
      rw [z2] at f1
      cases f1
      simp at f2
    exact wpAny_setField_rec z2 (by simp) fun g3 _ b3 => hE g3 e (fun c o q1 _ q3 _ p => b3.extBut _ _ q1 (b2 _ _ q3 (e1 c o q1 p))) ⟨oe, b3.extBut _ _ ez f1, f2⟩
  | some x =>
    have hy : ys[k]? = none := hend.resolve_left (by rw [hx]; simp)
    refine wpAny_bind (m := Builtin.SmallTypes.nextOf (.ref i1)) (S1.one i1' c1' hx fun g2 it2 b2 => wpAny_pure ?_)
    have e2 : ∀ c o, c ≠ z → c ≠ i1 → s.heap.get? c = some o → g2.get? c = some o := fun c o q q' e => b2.extBut _ _ q' (e1 c o q e)
    have O2 : IsPair g2 TO a b := e2 _ _ D.TOz D.TOi1 hO
    refine wpAny_bind (wpAny_seqItems O2 rfl (wpAny_bind (wpAny_updateSeq_pair O2 fun g3 O3 b3 => wpAny_bind (wpAny_letGo (wpAny_pure ?_)))))
    have e3 : ∀ c o, c ≠ z → c ≠ i1 → c ≠ TO → s.heap.get? c = some o → g3.get? c = some o := fun c o q q' q'' e => b3.extBut _ _ q'' (e2 c o q q' e)
    refine wpAny_bind (wpAny_bind (wpAny_onRaise (wpAny_bind (m := Builtin.SmallTypes.nextOf (.ref i2)) (S2.over hh (S2.itK h2 fun o e => e3 _ o D.i2z D.i12.symm D.TOi2.symm e) (S2.ctK c2 fun o e => e3 _ o D.l2z D.l2i1 D.l2TO e) hy fun g4 e b4 he => ?_))))
    obtain ⟨oe, f1, f2⟩ := he
    have z4 : IsZip g4 z TI TO .ellipsis := b4 _ _ D.i2z.symm (b3.extBut _ _ D.TOz.symm (b2.extBut _ _ D.i1z.symm z1))
    have ez : e ≠ z := fun q => by
      subst q
      rw [z4] at f1
      cases f1
      simp at f2
    exact wpAny_setField_rec z4 (by simp) fun g5 _ b5 => hE g5 e (fun c o q1 q2 q3 q4 p => b5.extBut _ _ q1 (b4 _ _ q4 (e3 c o q1 q3 q2 p))) ⟨oe, b5.extBut _ _ ez f1, f2⟩
theorem pair_item {Q : Option Value → Shared → Prop} (D : ZipApart z TI TO i1 i2 l1 l2) (hz : IsZip s.heap z TI TO .none) (hI : IsPair s.heap TI (.ref i1) (.ref i2)) (hO : IsPair s.heap TO a b) (h1 : S1.It s.heap i1 l1 k) (h2 : S2.It s.heap i2 l2 k)
    (c1 : S1.Ct s.heap l1 xs) (c2 : S2.Ct s.heap l2 ys) (hx : xs[k]? = some x) (hy : ys[k]? = some y)
    (hQ : ∀ h', IsZip h' z TI TO (rawInt s.heap.objs.size) → IsPair h' TO x y → S1.It h' i1 l1 (k + 1) → S2.It h' i2 l2 (k + 1) → IsPair h' s.heap.objs.size x y → h'.objs.size = s.heap.objs.size + 1 →
      (∀ c o, c ≠ z → c ≠ TO → c ≠ i1 → c ≠ i2 → s.heap.get? c = some o → h'.get? c = some o) → Q (some (.ref s.heap.objs.size)) { s with heap := h' }) : wpAny (model prog w) A (pyNext (.ref z)) Q E s := by
  have ty : s.TypeIs (.ref z) "zip" := ⟨_, hz, rfl⟩
  unfold pyNext
  exact wpAny_bind (wpAny_attempt (wpAny_callSpecial?_slot (name := Str.ofString "__next__") ty F.slot_zip_next (wpAny_call_entry F.slot_zip_next ty F.entry_zip_next (two_item D hz hI hO h1 h2 c1 c2 hx hy fun h' a1 a2 a3 a4 a5 a6 a7 => ⟨_, rfl, wpAny_pure (hQ h' a1 a2 a3 a4 a5 a6 a7)⟩) (F.args_zip_next_1 _))))
theorem pair_end {Q : Option Value → Shared → Prop} (hh : A.handled = none) (D : ZipApart z TI TO i1 i2 l1 l2) (hz : IsZip s.heap z TI TO .none) (hI : IsPair s.heap TI (.ref i1) (.ref i2)) (hO : IsPair s.heap TO a b) (h1 : S1.It s.heap i1 l1 k) (h2 : S2.It s.heap i2 l2 k)
    (c1 : S1.Ct s.heap l1 xs) (c2 : S2.Ct s.heap l2 ys) (hend : xs[k]? = none ∨ ys[k]? = none)
    (hQ : ∀ h', (∀ c o, c ≠ z → c ≠ TO → c ≠ i1 → c ≠ i2 → s.heap.get? c = some o → h'.get? c = some o) → Q none { s with heap := h' }) : wpAny (model prog w) A (pyNext (.ref z)) Q E s := by
  have ty : s.TypeIs (.ref z) "zip" := ⟨_, hz, rfl⟩
  unfold pyNext
  refine wpAny_bind (wpAny_attempt (wpAny_callSpecial?_slot (name := Str.ofString "__next__") ty F.slot_zip_next (wpAny_call_entry F.slot_zip_next ty F.entry_zip_next (two_end hh D hz hI hO h1 h2 c1 c2 hend fun h' e kk he => ?_) (F.args_zip_next_1 _))))
  obtain ⟨o, f1, f2⟩ := he
  exact wpAny_bind (wpAny_isInstance (T := "StopIteration") (b := true) ⟨o, f1, f2⟩ isSubtype_stop (wpAny_pure (hQ _ kk)))
end
end MZ
namespace MZ
open PySem PySem.Spec PyProof.Rows
abbrev hm1 (h : Heap) (l1 : Addr) : Heap := h.push { cls := .type "tuple_iterator", data := .fields #[.ref l1, .int 0 0] }
abbrev hm2 (h : Heap) (l1 l2 : Addr) : Heap := (hm1 h l1).push { cls := .type "list_iterator", data := .fields #[.ref l2, .int 0 0] }
abbrev hm3 (h : Heap) (l1 l2 : Addr) : Heap := (hm2 h l1 l2).push { cls := .type "tuple", data := .seq #[.ref h.objs.size, .ref (hm1 h l1).objs.size] }
abbrev hm4 (h : Heap) (l1 l2 : Addr) : Heap := (hm3 h l1 l2).push { cls := .type "tuple", data := .seq #[.none, .none] }
abbrev hm5 (h : Heap) (l1 l2 : Addr) : Heap := (hm4 h l1 l2).push { cls := .type "zip", data := .fields #[.none, .bool false, .bool false, .ref (hm2 h l1 l2).objs.size, .ref (hm3 h l1 l2).objs.size] }
theorem meets_zipM (l1 l2 : Addr) (xs ys : Array Value) : Meets (Builtin.«zip.__new__» ⟨[.type "zip", .ref l1, .ref l2], []⟩) (fun _ R s => s.heap.IsTuple l1 xs ∧ s.heap.IsList l2 ys ∧ R (.ok (.ret (.ref (hm4 s.heap l1 l2).objs.size))) { s with heap := hm5 s.heap l1 l2 }) :=
  .of_wp fun prog w A R s h => by
    obtain ⟨hp, g, d, tk, os⟩ := s
    obtain ⟨t1, t2, h⟩ := h
    have hsub := sub_zip
    have L1 : Heap.IsTuple (Shared.heap ⟨hp, g, d, tk, os⟩) l1 xs := t1
    have L2 : Heap.IsList (Shared.heap ⟨hm1 hp l1, g, d, tk, os⟩) l2 ys := Heap.IsList.push t2 _
    wp_walk using wpAny_pyIter_tuple L1, wpAny_pyIter_list L2
    exact ⟨_, rfl, h⟩
section
variable {prog : Program} {w : World} {A : Around} {E : Value → Shared → Prop} {s : Shared}
theorem call_zipM {l1 l2 : Addr} {xs ys : Array Value} {Q : Value → Shared → Prop} (t1 : s.heap.IsTuple l1 xs) (t2 : s.heap.IsList l2 ys)
    (h : ∀ h', IsZip h' (s.heap.objs.size + 4) (s.heap.objs.size + 2) (s.heap.objs.size + 3) .none → IsPair h' (s.heap.objs.size + 2) (.ref s.heap.objs.size) (.ref (s.heap.objs.size + 1)) → IsPair h' (s.heap.objs.size + 3) .none .none →
      h'.IsTupleIter s.heap.objs.size l1 0 → h'.IsListIter (s.heap.objs.size + 1) l2 0 → (∀ c o, s.heap.get? c = some o → h'.get? c = some o) → Q (.ref (s.heap.objs.size + 4)) { s with heap := h' }) :
    wpAny (model prog w) A (call (.type "zip") [.ref l1, .ref l2]) Q E s := by
  refine callType_new F.called_zip (by decide) (F.typeCall_zip_2 _ _) (F.newCall_zip_2 _ _) (fun obj => F.args_object_init_3 obj _ _) F.entry_zip_new (meets_zipM l1 l2 xs ys) ⟨t1, t2, ?_⟩
  obtain ⟨n, en⟩ : ∃ n, n = s.heap.objs.size := ⟨_, rfl⟩
  have n1 : (hm1 s.heap l1).objs.size = n + 1 := by rw [Heap.size_push, en]
  have n2 : (hm2 s.heap l1 l2).objs.size = n + 2 := by rw [Heap.size_push, n1]
  have n3 : (hm3 s.heap l1 l2).objs.size = n + 3 := by rw [Heap.size_push, n2]
  have n4 : (hm4 s.heap l1 l2).objs.size = n + 4 := by rw [Heap.size_push, n3]
  have up : ∀ {g : Heap} {o : Obj} {c : Addr} {u : Obj}, g.get? c = some u → (g.push o).get? c = some u := fun e => Heap.get?_push_of_some _ e
  have g5 : (hm5 s.heap l1 l2).get? (hm4 s.heap l1 l2).objs.size = some _ := Heap.get?_push_size _ rfl
  have g4 : (hm5 s.heap l1 l2).get? (hm3 s.heap l1 l2).objs.size = some _ := up (Heap.get?_push_size _ rfl)
  have g3 : (hm5 s.heap l1 l2).get? (hm2 s.heap l1 l2).objs.size = some _ := up (up (Heap.get?_push_size _ rfl))
  have g2 : (hm5 s.heap l1 l2).get? (hm1 s.heap l1).objs.size = some _ := up (up (up (Heap.get?_push_size _ rfl)))
  have g1 : (hm5 s.heap l1 l2).get? s.heap.objs.size = some _ := up (up (up (up (Heap.get?_push_size _ rfl))))
  show _ ∧ _
  rw [n4, n2, n3] at g5
  rw [n2, n1] at g3
  rw [n3] at g4
  rw [n1] at g2
  rw [n4]
  rw [← en] at h g1 g3
  exact ⟨⟨_, g5, rfl⟩, h _ g5 g3 g4 ⟨_, g1, rfl, rfl⟩ ⟨_, g2, rfl, rfl⟩ fun c o e => up (up (up (up (up e))))⟩
end
end MZ
namespace MM
open PySem PySem.Spec PyProof.Rows L2
/-- the tuple at a and the list at b as they stand at each turn -/
def ItzM (K : PySem.W.Frag) (a b : Addr) : L2.It where
  go := fun i H => ∃ (xs ys : List V) (x y : V), SqT K H a xs ∧ SqL K H b ys ∧ xs[i]? = some x ∧ ys[i]? = some y
  yld := fun i H v H' => ∃ T x y, v = .ref T ∧ H T = none ∧ H' = upd H T (.tup [x, y]) ∧ (∀ xs, SqT K H a xs → xs[i]? = some x) ∧ ∀ ys, SqL K H b ys → ys[i]? = some y
  stop := fun i H => ∃ xs ys : List V, SqT K H a xs ∧ SqL K H b ys ∧ (xs.length ≤ i ∨ ys.length ≤ i)
theorem turn_zipM {P : Program} {w : World} {K : PySem.W.Frag} {elts : List Expr} {kk : Nat} {tpos : Pos} {a b z TI TO i1 i2 : Addr} (D : ZipApart z TI TO i1 i2 a b) :
    Turn P w K (.Tuple elts kk tpos) (ItzM K a b) [z, TI, TO, i1, i2] z (fun i h => IsZip h z TI TO .none ∧ IsPair h TI (.ref i1) (.ref i2) ∧ (∃ x y, IsPair h TO x y) ∧ h.IsTupleIter i1 a i ∧ h.IsListIter i2 b i) where
  mem := by simp
  obj := fun i h st c hc => by
    obtain ⟨s1, s2, ⟨x, y, s3⟩, s4, s5⟩ := st
    obtain ⟨o1, e1, d1⟩ := (MZ.sdT P w).lv s4
    obtain ⟨o2, e2, d2⟩ := (MZ.sdL P w).lv s5
    simp only [List.mem_cons, List.not_mem_nil, or_false] at hc
    rcases hc with rfl | rfl | rfl | rfl | rfl
    · exact ⟨_, s1, fun v q => nomatch q⟩
    · exact ⟨_, s2, fun v q => nomatch q⟩
    · exact ⟨_, s3, fun v q => nomatch q⟩
    · exact ⟨o1, e1, d1⟩
    · exact ⟨o2, e2, d2⟩
  keep := fun i h h' st kp => by
    obtain ⟨s1, s2, ⟨x, y, s3⟩, s4, s5⟩ := st
    exact ⟨kp _ (by simp) _ s1, kp _ (by simp) _ s2, ⟨x, y, kp _ (by simp) _ s3⟩, (MZ.sdT P w).itK s4 fun o q => kp _ (by simp) o q, (MZ.sdL P w).itK s5 fun o q => kp _ (by simp) o q⟩
  item := by
    intro X hP hw hK hc i pins s σ H E I hf st hg
    subst hP hw hK
    obtain ⟨s1, s2, ⟨x0, y0, s3⟩, s4, s5⟩ := st
    obtain ⟨xs, ys, x, y, q1, q2, hx, hy⟩ := hg
    obtain ⟨its, rv, p, _⟩ := I.tuple q1
    obtain ⟨its2, rv2, p2, _⟩ := I.list q2
    obtain ⟨u, hu, ru⟩ := rv.get hx
    obtain ⟨u2, hu2, ru2⟩ := rv2.get hy
    have lz : z < s.heap.objs.size := Heap.lt_size s1
    refine MZ.pair_item (S1 := MZ.sdT X.prog X.w) (S2 := MZ.sdL X.prog X.w) D s1 s2 s3 s4 s5 p p2.isList (x := u) (y := u2) (by simpa using hu) (by simpa using hu2) fun h' z' O' a1 a2 hT hsz hk => ⟨_, rfl, wpAny_letOwnedTupleGo_zip (s := { s with heap := h' }) z' fun h'' z'' sb => ?_⟩
    have T2 : h''.get? s.heap.objs.size = some { cls := .type "tuple", data := .seq #[u, u2] } := (sb.2 _ (Nat.ne_of_gt lz)).trans hT
    have all : ∀ c o, c ∉ [z, TI, TO, i1, i2] → s.heap.get? c = some o → h''.get? c = some o := fun c o hn e => by
      simp only [List.mem_cons, List.not_mem_nil, or_false, not_or] at hn
      exact (sb.2 c hn.1).trans (hk c o hn.1 hn.2.2.1 hn.2.2.2.1 hn.2.2.2.2 e)
    have new : ObjOk X.prog X.w (upd H s.heap.objs.size (.tup [x, y])) h'' s.heap.objs.size (.tup [x, y]) := ⟨by show 2 ≤ sizeLine; decide, [u, u2], .cons ru (.cons ru2 .nil), ⟨_, T2, rfl, _, rfl⟩⟩
    refine ⟨.ref s.heap.objs.size, _, I.turnedNew (t' := s.toks) all hf (Nat.le_refl _) new, rfl, ⟨_, x, y, rfl, I.hok.fresh (Nat.le_refl _), rfl, fun l hl => by rw [I.tuple_inj hl q1]; exact hx, fun l hl => by rw [I.list_inj hl q2]; exact hy⟩, ⟨z'', (sb.2 _ D.TIz).trans (hk _ _ D.TIz D.TITO D.TIi1 D.TIi2 s2), ⟨u, u2, (sb.2 _ D.TOz).trans O'⟩, ?_, ?_⟩, fun c hcm => ?_⟩
    · exact (MZ.sdT X.prog X.w).itK a1 fun o q => (sb.2 _ D.i1z).trans q
    · exact (MZ.sdL X.prog X.w).itK a2 fun o q => (sb.2 _ D.i2z).trans q
    · have lc : c < s.heap.objs.size := by
        obtain ⟨o1, e1, _⟩ := (MZ.sdT X.prog X.w).lv s4
        obtain ⟨o2, e2, _⟩ := (MZ.sdL X.prog X.w).lv s5
        have hcm := hcm
        simp only [List.mem_cons, List.not_mem_nil, or_false] at hcm
        rcases hcm with rfl | rfl | rfl | rfl | rfl
        · exact lz
        · exact Heap.lt_size s2
        · exact Heap.lt_size s3
        · exact Heap.lt_size e1
        · exact Heap.lt_size e2
      rw [upd_ne (Nat.ne_of_lt lc)]
      exact (hf c hcm).1
  done := by
    intro X hP hw hK hc i pins s σ H E I hf st hg
    subst hP hw hK
    obtain ⟨s1, s2, ⟨x0, y0, s3⟩, s4, s5⟩ := st
    obtain ⟨xs, ys, q1, q2, fin⟩ := hg
    obtain ⟨its, rv, p, _⟩ := I.tuple q1
    obtain ⟨its2, rv2, p2, _⟩ := I.list q2
    have n1 := rv.length
    have n2 := rv2.length
    have he : its.toArray[i]? = none ∨ its2.toArray[i]? = none := by
      rcases fin with q | q
      · exact .inl (Array.getElem?_eq_none (by rw [List.size_toArray]; omega))
      · exact .inr (Array.getElem?_eq_none (by rw [List.size_toArray]; omega))
    refine MZ.pair_end (S1 := MZ.sdT X.prog X.w) (S2 := MZ.sdL X.prog X.w) (I.ok.hd hc) D s1 s2 s3 s4 s5 p p2.isList he fun h' hk => ⟨rfl, I.turnedL (t' := s.toks) (ch := [z, TI, TO, i1, i2]) (fun c o hn e => ?_) hf⟩
    simp only [List.mem_cons, List.not_mem_nil, or_false, not_or] at hn
    exact hk c o hn.1 hn.2.2.1 hn.2.2.2.1 hn.2.2.2.2 e
  self := fun A i s Q E st h => wpAny_pyIter_zip st.1 h
def iZip3 (K : PySem.W.Frag) (ta : TA) : TI := fun σ H R => ta σ H fun vs H1 => ∃ a b xs ys, vs = [.ref a, .ref b] ∧ ((SqL K H1 a xs ∧ SqL K H1 b ys ∧ R (Itz K a b) H1) ∨ (SqT K H1 a xs ∧ SqT K H1 b ys ∧ R (RZ.ItzT K a b) H1) ∨ (SqT K H1 a xs ∧ SqL K H1 b ys ∧ R (ItzM K a b) H1))
theorem pi_zip3 {X : Cx} {e e2 : Expr} {ta : TA} {p pos tpos : Pos} {elts : List Expr} {kk : Nat} (hg : Gl X "zip") (hm : X.mg "zip" = none) (ha : PA X [e, e2] ta)
    (hs : starEach [e, e2] X.env = (false, eval e X.env) :: starEach [e2] X.env := by rfl) (hpl : (backTo pos (starEach [e2] X.env)).any (·.1) = false := by rfl) : PI X (.Tuple elts kk tpos) (.Call (.Name "zip" p) [e, e2] [] pos) (iZip3 X.K ta) := by
  refine ⟨fun pins s σ H R I h => Call_ (ld_blt I hg hm PyProof.Rows.boot_zip (PyProof.Rows.callWith_type1 (thn (ha.run pos pins s σ H _ I h) fun us s1 ⟨vs, H1, I1, r1, a, b, xs, ys, ex, q⟩ => ?_) hs hpl))⟩
  subst ex
  cases r1 with
  | cons r rr =>
    cases rr with
    | cons r' rr =>
      cases rr
      cases r
      cases r'
      obtain ⟨n, en⟩ : ∃ n, n = s1.heap.objs.size := ⟨_, rfl⟩
      have new : ∀ c, c ∈ [s1.heap.objs.size + 4, s1.heap.objs.size + 2, s1.heap.objs.size + 3, s1.heap.objs.size, s1.heap.objs.size + 1] → FpOk X pins H1 c := fun c hcm => by
        have le : s1.heap.objs.size ≤ c := by
          rw [← en] at hcm ⊢
          simp only [List.mem_cons, List.not_mem_nil, or_false] at hcm
          rcases hcm with z | z | z | z | z
          all_goals (rw [z]; first | exact Nat.le_add_right _ _ | exact Nat.le_refl _)
        exact I1.fpOk le (I1.hok.fresh le)
      rcases q with ⟨q1, q2, q⟩ | ⟨q1, q2, q⟩ | ⟨q1, q2, q⟩
      · obtain ⟨its, rv, p1, _⟩ := I1.list q1
        obtain ⟨its2, rv2, p2, _⟩ := I1.list q2
        obtain ⟨o1, ho1, _⟩ := id p1.isList
        obtain ⟨o2, ho2, _⟩ := id p2.isList
        exact call_zip_2 p1.isList p2.isList fun h' hz hI hO a1 a2 _ hk => wpAny_pyIter_zip hz ⟨s1.heap.objs.size + 4, [s1.heap.objs.size + 4, s1.heap.objs.size + 2, s1.heap.objs.size + 3, s1.heap.objs.size, s1.heap.objs.size + 1], _, _, H1, rfl, I1.kept (t' := s1.toks) hk, turn_zip (PySem.W.ktu_apart s1.heap.objs.size a b (Heap.lt_size ho1) (Heap.lt_size ho2)), ⟨hz, hI, ⟨_, _, hO⟩, a1, a2⟩, new, q⟩
      · obtain ⟨its, rv, p1, _⟩ := I1.tuple q1
        obtain ⟨its2, rv2, p2, _⟩ := I1.tuple q2
        obtain ⟨o1, ho1, _⟩ := id p1
        obtain ⟨o2, ho2, _⟩ := id p2
        exact RZ.call_zipT (show s1.heap.IsTuple a its.toArray from p1) (show s1.heap.IsTuple b its2.toArray from p2) fun h' hz hI hO a1 a2 _ hk => wpAny_pyIter_zip hz ⟨s1.heap.objs.size + 4, [s1.heap.objs.size + 4, s1.heap.objs.size + 2, s1.heap.objs.size + 3, s1.heap.objs.size, s1.heap.objs.size + 1], _, _, H1, rfl, I1.kept (t' := s1.toks) hk, RZ.turn_zipT (PySem.W.ktu_apart s1.heap.objs.size a b (Heap.lt_size ho1) (Heap.lt_size ho2)), ⟨hz, hI, ⟨_, _, hO⟩, a1, a2⟩, new, q⟩
      · obtain ⟨its, rv, p1, _⟩ := I1.tuple q1
        obtain ⟨its2, rv2, p2, _⟩ := I1.list q2
        obtain ⟨o1, ho1, _⟩ := id p1
        obtain ⟨o2, ho2, _⟩ := id p2.isList
        exact MZ.call_zipM p1 p2.isList fun h' hz hI hO a1 a2 hk => wpAny_pyIter_zip hz ⟨s1.heap.objs.size + 4, [s1.heap.objs.size + 4, s1.heap.objs.size + 2, s1.heap.objs.size + 3, s1.heap.objs.size, s1.heap.objs.size + 1], _, _, H1, rfl, I1.kept (t' := s1.toks) hk, turn_zipM (PySem.W.ktu_apart s1.heap.objs.size a b (Heap.lt_size ho1) (Heap.lt_size ho2)), ⟨hz, hI, ⟨_, _, hO⟩, a1, a2⟩, new, q⟩
/-- zip of two lists, of two tuples, of a tuple and a list -/
def fZip3 (ds : List D) (h : MH) : R Src := match ds with
  | [d, c] => (match lstD c h with
    | some fs => (match d with
      | .tup es => .ok ⟨List.zipWith (fun x y => .tup [x, y]) (es.take (min es.length fs.length)) (fs.take (min es.length fs.length)), fun h' => lstD c h' = some fs⟩ h
      | _ => fZip [d, c] h)
    | none => fZip [d, c] h)
  | _ => .stuck
theorem fZip_or (ds : List D) (h : MH) : (∃ S, fZip ds h = .ok S h) ∨ fZip ds h = .stuck := by
  unfold fZip
  split
  · exact .inl ⟨_, rfl⟩
  · split
    · exact .inl ⟨_, rfl⟩
    · exact .inr rfl
  · exact .inr rfl
theorem fZip3_or (ds : List D) (h : MH) : (∃ S, fZip3 ds h = .ok S h) ∨ fZip3 ds h = .stuck := by
  unfold fZip3
  split
  · split
    · split
      · exact .inl ⟨_, rfl⟩
      · exact fZip_or _ _
    · exact fZip_or _ _
  · exact .inr rfl
theorem fZip3_two {d c : D} {h : MH} {S : Src} (e : fZip3 [d, c] h = .ok S h) : fZip [d, c] h = .ok S h ∨ ∃ es fs, d = .tup es ∧ lstD c h = some fs ∧ S = ⟨List.zipWith (fun x y => .tup [x, y]) (es.take (min es.length fs.length)) (fs.take (min es.length fs.length)), fun h' => lstD c h' = some fs⟩ := by
  unfold fZip3 at e
  simp only at e
  split at e
  · rename_i fs z
    split at e
    · cases e; exact .inr ⟨_, _, rfl, z, rfl⟩
    · exact .inl e
  · exact .inl e
section
variable {X : Cx} {W : WX} {e : Expr} {mas : MA}
theorem pim_zip3 {e2 : Expr} {tpos p pos : Pos} {elts : List Expr} {kk : Nat} (hg : Gl X "zip") (hm : X.mg "zip" = none) (ha : PAM X W [e, e2] mas)
    (hs : starEach [e, e2] X.env = (false, eval e X.env) :: starEach [e2] X.env := by rfl) (hpl : (backTo pos (starEach [e2] X.env)).any (·.1) = false := by rfl) :
    PIM X W (.Tuple elts kk tpos) (.Call (.Name "zip" p) [e, e2] [] pos) (mCallI fZip3 mas) := by
  refine PI.imp (pi_zip3 hg hm ha hs hpl) fun σ H R t => ?_
  refine tI_args (G := fun vs H1 R => ∃ a b xs ys, vs = [.ref a, .ref b] ∧ ((SqL X.K H1 a xs ∧ SqL X.K H1 b ys ∧ R (Itz X.K a b) H1) ∨ (SqT X.K H1 a xs ∧ SqT X.K H1 b ys ∧ R (RZ.ItzT X.K a b) H1) ∨ (SqT X.K H1 a xs ∧ SqL X.K H1 b ys ∧ R (ItzM X.K a b) H1))) (fun L H h ds vs S Q r w e k => ?_) fZip3_or t
  have two : ∃ d c, ds = [d, c] := by
    unfold fZip3 at e
    split at e
    · exact ⟨_, _, rfl⟩
    · cases e
  obtain ⟨d, c, rfl⟩ := two
  obtain ⟨v, u, rfl, q1, q2⟩ := w.two
  rcases fZip3_two e with e | ⟨es, fs, rfl, l2, rfl⟩
  · rcases fZip_two e with ⟨es, fs, rfl, rfl, rfl⟩ | ⟨es, fs, l1, l2, rfl⟩
    · obtain ⟨p, xs, rfl, s1, w1⟩ := tup_of q1
      obtain ⟨p2, ys, rfl, s2, w2⟩ := tup_of q2
      refine ⟨p, p2, xs, ys, rfl, .inr (.inl ⟨s1, s2, k _ (Trod.pair (n := min es.length fs.length) (by rw [List.length_take]; omega) (by rw [List.length_take]; omega) (fun L' H' h' i x r' e' hi => ?_) (fun L' H' h' x r' e' => ?_) fun L' H' h' i v H'' x r' e' hi hy => ?_)⟩)⟩ <;>
        obtain ⟨p', xs', ep, t1, v1⟩ := tup_of (q1.mono x) <;> cases ep <;> obtain ⟨p', ys', ep, t2, v2⟩ := tup_of (q2.mono x) <;> cases ep
      · obtain ⟨u1, e5, _⟩ := v1.get (i := i) (List.getElem?_eq_getElem (by omega))
        obtain ⟨u2, e6, _⟩ := v2.get (i := i) (List.getElem?_eq_getElem (by omega))
        exact ⟨xs', ys', u1, u2, t1, t2, e5, e6⟩
      · refine ⟨xs', ys', t1, t2, ?_⟩
        rw [← v1.length, ← v2.length]; omega
      · obtain ⟨T, x, y, h1, h2, h3, h4, h5⟩ := hy
        obtain ⟨c1, f1, g1⟩ := v1.get' (h4 xs' t1)
        obtain ⟨c2, f2, g2⟩ := v2.get' (h5 ys' t2)
        exact ⟨T, x, y, h1, h2, h3, ⟨c1, by rw [List.getElem?_take_of_lt hi]; exact f1, g1⟩, c2, by rw [List.getElem?_take_of_lt hi]; exact f2, g2⟩
    · obtain ⟨p, xs, rfl, s1, w1⟩ := lstD_of r q1 l1
      obtain ⟨p2, ys, rfl, s2, w2⟩ := lstD_of r q2 l2
      refine ⟨p, p2, xs, ys, rfl, .inl ⟨s1, s2, k _ (Trod.pair (n := min es.length fs.length) (by rw [List.length_take]; omega) (by rw [List.length_take]; omega) (fun L' H' h' i x r' e' hi => ?_) (fun L' H' h' x r' e' => ?_) fun L' H' h' i v H'' x r' e' hi hy => ?_)⟩⟩ <;>
        obtain ⟨p', xs', ep, t1, v1⟩ := lstD_of r' (q1.mono x) e'.1 <;> cases ep <;> obtain ⟨p', ys', ep, t2, v2⟩ := lstD_of r' (q2.mono x) e'.2 <;> cases ep
      · obtain ⟨u1, e5, _⟩ := v1.get (i := i) (List.getElem?_eq_getElem (by omega))
        obtain ⟨u2, e6, _⟩ := v2.get (i := i) (List.getElem?_eq_getElem (by omega))
        exact ⟨xs', ys', u1, u2, t1, t2, e5, e6⟩
      · refine ⟨xs', ys', t1, t2, ?_⟩
        rw [← v1.length, ← v2.length]; omega
      · obtain ⟨T, x, y, h1, h2, h3, h4, h5⟩ := hy
        obtain ⟨c1, f1, g1⟩ := v1.get' (h4 xs' t1)
        obtain ⟨c2, f2, g2⟩ := v2.get' (h5 ys' t2)
        exact ⟨T, x, y, h1, h2, h3, ⟨c1, by rw [List.getElem?_take_of_lt hi]; exact f1, g1⟩, c2, by rw [List.getElem?_take_of_lt hi]; exact f2, g2⟩
  · obtain ⟨p, xs, rfl, s1, w1⟩ := tup_of q1
    obtain ⟨p2, ys, rfl, s2, w2⟩ := lstD_of r q2 l2
    refine ⟨p, p2, xs, ys, rfl, .inr (.inr ⟨s1, s2, k _ (Trod.pair (n := min es.length fs.length) (by rw [List.length_take]; omega) (by rw [List.length_take]; omega) (fun L' H' h' i x r' e' hi => ?_) (fun L' H' h' x r' e' => ?_) fun L' H' h' i v H'' x r' e' hi hy => ?_)⟩)⟩ <;>
      obtain ⟨p', xs', ep, t1, v1⟩ := tup_of (q1.mono x) <;> cases ep <;> obtain ⟨p', ys', ep, t2, v2⟩ := lstD_of r' (q2.mono x) e' <;> cases ep
    · obtain ⟨u1, e5, _⟩ := v1.get (i := i) (List.getElem?_eq_getElem (by omega))
      obtain ⟨u2, e6, _⟩ := v2.get (i := i) (List.getElem?_eq_getElem (by omega))
      exact ⟨xs', ys', u1, u2, t1, t2, e5, e6⟩
    · refine ⟨xs', ys', t1, t2, ?_⟩
      rw [← v1.length, ← v2.length]; omega
    · obtain ⟨T, x, y, h1, h2, h3, h4, h5⟩ := hy
      obtain ⟨c1, f1, g1⟩ := v1.get' (h4 xs' t1)
      obtain ⟨c2, f2, g2⟩ := v2.get' (h5 ys' t2)
      exact ⟨T, x, y, h1, h2, h3, ⟨c1, by rw [List.getElem?_take_of_lt hi]; exact f1, g1⟩, c2, by rw [List.getElem?_take_of_lt hi]; exact f2, g2⟩
end
end MM

namespace K17
open PySem PySem.Spec PyProof.Rows L2 MM
/-! ### the text of the row, def by def (printed by a program of ours) -/
def topS (i : Nat) : Stmt := PySem.Challenge.pw_escheat_k17_integer_operations.main.body.getD i (.Pass ⟨0, 0, 0, 0⟩)
abbrev s__law_number : Stmt := topS 56
theorem sc__law_number : FnScope ["cell", "sign", "number"] ["cell"] (defScope s__law_number) := ⟨rfl, rfl, rfl, by decide +kernel, rfl, by decide +kernel, by decide +kernel⟩
abbrev s__law_program : Stmt := topS 59
theorem sc__law_program : FnScope ["op", "whole", "first", "second", "body", "test", "main"] ["op"] (defScope s__law_program) := ⟨rfl, rfl, rfl, by decide +kernel, rfl, by decide +kernel, by decide +kernel⟩
abbrev s__law_wrap : Stmt := topS 57
theorem sc__law_wrap : FnScope ["number"] ["number"] (defScope s__law_wrap) := ⟨rfl, rfl, rfl, by decide +kernel, rfl, by decide +kernel, by decide +kernel⟩
abbrev s__law_due : Stmt := topS 58
theorem sc__law_due : FnScope ["op", "first", "second", "size"] ["op", "first", "second"] (defScope s__law_due) := ⟨rfl, rfl, rfl, by decide +kernel, rfl, by decide +kernel, by decide +kernel⟩
abbrev s__law_right : Stmt := topS 60
theorem sc__law_right : FnScope ["op", "first", "second", "actual"] ["op", "first", "second", "actual"] (defScope s__law_right) := ⟨rfl, rfl, rfl, by decide +kernel, rfl, by decide +kernel, by decide +kernel⟩
abbrev s__law_cell : Stmt := topS 55
theorem sc__law_cell : FnScope ["script", "at"] ["script", "at"] (defScope s__law_cell) := ⟨rfl, rfl, rfl, by decide +kernel, rfl, by decide +kernel, by decide +kernel⟩
abbrev s_Outcome___init__ : Stmt := inClass (topS 20) 0
theorem sc_Outcome___init__ : FnScope ["self", "fuel"] ["self", "fuel"] (defScope s_Outcome___init__) := ⟨rfl, rfl, rfl, by decide +kernel, rfl, by decide +kernel, by decide +kernel⟩
abbrev s_Evaluation___init__ : Stmt := inClass (topS 26) 0
theorem sc_Evaluation___init__ : FnScope ["self", "program", "fuel", "_", "exceptions", "functions"] ["self", "program", "fuel"] (defScope s_Evaluation___init__) := ⟨rfl, rfl, rfl, by decide +kernel, rfl, by decide +kernel, by decide +kernel⟩
abbrev s_Evaluation_begin : Stmt := inClass (topS 26) 3
theorem sc_Evaluation_begin : FnScope ["self", "expression", "scope"] ["self", "expression", "scope"] (defScope s_Evaluation_begin) := ⟨rfl, rfl, rfl, by decide +kernel, rfl, by decide +kernel, by decide +kernel⟩
abbrev s_Outcome_end_stuck : Stmt := inClass (topS 20) 2
theorem sc_Outcome_end_stuck : FnScope ["self"] ["self"] (defScope s_Outcome_end_stuck) := ⟨rfl, rfl, rfl, by decide +kernel, rfl, by decide +kernel, by decide +kernel⟩
abbrev s__bound : Stmt := topS 27
theorem sc__bound : FnScope ["parameters", "values", "name", "_", "value"] ["parameters", "values"] (defScope s__bound) := ⟨rfl, rfl, rfl, by decide +kernel, rfl, by decide +kernel, by decide +kernel⟩
abbrev s__begin_kids : Stmt := topS 28
theorem sc__begin_kids : FnScope ["evaluation", "expression", "scope", "op", "_", "kids", "kid"] ["evaluation", "expression", "scope"] (defScope s__begin_kids) := ⟨rfl, rfl, rfl, by decide +kernel, rfl, by decide +kernel, by decide +kernel⟩
abbrev s_Evaluation_give : Stmt := inClass (topS 26) 4
theorem sc_Evaluation_give : FnScope ["self", "value"] ["self", "value"] (defScope s_Evaluation_give) := ⟨rfl, rfl, rfl, by decide +kernel, rfl, by decide +kernel, by decide +kernel⟩
abbrev s__begin_literal : Stmt := topS 29
theorem sc__begin_literal : FnScope ["evaluation", "expression", "scope"] ["evaluation", "expression", "scope"] (defScope s__begin_literal) := ⟨rfl, rfl, rfl, by decide +kernel, rfl, by decide +kernel, by decide +kernel⟩
abbrev s__begin_name : Stmt := topS 30
theorem sc__begin_name : FnScope ["evaluation", "expression", "scope"] ["evaluation", "expression", "scope"] (defScope s__begin_name) := ⟨rfl, rfl, rfl, by decide +kernel, rfl, by decide +kernel, by decide +kernel⟩
abbrev s__begin_fn : Stmt := topS 31
theorem sc__begin_fn : FnScope ["evaluation", "expression", "scope", "variable", "_", "body"] ["evaluation", "expression", "scope"] (defScope s__begin_fn) := ⟨rfl, rfl, rfl, by decide +kernel, rfl, by decide +kernel, by decide +kernel⟩
abbrev s__begin_handle : Stmt := topS 32
theorem sc__begin_handle : FnScope ["evaluation", "expression", "scope"] ["evaluation", "expression", "scope"] (defScope s__begin_handle) := ⟨rfl, rfl, rfl, by decide +kernel, rfl, by decide +kernel, by decide +kernel⟩
abbrev s_Outcome_spend : Stmt := inClass (topS 20) 1
theorem sc_Outcome_spend : FnScope ["self", "ticks"] ["self", "ticks"] (defScope s_Outcome_spend) := ⟨rfl, rfl, rfl, by decide +kernel, rfl, by decide +kernel, by decide +kernel⟩
abbrev s__end_call : Stmt := topS 34
theorem sc__end_call : FnScope ["evaluation", "expression", "scope", "values", "_", "parameters", "body"] ["evaluation", "expression", "scope", "values"] (defScope s__end_call) := ⟨rfl, rfl, rfl, by decide +kernel, rfl, by decide +kernel, by decide +kernel⟩
abbrev s__end_make : Stmt := topS 35
theorem sc__end_make : FnScope ["evaluation", "expression", "scope", "values"] ["evaluation", "expression", "scope", "values"] (defScope s__end_make) := ⟨rfl, rfl, rfl, by decide +kernel, rfl, by decide +kernel, by decide +kernel⟩
abbrev s__end_tuple : Stmt := topS 36
theorem sc__end_tuple : FnScope ["evaluation", "expression", "scope", "values"] ["evaluation", "expression", "scope", "values"] (defScope s__end_tuple) := ⟨rfl, rfl, rfl, by decide +kernel, rfl, by decide +kernel, by decide +kernel⟩
abbrev s__end_get : Stmt := topS 37
theorem sc__end_get : FnScope ["evaluation", "expression", "scope", "values"] ["evaluation", "expression", "scope", "values"] (defScope s__end_get) := ⟨rfl, rfl, rfl, by decide +kernel, rfl, by decide +kernel, by decide +kernel⟩
abbrev s_inner_scope : Stmt := topS 22
theorem sc_inner_scope : FnScope ["scope", "names", "values", "inner", "name", "value"] ["scope", "names", "values"] (defScope s_inner_scope) := ⟨rfl, rfl, rfl, by decide +kernel, rfl, by decide +kernel, by decide +kernel⟩
abbrev s__end_let : Stmt := topS 38
theorem sc__end_let : FnScope ["evaluation", "expression", "scope", "values"] ["evaluation", "expression", "scope", "values"] (defScope s__end_let) := ⟨rfl, rfl, rfl, by decide +kernel, rfl, by decide +kernel, by decide +kernel⟩
abbrev s__end_if : Stmt := topS 39
theorem sc__end_if : FnScope ["evaluation", "expression", "scope", "values", "_", "first", "second"] ["evaluation", "expression", "scope", "values"] (defScope s__end_if) := ⟨rfl, rfl, rfl, by decide +kernel, rfl, by decide +kernel, by decide +kernel⟩
abbrev s__end_case : Stmt := topS 40
theorem sc__end_case : FnScope ["evaluation", "expression", "scope", "values", "number", "fields", "_", "variables", "body"] ["evaluation", "expression", "scope", "values"] (defScope s__end_case) := ⟨rfl, rfl, rfl, by decide +kernel, rfl, by decide +kernel, by decide +kernel⟩
abbrev s__end_apply : Stmt := topS 41
theorem sc__end_apply : FnScope ["evaluation", "expression", "scope", "values", "variable", "body", "around", "argument"] ["evaluation", "expression", "scope", "values"] (defScope s__end_apply) := ⟨rfl, rfl, rfl, by decide +kernel, rfl, by decide +kernel, by decide +kernel⟩
abbrev s__end_ref : Stmt := topS 42
theorem sc__end_ref : FnScope ["evaluation", "expression", "scope", "values"] ["evaluation", "expression", "scope", "values"] (defScope s__end_ref) := ⟨rfl, rfl, rfl, by decide +kernel, rfl, by decide +kernel, by decide +kernel⟩
abbrev s__end_deref : Stmt := topS 43
theorem sc__end_deref : FnScope ["evaluation", "expression", "scope", "values"] ["evaluation", "expression", "scope", "values"] (defScope s__end_deref) := ⟨rfl, rfl, rfl, by decide +kernel, rfl, by decide +kernel, by decide +kernel⟩
abbrev s__end_set : Stmt := topS 44
theorem sc__end_set : FnScope ["evaluation", "expression", "scope", "values", "reference", "value"] ["evaluation", "expression", "scope", "values"] (defScope s__end_set) := ⟨rfl, rfl, rfl, by decide +kernel, rfl, by decide +kernel, by decide +kernel⟩
abbrev s_Evaluation_throw : Stmt := inClass (topS 26) 6
theorem sc_Evaluation_throw : FnScope ["self", "number", "payload", "word", "expression", "scope", "around", "many", "name", "variables", "body"] ["self", "number", "payload"] (defScope s_Evaluation_throw) := ⟨rfl, rfl, rfl, by decide +kernel, rfl, by decide +kernel, by decide +kernel⟩
abbrev s__end_array : Stmt := topS 45
theorem sc__end_array : FnScope ["evaluation", "expression", "scope", "values", "many", "element"] ["evaluation", "expression", "scope", "values"] (defScope s__end_array) := ⟨rfl, rfl, rfl, by decide +kernel, rfl, by decide +kernel, by decide +kernel⟩
abbrev s__end_at : Stmt := topS 46
theorem sc__end_at : FnScope ["evaluation", "expression", "scope", "values", "array", "index"] ["evaluation", "expression", "scope", "values"] (defScope s__end_at) := ⟨rfl, rfl, rfl, by decide +kernel, rfl, by decide +kernel, by decide +kernel⟩
abbrev s__end_put : Stmt := topS 47
theorem sc__end_put : FnScope ["evaluation", "expression", "scope", "values", "array", "index", "value"] ["evaluation", "expression", "scope", "values"] (defScope s__end_put) := ⟨rfl, rfl, rfl, by decide +kernel, rfl, by decide +kernel, by decide +kernel⟩
abbrev s__end_len : Stmt := topS 48
theorem sc__end_len : FnScope ["evaluation", "expression", "scope", "values"] ["evaluation", "expression", "scope", "values"] (defScope s__end_len) := ⟨rfl, rfl, rfl, by decide +kernel, rfl, by decide +kernel, by decide +kernel⟩
abbrev s__end_raise : Stmt := topS 49
theorem sc__end_raise : FnScope ["evaluation", "expression", "scope", "values"] ["evaluation", "expression", "scope", "values"] (defScope s__end_raise) := ⟨rfl, rfl, rfl, by decide +kernel, rfl, by decide +kernel, by decide +kernel⟩
abbrev s__end_print : Stmt := topS 50
theorem sc__end_print : FnScope ["evaluation", "expression", "scope", "values"] ["evaluation", "expression", "scope", "values"] (defScope s__end_print) := ⟨rfl, rfl, rfl, by decide +kernel, rfl, by decide +kernel, by decide +kernel⟩
abbrev s__end_seq : Stmt := topS 51
theorem sc__end_seq : FnScope ["evaluation", "expression", "scope", "values"] ["evaluation", "expression", "scope", "values"] (defScope s__end_seq) := ⟨rfl, rfl, rfl, by decide +kernel, rfl, by decide +kernel, by decide +kernel⟩
abbrev s_divides_by_zero : Stmt := topS 6
theorem sc_divides_by_zero : FnScope ["op", "second"] ["op", "second"] (defScope s_divides_by_zero) := ⟨rfl, rfl, rfl, by decide +kernel, rfl, by decide +kernel, by decide +kernel⟩
abbrev s_wrap : Stmt := topS 5
theorem sc_wrap : FnScope ["number"] ["number"] (defScope s_wrap) := ⟨rfl, rfl, rfl, by decide +kernel, rfl, by decide +kernel, by decide +kernel⟩
abbrev s__add : Stmt := topS 8
theorem sc__add : FnScope ["first", "second"] ["first", "second"] (defScope s__add) := ⟨rfl, rfl, rfl, by decide +kernel, rfl, by decide +kernel, by decide +kernel⟩
abbrev s__sub : Stmt := topS 9
theorem sc__sub : FnScope ["first", "second"] ["first", "second"] (defScope s__sub) := ⟨rfl, rfl, rfl, by decide +kernel, rfl, by decide +kernel, by decide +kernel⟩
abbrev s__mul : Stmt := topS 10
theorem sc__mul : FnScope ["first", "second"] ["first", "second"] (defScope s__mul) := ⟨rfl, rfl, rfl, by decide +kernel, rfl, by decide +kernel, by decide +kernel⟩
abbrev s__quotient : Stmt := topS 11
theorem sc__quotient : FnScope ["first", "second", "quotient"] ["first", "second"] (defScope s__quotient) := ⟨rfl, rfl, rfl, by decide +kernel, rfl, by decide +kernel, by decide +kernel⟩
abbrev s__div : Stmt := topS 12
theorem sc__div : FnScope ["first", "second"] ["first", "second"] (defScope s__div) := ⟨rfl, rfl, rfl, by decide +kernel, rfl, by decide +kernel, by decide +kernel⟩
abbrev s__rem : Stmt := topS 13
theorem sc__rem : FnScope ["first", "second"] ["first", "second"] (defScope s__rem) := ⟨rfl, rfl, rfl, by decide +kernel, rfl, by decide +kernel, by decide +kernel⟩
abbrev s__equal : Stmt := topS 14
theorem sc__equal : FnScope ["first", "second"] ["first", "second"] (defScope s__equal) := ⟨rfl, rfl, rfl, by decide +kernel, rfl, by decide +kernel, by decide +kernel⟩
abbrev s__less : Stmt := topS 15
theorem sc__less : FnScope ["first", "second"] ["first", "second"] (defScope s__less) := ⟨rfl, rfl, rfl, by decide +kernel, rfl, by decide +kernel, by decide +kernel⟩
abbrev s_compute : Stmt := topS 7
theorem sc_compute : FnScope ["op", "first", "second", "action"] ["op", "first", "second"] (defScope s_compute) := ⟨rfl, rfl, rfl, by decide +kernel, rfl, by decide +kernel, by decide +kernel⟩
abbrev s__end_operation : Stmt := topS 52
theorem sc__end_operation : FnScope ["evaluation", "expression", "scope", "values", "op", "first", "second"] ["evaluation", "expression", "scope", "values"] (defScope s__end_operation) := ⟨rfl, rfl, rfl, by decide +kernel, rfl, by decide +kernel, by decide +kernel⟩
abbrev s_Evaluation_take : Stmt := inClass (topS 26) 5
theorem sc_Evaluation_take : FnScope ["self", "many", "start", "taken"] ["self", "many"] (defScope s_Evaluation_take) := ⟨rfl, rfl, rfl, by decide +kernel, rfl, by decide +kernel, by decide +kernel⟩
abbrev s_Evaluation_do_task : Stmt := inClass (topS 26) 2
theorem sc_Evaluation_do_task : FnScope ["self", "word", "expression", "scope", "action", "op", "_", "kids"] ["self"] (defScope s_Evaluation_do_task) := ⟨rfl, rfl, rfl, by decide +kernel, rfl, by decide +kernel, by decide +kernel⟩
abbrev s_Evaluation_evaluate : Stmt := inClass (topS 26) 1
theorem sc_Evaluation_evaluate : FnScope ["self", "arguments", "_", "parameters", "body", "argument"] ["self", "arguments"] (defScope s_Evaluation_evaluate) := ⟨rfl, rfl, rfl, by decide +kernel, rfl, by decide +kernel, by decide +kernel⟩
abbrev s_Outcome_result : Stmt := inClass (topS 20) 3
theorem sc_Outcome_result : FnScope ["self"] ["self"] (defScope s_Outcome_result) := ⟨rfl, rfl, rfl, by decide +kernel, rfl, by decide +kernel, by decide +kernel⟩
abbrev s_run : Stmt := topS 25
theorem sc_run : FnScope ["program", "arguments", "fuel", "evaluation"] ["program", "arguments", "fuel"] (defScope s_run) := ⟨rfl, rfl, rfl, by decide +kernel, rfl, by decide +kernel, by decide +kernel⟩
abbrev s_law : Stmt := topS 61
theorem sc_law : FnScope ["script", "first", "second", "op", "limit", "program", "arguments"] ["script"] (defScope s_law) := ⟨rfl, rfl, rfl, by decide +kernel, rfl, by decide +kernel, by decide +kernel⟩
def c_MAX_FUEL : D := (.int 200)
def kv_EARLY : List (Str × D) := [("let", (.int 1)), ("if", (.int 1))]
def c_MAX_ARRAY : D := (.int 12)
def c_SIZE : D := (.int 2)
def c_INDEX : D := (.int 1)
def c_HALF : D := (.int 2147483648)
def kv_OPERATIONS : List (Str × D) := [("add", (.kon "_add")), ("sub", (.kon "_sub")), ("mul", (.kon "_mul")), ("div", (.kon "_div")), ("rem", (.kon "_rem")), ("equal", (.kon "_equal")), ("less", (.kon "_less"))]
def c_DIV : D := (.int 0)
def kv_BEGINNINGS : List (Str × D) := [("int", (.kon "_begin_literal")), ("bool", (.kon "_begin_literal")), ("unit", (.kon "_begin_literal")), ("name", (.kon "_begin_name")), ("fn", (.kon "_begin_fn")), ("handle", (.kon "_begin_handle"))]
def kv_ENDS : List (Str × D) := [("call", (.kon "_end_call")), ("make", (.kon "_end_make")), ("tuple", (.kon "_end_tuple")), ("get", (.kon "_end_get")), ("let", (.kon "_end_let")), ("if", (.kon "_end_if")), ("case", (.kon "_end_case")), ("apply", (.kon "_end_apply")), ("ref", (.kon "_end_ref")), ("deref", (.kon "_end_deref")), ("set", (.kon "_end_set")), ("array", (.kon "_end_array")), ("at", (.kon "_end_at")), ("put", (.kon "_end_put")), ("len", (.kon "_end_len")), ("raise", (.kon "_end_raise")), ("print", (.kon "_end_print")), ("seq", (.kon "_end_seq")), ("add", (.kon "_end_operation")), ("sub", (.kon "_end_operation")), ("mul", (.kon "_end_operation")), ("div", (.kon "_end_operation")), ("rem", (.kon "_end_operation")), ("equal", (.kon "_end_operation")), ("less", (.kon "_end_operation"))]
/-- what the top has left -/
structure Top (w : World) (K : PySem.W.Frag) (mg : Str → Option Value) where
  a__law_number : Addr
  f__law_number : FuncData
  d__law_number : DefAt K mg "_law_number" s__law_number a__law_number f__law_number ["cell"]
  a__law_program : Addr
  f__law_program : FuncData
  d__law_program : DefAt K mg "_law_program" s__law_program a__law_program f__law_program ["op"]
  a__law_wrap : Addr
  f__law_wrap : FuncData
  d__law_wrap : DefAt K mg "_law_wrap" s__law_wrap a__law_wrap f__law_wrap ["number"]
  a__law_due : Addr
  f__law_due : FuncData
  d__law_due : DefAt K mg "_law_due" s__law_due a__law_due f__law_due ["op", "first", "second"]
  a__law_right : Addr
  f__law_right : FuncData
  d__law_right : DefAt K mg "_law_right" s__law_right a__law_right f__law_right ["op", "first", "second", "actual"]
  a__law_cell : Addr
  f__law_cell : FuncData
  d__law_cell : DefAt K mg "_law_cell" s__law_cell a__law_cell f__law_cell ["script", "at"]
  a_Outcome___init__ : Addr
  f_Outcome___init__ : FuncData
  a_Evaluation___init__ : Addr
  f_Evaluation___init__ : FuncData
  a_Evaluation_begin : Addr
  f_Evaluation_begin : FuncData
  a_Outcome_end_stuck : Addr
  f_Outcome_end_stuck : FuncData
  a__bound : Addr
  f__bound : FuncData
  d__bound : DefAt K mg "_bound" s__bound a__bound f__bound ["parameters", "values"]
  a__begin_kids : Addr
  f__begin_kids : FuncData
  d__begin_kids : DefAt K mg "_begin_kids" s__begin_kids a__begin_kids f__begin_kids ["evaluation", "expression", "scope"]
  a_Evaluation_give : Addr
  f_Evaluation_give : FuncData
  a__begin_literal : Addr
  f__begin_literal : FuncData
  d__begin_literal : DefAt K mg "_begin_literal" s__begin_literal a__begin_literal f__begin_literal ["evaluation", "expression", "scope"]
  a__begin_name : Addr
  f__begin_name : FuncData
  d__begin_name : DefAt K mg "_begin_name" s__begin_name a__begin_name f__begin_name ["evaluation", "expression", "scope"]
  a__begin_fn : Addr
  f__begin_fn : FuncData
  d__begin_fn : DefAt K mg "_begin_fn" s__begin_fn a__begin_fn f__begin_fn ["evaluation", "expression", "scope"]
  a__begin_handle : Addr
  f__begin_handle : FuncData
  d__begin_handle : DefAt K mg "_begin_handle" s__begin_handle a__begin_handle f__begin_handle ["evaluation", "expression", "scope"]
  a_Outcome_spend : Addr
  f_Outcome_spend : FuncData
  a__end_call : Addr
  f__end_call : FuncData
  d__end_call : DefAt K mg "_end_call" s__end_call a__end_call f__end_call ["evaluation", "expression", "scope", "values"]
  a__end_make : Addr
  f__end_make : FuncData
  d__end_make : DefAt K mg "_end_make" s__end_make a__end_make f__end_make ["evaluation", "expression", "scope", "values"]
  a__end_tuple : Addr
  f__end_tuple : FuncData
  d__end_tuple : DefAt K mg "_end_tuple" s__end_tuple a__end_tuple f__end_tuple ["evaluation", "expression", "scope", "values"]
  a__end_get : Addr
  f__end_get : FuncData
  d__end_get : DefAt K mg "_end_get" s__end_get a__end_get f__end_get ["evaluation", "expression", "scope", "values"]
  a_inner_scope : Addr
  f_inner_scope : FuncData
  d_inner_scope : DefAt K mg "inner_scope" s_inner_scope a_inner_scope f_inner_scope ["scope", "names", "values"]
  a__end_let : Addr
  f__end_let : FuncData
  d__end_let : DefAt K mg "_end_let" s__end_let a__end_let f__end_let ["evaluation", "expression", "scope", "values"]
  a__end_if : Addr
  f__end_if : FuncData
  d__end_if : DefAt K mg "_end_if" s__end_if a__end_if f__end_if ["evaluation", "expression", "scope", "values"]
  a__end_case : Addr
  f__end_case : FuncData
  d__end_case : DefAt K mg "_end_case" s__end_case a__end_case f__end_case ["evaluation", "expression", "scope", "values"]
  a__end_apply : Addr
  f__end_apply : FuncData
  d__end_apply : DefAt K mg "_end_apply" s__end_apply a__end_apply f__end_apply ["evaluation", "expression", "scope", "values"]
  a__end_ref : Addr
  f__end_ref : FuncData
  d__end_ref : DefAt K mg "_end_ref" s__end_ref a__end_ref f__end_ref ["evaluation", "expression", "scope", "values"]
  a__end_deref : Addr
  f__end_deref : FuncData
  d__end_deref : DefAt K mg "_end_deref" s__end_deref a__end_deref f__end_deref ["evaluation", "expression", "scope", "values"]
  a__end_set : Addr
  f__end_set : FuncData
  d__end_set : DefAt K mg "_end_set" s__end_set a__end_set f__end_set ["evaluation", "expression", "scope", "values"]
  a_Evaluation_throw : Addr
  f_Evaluation_throw : FuncData
  a__end_array : Addr
  f__end_array : FuncData
  d__end_array : DefAt K mg "_end_array" s__end_array a__end_array f__end_array ["evaluation", "expression", "scope", "values"]
  a__end_at : Addr
  f__end_at : FuncData
  d__end_at : DefAt K mg "_end_at" s__end_at a__end_at f__end_at ["evaluation", "expression", "scope", "values"]
  a__end_put : Addr
  f__end_put : FuncData
  d__end_put : DefAt K mg "_end_put" s__end_put a__end_put f__end_put ["evaluation", "expression", "scope", "values"]
  a__end_len : Addr
  f__end_len : FuncData
  d__end_len : DefAt K mg "_end_len" s__end_len a__end_len f__end_len ["evaluation", "expression", "scope", "values"]
  a__end_raise : Addr
  f__end_raise : FuncData
  d__end_raise : DefAt K mg "_end_raise" s__end_raise a__end_raise f__end_raise ["evaluation", "expression", "scope", "values"]
  a__end_print : Addr
  f__end_print : FuncData
  d__end_print : DefAt K mg "_end_print" s__end_print a__end_print f__end_print ["evaluation", "expression", "scope", "values"]
  a__end_seq : Addr
  f__end_seq : FuncData
  d__end_seq : DefAt K mg "_end_seq" s__end_seq a__end_seq f__end_seq ["evaluation", "expression", "scope", "values"]
  a_divides_by_zero : Addr
  f_divides_by_zero : FuncData
  d_divides_by_zero : DefAt K mg "divides_by_zero" s_divides_by_zero a_divides_by_zero f_divides_by_zero ["op", "second"]
  a_wrap : Addr
  f_wrap : FuncData
  d_wrap : DefAt K mg "wrap" s_wrap a_wrap f_wrap ["number"]
  a__add : Addr
  f__add : FuncData
  d__add : DefAt K mg "_add" s__add a__add f__add ["first", "second"]
  a__sub : Addr
  f__sub : FuncData
  d__sub : DefAt K mg "_sub" s__sub a__sub f__sub ["first", "second"]
  a__mul : Addr
  f__mul : FuncData
  d__mul : DefAt K mg "_mul" s__mul a__mul f__mul ["first", "second"]
  a__quotient : Addr
  f__quotient : FuncData
  d__quotient : DefAt K mg "_quotient" s__quotient a__quotient f__quotient ["first", "second"]
  a__div : Addr
  f__div : FuncData
  d__div : DefAt K mg "_div" s__div a__div f__div ["first", "second"]
  a__rem : Addr
  f__rem : FuncData
  d__rem : DefAt K mg "_rem" s__rem a__rem f__rem ["first", "second"]
  a__equal : Addr
  f__equal : FuncData
  d__equal : DefAt K mg "_equal" s__equal a__equal f__equal ["first", "second"]
  a__less : Addr
  f__less : FuncData
  d__less : DefAt K mg "_less" s__less a__less f__less ["first", "second"]
  a_compute : Addr
  f_compute : FuncData
  d_compute : DefAt K mg "compute" s_compute a_compute f_compute ["op", "first", "second"]
  a__end_operation : Addr
  f__end_operation : FuncData
  d__end_operation : DefAt K mg "_end_operation" s__end_operation a__end_operation f__end_operation ["evaluation", "expression", "scope", "values"]
  a_Evaluation_take : Addr
  f_Evaluation_take : FuncData
  a_Evaluation_do_task : Addr
  f_Evaluation_do_task : FuncData
  a_Evaluation_evaluate : Addr
  f_Evaluation_evaluate : FuncData
  a_Outcome_result : Addr
  f_Outcome_result : FuncData
  a_run : Addr
  f_run : FuncData
  d_run : DefKw K mg "run" s_run a_run f_run [("fuel", .int 200)]
  a_law : Addr
  f_law : FuncData
  d_law : DefAt K mg "law" s_law a_law f_law ["script"]
  a_cls_Outcome : Addr
  a_cls_Evaluation : Addr
  d_Outcome___init__ : MthAt K a_cls_Outcome "__init__" "Outcome.__init__" s_Outcome___init__ a_Outcome___init__ f_Outcome___init__ ["self", "fuel"]
  d_Evaluation___init__ : MthAt K a_cls_Evaluation "__init__" "Evaluation.__init__" s_Evaluation___init__ a_Evaluation___init__ f_Evaluation___init__ ["self", "program", "fuel"]
  d_Evaluation_begin : MthAt K a_cls_Evaluation "begin" "Evaluation.begin" s_Evaluation_begin a_Evaluation_begin f_Evaluation_begin ["self", "expression", "scope"]
  d_Outcome_end_stuck : MthAt K a_cls_Outcome "end_stuck" "Outcome.end_stuck" s_Outcome_end_stuck a_Outcome_end_stuck f_Outcome_end_stuck ["self"]
  d_Evaluation_give : MthAt K a_cls_Evaluation "give" "Evaluation.give" s_Evaluation_give a_Evaluation_give f_Evaluation_give ["self", "value"]
  d_Outcome_spend : MthAt K a_cls_Outcome "spend" "Outcome.spend" s_Outcome_spend a_Outcome_spend f_Outcome_spend ["self", "ticks"]
  d_Evaluation_throw : MthAt K a_cls_Evaluation "throw" "Evaluation.throw" s_Evaluation_throw a_Evaluation_throw f_Evaluation_throw ["self", "number", "payload"]
  d_Evaluation_take : MthAt K a_cls_Evaluation "take" "Evaluation.take" s_Evaluation_take a_Evaluation_take f_Evaluation_take ["self", "many"]
  d_Evaluation_do_task : MthAt K a_cls_Evaluation "do_task" "Evaluation.do_task" s_Evaluation_do_task a_Evaluation_do_task f_Evaluation_do_task ["self"]
  d_Evaluation_evaluate : MthAt K a_cls_Evaluation "evaluate" "Evaluation.evaluate" s_Evaluation_evaluate a_Evaluation_evaluate f_Evaluation_evaluate ["self", "arguments"]
  d_Outcome_result : MthAt K a_cls_Outcome "result" "Outcome.result" s_Outcome_result a_Outcome_result f_Outcome_result ["self"]
  cls_Outcome : ClsT K "Outcome" a_cls_Outcome ["fault", "fuel", "outs", "returned", "ticks"]
  mg_Outcome : mg "Outcome" = some (.ref a_cls_Outcome)
  mk_Outcome : Mk K a_cls_Outcome a_Outcome___init__
  cls_Evaluation : ClsT K "Evaluation" a_cls_Evaluation ["done", "exceptions", "functions", "outcome", "tasks"]
  mg_Evaluation : mg "Evaluation" = some (.ref a_cls_Evaluation)
  mk_Evaluation : Mk K a_cls_Evaluation a_Evaluation___init__
  z_int : mg "int" = none
  z_abs : mg "abs" = none
  z_tuple : mg "tuple" = none
  z_isinstance : mg "isinstance" = none
  z_len : mg "len" = none
  z_bool : mg "bool" = none
  z_max : mg "max" = none
  z_min : mg "min" = none
  z_zip : mg "zip" = none
  z_list : mg "list" = none
  z_reversed : mg "reversed" = none
  n__add : PySem.W.nsIn K mainGlobals "_add" = some (some (.ref a__add))
  n__sub : PySem.W.nsIn K mainGlobals "_sub" = some (some (.ref a__sub))
  n__mul : PySem.W.nsIn K mainGlobals "_mul" = some (some (.ref a__mul))
  n__div : PySem.W.nsIn K mainGlobals "_div" = some (some (.ref a__div))
  n__rem : PySem.W.nsIn K mainGlobals "_rem" = some (some (.ref a__rem))
  n__equal : PySem.W.nsIn K mainGlobals "_equal" = some (some (.ref a__equal))
  n__less : PySem.W.nsIn K mainGlobals "_less" = some (some (.ref a__less))
  n__begin_kids : PySem.W.nsIn K mainGlobals "_begin_kids" = some (some (.ref a__begin_kids))
  n__begin_literal : PySem.W.nsIn K mainGlobals "_begin_literal" = some (some (.ref a__begin_literal))
  n__begin_name : PySem.W.nsIn K mainGlobals "_begin_name" = some (some (.ref a__begin_name))
  n__begin_fn : PySem.W.nsIn K mainGlobals "_begin_fn" = some (some (.ref a__begin_fn))
  n__begin_handle : PySem.W.nsIn K mainGlobals "_begin_handle" = some (some (.ref a__begin_handle))
  n__end_call : PySem.W.nsIn K mainGlobals "_end_call" = some (some (.ref a__end_call))
  n__end_make : PySem.W.nsIn K mainGlobals "_end_make" = some (some (.ref a__end_make))
  n__end_tuple : PySem.W.nsIn K mainGlobals "_end_tuple" = some (some (.ref a__end_tuple))
  n__end_get : PySem.W.nsIn K mainGlobals "_end_get" = some (some (.ref a__end_get))
  n__end_let : PySem.W.nsIn K mainGlobals "_end_let" = some (some (.ref a__end_let))
  n__end_if : PySem.W.nsIn K mainGlobals "_end_if" = some (some (.ref a__end_if))
  n__end_case : PySem.W.nsIn K mainGlobals "_end_case" = some (some (.ref a__end_case))
  n__end_apply : PySem.W.nsIn K mainGlobals "_end_apply" = some (some (.ref a__end_apply))
  n__end_ref : PySem.W.nsIn K mainGlobals "_end_ref" = some (some (.ref a__end_ref))
  n__end_deref : PySem.W.nsIn K mainGlobals "_end_deref" = some (some (.ref a__end_deref))
  n__end_set : PySem.W.nsIn K mainGlobals "_end_set" = some (some (.ref a__end_set))
  n__end_array : PySem.W.nsIn K mainGlobals "_end_array" = some (some (.ref a__end_array))
  n__end_at : PySem.W.nsIn K mainGlobals "_end_at" = some (some (.ref a__end_at))
  n__end_put : PySem.W.nsIn K mainGlobals "_end_put" = some (some (.ref a__end_put))
  n__end_len : PySem.W.nsIn K mainGlobals "_end_len" = some (some (.ref a__end_len))
  n__end_raise : PySem.W.nsIn K mainGlobals "_end_raise" = some (some (.ref a__end_raise))
  n__end_print : PySem.W.nsIn K mainGlobals "_end_print" = some (some (.ref a__end_print))
  n__end_seq : PySem.W.nsIn K mainGlobals "_end_seq" = some (some (.ref a__end_seq))
  n__end_operation : PySem.W.nsIn K mainGlobals "_end_operation" = some (some (.ref a__end_operation))
  c_MAX_FUEL : CAt K mg "MAX_FUEL" c_MAX_FUEL
  k_EARLY : KAt K w mg "EARLY" kv_EARLY
  c_MAX_ARRAY : CAt K mg "MAX_ARRAY" c_MAX_ARRAY
  c_SIZE : CAt K mg "SIZE" c_SIZE
  c_INDEX : CAt K mg "INDEX" c_INDEX
  c_HALF : CAt K mg "HALF" c_HALF
  k_OPERATIONS : KAt K w mg "OPERATIONS" kv_OPERATIONS
  c_DIV : CAt K mg "DIV" c_DIV
  k_BEGINNINGS : KAt K w mg "BEGINNINGS" kv_BEGINNINGS
  k_ENDS : KAt K w mg "ENDS" kv_ENDS
noncomputable def b__law_number : MSt :=
  mSeq (mSet 1 (mOp opSub (mC (.int 1)) (mOp opMul (mC (.int 2)) (mOp opMod (mVar 0) (mC (.int 2)))))) (mSeq (mSet 2 (mOp opMod (mOp opDiv (mVar 0) (mC (.int 2))) (mOp opPow (mC (.int 2)) (mC (.int 40))))) (mSeq (mIfS (mB (mOp opEq (mOp opMod (mOp opDiv (mVar 0) (mOp opPow (mC (.int 2)) (mC (.int 41)))) (mC (.int 3))) (mC (.int 1)))) (mSet 2 (mOp opSub (mOp opAddS (mOp opIx (mLst (mCons (mOp opPow (mC (.int 2)) (mC (.int 31))) (mCons (mOp opPow (mC (.int 2)) (mC (.int 32))) (mCons (mOp opPow (mC (.int 2)) (mC (.int 16))) (mCons (mOp opPow (mC (.int 2)) (mC (.int 33))) (mCons (mC (.int 0)) (mNil))))))) (mOp opMod (mOp opDiv (mVar 0) (mOp opPow (mC (.int 2)) (mC (.int 43)))) (mC (.int 5)))) (mOp opMod (mOp opDiv (mVar 0) (mC (.int 2))) (mC (.int 5)))) (mC (.int 2)))) (mNext)) (mRet (mOp opMul (mVar 1) (mVar 2)))))
noncomputable def m__law_number : List D → MH → R D := mFn 1 3 b__law_number
noncomputable def b__law_program : MSt :=
  mSeq (mSet 1 (mTup (mCons (mC (.str "int")) (mCons (mTup (mNil)) (mCons (mC (.int 0)) (mNil)))))) (mSeq (mSet 2 (mTup (mCons (mC (.str "name")) (mCons (mVar 1) (mCons (mC (.str "n")) (mCons (mTup (mNil)) (mCons (mTup (mNil)) (mNil)))))))) (mSeq (mSet 3 (mTup (mCons (mC (.str "name")) (mCons (mVar 1) (mCons (mC (.str "m")) (mCons (mTup (mNil)) (mCons (mTup (mNil)) (mNil)))))))) (mSeq (mSet 4 (mTup (mCons (mVar 0) (mCons (mVar 1) (mCons (mC .non) (mCons (mTup (mCons (mVar 2) (mCons (mVar 3) (mNil)))) (mCons (mTup (mNil)) (mNil)))))))) (mSeq (mIfS (mB (mOp opIn2 (mVar 0) (mTup (mCons (mC (.str "equal")) (mCons (mC (.str "less")) (mNil)))))) (mSeq (mSet 5 (mTup (mCons (mVar 0) (mCons (mTup (mCons (mC (.str "bool")) (mCons (mTup (mNil)) (mCons (mC (.int 0)) (mNil))))) (mCons (mC .non) (mCons (mTup (mCons (mVar 2) (mCons (mVar 3) (mNil)))) (mCons (mTup (mNil)) (mNil)))))))) (mSet 4 (mTup (mCons (mC (.str "if")) (mCons (mVar 1) (mCons (mC .non) (mCons (mTup (mCons (mVar 5) (mCons (mTup (mCons (mC (.str "int")) (mCons (mVar 1) (mCons (mC (.int 1)) (mCons (mTup (mNil)) (mCons (mTup (mNil)) (mNil))))))) (mCons (mTup (mCons (mC (.str "int")) (mCons (mVar 1) (mCons (mC (.int 0)) (mCons (mTup (mNil)) (mCons (mTup (mNil)) (mNil))))))) (mNil))))) (mCons (mTup (mNil)) (mNil))))))))) (mNext)) (mSeq (mSet 6 (mTup (mCons (mC (.str "main")) (mCons (mTup (mCons (mTup (mCons (mC (.str "n")) (mCons (mVar 1) (mNil)))) (mCons (mTup (mCons (mC (.str "m")) (mCons (mVar 1) (mNil)))) (mNil)))) (mCons (mVar 1) (mCons (mVar 4) (mNil))))))) (mRet (mTup (mCons (mTup (mNil)) (mCons (mTup (mCons (mC (.str "Div")) (mCons (mC (.str "Index")) (mCons (mC (.str "Size")) (mNil))))) (mCons (mTup (mCons (mVar 6) (mNil))) (mNil)))))))))))
noncomputable def m__law_program : List D → MH → R D := mFn 1 7 b__law_program
noncomputable def b__law_wrap : MSt :=
  mSeq (mSet 0 (mOp opMod (mCall fInt (mCons (mVar 0) (mNil))) (mOp opPow (mC (.int 2)) (mC (.int 32))))) (mSeq (mIfS (mB (mOp opGe (mVar 0) (mOp opPow (mC (.int 2)) (mC (.int 31))))) (mRet (mOp opSub (mVar 0) (mOp opPow (mC (.int 2)) (mC (.int 32))))) (mNext)) (mRet (mVar 0)))
noncomputable def m__law_wrap : List D → MH → R D := mFn 1 1 b__law_wrap
noncomputable def b__law_due : MSt :=
  mSeq (mIfS (mB (mOp opEq (mVar 0) (mC (.str "add")))) (mRet (mCall m__law_wrap (mCons (mOp opAddS (mVar 1) (mVar 2)) (mNil)))) (mNext)) (mSeq (mIfS (mB (mOp opEq (mVar 0) (mC (.str "sub")))) (mRet (mCall m__law_wrap (mCons (mOp opSub (mVar 1) (mVar 2)) (mNil)))) (mNext)) (mSeq (mIfS (mB (mOp opEq (mVar 0) (mC (.str "mul")))) (mRet (mCall m__law_wrap (mCons (mOp opMul (mVar 1) (mVar 2)) (mNil)))) (mNext)) (mSeq (mIfS (mB (mOp opEq (mVar 0) (mC (.str "equal")))) (mRet (mCall fInt (mCons (mOp opEq (mVar 1) (mVar 2)) (mNil)))) (mNext)) (mSeq (mIfS (mB (mOp opEq (mVar 0) (mC (.str "less")))) (mRet (mCall fInt (mCons (mOp opLt (mVar 1) (mVar 2)) (mNil)))) (mNext)) (mSeq (mSet 3 (mOp opDiv (mCall fAbs (mCons (mVar 1) (mNil))) (mCall fAbs (mCons (mVar 2) (mNil))))) (mSeq (mIfS (mB (mOp opNe (mOp opLt (mVar 1) (mC (.int 0))) (mOp opLt (mVar 2) (mC (.int 0))))) (mSet 3 (mOp opSub (mC (.int 0)) (mVar 3))) (mNext)) (mSeq (mIfS (mB (mOp opEq (mVar 0) (mC (.str "div")))) (mRet (mCall m__law_wrap (mCons (mVar 3) (mNil)))) (mNext)) (mRet (mOp opSub (mVar 1) (mOp opMul (mVar 2) (mVar 3)))))))))))
noncomputable def m__law_due : List D → MH → R D := mFn 3 4 b__law_due
noncomputable def b__law_right : MSt :=
  mSeq (mIfS (mOr (mNot (mTru (mCall fIsi (mCons (mVar 3) (mCons (mC (.ty "tuple")) (mNil)))))) (mOr (mB (mOp opNe (mCall fLen (mCons (mVar 3) (mNil))) (mC (.int 4)))) (mTru (mCall fIsi (mCons (mOp opIx (mVar 3) (mC (.int 1))) (mCons (mC (.ty "bool")) (mNil))))))) (mRet (mC (.bl false))) (mNext)) (mSeq (mSet 1 (mCall m__law_wrap (mCons (mVar 1) (mNil)))) (mSeq (mSet 2 (mCall m__law_wrap (mCons (mVar 2) (mNil)))) (mSeq (mIfS (mAnd (mB (mOp opIn2 (mVar 0) (mTup (mCons (mC (.str "div")) (mCons (mC (.str "rem")) (mNil)))))) (mB (mOp opEq (mVar 2) (mC (.int 0))))) (mRet (mOp opEq (mVar 3) (mTup (mCons (mTup (mCons (mC (.str "raised")) (mCons (mC (.str "Div")) (mCons (mC (.int 0)) (mNil))))) (mCons (mC (.int 0)) (mCons (mTup (mNil)) (mCons (mC (.int 0)) (mNil)))))))) (mNext)) (mRet (mOp opEq (mVar 3) (mTup (mCons (mC .non) (mCons (mCall m__law_due (mCons (mVar 0) (mCons (mVar 1) (mCons (mVar 2) (mNil))))) (mCons (mTup (mNil)) (mCons (mC (.int 0)) (mNil)))))))))))
noncomputable def m__law_right : List D → MH → R D := mFn 4 4 b__law_right
noncomputable def b__law_cell : MSt :=
  mSeq (mIfS (mB (mOp opLt (mVar 1) (mCall fLen (mCons (mVar 0) (mNil))))) (mRet (mOp opIx (mVar 0) (mVar 1))) (mNext)) (mRet (mC (.int 0)))
noncomputable def m__law_cell : List D → MH → R D := mFn 2 2 b__law_cell
noncomputable def b_Outcome___init__ : MSt :=
  mSeq (mFldS ["Outcome"] "fuel" (mCall fMin2 (mCons (mCall fMax2 (mCons (mVar 1) (mCons (mC (.int 0)) (mNil)))) (mCons (mC c_MAX_FUEL) (mNil)))) (mVar 0)) (mSeq (mFldS ["Outcome"] "ticks" (mC (.int 0)) (mVar 0)) (mSeq (mFldS ["Outcome"] "outs" (mLstN (mNil)) (mVar 0)) (mSeq (mFldS ["Outcome"] "fault" (mC .non) (mVar 0)) (mFldS ["Outcome"] "returned" (mC (.int 0)) (mVar 0)))))
noncomputable def m_Outcome___init__ : List D → MH → R D := mFnN 2 2 b_Outcome___init__
noncomputable def b_Evaluation___init__ : MSt :=
  mSeq (mAsg (mVar 1) (mgSeq 3 (mgCons (mgName 3) (mgCons (mgName 4) (mgCons (mgName 5) (mgNil)))))) (mSeq (mFldS ["Evaluation"] "exceptions" (mVar 4) (mVar 0)) (mSeq (mFldS ["Evaluation"] "functions" (mVar 5) (mVar 0)) (mSeq (mFldS ["Evaluation"] "outcome" (mMake "Outcome" m_Outcome___init__ (mCons (mVar 2) (mNil))) (mVar 0)) (mSeq (mFldS ["Evaluation"] "tasks" (mLstN (mNil)) (mVar 0)) (mFldS ["Evaluation"] "done" (mLstN (mNil)) (mVar 0))))))
noncomputable def m_Evaluation___init__ : List D → MH → R D := mFnN 3 6 b_Evaluation___init__
noncomputable def b_Evaluation_begin : MSt :=
  mDrop (mMtd "list" fAppend (mFld ["Evaluation"] "tasks" (mVar 0)) (mCons (mTup (mCons (mC (.str "begin")) (mCons (mVar 1) (mCons (mVar 2) (mNil))))) (mNil)))
noncomputable def m_Evaluation_begin : List D → MH → R D := mFn 3 3 b_Evaluation_begin
noncomputable def b_Outcome_end_stuck : MSt :=
  mFldS ["Outcome"] "fault" (mTup (mCons (mC (.str "stuck")) (mNil))) (mVar 0)
noncomputable def m_Outcome_end_stuck : List D → MH → R D := mFn 1 1 b_Outcome_end_stuck
noncomputable def b__bound : MSt :=
  mRet (mDc (mCallI fZip3 (mCons (mVar 0) (mCons (mVar 1) (mNil)))) (mgSeq 2 (mgCons (mgSeq 2 (mgCons (mgName 2) (mgCons (mgName 3) (mgNil)))) (mgCons (mgName 4) (mgNil)))) (mYes) (mVar 2) (mVar 4) [2, 3, 4])
noncomputable def m__bound : List D → MH → R D := mFn 2 5 b__bound
noncomputable def b__begin_kids_1 : MSt :=
  mDrop (mMeth "Evaluation" "begin" m_Evaluation_begin (mVar 0) (mCons (mVar 6) (mCons (mVar 2) (mNil))))
noncomputable def b__begin_kids : MSt :=
  mSeq (mAsg (mVar 1) (mgSeq 5 (mgCons (mgName 3) (mgCons (mgName 4) (mgCons (mgName 4) (mgCons (mgName 5) (mgCons (mgName 4) (mgNil)))))))) (mSeq (mDrop (mMtd "list" fAppend (mFld ["Evaluation"] "tasks" (mVar 0)) (mCons (mTup (mCons (mC (.str "finish")) (mCons (mVar 1) (mCons (mVar 2) (mNil))))) (mNil)))) (mFor (mSrc (mRevT (mSl opSl (mVar 5) (mNoP) (mPart (mKGet2 kv_EARLY (mVar 3) (mCall fLen (mCons (mVar 5) (mNil)))))))) (mgName 6) (b__begin_kids_1)))
noncomputable def m__begin_kids : List D → MH → R D := mFn 3 7 b__begin_kids
noncomputable def b_Evaluation_give : MSt :=
  mDrop (mMtd "list" fAppend (mFld ["Evaluation"] "done" (mVar 0)) (mCons (mVar 1) (mNil)))
noncomputable def m_Evaluation_give : List D → MH → R D := mFn 2 2 b_Evaluation_give
noncomputable def b__begin_literal : MSt :=
  mDrop (mMeth "Evaluation" "give" m_Evaluation_give (mVar 0) (mCons (mOp opIx (mVar 1) (mC (.int 2))) (mNil)))
noncomputable def m__begin_literal : List D → MH → R D := mFn 3 3 b__begin_literal
noncomputable def b__begin_name : MSt :=
  mDrop (mMeth "Evaluation" "give" m_Evaluation_give (mVar 0) (mCons (mOp opIx (mVar 2) (mOp opIx (mVar 1) (mC (.int 2)))) (mNil)))
noncomputable def m__begin_name : List D → MH → R D := mFn 3 3 b__begin_name
noncomputable def b__begin_fn : MSt :=
  mSeq (mAsg (mSl opSl (mVar 1) (mPart (mC (.int 2))) (mPart (mC (.int 4)))) (mgSeq 2 (mgCons (mgSeq 2 (mgCons (mgName 3) (mgCons (mgName 4) (mgNil)))) (mgCons (mgSeq 1 (mgCons (mgName 5) (mgNil))) (mgNil))))) (mDrop (mMeth "Evaluation" "give" m_Evaluation_give (mVar 0) (mCons (mTup (mCons (mVar 3) (mCons (mVar 5) (mCons (mVar 2) (mNil))))) (mNil))))
noncomputable def m__begin_fn : List D → MH → R D := mFn 3 6 b__begin_fn
noncomputable def b__begin_handle : MSt :=
  mSeq (mDrop (mMtd "list" fAppend (mFld ["Evaluation"] "tasks" (mVar 0)) (mCons (mTup (mCons (mC (.str "handler")) (mCons (mVar 1) (mCons (mTup (mCons (mVar 2) (mCons (mCall fLen (mCons (mFld ["Evaluation"] "done" (mVar 0)) (mNil))) (mNil)))) (mNil))))) (mNil)))) (mDrop (mMeth "Evaluation" "begin" m_Evaluation_begin (mVar 0) (mCons (mOp opIx (mOp opIx (mVar 1) (mC (.int 3))) (mC (.int 0))) (mCons (mVar 2) (mNil)))))
noncomputable def m__begin_handle : List D → MH → R D := mFn 3 3 b__begin_handle
noncomputable def b_Outcome_spend : MSt :=
  mSeq (mIfS (mB (mOp opGt (mOp opAddS (mFld ["Outcome"] "ticks" (mVar 0)) (mVar 1)) (mFld ["Outcome"] "fuel" (mVar 0)))) (mSeq (mFldS ["Outcome"] "ticks" (mFld ["Outcome"] "fuel" (mVar 0)) (mVar 0)) (mSeq (mFldS ["Outcome"] "fault" (mTup (mCons (mC (.str "fuel")) (mNil))) (mVar 0)) (mRet (mC (.bl false))))) (mNext)) (mSeq (mFldAug ["Outcome"] "ticks" opAddI (mVar 0) (mVar 1)) (mRet (mC (.bl true))))
noncomputable def m_Outcome_spend : List D → MH → R D := mFn 2 2 b_Outcome_spend
noncomputable def b__end_call : MSt :=
  mSeq (mAsg (mOp opIx (mFld ["Evaluation"] "functions" (mVar 0)) (mOp opIx (mVar 1) (mC (.int 2)))) (mgSeq 4 (mgCons (mgName 4) (mgCons (mgName 5) (mgCons (mgName 4) (mgCons (mgName 6) (mgNil))))))) (mIfS (mTru (mMeth "Outcome" "spend" m_Outcome_spend (mFld ["Evaluation"] "outcome" (mVar 0)) (mCons (mC (.int 1)) (mNil)))) (mDrop (mMeth "Evaluation" "begin" m_Evaluation_begin (mVar 0) (mCons (mVar 6) (mCons (mCall m__bound (mCons (mVar 5) (mCons (mVar 3) (mNil)))) (mNil))))) (mNext))
noncomputable def m__end_call : List D → MH → R D := mFn 4 7 b__end_call
noncomputable def b__end_make : MSt :=
  mDrop (mMeth "Evaluation" "give" m_Evaluation_give (mVar 0) (mCons (mTup (mCons (mOp opIx (mVar 1) (mC (.int 2))) (mCons (mVar 3) (mNil)))) (mNil)))
noncomputable def m__end_make : List D → MH → R D := mFn 4 4 b__end_make
noncomputable def b__end_tuple : MSt :=
  mDrop (mMeth "Evaluation" "give" m_Evaluation_give (mVar 0) (mCons (mVar 3) (mNil)))
noncomputable def m__end_tuple : List D → MH → R D := mFn 4 4 b__end_tuple
noncomputable def b__end_get : MSt :=
  mDrop (mMeth "Evaluation" "give" m_Evaluation_give (mVar 0) (mCons (mOp opIx (mOp opIx (mVar 3) (mC (.int 0))) (mOp opIx (mVar 1) (mC (.int 2)))) (mNil)))
noncomputable def m__end_get : List D → MH → R D := mFn 4 4 b__end_get
noncomputable def b_inner_scope_1 : MSt :=
  mSetIx2 (mVar 5) (mVar 3) (mVar 4)
noncomputable def b_inner_scope : MSt :=
  mSeq (mStuck) (mSeq (mFor (mCallI fZip3 (mCons (mVar 1) (mCons (mVar 2) (mNil)))) (mgSeq 2 (mgCons (mgName 4) (mgCons (mgName 5) (mgNil)))) (b_inner_scope_1)) (mRet (mFrz (mVar 3))))
noncomputable def m_inner_scope : List D → MH → R D := mFn 3 6 b_inner_scope
noncomputable def b__end_let : MSt :=
  mDrop (mMeth "Evaluation" "begin" m_Evaluation_begin (mVar 0) (mCons (mOp opIx (mOp opIx (mVar 1) (mC (.int 3))) (mC (.int 1))) (mCons (mCall m_inner_scope (mCons (mVar 2) (mCons (mTup (mCons (mOp opIx (mVar 1) (mC (.int 2))) (mNil))) (mCons (mVar 3) (mNil))))) (mNil))))
noncomputable def m__end_let : List D → MH → R D := mFn 4 4 b__end_let
noncomputable def b__end_if : MSt :=
  mSeq (mAsg (mOp opIx (mVar 1) (mC (.int 3))) (mgSeq 3 (mgCons (mgName 4) (mgCons (mgName 5) (mgCons (mgName 6) (mgNil)))))) (mDrop (mMeth "Evaluation" "begin" m_Evaluation_begin (mVar 0) (mCons (mIf (mTru (mOp opIx (mVar 3) (mC (.int 0)))) (mVar 5) (mVar 6)) (mCons (mVar 2) (mNil)))))
noncomputable def m__end_if : List D → MH → R D := mFn 4 7 b__end_if
noncomputable def b__end_case : MSt :=
  mSeq (mAsg (mOp opIx (mVar 3) (mC (.int 0))) (mgSeq 2 (mgCons (mgName 4) (mgCons (mgName 5) (mgNil))))) (mSeq (mAsg (mOp opIx (mOp opIx (mVar 1) (mC (.int 4))) (mVar 4)) (mgSeq 3 (mgCons (mgName 6) (mgCons (mgName 7) (mgCons (mgName 8) (mgNil)))))) (mDrop (mMeth "Evaluation" "begin" m_Evaluation_begin (mVar 0) (mCons (mVar 8) (mCons (mCall m_inner_scope (mCons (mVar 2) (mCons (mVar 7) (mCons (mVar 5) (mNil))))) (mNil))))))
noncomputable def m__end_case : List D → MH → R D := mFn 4 9 b__end_case
noncomputable def b__end_apply : MSt :=
  mSeq (mAsg (mVar 3) (mgSeq 2 (mgCons (mgSeq 3 (mgCons (mgName 4) (mgCons (mgName 5) (mgCons (mgName 6) (mgNil))))) (mgCons (mgName 7) (mgNil))))) (mIfS (mTru (mMeth "Outcome" "spend" m_Outcome_spend (mFld ["Evaluation"] "outcome" (mVar 0)) (mCons (mC (.int 1)) (mNil)))) (mDrop (mMeth "Evaluation" "begin" m_Evaluation_begin (mVar 0) (mCons (mVar 5) (mCons (mCall m_inner_scope (mCons (mVar 6) (mCons (mTup (mCons (mVar 4) (mNil))) (mCons (mLst (mCons (mVar 7) (mNil))) (mNil))))) (mNil))))) (mNext))
noncomputable def m__end_apply : List D → MH → R D := mFn 4 8 b__end_apply
noncomputable def b__end_ref : MSt :=
  mDrop (mMeth "Evaluation" "give" m_Evaluation_give (mVar 0) (mCons (mVar 3) (mNil)))
noncomputable def m__end_ref : List D → MH → R D := mFn 4 4 b__end_ref
noncomputable def b__end_deref : MSt :=
  mDrop (mMeth "Evaluation" "give" m_Evaluation_give (mVar 0) (mCons (mOp opIx (mOp opIx (mVar 3) (mC (.int 0))) (mC (.int 0))) (mNil)))
noncomputable def m__end_deref : List D → MH → R D := mFn 4 4 b__end_deref
noncomputable def b__end_set : MSt :=
  mSeq (mAsg (mVar 3) (mgSeq 2 (mgCons (mgName 4) (mgCons (mgName 5) (mgNil))))) (mSeq (mSetIx2 (mVar 5) (mVar 4) (mC (.int 0))) (mDrop (mMeth "Evaluation" "give" m_Evaluation_give (mVar 0) (mCons (mC .non) (mNil)))))
noncomputable def m__end_set : List D → MH → R D := mFn 4 6 b__end_set
noncomputable def b_Evaluation_throw_1 : MSt :=
  mIfS (mB (mOp opEq (mVar 8) (mVar 1))) (mSeq (mDelT (mFld ["Evaluation"] "done" (mVar 0)) (mPart (mVar 7)) (mNoP)) (mSeq (mDrop (mMeth "Evaluation" "begin" m_Evaluation_begin (mVar 0) (mCons (mVar 10) (mCons (mCall m_inner_scope (mCons (mVar 6) (mCons (mVar 9) (mCons (mLst (mCons (mVar 2) (mNil))) (mNil))))) (mNil))))) (mRet (mC .non)))) (mNext)
noncomputable def b_Evaluation_throw_2 : MSt :=
  mSeq (mAsg (mMtd "list" fPop (mFld ["Evaluation"] "tasks" (mVar 0)) mNil) (mgSeq 3 (mgCons (mgName 3) (mgCons (mgName 4) (mgCons (mgName 5) (mgNil)))))) (mIfS (mB (mOp opEq (mVar 3) (mC (.str "handler")))) (mSeq (mAsg (mVar 5) (mgSeq 2 (mgCons (mgName 6) (mgCons (mgName 7) (mgNil))))) (mFor (mSrc (mOp opIx (mVar 4) (mC (.int 4)))) (mgSeq 3 (mgCons (mgName 8) (mgCons (mgName 9) (mgCons (mgName 10) (mgNil))))) (b_Evaluation_throw_1))) (mNext))
noncomputable def b_Evaluation_throw : MSt :=
  mSeq (mWhile (mTru (mFld ["Evaluation"] "tasks" (mVar 0))) (b_Evaluation_throw_2)) (mFldS ["Outcome"] "fault" (mTup (mCons (mC (.str "raised")) (mCons (mOp opIx (mFld ["Evaluation"] "exceptions" (mVar 0)) (mVar 1)) (mCons (mVar 2) (mNil))))) (mFld ["Evaluation"] "outcome" (mVar 0)))
noncomputable def m_Evaluation_throw : List D → MH → R D := mFn 3 11 b_Evaluation_throw
noncomputable def b__end_array : MSt :=
  mSeq (mAsg (mVar 3) (mgSeq 2 (mgCons (mgName 4) (mgCons (mgName 5) (mgNil))))) (mIfS (mNot (mB (mChain opLe opLe (mC (.int 0)) (mVar 4) (mC c_MAX_ARRAY)))) (mDrop (mMeth "Evaluation" "throw" m_Evaluation_throw (mVar 0) (mCons (mC c_SIZE) (mCons (mVar 4) (mNil))))) (mIfS (mTru (mMeth "Outcome" "spend" m_Outcome_spend (mFld ["Evaluation"] "outcome" (mVar 0)) (mCons (mVar 4) (mNil)))) (mDrop (mMeth "Evaluation" "give" m_Evaluation_give (mVar 0) (mCons (mOp opRep (mLstN (mCons (mVar 5) (mNil))) (mVar 4)) (mNil)))) (mNext)))
noncomputable def m__end_array : List D → MH → R D := mFn 4 6 b__end_array
noncomputable def b__end_at : MSt :=
  mSeq (mAsg (mVar 3) (mgSeq 2 (mgCons (mgName 4) (mgCons (mgName 5) (mgNil))))) (mIfS (mNot (mB (mChain opLe opLt (mC (.int 0)) (mVar 5) (mCall fLen (mCons (mVar 4) (mNil)))))) (mDrop (mMeth "Evaluation" "throw" m_Evaluation_throw (mVar 0) (mCons (mC c_INDEX) (mCons (mVar 5) (mNil))))) (mDrop (mMeth "Evaluation" "give" m_Evaluation_give (mVar 0) (mCons (mOp opIx (mVar 4) (mVar 5)) (mNil)))))
noncomputable def m__end_at : List D → MH → R D := mFn 4 6 b__end_at
noncomputable def b__end_put : MSt :=
  mSeq (mAsg (mVar 3) (mgSeq 3 (mgCons (mgName 4) (mgCons (mgName 5) (mgCons (mgName 6) (mgNil)))))) (mIfS (mNot (mB (mChain opLe opLt (mC (.int 0)) (mVar 5) (mCall fLen (mCons (mVar 4) (mNil)))))) (mDrop (mMeth "Evaluation" "throw" m_Evaluation_throw (mVar 0) (mCons (mC c_INDEX) (mCons (mVar 5) (mNil))))) (mSeq (mSetIx2 (mVar 6) (mVar 4) (mVar 5)) (mDrop (mMeth "Evaluation" "give" m_Evaluation_give (mVar 0) (mCons (mC .non) (mNil))))))
noncomputable def m__end_put : List D → MH → R D := mFn 4 7 b__end_put
noncomputable def b__end_len : MSt :=
  mDrop (mMeth "Evaluation" "give" m_Evaluation_give (mVar 0) (mCons (mCall fLen (mCons (mOp opIx (mVar 3) (mC (.int 0))) (mNil))) (mNil)))
noncomputable def m__end_len : List D → MH → R D := mFn 4 4 b__end_len
noncomputable def b__end_raise : MSt :=
  mDrop (mMeth "Evaluation" "throw" m_Evaluation_throw (mVar 0) (mCons (mOp opIx (mVar 1) (mC (.int 2))) (mCons (mOp opIx (mVar 3) (mC (.int 0))) (mNil))))
noncomputable def m__end_raise : List D → MH → R D := mFn 4 4 b__end_raise
noncomputable def b__end_print : MSt :=
  mSeq (mDrop (mMtd "list" fAppend (mFld ["Outcome"] "outs" (mFld ["Evaluation"] "outcome" (mVar 0))) (mCons (mOp opIx (mVar 3) (mC (.int 0))) (mNil)))) (mDrop (mMeth "Evaluation" "give" m_Evaluation_give (mVar 0) (mCons (mC .non) (mNil))))
noncomputable def m__end_print : List D → MH → R D := mFn 4 4 b__end_print
noncomputable def b__end_seq : MSt :=
  mDrop (mMeth "Evaluation" "give" m_Evaluation_give (mVar 0) (mCons (mOp opIx (mVar 3) (mC (.int 1))) (mNil)))
noncomputable def m__end_seq : List D → MH → R D := mFn 4 4 b__end_seq
noncomputable def b_divides_by_zero : MSt :=
  mRet (mAndV (mOp opIn2 (mVar 0) (mTup (mCons (mC (.str "div")) (mCons (mC (.str "rem")) (mNil))))) (mOp opEq (mVar 1) (mC (.int 0))))
noncomputable def m_divides_by_zero : List D → MH → R D := mFn 2 2 b_divides_by_zero
noncomputable def b_wrap : MSt :=
  mRet (mOp opSub (mOp opMod (mOp opAddS (mVar 0) (mC c_HALF)) (mOp opMul (mC (.int 2)) (mC c_HALF))) (mC c_HALF))
noncomputable def m_wrap : List D → MH → R D := mFn 1 1 b_wrap
noncomputable def b__add : MSt :=
  mRet (mCall m_wrap (mCons (mOp opAddS (mVar 0) (mVar 1)) (mNil)))
noncomputable def m__add : List D → MH → R D := mFn 2 2 b__add
noncomputable def b__sub : MSt :=
  mRet (mCall m_wrap (mCons (mOp opSub (mVar 0) (mVar 1)) (mNil)))
noncomputable def m__sub : List D → MH → R D := mFn 2 2 b__sub
noncomputable def b__mul : MSt :=
  mRet (mCall m_wrap (mCons (mOp opMul (mVar 0) (mVar 1)) (mNil)))
noncomputable def m__mul : List D → MH → R D := mFn 2 2 b__mul
noncomputable def b__quotient : MSt :=
  mSeq (mSet 2 (mOp opDiv (mCall fAbs (mCons (mVar 0) (mNil))) (mCall fAbs (mCons (mVar 1) (mNil))))) (mRet (mIf (mB (mOp opEq (mOp opLt (mVar 0) (mC (.int 0))) (mOp opLt (mVar 1) (mC (.int 0))))) (mVar 2) (mUn opNeg (mVar 2))))
noncomputable def m__quotient : List D → MH → R D := mFn 2 3 b__quotient
noncomputable def b__div : MSt :=
  mRet (mCall m_wrap (mCons (mCall m__quotient (mCons (mVar 0) (mCons (mVar 1) (mNil)))) (mNil)))
noncomputable def m__div : List D → MH → R D := mFn 2 2 b__div
noncomputable def b__rem : MSt :=
  mRet (mOp opSub (mVar 0) (mOp opMul (mVar 1) (mCall m__quotient (mCons (mVar 0) (mCons (mVar 1) (mNil))))))
noncomputable def m__rem : List D → MH → R D := mFn 2 2 b__rem
noncomputable def b__equal : MSt :=
  mRet (mOp opEq (mVar 0) (mVar 1))
noncomputable def m__equal : List D → MH → R D := mFn 2 2 b__equal
noncomputable def b__less : MSt :=
  mRet (mOp opLt (mVar 0) (mVar 1))
noncomputable def m__less : List D → MH → R D := mFn 2 2 b__less
noncomputable def tab_compute_action : List (Str × (List D → MH → R D)) :=
  [("_add", m__add), ("_sub", m__sub), ("_mul", m__mul), ("_div", m__div), ("_rem", m__rem), ("_equal", m__equal), ("_less", m__less)]
noncomputable def b_compute : MSt :=
  mSeq (mSet 3 (mKIx kv_OPERATIONS (mVar 0))) (mRet (mCallV tab_compute_action (mVar 3) (mCons (mVar 1) (mCons (mVar 2) (mNil)))))
noncomputable def m_compute : List D → MH → R D := mFn 3 4 b_compute
noncomputable def b__end_operation : MSt :=
  mSeq (mSet 4 (mOp opIx (mVar 1) (mC (.int 0)))) (mSeq (mAsg (mVar 3) (mgSeq 2 (mgCons (mgName 5) (mgCons (mgName 6) (mgNil))))) (mIfS (mTru (mCall m_divides_by_zero (mCons (mVar 4) (mCons (mVar 6) (mNil))))) (mDrop (mMeth "Evaluation" "throw" m_Evaluation_throw (mVar 0) (mCons (mC c_DIV) (mCons (mC (.int 0)) (mNil))))) (mDrop (mMeth "Evaluation" "give" m_Evaluation_give (mVar 0) (mCons (mCall m_compute (mCons (mVar 4) (mCons (mVar 5) (mCons (mVar 6) (mNil))))) (mNil))))))
noncomputable def m__end_operation : List D → MH → R D := mFn 4 7 b__end_operation
noncomputable def b_Evaluation_take : MSt :=
  mSeq (mSet 2 (mOp opSub (mCall fLen (mCons (mFld ["Evaluation"] "done" (mVar 0)) (mNil))) (mVar 1))) (mSeq (mSet 3 (mSl opSl (mFld ["Evaluation"] "done" (mVar 0)) (mPart (mVar 2)) (mNoP))) (mSeq (mDelT (mFld ["Evaluation"] "done" (mVar 0)) (mPart (mVar 2)) (mNoP)) (mRet (mVar 3))))
noncomputable def m_Evaluation_take : List D → MH → R D := mFn 2 4 b_Evaluation_take
noncomputable def tab_Evaluation_do_task_action : List (Str × (List D → MH → R D)) :=
  [("_begin_kids", m__begin_kids), ("_begin_literal", m__begin_literal), ("_begin_name", m__begin_name), ("_begin_fn", m__begin_fn), ("_begin_handle", m__begin_handle), ("_end_call", m__end_call), ("_end_make", m__end_make), ("_end_tuple", m__end_tuple), ("_end_get", m__end_get), ("_end_let", m__end_let), ("_end_if", m__end_if), ("_end_case", m__end_case), ("_end_apply", m__end_apply), ("_end_ref", m__end_ref), ("_end_deref", m__end_deref), ("_end_set", m__end_set), ("_end_array", m__end_array), ("_end_at", m__end_at), ("_end_put", m__end_put), ("_end_len", m__end_len), ("_end_raise", m__end_raise), ("_end_print", m__end_print), ("_end_seq", m__end_seq), ("_end_operation", m__end_operation)]
noncomputable def b_Evaluation_do_task : MSt :=
  mSeq (mAsg (mMtd "list" fPop (mFld ["Evaluation"] "tasks" (mVar 0)) mNil) (mgSeq 3 (mgCons (mgName 1) (mgCons (mgName 2) (mgCons (mgName 3) (mgNil)))))) (mIfS (mB (mOp opEq (mVar 1) (mC (.str "begin")))) (mSeq (mSet 4 (mKGet2 kv_BEGINNINGS (mOp opIx (mVar 2) (mC (.int 0))) (mC (.kon "_begin_kids")))) (mDrop (mCallV tab_Evaluation_do_task_action (mVar 4) (mCons (mVar 0) (mCons (mVar 2) (mCons (mVar 3) (mNil))))))) (mIfS (mB (mOp opEq (mVar 1) (mC (.str "finish")))) (mSeq (mAsg (mVar 2) (mgSeq 5 (mgCons (mgName 5) (mgCons (mgName 6) (mgCons (mgName 6) (mgCons (mgName 7) (mgCons (mgName 6) (mgNil)))))))) (mSeq (mSet 4 (mKIx kv_ENDS (mVar 5))) (mDrop (mCallV tab_Evaluation_do_task_action (mVar 4) (mCons (mVar 0) (mCons (mVar 2) (mCons (mVar 3) (mCons (mMeth "Evaluation" "take" m_Evaluation_take (mVar 0) (mCons (mKGet2 kv_EARLY (mVar 5) (mCall fLen (mCons (mVar 7) (mNil)))) (mNil))) (mNil))))))))) (mNext)))
noncomputable def m_Evaluation_do_task : List D → MH → R D := mFn 1 8 b_Evaluation_do_task
noncomputable def b_Evaluation_evaluate_1 : MSt :=
  mDrop (mMeth "Evaluation" "do_task" m_Evaluation_do_task (mVar 0) mNil)
noncomputable def b_Evaluation_evaluate : MSt :=
  mSeq (mAsg (mOp opIx (mFld ["Evaluation"] "functions" (mVar 0)) (mUn opNeg (mC (.int 1)))) (mgSeq 4 (mgCons (mgName 2) (mgCons (mgName 3) (mgCons (mgName 2) (mgCons (mgName 4) (mgNil))))))) (mSeq (mIfS (mB (mOp opNe (mCall fLen (mCons (mVar 1) (mNil))) (mCall fLen (mCons (mVar 3) (mNil))))) (mSeq (mDrop (mMeth "Outcome" "end_stuck" m_Outcome_end_stuck (mFld ["Evaluation"] "outcome" (mVar 0)) mNil)) (mRet (mC .non))) (mNext)) (mSeq (mDrop (mMeth "Evaluation" "begin" m_Evaluation_begin (mVar 0) (mCons (mVar 4) (mCons (mCall m__bound (mCons (mVar 3) (mCons (mLc (mSrc (mVar 1)) (mgName 5) (mYes) (mCall m_wrap (mCons (mVar 5) (mNil))) [5]) (mNil)))) (mNil))))) (mSeq (mWhile (mAnd (mTru (mFld ["Evaluation"] "tasks" (mVar 0))) (mB (mOp opIsN (mFld ["Outcome"] "fault" (mFld ["Evaluation"] "outcome" (mVar 0))) (mC .non)))) (b_Evaluation_evaluate_1)) (mIfS (mB (mOp opIsN (mFld ["Outcome"] "fault" (mFld ["Evaluation"] "outcome" (mVar 0))) (mC .non))) (mFldS ["Outcome"] "returned" (mOp opIx (mFld ["Evaluation"] "done" (mVar 0)) (mC (.int 0))) (mFld ["Evaluation"] "outcome" (mVar 0))) (mNext)))))
noncomputable def m_Evaluation_evaluate : List D → MH → R D := mFn 2 6 b_Evaluation_evaluate
noncomputable def b_Outcome_result : MSt :=
  mRet (mTup (mCons (mFld ["Outcome"] "fault" (mVar 0)) (mCons (mFld ["Outcome"] "returned" (mVar 0)) (mCons (mCall fTuple (mCons (mFld ["Outcome"] "outs" (mVar 0)) (mNil))) (mCons (mFld ["Outcome"] "ticks" (mVar 0)) (mNil))))))
noncomputable def m_Outcome_result : List D → MH → R D := mFn 1 1 b_Outcome_result
noncomputable def b_run : MSt :=
  mSeq (mSet 3 (mMake "Evaluation" m_Evaluation___init__ (mCons (mVar 0) (mCons (mVar 2) (mNil))))) (mSeq (mDrop (mMeth "Evaluation" "evaluate" m_Evaluation_evaluate (mVar 3) (mCons (mVar 1) (mNil)))) (mRet (mMeth "Outcome" "result" m_Outcome_result (mFld ["Evaluation"] "outcome" (mVar 3)) mNil)))
noncomputable def m_run : List D → MH → R D := mFn 3 4 b_run
noncomputable def b_law : MSt :=
  mSeq (mSet 1 (mCall m__law_number (mCons (mCall m__law_cell (mCons (mVar 0) (mCons (mC (.int 0)) (mNil)))) (mNil)))) (mSeq (mSet 2 (mCall m__law_number (mCons (mCall m__law_cell (mCons (mVar 0) (mCons (mC (.int 1)) (mNil)))) (mNil)))) (mSeq (mSet 3 (mOp opIx (mLst (mCons (mC (.str "add")) (mCons (mC (.str "sub")) (mCons (mC (.str "mul")) (mCons (mC (.str "div")) (mCons (mC (.str "rem")) (mCons (mC (.str "equal")) (mCons (mC (.str "less")) (mNil))))))))) (mOp opMod (mCall m__law_cell (mCons (mVar 0) (mCons (mC (.int 2)) (mNil)))) (mC (.int 7))))) (mSeq (mSet 4 (mOp opMod (mOp opDiv (mCall m__law_cell (mCons (mVar 0) (mCons (mC (.int 2)) (mNil)))) (mC (.int 7))) (mC (.int 4)))) (mSeq (mSet 5 (mCall m__law_program (mCons (mVar 3) (mNil)))) (mSeq (mIfS (mB (mOp opEq (mOp opMod (mCall m__law_cell (mCons (mVar 0) (mCons (mC (.int 3)) (mNil)))) (mC (.int 5))) (mC (.int 1)))) (mSet 2 (mVar 1)) (mNext)) (mSeq (mSet 6 (mLst (mCons (mVar 1) (mCons (mVar 2) (mNil))))) (mSeq (mIfS (mNot (mTru (mCall m__law_right (mCons (mVar 3) (mCons (mVar 1) (mCons (mVar 2) (mCons (mCallN 2 1 m_run (mCons (mVar 5) (mCons (mVar 6) (mNil))) (mCons (mVar 4) (mNil))) (mNil)))))))) (mRet (mC (.bl false))) (mNext)) (mSeq (mIfS (mB (mOp opNe (mVar 6) (mLst (mCons (mVar 1) (mCons (mVar 2) (mNil)))))) (mRet (mC (.bl false))) (mNext)) (mSeq (mIfS (mNot (mTru (mCall m__law_right (mCons (mVar 3) (mCons (mVar 2) (mCons (mVar 1) (mCons (mCallN 2 1 m_run (mCons (mVar 5) (mCons (mTup (mCons (mVar 2) (mCons (mVar 1) (mNil)))) (mNil))) (mCons (mVar 4) (mNil))) (mNil)))))))) (mRet (mC (.bl false))) (mNext)) (mRet (mCall m__law_right (mCons (mVar 3) (mCons (mVar 1) (mCons (mVar 2) (mCons (mCall m_run (mMore (mCons (mVar 5) (mCons (mVar 6) (mNil))) [(.int 200)])) (mNil))))))))))))))))
noncomputable def m_law : List D → MH → R D := mFn 1 7 b_law
section
variable {P : Program} {w : World} {K : PySem.W.Frag} {mg : Str → Option Value} {base : Heap}
theorem ok__law_number (T : Top w K mg) : FnM P w K mg base 1 T.a__law_number T.f__law_number ["cell"] m__law_number := by
  refine fnM_body T.d__law_number.fn sc__law_number hg_fn fun cdv A outer s H E hr tk hp => ?_
  exact pssm_cons (ss 1 sc__law_number.nd (pem_op op_sub opSub_ok (pem_int) (pem_op op_mul2 opMul_ok (pem_int) (pem_op op_mod opMod_ok (mv 0) (pem_int))))) (pssm_cons (ss 2 sc__law_number.nd (pem_op op_mod opMod_ok (pem_op op_fdivW opDiv_ok (mv 0) (pem_int)) (pem_op op_pow opPow_ok (pem_int) (pem_int)))) (pssm_cons (psm_if (ptm_cmp (op_eq2 hr.units) opEq_ok (nomark _) (pem_op op_mod opMod_ok (pem_op op_fdivW opDiv_ok (mv 0) (pem_op op_pow opPow_ok (pem_int) (pem_int))) (pem_int)) (pem_int)) (pssm_one (ss 2 sc__law_number.nd (pem_op op_sub opSub_ok (pem_op op_addS opAddS_ok (pem_ix (ix_all2 hr.units) opIx_ok (pem_lst (pam_cons (pem_op op_pow opPow_ok (pem_int) (pem_int)) (pam_cons (pem_op op_pow opPow_ok (pem_int) (pem_int)) (pam_cons (pem_op op_pow opPow_ok (pem_int) (pem_int)) (pam_cons (pem_op op_pow opPow_ok (pem_int) (pem_int)) (pam_cons (pem_int) (pam_nil))))))) (pem_op op_mod opMod_ok (pem_op op_fdivW opDiv_ok (mv 0) (pem_op op_pow opPow_ok (pem_int) (pem_int))) (pem_int)) (fun _ _ => rfl)) (pem_op op_mod opMod_ok (pem_op op_fdivW opDiv_ok (mv 0) (pem_int)) (pem_int))) (pem_int)))) (pssm_nil)) (pssm_one (psm_ret (pem_op op_mul2 opMul_ok (mv 1) (mv 2))))))
theorem ok__law_program (T : Top w K mg) : FnM P w K mg base 1 T.a__law_program T.f__law_program ["op"] m__law_program := by
  refine fnM_body T.d__law_program.fn sc__law_program hg_fn fun cdv A outer s H E hr tk hp => ?_
  exact pssm_cons (ss 1 sc__law_program.nd (pem_tup (pam_cons (pem_str) (pam_cons (pem_tup (pam_nil)) (pam_cons (pem_int) (pam_nil)))))) (pssm_cons (ss 2 sc__law_program.nd (pem_tup (pam_cons (pem_str) (pam_cons (mv 1) (pam_cons (pem_str) (pam_cons (pem_tup (pam_nil)) (pam_cons (pem_tup (pam_nil)) (pam_nil)))))))) (pssm_cons (ss 3 sc__law_program.nd (pem_tup (pam_cons (pem_str) (pam_cons (mv 1) (pam_cons (pem_str) (pam_cons (pem_tup (pam_nil)) (pam_cons (pem_tup (pam_nil)) (pam_nil)))))))) (pssm_cons (ss 4 sc__law_program.nd (pem_tup (pam_cons (mv 0) (pam_cons (mv 1) (pam_cons (pem_non) (pam_cons (pem_tup (pam_cons (mv 2) (pam_cons (mv 3) (pam_nil)))) (pam_cons (pem_tup (pam_nil)) (pam_nil)))))))) (pssm_cons (psm_if (ptm_cmp (op_in3 hr.units) opIn2_ok rfl (mv 0) (pem_tup (pam_cons (pem_str) (pam_cons (pem_str) (pam_nil))))) (pssm_cons (ss 5 sc__law_program.nd (pem_tup (pam_cons (mv 0) (pam_cons (pem_tup (pam_cons (pem_str) (pam_cons (pem_tup (pam_nil)) (pam_cons (pem_int) (pam_nil))))) (pam_cons (pem_non) (pam_cons (pem_tup (pam_cons (mv 2) (pam_cons (mv 3) (pam_nil)))) (pam_cons (pem_tup (pam_nil)) (pam_nil)))))))) (pssm_one (ss 4 sc__law_program.nd (pem_tup (pam_cons (pem_str) (pam_cons (mv 1) (pam_cons (pem_non) (pam_cons (pem_tup (pam_cons (mv 5) (pam_cons (pem_tup (pam_cons (pem_str) (pam_cons (mv 1) (pam_cons (pem_int) (pam_cons (pem_tup (pam_nil)) (pam_cons (pem_tup (pam_nil)) (pam_nil))))))) (pam_cons (pem_tup (pam_cons (pem_str) (pam_cons (mv 1) (pam_cons (pem_int) (pam_cons (pem_tup (pam_nil)) (pam_cons (pem_tup (pam_nil)) (pam_nil))))))) (pam_nil))))) (pam_cons (pem_tup (pam_nil)) (pam_nil)))))))))) (pssm_nil)) (pssm_cons (ss 6 sc__law_program.nd (pem_tup (pam_cons (pem_str) (pam_cons (pem_tup (pam_cons (pem_tup (pam_cons (pem_str) (pam_cons (mv 1) (pam_nil)))) (pam_cons (pem_tup (pam_cons (pem_str) (pam_cons (mv 1) (pam_nil)))) (pam_nil)))) (pam_cons (mv 1) (pam_cons (mv 4) (pam_nil))))))) (pssm_one (psm_ret (pem_tup (pam_cons (pem_tup (pam_nil)) (pam_cons (pem_tup (pam_cons (pem_str) (pam_cons (pem_str) (pam_cons (pem_str) (pam_nil))))) (pam_cons (pem_tup (pam_cons (mv 6) (pam_nil))) (pam_nil))))))))))))
theorem ok__law_wrap (T : Top w K mg) : FnM P w K mg base 1 T.a__law_wrap T.f__law_wrap ["number"] m__law_wrap := by
  refine fnM_body T.d__law_wrap.fn sc__law_wrap hg_fn fun cdv A outer s H E hr tk hp => ?_
  exact pssm_cons (ss 0 sc__law_wrap.nd (pem_op op_mod opMod_ok (pem_callTy call_int2 fInt_ok (by rfl) T.z_int (by decide +kernel) (pam_cons (mv 0) (pam_nil))) (pem_op op_pow opPow_ok (pem_int) (pem_int)))) (pssm_cons (psm_if (ptm_cmp op_ge2 opCmp_ok (nomark _) (mv 0) (pem_op op_pow opPow_ok (pem_int) (pem_int))) (pssm_one (psm_ret (pem_op op_sub opSub_ok (mv 0) (pem_op op_pow opPow_ok (pem_int) (pem_int))))) (pssm_nil)) (pssm_one (psm_ret (mv 0))))
theorem ok__law_due (T : Top w K mg) (k__law_wrap : FnM P w K mg base 1 T.a__law_wrap T.f__law_wrap ["number"] m__law_wrap) : FnM P w K mg base 2 T.a__law_due T.f__law_due ["op", "first", "second"] m__law_due := by
  refine fnM_body T.d__law_due.fn sc__law_due hg_fn fun cdv A outer s H E hr tk hp => ?_
  exact pssm_cons (psm_if (ptm_cmp (op_eq2 hr.units) opEq_ok (nomark _) (mv 0) (pem_str)) (pssm_one (psm_ret (pem_call k__law_wrap T.d__law_wrap hr tk (by rfl) (pam_cons (pem_op op_addS opAddS_ok (mv 1) (mv 2)) (pam_nil))))) (pssm_nil)) (pssm_cons (psm_if (ptm_cmp (op_eq2 hr.units) opEq_ok (nomark _) (mv 0) (pem_str)) (pssm_one (psm_ret (pem_call k__law_wrap T.d__law_wrap hr tk (by rfl) (pam_cons (pem_op op_sub opSub_ok (mv 1) (mv 2)) (pam_nil))))) (pssm_nil)) (pssm_cons (psm_if (ptm_cmp (op_eq2 hr.units) opEq_ok (nomark _) (mv 0) (pem_str)) (pssm_one (psm_ret (pem_call k__law_wrap T.d__law_wrap hr tk (by rfl) (pam_cons (pem_op op_mul2 opMul_ok (mv 1) (mv 2)) (pam_nil))))) (pssm_nil)) (pssm_cons (psm_if (ptm_cmp (op_eq2 hr.units) opEq_ok (nomark _) (mv 0) (pem_str)) (pssm_one (psm_ret (pem_callTy call_int2 fInt_ok (by rfl) T.z_int (by decide +kernel) (pam_cons (pem_cmp (op_eq2 hr.units) opEq_ok (nomark _) (mv 1) (mv 2)) (pam_nil))))) (pssm_nil)) (pssm_cons (psm_if (ptm_cmp (op_eq2 hr.units) opEq_ok (nomark _) (mv 0) (pem_str)) (pssm_one (psm_ret (pem_callTy call_int2 fInt_ok (by rfl) T.z_int (by decide +kernel) (pam_cons (pem_cmp op_lt2 opCmp_ok (nomark _) (mv 1) (mv 2)) (pam_nil))))) (pssm_nil)) (pssm_cons (ss 3 sc__law_due.nd (pem_op op_fdivW opDiv_ok (pem_callB call_abs fAbs_ok (by rfl) T.z_abs (by decide +kernel) (pam_cons (mv 1) (pam_nil))) (pem_callB call_abs fAbs_ok (by rfl) T.z_abs (by decide +kernel) (pam_cons (mv 2) (pam_nil))))) (pssm_cons (psm_if (ptm_cmp (op_ne2 hr.units) opNe_ok (nomark _) (pem_cmp op_lt2 opCmp_ok (nomark _) (mv 1) (pem_int)) (pem_cmp op_lt2 opCmp_ok (nomark _) (mv 2) (pem_int))) (pssm_one (ss 3 sc__law_due.nd (pem_op op_sub opSub_ok (pem_int) (mv 3)))) (pssm_nil)) (pssm_cons (psm_if (ptm_cmp (op_eq2 hr.units) opEq_ok (nomark _) (mv 0) (pem_str)) (pssm_one (psm_ret (pem_call k__law_wrap T.d__law_wrap hr tk (by rfl) (pam_cons (mv 3) (pam_nil))))) (pssm_nil)) (pssm_one (psm_ret (pem_op op_sub opSub_ok (mv 1) (pem_op op_mul2 opMul_ok (mv 2) (mv 3))))))))))))
theorem ok__law_right (T : Top w K mg) (k__law_wrap : FnM P w K mg base 2 T.a__law_wrap T.f__law_wrap ["number"] m__law_wrap) (k__law_due : FnM P w K mg base 2 T.a__law_due T.f__law_due ["op", "first", "second"] m__law_due) : FnM P w K mg base 3 T.a__law_right T.f__law_right ["op", "first", "second", "actual"] m__law_right := by
  refine fnM_body T.d__law_right.fn sc__law_right hg_fn fun cdv A outer s H E hr tk hp => ?_
  exact pssm_cons (psm_if (ptm_w (pwm_or (ptm_not (ptm_val (pem_callB call_isi fIsi_ok (by rfl) T.z_isinstance (by decide +kernel) (pam_cons (mv 3) (pam_cons (mty "tuple" T.z_tuple (by decide +kernel)) (pam_nil)))))) (pwm_or (ptm_cmp (op_ne2 hr.units) opNe_ok (nomark _) (pem_callB call_len2 fLen_ok (by rfl) T.z_len (by decide +kernel) (pam_cons (mv 3) (pam_nil))) (pem_int)) (pwm_or1 (ptm_val (pem_callB call_isi fIsi_ok (by rfl) T.z_isinstance (by decide +kernel) (pam_cons (pem_ix (ix_all2 hr.units) opIx_ok (mv 3) (pem_int) (fun _ _ => rfl)) (pam_cons (mty "bool" T.z_bool (by decide +kernel)) (pam_nil))))))))) (pssm_one (psm_ret (pem_bl))) (pssm_nil)) (pssm_cons (ss 1 sc__law_right.nd (pem_call k__law_wrap T.d__law_wrap hr tk (by rfl) (pam_cons (mv 1) (pam_nil)))) (pssm_cons (ss 2 sc__law_right.nd (pem_call k__law_wrap T.d__law_wrap hr tk (by rfl) (pam_cons (mv 2) (pam_nil)))) (pssm_cons (psm_if (ptm_w (pwm_and (ptm_cmp (op_in3 hr.units) opIn2_ok rfl (mv 0) (pem_tup (pam_cons (pem_str) (pam_cons (pem_str) (pam_nil))))) (pwm_and1 (ptm_cmp (op_eq2 hr.units) opEq_ok (nomark _) (mv 2) (pem_int))))) (pssm_one (psm_ret (pem_cmp (op_eq2 hr.units) opEq_ok (nomark _) (mv 3) (pem_tup (pam_cons (pem_tup (pam_cons (pem_str) (pam_cons (pem_str) (pam_cons (pem_int) (pam_nil))))) (pam_cons (pem_int) (pam_cons (pem_tup (pam_nil)) (pam_cons (pem_int) (pam_nil))))))))) (pssm_nil)) (pssm_one (psm_ret (pem_cmp (op_eq2 hr.units) opEq_ok (nomark _) (mv 3) (pem_tup (pam_cons (pem_non) (pam_cons (pem_call k__law_due T.d__law_due hr tk (by rfl) (pam_cons (mv 0) (pam_cons (mv 1) (pam_cons (mv 2) (pam_nil))))) (pam_cons (pem_tup (pam_nil)) (pam_cons (pem_int) (pam_nil))))))))))))
theorem ok__law_cell (T : Top w K mg) : FnM P w K mg base 1 T.a__law_cell T.f__law_cell ["script", "at"] m__law_cell := by
  refine fnM_body T.d__law_cell.fn sc__law_cell hg_fn fun cdv A outer s H E hr tk hp => ?_
  exact pssm_cons (psm_if (ptm_cmp op_lt2 opCmp_ok (nomark _) (mv 1) (pem_callB call_len2 fLen_ok (by rfl) T.z_len (by decide +kernel) (pam_cons (mv 0) (pam_nil)))) (pssm_one (psm_ret (pem_ix (ix_all2 hr.units) opIx_ok (mv 0) (mv 1) (fun _ _ => rfl)))) (pssm_nil)) (pssm_one (psm_ret (pem_int)))
theorem ok_Outcome___init__ (T : Top w K mg) : FnM P w K mg base 1 T.a_Outcome___init__ T.f_Outcome___init__ ["self", "fuel"] m_Outcome___init__ := by
  refine fnM_body T.d_Outcome___init__.fn sc_Outcome___init__ hg_fnN fun cdv A outer s H E hr tk hp => ?_
  exact pssm_cons (psm_fld (fldT_cons T.cls_Outcome fldT_nil) (mv 0) (pem_callB (call_min2 rfl) fMin2_ok (by rfl) T.z_min (by decide +kernel) (pam_cons (pem_callB (call_max2 rfl) fMax2_ok (by rfl) T.z_max (by decide +kernel) (pam_cons (mv 1) (pam_cons (pem_int) (pam_nil)))) (pam_cons (mk T.c_MAX_FUEL) (pam_nil))))) (pssm_cons (psm_fld (fldT_cons T.cls_Outcome fldT_nil) (mv 0) (pem_int)) (pssm_cons (psm_fld (fldT_cons T.cls_Outcome fldT_nil) (mv 0) (pem_lstN (pam_nil))) (pssm_cons (psm_fld (fldT_cons T.cls_Outcome fldT_nil) (mv 0) (pem_non)) (pssm_one (psm_fld (fldT_cons T.cls_Outcome fldT_nil) (mv 0) (pem_int))))))
theorem ok_Evaluation___init__ (T : Top w K mg) (k_Outcome___init__ : FnM P w K mg base 1 T.a_Outcome___init__ T.f_Outcome___init__ ["self", "fuel"] m_Outcome___init__) : FnM P w K mg base 3 T.a_Evaluation___init__ T.f_Evaluation___init__ ["self", "program", "fuel"] m_Evaluation___init__ := by
  refine fnM_body T.d_Evaluation___init__.fn sc_Evaluation___init__ hg_fnN fun cdv A outer s H E hr tk hp => ?_
  exact pssm_cons (psm_asg (mv 1) (pgm_seq rfl (pgsm_cons (gn 3 sc_Evaluation___init__.nd) (pgsm_cons (gn 4 sc_Evaluation___init__.nd) (pgsm_cons (gn 5 sc_Evaluation___init__.nd) (pgsm_nil)))))) (pssm_cons (psm_fld (fldT_cons T.cls_Evaluation fldT_nil) (mv 0) (mv 4)) (pssm_cons (psm_fld (fldT_cons T.cls_Evaluation fldT_nil) (mv 0) (mv 5)) (pssm_cons (psm_fld (fldT_cons T.cls_Evaluation fldT_nil) (mv 0) (pem_make (qn := "") (st := .Pass ⟨0, 0, 0, 0⟩) T.cls_Outcome T.mk_Outcome k_Outcome___init__ T.d_Outcome___init__.bi hr tk (by rfl) T.mg_Outcome (pam_cons (mv 2) (pam_nil)))) (pssm_cons (psm_fld (fldT_cons T.cls_Evaluation fldT_nil) (mv 0) (pem_lstN (pam_nil))) (pssm_one (psm_fld (fldT_cons T.cls_Evaluation fldT_nil) (mv 0) (pem_lstN (pam_nil))))))))
theorem ok_Evaluation_begin (T : Top w K mg) : FnM P w K mg base 1 T.a_Evaluation_begin T.f_Evaluation_begin ["self", "expression", "scope"] m_Evaluation_begin := by
  refine fnM_body T.d_Evaluation_begin.fn sc_Evaluation_begin hg_fn fun cdv A outer s H E hr tk hp => ?_
  exact pssm_one (psm_expr (pem_bm PySem.F.plainAttrs_list PySem.F.slot_list_append PySem.F.type_list_append mt_append fAppend_ok (pem_fld (fldT_cons T.cls_Evaluation fldT_nil) (mv 0)) (pam_cons (pem_tup (pam_cons (pem_str) (pam_cons (mv 1) (pam_cons (mv 2) (pam_nil))))) (pam_nil))))
theorem ok_Outcome_end_stuck (T : Top w K mg) : FnM P w K mg base 1 T.a_Outcome_end_stuck T.f_Outcome_end_stuck ["self"] m_Outcome_end_stuck := by
  refine fnM_body T.d_Outcome_end_stuck.fn sc_Outcome_end_stuck hg_fn fun cdv A outer s H E hr tk hp => ?_
  exact pssm_one (psm_fld (fldT_cons T.cls_Outcome fldT_nil) (mv 0) (pem_tup (pam_cons (pem_str) (pam_nil))))
theorem ok__bound (T : Top w K mg) : FnM P w K mg base 1 T.a__bound T.f__bound ["parameters", "values"] m__bound := by
  refine fnM_body T.d__bound.fn sc__bound hg_fn fun cdv A outer s H E hr tk hp => ?_
  exact pssm_one (psm_ret (pem_dc (own := [("name", 2), ("_", 3), ("value", 4)]) rfl sc__bound.nd (pim_zip3 (by rfl) T.z_zip (pam_cons (mv 0) (pam_cons (mv 1) (pam_nil)))) (blkOk_by (N := ["parameters", "values", "name", "_", "value"]) (sc := defScope s__bound) (by decide +kernel)) (by decide) (fun _ _ _ _ _ => pgm_seq rfl (pgsm_cons (pgm_seq rfl (pgsm_cons (gn 2 sc__bound.nd) (pgsm_cons (gn 3 sc__bound.nd) (pgsm_nil)))) (pgsm_cons (gn 4 sc__bound.nd) (pgsm_nil)))) (fun _ _ _ _ _ => ptsm_nil) (fun _ _ _ _ _ => mv 2) (fun _ _ _ _ _ => mv 4)))
theorem ok__begin_kids (T : Top w K mg) (k_Evaluation_begin : FnM P w K mg base 1 T.a_Evaluation_begin T.f_Evaluation_begin ["self", "expression", "scope"] m_Evaluation_begin) : FnM P w K mg base 2 T.a__begin_kids T.f__begin_kids ["evaluation", "expression", "scope"] m__begin_kids := by
  refine fnM_body T.d__begin_kids.fn sc__begin_kids hg_fn fun cdv A outer s H E hr tk hp => ?_
  exact pssm_cons (psm_asg (mv 1) (pgm_seq rfl (pgsm_cons (gn 3 sc__begin_kids.nd) (pgsm_cons (gn 4 sc__begin_kids.nd) (pgsm_cons (gn 4 sc__begin_kids.nd) (pgsm_cons (gn 5 sc__begin_kids.nd) (pgsm_cons (gn 4 sc__begin_kids.nd) (pgsm_nil)))))))) (pssm_cons (psm_expr (pem_bm PySem.F.plainAttrs_list PySem.F.slot_list_append PySem.F.type_list_append mt_append fAppend_ok (pem_fld (fldT_cons T.cls_Evaluation fldT_nil) (mv 0)) (pam_cons (pem_tup (pam_cons (pem_str) (pam_cons (mv 1) (pam_cons (mv 2) (pam_nil))))) (pam_nil)))) (pssm_one (psm_for hp rfl (pim_src (pem_revT rfl (by rfl) T.z_list (by rfl) T.z_reversed (pem_slice sl_all opSl_ok (mv 5) (pom_none) (pom_some (pem_kget2 T.k_EARLY (by rfl) (mv 3) (pem_callB call_len2 fLen_ok (by rfl) T.z_len (by decide +kernel) (pam_cons (mv 5) (pam_nil))) ⟨rfl, rfl, rfl, rfl⟩))))) (gn 6 sc__begin_kids.nd) (pssm_one (psm_expr (pem_meth T.cls_Evaluation k_Evaluation_begin T.d_Evaluation_begin hr tk (mv 0) (pam_cons (mv 6) (pam_cons (mv 2) (pam_nil)))))))))
theorem ok_Evaluation_give (T : Top w K mg) : FnM P w K mg base 1 T.a_Evaluation_give T.f_Evaluation_give ["self", "value"] m_Evaluation_give := by
  refine fnM_body T.d_Evaluation_give.fn sc_Evaluation_give hg_fn fun cdv A outer s H E hr tk hp => ?_
  exact pssm_one (psm_expr (pem_bm PySem.F.plainAttrs_list PySem.F.slot_list_append PySem.F.type_list_append mt_append fAppend_ok (pem_fld (fldT_cons T.cls_Evaluation fldT_nil) (mv 0)) (pam_cons (mv 1) (pam_nil))))
theorem ok__begin_literal (T : Top w K mg) (k_Evaluation_give : FnM P w K mg base 1 T.a_Evaluation_give T.f_Evaluation_give ["self", "value"] m_Evaluation_give) : FnM P w K mg base 2 T.a__begin_literal T.f__begin_literal ["evaluation", "expression", "scope"] m__begin_literal := by
  refine fnM_body T.d__begin_literal.fn sc__begin_literal hg_fn fun cdv A outer s H E hr tk hp => ?_
  exact pssm_one (psm_expr (pem_meth T.cls_Evaluation k_Evaluation_give T.d_Evaluation_give hr tk (mv 0) (pam_cons (pem_ix (ix_all2 hr.units) opIx_ok (mv 1) (pem_int) (fun _ _ => rfl)) (pam_nil))))
theorem ok__begin_name (T : Top w K mg) (k_Evaluation_give : FnM P w K mg base 1 T.a_Evaluation_give T.f_Evaluation_give ["self", "value"] m_Evaluation_give) : FnM P w K mg base 2 T.a__begin_name T.f__begin_name ["evaluation", "expression", "scope"] m__begin_name := by
  refine fnM_body T.d__begin_name.fn sc__begin_name hg_fn fun cdv A outer s H E hr tk hp => ?_
  exact pssm_one (psm_expr (pem_meth T.cls_Evaluation k_Evaluation_give T.d_Evaluation_give hr tk (mv 0) (pam_cons (pem_ix (ix_all2 hr.units) opIx_ok (mv 2) (pem_ix (ix_all2 hr.units) opIx_ok (mv 1) (pem_int) (fun _ _ => rfl)) (fun _ _ => rfl)) (pam_nil))))
theorem ok__begin_fn (T : Top w K mg) (k_Evaluation_give : FnM P w K mg base 1 T.a_Evaluation_give T.f_Evaluation_give ["self", "value"] m_Evaluation_give) : FnM P w K mg base 2 T.a__begin_fn T.f__begin_fn ["evaluation", "expression", "scope"] m__begin_fn := by
  refine fnM_body T.d__begin_fn.fn sc__begin_fn hg_fn fun cdv A outer s H E hr tk hp => ?_
  exact pssm_cons (psm_asg (pem_slice sl_all opSl_ok (mv 1) (pom_some (pem_int)) (pom_some (pem_int))) (pgm_seq rfl (pgsm_cons (pgm_seq rfl (pgsm_cons (gn 3 sc__begin_fn.nd) (pgsm_cons (gn 4 sc__begin_fn.nd) (pgsm_nil)))) (pgsm_cons (pgm_seq rfl (pgsm_cons (gn 5 sc__begin_fn.nd) (pgsm_nil))) (pgsm_nil))))) (pssm_one (psm_expr (pem_meth T.cls_Evaluation k_Evaluation_give T.d_Evaluation_give hr tk (mv 0) (pam_cons (pem_tup (pam_cons (mv 3) (pam_cons (mv 5) (pam_cons (mv 2) (pam_nil))))) (pam_nil)))))
theorem ok__begin_handle (T : Top w K mg) (k_Evaluation_begin : FnM P w K mg base 1 T.a_Evaluation_begin T.f_Evaluation_begin ["self", "expression", "scope"] m_Evaluation_begin) : FnM P w K mg base 2 T.a__begin_handle T.f__begin_handle ["evaluation", "expression", "scope"] m__begin_handle := by
  refine fnM_body T.d__begin_handle.fn sc__begin_handle hg_fn fun cdv A outer s H E hr tk hp => ?_
  exact pssm_cons (psm_expr (pem_bm PySem.F.plainAttrs_list PySem.F.slot_list_append PySem.F.type_list_append mt_append fAppend_ok (pem_fld (fldT_cons T.cls_Evaluation fldT_nil) (mv 0)) (pam_cons (pem_tup (pam_cons (pem_str) (pam_cons (mv 1) (pam_cons (pem_tup (pam_cons (mv 2) (pam_cons (pem_callB call_len2 fLen_ok (by rfl) T.z_len (by decide +kernel) (pam_cons (pem_fld (fldT_cons T.cls_Evaluation fldT_nil) (mv 0)) (pam_nil))) (pam_nil)))) (pam_nil))))) (pam_nil)))) (pssm_one (psm_expr (pem_meth T.cls_Evaluation k_Evaluation_begin T.d_Evaluation_begin hr tk (mv 0) (pam_cons (pem_ix (ix_all2 hr.units) opIx_ok (pem_ix (ix_all2 hr.units) opIx_ok (mv 1) (pem_int) (fun _ _ => rfl)) (pem_int) (fun _ _ => rfl)) (pam_cons (mv 2) (pam_nil))))))
theorem ok_Outcome_spend (T : Top w K mg) : FnM P w K mg base 1 T.a_Outcome_spend T.f_Outcome_spend ["self", "ticks"] m_Outcome_spend := by
  refine fnM_body T.d_Outcome_spend.fn sc_Outcome_spend hg_fn fun cdv A outer s H E hr tk hp => ?_
  exact pssm_cons (psm_if (ptm_cmp op_gt2 opCmp_ok (nomark _) (pem_op op_addS opAddS_ok (pem_fld (fldT_cons T.cls_Outcome fldT_nil) (mv 0)) (mv 1)) (pem_fld (fldT_cons T.cls_Outcome fldT_nil) (mv 0))) (pssm_cons (psm_fld (fldT_cons T.cls_Outcome fldT_nil) (mv 0) (pem_fld (fldT_cons T.cls_Outcome fldT_nil) (mv 0))) (pssm_cons (psm_fld (fldT_cons T.cls_Outcome fldT_nil) (mv 0) (pem_tup (pam_cons (pem_str) (pam_nil)))) (pssm_one (psm_ret (pem_bl))))) (pssm_nil)) (pssm_cons (psm_fldAug (fldT_cons T.cls_Outcome fldT_nil) iop_addI opAddI_ok (mv 0) (mv 1)) (pssm_one (psm_ret (pem_bl))))
theorem ok__end_call (T : Top w K mg) (k_Outcome_spend : FnM P w K mg base 1 T.a_Outcome_spend T.f_Outcome_spend ["self", "ticks"] m_Outcome_spend) (k_Evaluation_begin : FnM P w K mg base 1 T.a_Evaluation_begin T.f_Evaluation_begin ["self", "expression", "scope"] m_Evaluation_begin) (k__bound : FnM P w K mg base 1 T.a__bound T.f__bound ["parameters", "values"] m__bound) : FnM P w K mg base 2 T.a__end_call T.f__end_call ["evaluation", "expression", "scope", "values"] m__end_call := by
  refine fnM_body T.d__end_call.fn sc__end_call hg_fn fun cdv A outer s H E hr tk hp => ?_
  exact pssm_cons (psm_asg (pem_ix (ix_all2 hr.units) opIx_ok (pem_fld (fldT_cons T.cls_Evaluation fldT_nil) (mv 0)) (pem_ix (ix_all2 hr.units) opIx_ok (mv 1) (pem_int) (fun _ _ => rfl)) (fun _ _ => rfl)) (pgm_seq rfl (pgsm_cons (gn 4 sc__end_call.nd) (pgsm_cons (gn 5 sc__end_call.nd) (pgsm_cons (gn 4 sc__end_call.nd) (pgsm_cons (gn 6 sc__end_call.nd) (pgsm_nil))))))) (pssm_one (psm_if (ptm_val (pem_meth T.cls_Outcome k_Outcome_spend T.d_Outcome_spend hr tk (pem_fld (fldT_cons T.cls_Evaluation fldT_nil) (mv 0)) (pam_cons (pem_int) (pam_nil)))) (pssm_one (psm_expr (pem_meth T.cls_Evaluation k_Evaluation_begin T.d_Evaluation_begin hr tk (mv 0) (pam_cons (mv 6) (pam_cons (pem_call k__bound T.d__bound hr tk (by rfl) (pam_cons (mv 5) (pam_cons (mv 3) (pam_nil)))) (pam_nil)))))) (pssm_nil)))
theorem ok__end_make (T : Top w K mg) (k_Evaluation_give : FnM P w K mg base 1 T.a_Evaluation_give T.f_Evaluation_give ["self", "value"] m_Evaluation_give) : FnM P w K mg base 2 T.a__end_make T.f__end_make ["evaluation", "expression", "scope", "values"] m__end_make := by
  refine fnM_body T.d__end_make.fn sc__end_make hg_fn fun cdv A outer s H E hr tk hp => ?_
  exact pssm_one (psm_expr (pem_meth T.cls_Evaluation k_Evaluation_give T.d_Evaluation_give hr tk (mv 0) (pam_cons (pem_tup (pam_cons (pem_ix (ix_all2 hr.units) opIx_ok (mv 1) (pem_int) (fun _ _ => rfl)) (pam_cons (mv 3) (pam_nil)))) (pam_nil))))
theorem ok__end_tuple (T : Top w K mg) (k_Evaluation_give : FnM P w K mg base 1 T.a_Evaluation_give T.f_Evaluation_give ["self", "value"] m_Evaluation_give) : FnM P w K mg base 2 T.a__end_tuple T.f__end_tuple ["evaluation", "expression", "scope", "values"] m__end_tuple := by
  refine fnM_body T.d__end_tuple.fn sc__end_tuple hg_fn fun cdv A outer s H E hr tk hp => ?_
  exact pssm_one (psm_expr (pem_meth T.cls_Evaluation k_Evaluation_give T.d_Evaluation_give hr tk (mv 0) (pam_cons (mv 3) (pam_nil))))
theorem ok__end_get (T : Top w K mg) (k_Evaluation_give : FnM P w K mg base 1 T.a_Evaluation_give T.f_Evaluation_give ["self", "value"] m_Evaluation_give) : FnM P w K mg base 2 T.a__end_get T.f__end_get ["evaluation", "expression", "scope", "values"] m__end_get := by
  refine fnM_body T.d__end_get.fn sc__end_get hg_fn fun cdv A outer s H E hr tk hp => ?_
  exact pssm_one (psm_expr (pem_meth T.cls_Evaluation k_Evaluation_give T.d_Evaluation_give hr tk (mv 0) (pam_cons (pem_ix (ix_all2 hr.units) opIx_ok (pem_ix (ix_all2 hr.units) opIx_ok (mv 3) (pem_int) (fun _ _ => rfl)) (pem_ix (ix_all2 hr.units) opIx_ok (mv 1) (pem_int) (fun _ _ => rfl)) (fun _ _ => rfl)) (pam_nil))))
theorem ok_inner_scope (T : Top w K mg) : FnM P w K mg base 1 T.a_inner_scope T.f_inner_scope ["scope", "names", "values"] m_inner_scope := by
  refine fnM_body T.d_inner_scope.fn sc_inner_scope hg_fn fun cdv A outer s H E hr tk hp => ?_
  exact pssm_cons (psm_stuck) (pssm_cons (psm_for hp rfl (pim_zip3 (by rfl) T.z_zip (pam_cons (mv 1) (pam_cons (mv 2) (pam_nil)))) (pgm_seq rfl (pgsm_cons (gn 4 sc_inner_scope.nd) (pgsm_cons (gn 5 sc_inner_scope.nd) (pgsm_nil)))) (pssm_one (psm_setIx2 hr.units (mv 5) (mv 3) (mv 4)))) (pssm_one (psm_ret (pem_frz (mv 3)))))
theorem ok__end_let (T : Top w K mg) (k_Evaluation_begin : FnM P w K mg base 1 T.a_Evaluation_begin T.f_Evaluation_begin ["self", "expression", "scope"] m_Evaluation_begin) (k_inner_scope : FnM P w K mg base 1 T.a_inner_scope T.f_inner_scope ["scope", "names", "values"] m_inner_scope) : FnM P w K mg base 2 T.a__end_let T.f__end_let ["evaluation", "expression", "scope", "values"] m__end_let := by
  refine fnM_body T.d__end_let.fn sc__end_let hg_fn fun cdv A outer s H E hr tk hp => ?_
  exact pssm_one (psm_expr (pem_meth T.cls_Evaluation k_Evaluation_begin T.d_Evaluation_begin hr tk (mv 0) (pam_cons (pem_ix (ix_all2 hr.units) opIx_ok (pem_ix (ix_all2 hr.units) opIx_ok (mv 1) (pem_int) (fun _ _ => rfl)) (pem_int) (fun _ _ => rfl)) (pam_cons (pem_call k_inner_scope T.d_inner_scope hr tk (by rfl) (pam_cons (mv 2) (pam_cons (pem_tup (pam_cons (pem_ix (ix_all2 hr.units) opIx_ok (mv 1) (pem_int) (fun _ _ => rfl)) (pam_nil))) (pam_cons (mv 3) (pam_nil))))) (pam_nil)))))
theorem ok__end_if (T : Top w K mg) (k_Evaluation_begin : FnM P w K mg base 1 T.a_Evaluation_begin T.f_Evaluation_begin ["self", "expression", "scope"] m_Evaluation_begin) : FnM P w K mg base 2 T.a__end_if T.f__end_if ["evaluation", "expression", "scope", "values"] m__end_if := by
  refine fnM_body T.d__end_if.fn sc__end_if hg_fn fun cdv A outer s H E hr tk hp => ?_
  exact pssm_cons (psm_asg (pem_ix (ix_all2 hr.units) opIx_ok (mv 1) (pem_int) (fun _ _ => rfl)) (pgm_seq rfl (pgsm_cons (gn 4 sc__end_if.nd) (pgsm_cons (gn 5 sc__end_if.nd) (pgsm_cons (gn 6 sc__end_if.nd) (pgsm_nil)))))) (pssm_one (psm_expr (pem_meth T.cls_Evaluation k_Evaluation_begin T.d_Evaluation_begin hr tk (mv 0) (pam_cons (pem_if (ptm_val (pem_ix (ix_all2 hr.units) opIx_ok (mv 3) (pem_int) (fun _ _ => rfl))) (mv 5) (mv 6)) (pam_cons (mv 2) (pam_nil))))))
theorem ok__end_case (T : Top w K mg) (k_Evaluation_begin : FnM P w K mg base 1 T.a_Evaluation_begin T.f_Evaluation_begin ["self", "expression", "scope"] m_Evaluation_begin) (k_inner_scope : FnM P w K mg base 1 T.a_inner_scope T.f_inner_scope ["scope", "names", "values"] m_inner_scope) : FnM P w K mg base 2 T.a__end_case T.f__end_case ["evaluation", "expression", "scope", "values"] m__end_case := by
  refine fnM_body T.d__end_case.fn sc__end_case hg_fn fun cdv A outer s H E hr tk hp => ?_
  exact pssm_cons (psm_asg (pem_ix (ix_all2 hr.units) opIx_ok (mv 3) (pem_int) (fun _ _ => rfl)) (pgm_seq rfl (pgsm_cons (gn 4 sc__end_case.nd) (pgsm_cons (gn 5 sc__end_case.nd) (pgsm_nil))))) (pssm_cons (psm_asg (pem_ix (ix_all2 hr.units) opIx_ok (pem_ix (ix_all2 hr.units) opIx_ok (mv 1) (pem_int) (fun _ _ => rfl)) (mv 4) (fun _ _ => rfl)) (pgm_seq rfl (pgsm_cons (gn 6 sc__end_case.nd) (pgsm_cons (gn 7 sc__end_case.nd) (pgsm_cons (gn 8 sc__end_case.nd) (pgsm_nil)))))) (pssm_one (psm_expr (pem_meth T.cls_Evaluation k_Evaluation_begin T.d_Evaluation_begin hr tk (mv 0) (pam_cons (mv 8) (pam_cons (pem_call k_inner_scope T.d_inner_scope hr tk (by rfl) (pam_cons (mv 2) (pam_cons (mv 7) (pam_cons (mv 5) (pam_nil))))) (pam_nil)))))))
theorem ok__end_apply (T : Top w K mg) (k_Outcome_spend : FnM P w K mg base 1 T.a_Outcome_spend T.f_Outcome_spend ["self", "ticks"] m_Outcome_spend) (k_Evaluation_begin : FnM P w K mg base 1 T.a_Evaluation_begin T.f_Evaluation_begin ["self", "expression", "scope"] m_Evaluation_begin) (k_inner_scope : FnM P w K mg base 1 T.a_inner_scope T.f_inner_scope ["scope", "names", "values"] m_inner_scope) : FnM P w K mg base 2 T.a__end_apply T.f__end_apply ["evaluation", "expression", "scope", "values"] m__end_apply := by
  refine fnM_body T.d__end_apply.fn sc__end_apply hg_fn fun cdv A outer s H E hr tk hp => ?_
  exact pssm_cons (psm_asg (mv 3) (pgm_seq rfl (pgsm_cons (pgm_seq rfl (pgsm_cons (gn 4 sc__end_apply.nd) (pgsm_cons (gn 5 sc__end_apply.nd) (pgsm_cons (gn 6 sc__end_apply.nd) (pgsm_nil))))) (pgsm_cons (gn 7 sc__end_apply.nd) (pgsm_nil))))) (pssm_one (psm_if (ptm_val (pem_meth T.cls_Outcome k_Outcome_spend T.d_Outcome_spend hr tk (pem_fld (fldT_cons T.cls_Evaluation fldT_nil) (mv 0)) (pam_cons (pem_int) (pam_nil)))) (pssm_one (psm_expr (pem_meth T.cls_Evaluation k_Evaluation_begin T.d_Evaluation_begin hr tk (mv 0) (pam_cons (mv 5) (pam_cons (pem_call k_inner_scope T.d_inner_scope hr tk (by rfl) (pam_cons (mv 6) (pam_cons (pem_tup (pam_cons (mv 4) (pam_nil))) (pam_cons (pem_lst (pam_cons (mv 7) (pam_nil))) (pam_nil))))) (pam_nil)))))) (pssm_nil)))
theorem ok__end_ref (T : Top w K mg) (k_Evaluation_give : FnM P w K mg base 1 T.a_Evaluation_give T.f_Evaluation_give ["self", "value"] m_Evaluation_give) : FnM P w K mg base 2 T.a__end_ref T.f__end_ref ["evaluation", "expression", "scope", "values"] m__end_ref := by
  refine fnM_body T.d__end_ref.fn sc__end_ref hg_fn fun cdv A outer s H E hr tk hp => ?_
  exact pssm_one (psm_expr (pem_meth T.cls_Evaluation k_Evaluation_give T.d_Evaluation_give hr tk (mv 0) (pam_cons (mv 3) (pam_nil))))
theorem ok__end_deref (T : Top w K mg) (k_Evaluation_give : FnM P w K mg base 1 T.a_Evaluation_give T.f_Evaluation_give ["self", "value"] m_Evaluation_give) : FnM P w K mg base 2 T.a__end_deref T.f__end_deref ["evaluation", "expression", "scope", "values"] m__end_deref := by
  refine fnM_body T.d__end_deref.fn sc__end_deref hg_fn fun cdv A outer s H E hr tk hp => ?_
  exact pssm_one (psm_expr (pem_meth T.cls_Evaluation k_Evaluation_give T.d_Evaluation_give hr tk (mv 0) (pam_cons (pem_ix (ix_all2 hr.units) opIx_ok (pem_ix (ix_all2 hr.units) opIx_ok (mv 3) (pem_int) (fun _ _ => rfl)) (pem_int) (fun _ _ => rfl)) (pam_nil))))
theorem ok__end_set (T : Top w K mg) (k_Evaluation_give : FnM P w K mg base 1 T.a_Evaluation_give T.f_Evaluation_give ["self", "value"] m_Evaluation_give) : FnM P w K mg base 2 T.a__end_set T.f__end_set ["evaluation", "expression", "scope", "values"] m__end_set := by
  refine fnM_body T.d__end_set.fn sc__end_set hg_fn fun cdv A outer s H E hr tk hp => ?_
  exact pssm_cons (psm_asg (mv 3) (pgm_seq rfl (pgsm_cons (gn 4 sc__end_set.nd) (pgsm_cons (gn 5 sc__end_set.nd) (pgsm_nil))))) (pssm_cons (psm_setIx2 hr.units (mv 5) (mv 4) (pem_int)) (pssm_one (psm_expr (pem_meth T.cls_Evaluation k_Evaluation_give T.d_Evaluation_give hr tk (mv 0) (pam_cons (pem_non) (pam_nil))))))
theorem ok_Evaluation_throw (T : Top w K mg) (k_Evaluation_begin : FnM P w K mg base 1 T.a_Evaluation_begin T.f_Evaluation_begin ["self", "expression", "scope"] m_Evaluation_begin) (k_inner_scope : FnM P w K mg base 1 T.a_inner_scope T.f_inner_scope ["scope", "names", "values"] m_inner_scope) : FnM P w K mg base 2 T.a_Evaluation_throw T.f_Evaluation_throw ["self", "number", "payload"] m_Evaluation_throw := by
  refine fnM_body T.d_Evaluation_throw.fn sc_Evaluation_throw hg_fn fun cdv A outer s H E hr tk hp => ?_
  exact pssm_cons (psm_while hp (ptm_val (pem_fld (fldT_cons T.cls_Evaluation fldT_nil) (mv 0))) (pssm_cons (psm_asg (pem_bm0 PySem.F.plainAttrs_list PySem.F.slot_list_pop PySem.F.type_list_pop mt_pop fPop_ok (pem_fld (fldT_cons T.cls_Evaluation fldT_nil) (mv 0))) (pgm_seq rfl (pgsm_cons (gn 3 sc_Evaluation_throw.nd) (pgsm_cons (gn 4 sc_Evaluation_throw.nd) (pgsm_cons (gn 5 sc_Evaluation_throw.nd) (pgsm_nil)))))) (pssm_one (psm_if (ptm_cmp (op_eq2 hr.units) opEq_ok (nomark _) (mv 3) (pem_str)) (pssm_cons (psm_asg (mv 5) (pgm_seq rfl (pgsm_cons (gn 6 sc_Evaluation_throw.nd) (pgsm_cons (gn 7 sc_Evaluation_throw.nd) (pgsm_nil))))) (pssm_one (psm_for hp rfl (pim_src (pem_ix (ix_all2 hr.units) opIx_ok (mv 4) (pem_int) (fun _ _ => rfl))) (pgm_seq rfl (pgsm_cons (gn 8 sc_Evaluation_throw.nd) (pgsm_cons (gn 9 sc_Evaluation_throw.nd) (pgsm_cons (gn 10 sc_Evaluation_throw.nd) (pgsm_nil))))) (pssm_one (psm_if (ptm_cmp (op_eq2 hr.units) opEq_ok (nomark _) (mv 8) (mv 1)) (pssm_cons (psm_delT (pem_fld (fldT_cons T.cls_Evaluation fldT_nil) (mv 0)) (pom_some (mv 7)) (pom_none)) (pssm_cons (psm_expr (pem_meth T.cls_Evaluation k_Evaluation_begin T.d_Evaluation_begin hr tk (mv 0) (pam_cons (mv 10) (pam_cons (pem_call k_inner_scope T.d_inner_scope hr tk (by rfl) (pam_cons (mv 6) (pam_cons (mv 9) (pam_cons (pem_lst (pam_cons (mv 2) (pam_nil))) (pam_nil))))) (pam_nil))))) (pssm_one (psm_retN)))) (pssm_nil)))))) (pssm_nil))))) (pssm_one (psm_fld (fldT_cons T.cls_Outcome fldT_nil) (pem_fld (fldT_cons T.cls_Evaluation fldT_nil) (mv 0)) (pem_tup (pam_cons (pem_str) (pam_cons (pem_ix (ix_all2 hr.units) opIx_ok (pem_fld (fldT_cons T.cls_Evaluation fldT_nil) (mv 0)) (mv 1) (fun _ _ => rfl)) (pam_cons (mv 2) (pam_nil)))))))
theorem ok__end_array (T : Top w K mg) (k_Evaluation_throw : FnM P w K mg base 2 T.a_Evaluation_throw T.f_Evaluation_throw ["self", "number", "payload"] m_Evaluation_throw) (k_Outcome_spend : FnM P w K mg base 2 T.a_Outcome_spend T.f_Outcome_spend ["self", "ticks"] m_Outcome_spend) (k_Evaluation_give : FnM P w K mg base 2 T.a_Evaluation_give T.f_Evaluation_give ["self", "value"] m_Evaluation_give) : FnM P w K mg base 3 T.a__end_array T.f__end_array ["evaluation", "expression", "scope", "values"] m__end_array := by
  refine fnM_body T.d__end_array.fn sc__end_array hg_fn fun cdv A outer s H E hr tk hp => ?_
  exact pssm_cons (psm_asg (mv 3) (pgm_seq rfl (pgsm_cons (gn 4 sc__end_array.nd) (pgsm_cons (gn 5 sc__end_array.nd) (pgsm_nil))))) (pssm_one (psm_if (ptm_not (ptm_chain op_le2 op_le2 opCmp_ok opCmp_ok (pem_int) (mv 4) (mk T.c_MAX_ARRAY) (by with_unfolding_all rfl))) (pssm_one (psm_expr (pem_meth T.cls_Evaluation k_Evaluation_throw T.d_Evaluation_throw hr tk (mv 0) (pam_cons (mk T.c_SIZE) (pam_cons (mv 4) (pam_nil)))))) (pssm_one (psm_if (ptm_val (pem_meth T.cls_Outcome k_Outcome_spend T.d_Outcome_spend hr tk (pem_fld (fldT_cons T.cls_Evaluation fldT_nil) (mv 0)) (pam_cons (mv 4) (pam_nil)))) (pssm_one (psm_expr (pem_meth T.cls_Evaluation k_Evaluation_give T.d_Evaluation_give hr tk (mv 0) (pam_cons (pem_op op_rep opRep_ok (pem_lstN (pam_cons (mv 5) (pam_nil))) (mv 4)) (pam_nil))))) (pssm_nil)))))
theorem ok__end_at (T : Top w K mg) (k_Evaluation_throw : FnM P w K mg base 2 T.a_Evaluation_throw T.f_Evaluation_throw ["self", "number", "payload"] m_Evaluation_throw) (k_Evaluation_give : FnM P w K mg base 2 T.a_Evaluation_give T.f_Evaluation_give ["self", "value"] m_Evaluation_give) : FnM P w K mg base 3 T.a__end_at T.f__end_at ["evaluation", "expression", "scope", "values"] m__end_at := by
  refine fnM_body T.d__end_at.fn sc__end_at hg_fn fun cdv A outer s H E hr tk hp => ?_
  exact pssm_cons (psm_asg (mv 3) (pgm_seq rfl (pgsm_cons (gn 4 sc__end_at.nd) (pgsm_cons (gn 5 sc__end_at.nd) (pgsm_nil))))) (pssm_one (psm_if (ptm_not (ptm_chain op_le2 op_lt2 opCmp_ok opCmp_ok (pem_int) (mv 5) (pem_callB call_len2 fLen_ok (by rfl) T.z_len (by decide +kernel) (pam_cons (mv 4) (pam_nil))) (by with_unfolding_all rfl))) (pssm_one (psm_expr (pem_meth T.cls_Evaluation k_Evaluation_throw T.d_Evaluation_throw hr tk (mv 0) (pam_cons (mk T.c_INDEX) (pam_cons (mv 5) (pam_nil)))))) (pssm_one (psm_expr (pem_meth T.cls_Evaluation k_Evaluation_give T.d_Evaluation_give hr tk (mv 0) (pam_cons (pem_ix (ix_all2 hr.units) opIx_ok (mv 4) (mv 5) (fun _ _ => rfl)) (pam_nil)))))))
theorem ok__end_put (T : Top w K mg) (k_Evaluation_throw : FnM P w K mg base 2 T.a_Evaluation_throw T.f_Evaluation_throw ["self", "number", "payload"] m_Evaluation_throw) (k_Evaluation_give : FnM P w K mg base 2 T.a_Evaluation_give T.f_Evaluation_give ["self", "value"] m_Evaluation_give) : FnM P w K mg base 3 T.a__end_put T.f__end_put ["evaluation", "expression", "scope", "values"] m__end_put := by
  refine fnM_body T.d__end_put.fn sc__end_put hg_fn fun cdv A outer s H E hr tk hp => ?_
  exact pssm_cons (psm_asg (mv 3) (pgm_seq rfl (pgsm_cons (gn 4 sc__end_put.nd) (pgsm_cons (gn 5 sc__end_put.nd) (pgsm_cons (gn 6 sc__end_put.nd) (pgsm_nil)))))) (pssm_one (psm_if (ptm_not (ptm_chain op_le2 op_lt2 opCmp_ok opCmp_ok (pem_int) (mv 5) (pem_callB call_len2 fLen_ok (by rfl) T.z_len (by decide +kernel) (pam_cons (mv 4) (pam_nil))) (by with_unfolding_all rfl))) (pssm_one (psm_expr (pem_meth T.cls_Evaluation k_Evaluation_throw T.d_Evaluation_throw hr tk (mv 0) (pam_cons (mk T.c_INDEX) (pam_cons (mv 5) (pam_nil)))))) (pssm_cons (psm_setIx2 hr.units (mv 6) (mv 4) (mv 5)) (pssm_one (psm_expr (pem_meth T.cls_Evaluation k_Evaluation_give T.d_Evaluation_give hr tk (mv 0) (pam_cons (pem_non) (pam_nil))))))))
theorem ok__end_len (T : Top w K mg) (k_Evaluation_give : FnM P w K mg base 1 T.a_Evaluation_give T.f_Evaluation_give ["self", "value"] m_Evaluation_give) : FnM P w K mg base 2 T.a__end_len T.f__end_len ["evaluation", "expression", "scope", "values"] m__end_len := by
  refine fnM_body T.d__end_len.fn sc__end_len hg_fn fun cdv A outer s H E hr tk hp => ?_
  exact pssm_one (psm_expr (pem_meth T.cls_Evaluation k_Evaluation_give T.d_Evaluation_give hr tk (mv 0) (pam_cons (pem_callB call_len2 fLen_ok (by rfl) T.z_len (by decide +kernel) (pam_cons (pem_ix (ix_all2 hr.units) opIx_ok (mv 3) (pem_int) (fun _ _ => rfl)) (pam_nil))) (pam_nil))))
theorem ok__end_raise (T : Top w K mg) (k_Evaluation_throw : FnM P w K mg base 2 T.a_Evaluation_throw T.f_Evaluation_throw ["self", "number", "payload"] m_Evaluation_throw) : FnM P w K mg base 3 T.a__end_raise T.f__end_raise ["evaluation", "expression", "scope", "values"] m__end_raise := by
  refine fnM_body T.d__end_raise.fn sc__end_raise hg_fn fun cdv A outer s H E hr tk hp => ?_
  exact pssm_one (psm_expr (pem_meth T.cls_Evaluation k_Evaluation_throw T.d_Evaluation_throw hr tk (mv 0) (pam_cons (pem_ix (ix_all2 hr.units) opIx_ok (mv 1) (pem_int) (fun _ _ => rfl)) (pam_cons (pem_ix (ix_all2 hr.units) opIx_ok (mv 3) (pem_int) (fun _ _ => rfl)) (pam_nil)))))
theorem ok__end_print (T : Top w K mg) (k_Evaluation_give : FnM P w K mg base 1 T.a_Evaluation_give T.f_Evaluation_give ["self", "value"] m_Evaluation_give) : FnM P w K mg base 2 T.a__end_print T.f__end_print ["evaluation", "expression", "scope", "values"] m__end_print := by
  refine fnM_body T.d__end_print.fn sc__end_print hg_fn fun cdv A outer s H E hr tk hp => ?_
  exact pssm_cons (psm_expr (pem_bm PySem.F.plainAttrs_list PySem.F.slot_list_append PySem.F.type_list_append mt_append fAppend_ok (pem_fld (fldT_cons T.cls_Outcome fldT_nil) (pem_fld (fldT_cons T.cls_Evaluation fldT_nil) (mv 0))) (pam_cons (pem_ix (ix_all2 hr.units) opIx_ok (mv 3) (pem_int) (fun _ _ => rfl)) (pam_nil)))) (pssm_one (psm_expr (pem_meth T.cls_Evaluation k_Evaluation_give T.d_Evaluation_give hr tk (mv 0) (pam_cons (pem_non) (pam_nil)))))
theorem ok__end_seq (T : Top w K mg) (k_Evaluation_give : FnM P w K mg base 1 T.a_Evaluation_give T.f_Evaluation_give ["self", "value"] m_Evaluation_give) : FnM P w K mg base 2 T.a__end_seq T.f__end_seq ["evaluation", "expression", "scope", "values"] m__end_seq := by
  refine fnM_body T.d__end_seq.fn sc__end_seq hg_fn fun cdv A outer s H E hr tk hp => ?_
  exact pssm_one (psm_expr (pem_meth T.cls_Evaluation k_Evaluation_give T.d_Evaluation_give hr tk (mv 0) (pam_cons (pem_ix (ix_all2 hr.units) opIx_ok (mv 3) (pem_int) (fun _ _ => rfl)) (pam_nil))))
theorem ok_divides_by_zero (T : Top w K mg) : FnM P w K mg base 1 T.a_divides_by_zero T.f_divides_by_zero ["op", "second"] m_divides_by_zero := by
  refine fnM_body T.d_divides_by_zero.fn sc_divides_by_zero hg_fn fun cdv A outer s H E hr tk hp => ?_
  exact pssm_one (psm_ret (pem_and (pem_cmp (op_in3 hr.units) opIn2_ok rfl (mv 0) (pem_tup (pam_cons (pem_str) (pam_cons (pem_str) (pam_nil))))) (pem_one (pem_cmp (op_eq2 hr.units) opEq_ok (nomark _) (mv 1) (pem_int)))))
theorem ok_wrap (T : Top w K mg) : FnM P w K mg base 1 T.a_wrap T.f_wrap ["number"] m_wrap := by
  refine fnM_body T.d_wrap.fn sc_wrap hg_fn fun cdv A outer s H E hr tk hp => ?_
  exact pssm_one (psm_ret (pem_op op_sub opSub_ok (pem_op op_mod opMod_ok (pem_op op_addS opAddS_ok (mv 0) (mk T.c_HALF)) (pem_op op_mul2 opMul_ok (pem_int) (mk T.c_HALF))) (mk T.c_HALF)))
theorem ok__add (T : Top w K mg) (k_wrap : FnM P w K mg base 1 T.a_wrap T.f_wrap ["number"] m_wrap) : FnM P w K mg base 2 T.a__add T.f__add ["first", "second"] m__add := by
  refine fnM_body T.d__add.fn sc__add hg_fn fun cdv A outer s H E hr tk hp => ?_
  exact pssm_one (psm_ret (pem_call k_wrap T.d_wrap hr tk (by rfl) (pam_cons (pem_op op_addS opAddS_ok (mv 0) (mv 1)) (pam_nil))))
theorem ok__sub (T : Top w K mg) (k_wrap : FnM P w K mg base 1 T.a_wrap T.f_wrap ["number"] m_wrap) : FnM P w K mg base 2 T.a__sub T.f__sub ["first", "second"] m__sub := by
  refine fnM_body T.d__sub.fn sc__sub hg_fn fun cdv A outer s H E hr tk hp => ?_
  exact pssm_one (psm_ret (pem_call k_wrap T.d_wrap hr tk (by rfl) (pam_cons (pem_op op_sub opSub_ok (mv 0) (mv 1)) (pam_nil))))
theorem ok__mul (T : Top w K mg) (k_wrap : FnM P w K mg base 1 T.a_wrap T.f_wrap ["number"] m_wrap) : FnM P w K mg base 2 T.a__mul T.f__mul ["first", "second"] m__mul := by
  refine fnM_body T.d__mul.fn sc__mul hg_fn fun cdv A outer s H E hr tk hp => ?_
  exact pssm_one (psm_ret (pem_call k_wrap T.d_wrap hr tk (by rfl) (pam_cons (pem_op op_mul2 opMul_ok (mv 0) (mv 1)) (pam_nil))))
theorem ok__quotient (T : Top w K mg) : FnM P w K mg base 1 T.a__quotient T.f__quotient ["first", "second"] m__quotient := by
  refine fnM_body T.d__quotient.fn sc__quotient hg_fn fun cdv A outer s H E hr tk hp => ?_
  exact pssm_cons (ss 2 sc__quotient.nd (pem_op op_fdivW opDiv_ok (pem_callB call_abs fAbs_ok (by rfl) T.z_abs (by decide +kernel) (pam_cons (mv 0) (pam_nil))) (pem_callB call_abs fAbs_ok (by rfl) T.z_abs (by decide +kernel) (pam_cons (mv 1) (pam_nil))))) (pssm_one (psm_ret (pem_if (ptm_cmp (op_eq2 hr.units) opEq_ok (nomark _) (pem_cmp op_lt2 opCmp_ok (nomark _) (mv 0) (pem_int)) (pem_cmp op_lt2 opCmp_ok (nomark _) (mv 1) (pem_int))) (mv 2) (pem_un un_neg opNeg_ok (mv 2)))))
theorem ok__div (T : Top w K mg) (k_wrap : FnM P w K mg base 1 T.a_wrap T.f_wrap ["number"] m_wrap) (k__quotient : FnM P w K mg base 1 T.a__quotient T.f__quotient ["first", "second"] m__quotient) : FnM P w K mg base 2 T.a__div T.f__div ["first", "second"] m__div := by
  refine fnM_body T.d__div.fn sc__div hg_fn fun cdv A outer s H E hr tk hp => ?_
  exact pssm_one (psm_ret (pem_call k_wrap T.d_wrap hr tk (by rfl) (pam_cons (pem_call k__quotient T.d__quotient hr tk (by rfl) (pam_cons (mv 0) (pam_cons (mv 1) (pam_nil)))) (pam_nil))))
theorem ok__rem (T : Top w K mg) (k__quotient : FnM P w K mg base 1 T.a__quotient T.f__quotient ["first", "second"] m__quotient) : FnM P w K mg base 2 T.a__rem T.f__rem ["first", "second"] m__rem := by
  refine fnM_body T.d__rem.fn sc__rem hg_fn fun cdv A outer s H E hr tk hp => ?_
  exact pssm_one (psm_ret (pem_op op_sub opSub_ok (mv 0) (pem_op op_mul2 opMul_ok (mv 1) (pem_call k__quotient T.d__quotient hr tk (by rfl) (pam_cons (mv 0) (pam_cons (mv 1) (pam_nil)))))))
theorem ok__equal (T : Top w K mg) : FnM P w K mg base 1 T.a__equal T.f__equal ["first", "second"] m__equal := by
  refine fnM_body T.d__equal.fn sc__equal hg_fn fun cdv A outer s H E hr tk hp => ?_
  exact pssm_one (psm_ret (pem_cmp (op_eq2 hr.units) opEq_ok (nomark _) (mv 0) (mv 1)))
theorem ok__less (T : Top w K mg) : FnM P w K mg base 1 T.a__less T.f__less ["first", "second"] m__less := by
  refine fnM_body T.d__less.fn sc__less hg_fn fun cdv A outer s H E hr tk hp => ?_
  exact pssm_one (psm_ret (pem_cmp op_lt2 opCmp_ok (nomark _) (mv 0) (mv 1)))
theorem ok_compute (T : Top w K mg) (k__add : FnM P w K mg base 2 T.a__add T.f__add ["first", "second"] m__add) (k__sub : FnM P w K mg base 2 T.a__sub T.f__sub ["first", "second"] m__sub) (k__mul : FnM P w K mg base 2 T.a__mul T.f__mul ["first", "second"] m__mul) (k__div : FnM P w K mg base 2 T.a__div T.f__div ["first", "second"] m__div) (k__rem : FnM P w K mg base 2 T.a__rem T.f__rem ["first", "second"] m__rem) (k__equal : FnM P w K mg base 2 T.a__equal T.f__equal ["first", "second"] m__equal) (k__less : FnM P w K mg base 2 T.a__less T.f__less ["first", "second"] m__less) : FnM P w K mg base 3 T.a_compute T.f_compute ["op", "first", "second"] m_compute := by
  refine fnM_body T.d_compute.fn sc_compute hg_fn fun cdv A outer s H E hr tk hp => ?_
  exact pssm_cons (ss 3 sc_compute.nd (pem_kix T.k_OPERATIONS (by rfl) (mv 0) (fun _ _ => rfl))) (pssm_one (psm_ret (pem_callV (tab := tab_compute_action) (mv 3) (tab_cons ⟨T.a__add, T.f__add, _, T.n__add, k__add, T.d__add.fn.kp, T.d__add.bi⟩ (tab_cons ⟨T.a__sub, T.f__sub, _, T.n__sub, k__sub, T.d__sub.fn.kp, T.d__sub.bi⟩ (tab_cons ⟨T.a__mul, T.f__mul, _, T.n__mul, k__mul, T.d__mul.fn.kp, T.d__mul.bi⟩ (tab_cons ⟨T.a__div, T.f__div, _, T.n__div, k__div, T.d__div.fn.kp, T.d__div.bi⟩ (tab_cons ⟨T.a__rem, T.f__rem, _, T.n__rem, k__rem, T.d__rem.fn.kp, T.d__rem.bi⟩ (tab_cons ⟨T.a__equal, T.f__equal, _, T.n__equal, k__equal, T.d__equal.fn.kp, T.d__equal.bi⟩ (tab_cons ⟨T.a__less, T.f__less, _, T.n__less, k__less, T.d__less.fn.kp, T.d__less.bi⟩ (tab_nil)))))))) hr tk (pam_cons (mv 1) (pam_cons (mv 2) (pam_nil))))))
theorem ok__end_operation (T : Top w K mg) (k_divides_by_zero : FnM P w K mg base 3 T.a_divides_by_zero T.f_divides_by_zero ["op", "second"] m_divides_by_zero) (k_Evaluation_throw : FnM P w K mg base 3 T.a_Evaluation_throw T.f_Evaluation_throw ["self", "number", "payload"] m_Evaluation_throw) (k_Evaluation_give : FnM P w K mg base 3 T.a_Evaluation_give T.f_Evaluation_give ["self", "value"] m_Evaluation_give) (k_compute : FnM P w K mg base 3 T.a_compute T.f_compute ["op", "first", "second"] m_compute) : FnM P w K mg base 4 T.a__end_operation T.f__end_operation ["evaluation", "expression", "scope", "values"] m__end_operation := by
  refine fnM_body T.d__end_operation.fn sc__end_operation hg_fn fun cdv A outer s H E hr tk hp => ?_
  exact pssm_cons (ss 4 sc__end_operation.nd (pem_ix (ix_all2 hr.units) opIx_ok (mv 1) (pem_int) (fun _ _ => rfl))) (pssm_cons (psm_asg (mv 3) (pgm_seq rfl (pgsm_cons (gn 5 sc__end_operation.nd) (pgsm_cons (gn 6 sc__end_operation.nd) (pgsm_nil))))) (pssm_one (psm_if (ptm_val (pem_call k_divides_by_zero T.d_divides_by_zero hr tk (by rfl) (pam_cons (mv 4) (pam_cons (mv 6) (pam_nil))))) (pssm_one (psm_expr (pem_meth T.cls_Evaluation k_Evaluation_throw T.d_Evaluation_throw hr tk (mv 0) (pam_cons (mk T.c_DIV) (pam_cons (pem_int) (pam_nil)))))) (pssm_one (psm_expr (pem_meth T.cls_Evaluation k_Evaluation_give T.d_Evaluation_give hr tk (mv 0) (pam_cons (pem_call k_compute T.d_compute hr tk (by rfl) (pam_cons (mv 4) (pam_cons (mv 5) (pam_cons (mv 6) (pam_nil))))) (pam_nil))))))))
theorem ok_Evaluation_take (T : Top w K mg) : FnM P w K mg base 1 T.a_Evaluation_take T.f_Evaluation_take ["self", "many"] m_Evaluation_take := by
  refine fnM_body T.d_Evaluation_take.fn sc_Evaluation_take hg_fn fun cdv A outer s H E hr tk hp => ?_
  exact pssm_cons (ss 2 sc_Evaluation_take.nd (pem_op op_sub opSub_ok (pem_callB call_len2 fLen_ok (by rfl) T.z_len (by decide +kernel) (pam_cons (pem_fld (fldT_cons T.cls_Evaluation fldT_nil) (mv 0)) (pam_nil))) (mv 1))) (pssm_cons (ss 3 sc_Evaluation_take.nd (pem_slice sl_all opSl_ok (pem_fld (fldT_cons T.cls_Evaluation fldT_nil) (mv 0)) (pom_some (mv 2)) (pom_none))) (pssm_cons (psm_delT (pem_fld (fldT_cons T.cls_Evaluation fldT_nil) (mv 0)) (pom_some (mv 2)) (pom_none)) (pssm_one (psm_ret (mv 3)))))
theorem ok_Evaluation_do_task (T : Top w K mg) (k__begin_kids : FnM P w K mg base 4 T.a__begin_kids T.f__begin_kids ["evaluation", "expression", "scope"] m__begin_kids) (k__begin_literal : FnM P w K mg base 4 T.a__begin_literal T.f__begin_literal ["evaluation", "expression", "scope"] m__begin_literal) (k__begin_name : FnM P w K mg base 4 T.a__begin_name T.f__begin_name ["evaluation", "expression", "scope"] m__begin_name) (k__begin_fn : FnM P w K mg base 4 T.a__begin_fn T.f__begin_fn ["evaluation", "expression", "scope"] m__begin_fn) (k__begin_handle : FnM P w K mg base 4 T.a__begin_handle T.f__begin_handle ["evaluation", "expression", "scope"] m__begin_handle) (k__end_call : FnM P w K mg base 4 T.a__end_call T.f__end_call ["evaluation", "expression", "scope", "values"] m__end_call) (k__end_make : FnM P w K mg base 4 T.a__end_make T.f__end_make ["evaluation", "expression", "scope", "values"] m__end_make) (k__end_tuple : FnM P w K mg base 4 T.a__end_tuple T.f__end_tuple ["evaluation", "expression", "scope", "values"] m__end_tuple) (k__end_get : FnM P w K mg base 4 T.a__end_get T.f__end_get ["evaluation", "expression", "scope", "values"] m__end_get) (k__end_let : FnM P w K mg base 4 T.a__end_let T.f__end_let ["evaluation", "expression", "scope", "values"] m__end_let) (k__end_if : FnM P w K mg base 4 T.a__end_if T.f__end_if ["evaluation", "expression", "scope", "values"] m__end_if) (k__end_case : FnM P w K mg base 4 T.a__end_case T.f__end_case ["evaluation", "expression", "scope", "values"] m__end_case) (k__end_apply : FnM P w K mg base 4 T.a__end_apply T.f__end_apply ["evaluation", "expression", "scope", "values"] m__end_apply) (k__end_ref : FnM P w K mg base 4 T.a__end_ref T.f__end_ref ["evaluation", "expression", "scope", "values"] m__end_ref) (k__end_deref : FnM P w K mg base 4 T.a__end_deref T.f__end_deref ["evaluation", "expression", "scope", "values"] m__end_deref) (k__end_set : FnM P w K mg base 4 T.a__end_set T.f__end_set ["evaluation", "expression", "scope", "values"] m__end_set) (k__end_array : FnM P w K mg base 4 T.a__end_array T.f__end_array ["evaluation", "expression", "scope", "values"] m__end_array) (k__end_at : FnM P w K mg base 4 T.a__end_at T.f__end_at ["evaluation", "expression", "scope", "values"] m__end_at) (k__end_put : FnM P w K mg base 4 T.a__end_put T.f__end_put ["evaluation", "expression", "scope", "values"] m__end_put) (k__end_len : FnM P w K mg base 4 T.a__end_len T.f__end_len ["evaluation", "expression", "scope", "values"] m__end_len) (k__end_raise : FnM P w K mg base 4 T.a__end_raise T.f__end_raise ["evaluation", "expression", "scope", "values"] m__end_raise) (k__end_print : FnM P w K mg base 4 T.a__end_print T.f__end_print ["evaluation", "expression", "scope", "values"] m__end_print) (k__end_seq : FnM P w K mg base 4 T.a__end_seq T.f__end_seq ["evaluation", "expression", "scope", "values"] m__end_seq) (k__end_operation : FnM P w K mg base 4 T.a__end_operation T.f__end_operation ["evaluation", "expression", "scope", "values"] m__end_operation) (k_Evaluation_take : FnM P w K mg base 4 T.a_Evaluation_take T.f_Evaluation_take ["self", "many"] m_Evaluation_take) : FnM P w K mg base 5 T.a_Evaluation_do_task T.f_Evaluation_do_task ["self"] m_Evaluation_do_task := by
  refine fnM_body T.d_Evaluation_do_task.fn sc_Evaluation_do_task hg_fn fun cdv A outer s H E hr tk hp => ?_
  exact pssm_cons (psm_asg (pem_bm0 PySem.F.plainAttrs_list PySem.F.slot_list_pop PySem.F.type_list_pop mt_pop fPop_ok (pem_fld (fldT_cons T.cls_Evaluation fldT_nil) (mv 0))) (pgm_seq rfl (pgsm_cons (gn 1 sc_Evaluation_do_task.nd) (pgsm_cons (gn 2 sc_Evaluation_do_task.nd) (pgsm_cons (gn 3 sc_Evaluation_do_task.nd) (pgsm_nil)))))) (pssm_one (psm_if (ptm_cmp (op_eq2 hr.units) opEq_ok (nomark _) (mv 1) (pem_str)) (pssm_cons (ss 4 sc_Evaluation_do_task.nd (pem_kget2 T.k_BEGINNINGS (by rfl) (pem_ix (ix_all2 hr.units) opIx_ok (mv 2) (pem_int) (fun _ _ => rfl)) (pem_kon T.d__begin_kids T.n__begin_kids (by rfl)) ⟨rfl, rfl, rfl, rfl⟩)) (pssm_one (psm_expr (pem_callV (tab := tab_Evaluation_do_task_action) (mv 4) (tab_cons ⟨T.a__begin_kids, T.f__begin_kids, _, T.n__begin_kids, k__begin_kids, T.d__begin_kids.fn.kp, T.d__begin_kids.bi⟩ (tab_cons ⟨T.a__begin_literal, T.f__begin_literal, _, T.n__begin_literal, k__begin_literal, T.d__begin_literal.fn.kp, T.d__begin_literal.bi⟩ (tab_cons ⟨T.a__begin_name, T.f__begin_name, _, T.n__begin_name, k__begin_name, T.d__begin_name.fn.kp, T.d__begin_name.bi⟩ (tab_cons ⟨T.a__begin_fn, T.f__begin_fn, _, T.n__begin_fn, k__begin_fn, T.d__begin_fn.fn.kp, T.d__begin_fn.bi⟩ (tab_cons ⟨T.a__begin_handle, T.f__begin_handle, _, T.n__begin_handle, k__begin_handle, T.d__begin_handle.fn.kp, T.d__begin_handle.bi⟩ (tab_cons ⟨T.a__end_call, T.f__end_call, _, T.n__end_call, k__end_call, T.d__end_call.fn.kp, T.d__end_call.bi⟩ (tab_cons ⟨T.a__end_make, T.f__end_make, _, T.n__end_make, k__end_make, T.d__end_make.fn.kp, T.d__end_make.bi⟩ (tab_cons ⟨T.a__end_tuple, T.f__end_tuple, _, T.n__end_tuple, k__end_tuple, T.d__end_tuple.fn.kp, T.d__end_tuple.bi⟩ (tab_cons ⟨T.a__end_get, T.f__end_get, _, T.n__end_get, k__end_get, T.d__end_get.fn.kp, T.d__end_get.bi⟩ (tab_cons ⟨T.a__end_let, T.f__end_let, _, T.n__end_let, k__end_let, T.d__end_let.fn.kp, T.d__end_let.bi⟩ (tab_cons ⟨T.a__end_if, T.f__end_if, _, T.n__end_if, k__end_if, T.d__end_if.fn.kp, T.d__end_if.bi⟩ (tab_cons ⟨T.a__end_case, T.f__end_case, _, T.n__end_case, k__end_case, T.d__end_case.fn.kp, T.d__end_case.bi⟩ (tab_cons ⟨T.a__end_apply, T.f__end_apply, _, T.n__end_apply, k__end_apply, T.d__end_apply.fn.kp, T.d__end_apply.bi⟩ (tab_cons ⟨T.a__end_ref, T.f__end_ref, _, T.n__end_ref, k__end_ref, T.d__end_ref.fn.kp, T.d__end_ref.bi⟩ (tab_cons ⟨T.a__end_deref, T.f__end_deref, _, T.n__end_deref, k__end_deref, T.d__end_deref.fn.kp, T.d__end_deref.bi⟩ (tab_cons ⟨T.a__end_set, T.f__end_set, _, T.n__end_set, k__end_set, T.d__end_set.fn.kp, T.d__end_set.bi⟩ (tab_cons ⟨T.a__end_array, T.f__end_array, _, T.n__end_array, k__end_array, T.d__end_array.fn.kp, T.d__end_array.bi⟩ (tab_cons ⟨T.a__end_at, T.f__end_at, _, T.n__end_at, k__end_at, T.d__end_at.fn.kp, T.d__end_at.bi⟩ (tab_cons ⟨T.a__end_put, T.f__end_put, _, T.n__end_put, k__end_put, T.d__end_put.fn.kp, T.d__end_put.bi⟩ (tab_cons ⟨T.a__end_len, T.f__end_len, _, T.n__end_len, k__end_len, T.d__end_len.fn.kp, T.d__end_len.bi⟩ (tab_cons ⟨T.a__end_raise, T.f__end_raise, _, T.n__end_raise, k__end_raise, T.d__end_raise.fn.kp, T.d__end_raise.bi⟩ (tab_cons ⟨T.a__end_print, T.f__end_print, _, T.n__end_print, k__end_print, T.d__end_print.fn.kp, T.d__end_print.bi⟩ (tab_cons ⟨T.a__end_seq, T.f__end_seq, _, T.n__end_seq, k__end_seq, T.d__end_seq.fn.kp, T.d__end_seq.bi⟩ (tab_cons ⟨T.a__end_operation, T.f__end_operation, _, T.n__end_operation, k__end_operation, T.d__end_operation.fn.kp, T.d__end_operation.bi⟩ (tab_nil))))))))))))))))))))))))) hr tk (pam_cons (mv 0) (pam_cons (mv 2) (pam_cons (mv 3) (pam_nil)))))))) (pssm_one (psm_if (ptm_cmp (op_eq2 hr.units) opEq_ok (nomark _) (mv 1) (pem_str)) (pssm_cons (psm_asg (mv 2) (pgm_seq rfl (pgsm_cons (gn 5 sc_Evaluation_do_task.nd) (pgsm_cons (gn 6 sc_Evaluation_do_task.nd) (pgsm_cons (gn 6 sc_Evaluation_do_task.nd) (pgsm_cons (gn 7 sc_Evaluation_do_task.nd) (pgsm_cons (gn 6 sc_Evaluation_do_task.nd) (pgsm_nil)))))))) (pssm_cons (ss 4 sc_Evaluation_do_task.nd (pem_kix T.k_ENDS (by rfl) (mv 5) (fun _ _ => rfl))) (pssm_one (psm_expr (pem_callV (tab := tab_Evaluation_do_task_action) (mv 4) (tab_cons ⟨T.a__begin_kids, T.f__begin_kids, _, T.n__begin_kids, k__begin_kids, T.d__begin_kids.fn.kp, T.d__begin_kids.bi⟩ (tab_cons ⟨T.a__begin_literal, T.f__begin_literal, _, T.n__begin_literal, k__begin_literal, T.d__begin_literal.fn.kp, T.d__begin_literal.bi⟩ (tab_cons ⟨T.a__begin_name, T.f__begin_name, _, T.n__begin_name, k__begin_name, T.d__begin_name.fn.kp, T.d__begin_name.bi⟩ (tab_cons ⟨T.a__begin_fn, T.f__begin_fn, _, T.n__begin_fn, k__begin_fn, T.d__begin_fn.fn.kp, T.d__begin_fn.bi⟩ (tab_cons ⟨T.a__begin_handle, T.f__begin_handle, _, T.n__begin_handle, k__begin_handle, T.d__begin_handle.fn.kp, T.d__begin_handle.bi⟩ (tab_cons ⟨T.a__end_call, T.f__end_call, _, T.n__end_call, k__end_call, T.d__end_call.fn.kp, T.d__end_call.bi⟩ (tab_cons ⟨T.a__end_make, T.f__end_make, _, T.n__end_make, k__end_make, T.d__end_make.fn.kp, T.d__end_make.bi⟩ (tab_cons ⟨T.a__end_tuple, T.f__end_tuple, _, T.n__end_tuple, k__end_tuple, T.d__end_tuple.fn.kp, T.d__end_tuple.bi⟩ (tab_cons ⟨T.a__end_get, T.f__end_get, _, T.n__end_get, k__end_get, T.d__end_get.fn.kp, T.d__end_get.bi⟩ (tab_cons ⟨T.a__end_let, T.f__end_let, _, T.n__end_let, k__end_let, T.d__end_let.fn.kp, T.d__end_let.bi⟩ (tab_cons ⟨T.a__end_if, T.f__end_if, _, T.n__end_if, k__end_if, T.d__end_if.fn.kp, T.d__end_if.bi⟩ (tab_cons ⟨T.a__end_case, T.f__end_case, _, T.n__end_case, k__end_case, T.d__end_case.fn.kp, T.d__end_case.bi⟩ (tab_cons ⟨T.a__end_apply, T.f__end_apply, _, T.n__end_apply, k__end_apply, T.d__end_apply.fn.kp, T.d__end_apply.bi⟩ (tab_cons ⟨T.a__end_ref, T.f__end_ref, _, T.n__end_ref, k__end_ref, T.d__end_ref.fn.kp, T.d__end_ref.bi⟩ (tab_cons ⟨T.a__end_deref, T.f__end_deref, _, T.n__end_deref, k__end_deref, T.d__end_deref.fn.kp, T.d__end_deref.bi⟩ (tab_cons ⟨T.a__end_set, T.f__end_set, _, T.n__end_set, k__end_set, T.d__end_set.fn.kp, T.d__end_set.bi⟩ (tab_cons ⟨T.a__end_array, T.f__end_array, _, T.n__end_array, k__end_array, T.d__end_array.fn.kp, T.d__end_array.bi⟩ (tab_cons ⟨T.a__end_at, T.f__end_at, _, T.n__end_at, k__end_at, T.d__end_at.fn.kp, T.d__end_at.bi⟩ (tab_cons ⟨T.a__end_put, T.f__end_put, _, T.n__end_put, k__end_put, T.d__end_put.fn.kp, T.d__end_put.bi⟩ (tab_cons ⟨T.a__end_len, T.f__end_len, _, T.n__end_len, k__end_len, T.d__end_len.fn.kp, T.d__end_len.bi⟩ (tab_cons ⟨T.a__end_raise, T.f__end_raise, _, T.n__end_raise, k__end_raise, T.d__end_raise.fn.kp, T.d__end_raise.bi⟩ (tab_cons ⟨T.a__end_print, T.f__end_print, _, T.n__end_print, k__end_print, T.d__end_print.fn.kp, T.d__end_print.bi⟩ (tab_cons ⟨T.a__end_seq, T.f__end_seq, _, T.n__end_seq, k__end_seq, T.d__end_seq.fn.kp, T.d__end_seq.bi⟩ (tab_cons ⟨T.a__end_operation, T.f__end_operation, _, T.n__end_operation, k__end_operation, T.d__end_operation.fn.kp, T.d__end_operation.bi⟩ (tab_nil))))))))))))))))))))))))) hr tk (pam_cons (mv 0) (pam_cons (mv 2) (pam_cons (mv 3) (pam_cons (pem_meth T.cls_Evaluation k_Evaluation_take T.d_Evaluation_take hr tk (mv 0) (pam_cons (pem_kget2 T.k_EARLY (by rfl) (mv 5) (pem_callB call_len2 fLen_ok (by rfl) T.z_len (by decide +kernel) (pam_cons (mv 7) (pam_nil))) ⟨rfl, rfl, rfl, rfl⟩) (pam_nil))) (pam_nil)))))))))) (pssm_nil)))))
theorem ok_Evaluation_evaluate (T : Top w K mg) (k_Outcome_end_stuck : FnM P w K mg base 5 T.a_Outcome_end_stuck T.f_Outcome_end_stuck ["self"] m_Outcome_end_stuck) (k_Evaluation_begin : FnM P w K mg base 5 T.a_Evaluation_begin T.f_Evaluation_begin ["self", "expression", "scope"] m_Evaluation_begin) (k__bound : FnM P w K mg base 5 T.a__bound T.f__bound ["parameters", "values"] m__bound) (k_wrap : FnM P w K mg base 5 T.a_wrap T.f_wrap ["number"] m_wrap) (k_Evaluation_do_task : FnM P w K mg base 5 T.a_Evaluation_do_task T.f_Evaluation_do_task ["self"] m_Evaluation_do_task) : FnM P w K mg base 6 T.a_Evaluation_evaluate T.f_Evaluation_evaluate ["self", "arguments"] m_Evaluation_evaluate := by
  refine fnM_body T.d_Evaluation_evaluate.fn sc_Evaluation_evaluate hg_fn fun cdv A outer s H E hr tk hp => ?_
  exact pssm_cons (psm_asg (pem_ix (ix_all2 hr.units) opIx_ok (pem_fld (fldT_cons T.cls_Evaluation fldT_nil) (mv 0)) (pem_un un_neg opNeg_ok (pem_int)) (fun _ _ => rfl)) (pgm_seq rfl (pgsm_cons (gn 2 sc_Evaluation_evaluate.nd) (pgsm_cons (gn 3 sc_Evaluation_evaluate.nd) (pgsm_cons (gn 2 sc_Evaluation_evaluate.nd) (pgsm_cons (gn 4 sc_Evaluation_evaluate.nd) (pgsm_nil))))))) (pssm_cons (psm_if (ptm_cmp (op_ne2 hr.units) opNe_ok (nomark _) (pem_callB call_len2 fLen_ok (by rfl) T.z_len (by decide +kernel) (pam_cons (mv 1) (pam_nil))) (pem_callB call_len2 fLen_ok (by rfl) T.z_len (by decide +kernel) (pam_cons (mv 3) (pam_nil)))) (pssm_cons (psm_expr (pem_meth0 T.cls_Outcome k_Outcome_end_stuck T.d_Outcome_end_stuck hr tk (pem_fld (fldT_cons T.cls_Evaluation fldT_nil) (mv 0)))) (pssm_one (psm_retN))) (pssm_nil)) (pssm_cons (psm_expr (pem_meth T.cls_Evaluation k_Evaluation_begin T.d_Evaluation_begin hr tk (mv 0) (pam_cons (mv 4) (pam_cons (pem_call k__bound T.d__bound hr tk (by rfl) (pam_cons (mv 3) (pam_cons (pem_lc (own := [("argument", 5)]) rfl sc_Evaluation_evaluate.nd (pim_src (mv 1)) (blkOk_by (N := ["self", "arguments", "_", "parameters", "body", "argument"]) (sc := defScope s_Evaluation_evaluate) (by decide +kernel)) (by decide) (fun _ _ _ _ _ => gn 5 sc_Evaluation_evaluate.nd) (fun _ _ _ _ _ => ptsm_nil) (fun _ _ _ _ _ => pem_call k_wrap T.d_wrap hr takesW0 (by rfl) (pam_cons (mv 5) (pam_nil)))) (pam_nil)))) (pam_nil))))) (pssm_cons (psm_while hp (ptm_w (pwm_and (ptm_val (pem_fld (fldT_cons T.cls_Evaluation fldT_nil) (mv 0))) (pwm_and1 (ptm_cmp op_isN opIsN_ok (nomark _) (pem_fld (fldT_cons T.cls_Outcome fldT_nil) (pem_fld (fldT_cons T.cls_Evaluation fldT_nil) (mv 0))) (pem_non))))) (pssm_one (psm_expr (pem_meth0 T.cls_Evaluation k_Evaluation_do_task T.d_Evaluation_do_task hr tk (mv 0))))) (pssm_one (psm_if (ptm_cmp op_isN opIsN_ok (nomark _) (pem_fld (fldT_cons T.cls_Outcome fldT_nil) (pem_fld (fldT_cons T.cls_Evaluation fldT_nil) (mv 0))) (pem_non)) (pssm_one (psm_fld (fldT_cons T.cls_Outcome fldT_nil) (pem_fld (fldT_cons T.cls_Evaluation fldT_nil) (mv 0)) (pem_ix (ix_all2 hr.units) opIx_ok (pem_fld (fldT_cons T.cls_Evaluation fldT_nil) (mv 0)) (pem_int) (fun _ _ => rfl)))) (pssm_nil))))))
theorem ok_Outcome_result (T : Top w K mg) : FnM P w K mg base 1 T.a_Outcome_result T.f_Outcome_result ["self"] m_Outcome_result := by
  refine fnM_body T.d_Outcome_result.fn sc_Outcome_result hg_fn fun cdv A outer s H E hr tk hp => ?_
  exact pssm_one (psm_ret (pem_tup (pam_cons (pem_fld (fldT_cons T.cls_Outcome fldT_nil) (mv 0)) (pam_cons (pem_fld (fldT_cons T.cls_Outcome fldT_nil) (mv 0)) (pam_cons (pem_callTy call_tuple_of fTuple_ok (by rfl) T.z_tuple (by decide +kernel) (pam_cons (pem_fld (fldT_cons T.cls_Outcome fldT_nil) (mv 0)) (pam_nil))) (pam_cons (pem_fld (fldT_cons T.cls_Outcome fldT_nil) (mv 0)) (pam_nil)))))))
theorem ok_run (T : Top w K mg) (k_Evaluation_evaluate : FnM P w K mg base 6 T.a_Evaluation_evaluate T.f_Evaluation_evaluate ["self", "arguments"] m_Evaluation_evaluate) (k_Outcome_result : FnM P w K mg base 6 T.a_Outcome_result T.f_Outcome_result ["self"] m_Outcome_result) (k_Evaluation___init__ : FnM P w K mg base 5 T.a_Evaluation___init__ T.f_Evaluation___init__ ["self", "program", "fuel"] m_Evaluation___init__) : FnM P w K mg base 7 T.a_run T.f_run ["program", "arguments", "fuel"] m_run := by
  refine fnM_bodyD T.d_run.fn sc_run hg_fn fun cdv A outer s H E hr tk hp => ?_
  exact pssm_cons (ss 3 sc_run.nd (pem_make (qn := "") (st := .Pass ⟨0, 0, 0, 0⟩) T.cls_Evaluation T.mk_Evaluation k_Evaluation___init__ T.d_Evaluation___init__.bi hr tk (by rfl) T.mg_Evaluation (pam_cons (mv 0) (pam_cons (mv 2) (pam_nil))))) (pssm_cons (psm_expr (pem_meth T.cls_Evaluation k_Evaluation_evaluate T.d_Evaluation_evaluate hr tk (mv 3) (pam_cons (mv 1) (pam_nil)))) (pssm_one (psm_ret (pem_meth0 T.cls_Outcome k_Outcome_result T.d_Outcome_result hr tk (pem_fld (fldT_cons T.cls_Evaluation fldT_nil) (mv 3))))))
theorem ok_law (T : Top w K mg) (k__law_number : FnM P w K mg base 7 T.a__law_number T.f__law_number ["cell"] m__law_number) (k__law_cell : FnM P w K mg base 7 T.a__law_cell T.f__law_cell ["script", "at"] m__law_cell) (k__law_program : FnM P w K mg base 7 T.a__law_program T.f__law_program ["op"] m__law_program) (k__law_right : FnM P w K mg base 7 T.a__law_right T.f__law_right ["op", "first", "second", "actual"] m__law_right) (k_run : FnM P w K mg base 7 T.a_run T.f_run ["program", "arguments", "fuel"] m_run) : FnM P w K mg base 8 T.a_law T.f_law ["script"] m_law := by
  refine fnM_body T.d_law.fn sc_law hg_fn fun cdv A outer s H E hr tk hp => ?_
  exact pssm_cons (ss 1 sc_law.nd (pem_call k__law_number T.d__law_number hr tk (by rfl) (pam_cons (pem_call k__law_cell T.d__law_cell hr tk (by rfl) (pam_cons (mv 0) (pam_cons (pem_int) (pam_nil)))) (pam_nil)))) (pssm_cons (ss 2 sc_law.nd (pem_call k__law_number T.d__law_number hr tk (by rfl) (pam_cons (pem_call k__law_cell T.d__law_cell hr tk (by rfl) (pam_cons (mv 0) (pam_cons (pem_int) (pam_nil)))) (pam_nil)))) (pssm_cons (ss 3 sc_law.nd (pem_ix (ix_all2 hr.units) opIx_ok (pem_lst (pam_cons (pem_str) (pam_cons (pem_str) (pam_cons (pem_str) (pam_cons (pem_str) (pam_cons (pem_str) (pam_cons (pem_str) (pam_cons (pem_str) (pam_nil))))))))) (pem_op op_mod opMod_ok (pem_call k__law_cell T.d__law_cell hr tk (by rfl) (pam_cons (mv 0) (pam_cons (pem_int) (pam_nil)))) (pem_int)) (fun _ _ => rfl))) (pssm_cons (ss 4 sc_law.nd (pem_op op_mod opMod_ok (pem_op op_fdivW opDiv_ok (pem_call k__law_cell T.d__law_cell hr tk (by rfl) (pam_cons (mv 0) (pam_cons (pem_int) (pam_nil)))) (pem_int)) (pem_int))) (pssm_cons (ss 5 sc_law.nd (pem_call k__law_program T.d__law_program hr tk (by rfl) (pam_cons (mv 3) (pam_nil)))) (pssm_cons (psm_if (ptm_cmp (op_eq2 hr.units) opEq_ok (nomark _) (pem_op op_mod opMod_ok (pem_call k__law_cell T.d__law_cell hr tk (by rfl) (pam_cons (mv 0) (pam_cons (pem_int) (pam_nil)))) (pem_int)) (pem_int)) (pssm_one (ss 2 sc_law.nd (mv 1))) (pssm_nil)) (pssm_cons (ss 6 sc_law.nd (pem_lst (pam_cons (mv 1) (pam_cons (mv 2) (pam_nil))))) (pssm_cons (psm_if (ptm_not (ptm_val (pem_call k__law_right T.d__law_right hr tk (by rfl) (pam_cons (mv 3) (pam_cons (mv 1) (pam_cons (mv 2) (pam_cons (pem_callN (n := 2) (ks := ["fuel"]) k_run T.d_run hr tk (by rfl) (fun _ _ _ _ _ _ us ws h1 h2 => match us, ws, h1, h2 with | [_, _], [_], _, _ => rfl) (pam_cons (mv 5) (pam_cons (mv 6) (pam_nil))) (pkm_cons (mv 4) (pkm_nil))) (pam_nil)))))))) (pssm_one (psm_ret (pem_bl))) (pssm_nil)) (pssm_cons (psm_if (ptm_cmp (op_ne2 hr.units) opNe_ok (nomark _) (mv 6) (pem_lst (pam_cons (mv 1) (pam_cons (mv 2) (pam_nil))))) (pssm_one (psm_ret (pem_bl))) (pssm_nil)) (pssm_cons (psm_if (ptm_not (ptm_val (pem_call k__law_right T.d__law_right hr tk (by rfl) (pam_cons (mv 3) (pam_cons (mv 2) (pam_cons (mv 1) (pam_cons (pem_callN (n := 2) (ks := ["fuel"]) k_run T.d_run hr tk (by rfl) (fun _ _ _ _ _ _ us ws h1 h2 => match us, ws, h1, h2 with | [_, _], [_], _, _ => rfl) (pam_cons (mv 5) (pam_cons (pem_tup (pam_cons (mv 2) (pam_cons (mv 1) (pam_nil)))) (pam_nil))) (pkm_cons (mv 4) (pkm_nil))) (pam_nil)))))))) (pssm_one (psm_ret (pem_bl))) (pssm_nil)) (pssm_one (psm_ret (pem_call k__law_right T.d__law_right hr tk (by rfl) (pam_cons (mv 3) (pam_cons (mv 1) (pam_cons (mv 2) (pam_cons (pem_callD (dd := [(.int 200)]) k_run T.d_run hr tk (by rfl) (fun _ _ => .cons rep_int (.nil)) 2 (by simp) rfl (fun D _ _ _ _ _ us ks h1 h2 => match us, ks, h1, h2 with | [_, _], [_], _, _ => ⟨_, _, _, _, _, _, rfl, rfl, rfl⟩) (pam_cons (mv 5) (pam_cons (mv 6) (pam_nil)))) (pam_nil)))))))))))))))))
/-- all of them -/
theorem ok_all (T : Top w K mg) : FnM P w K mg base 8 T.a_law T.f_law ["script"] m_law := by
  have h__law_number := ok__law_number (P := P) (w := w) (base := base) T 
  have h__law_program := ok__law_program (P := P) (w := w) (base := base) T 
  have h__law_wrap := ok__law_wrap (P := P) (w := w) (base := base) T 
  have h__law_due := ok__law_due (P := P) (w := w) (base := base) T (h__law_wrap.mono (by decide))
  have h__law_right := ok__law_right (P := P) (w := w) (base := base) T (h__law_wrap.mono (by decide)) (h__law_due.mono (by decide))
  have h__law_cell := ok__law_cell (P := P) (w := w) (base := base) T 
  have h_Outcome___init__ := ok_Outcome___init__ (P := P) (w := w) (base := base) T 
  have h_Evaluation___init__ := ok_Evaluation___init__ (P := P) (w := w) (base := base) T (h_Outcome___init__.mono (by decide))
  have h_Evaluation_begin := ok_Evaluation_begin (P := P) (w := w) (base := base) T 
  have h_Outcome_end_stuck := ok_Outcome_end_stuck (P := P) (w := w) (base := base) T 
  have h__bound := ok__bound (P := P) (w := w) (base := base) T 
  have h__begin_kids := ok__begin_kids (P := P) (w := w) (base := base) T (h_Evaluation_begin.mono (by decide))
  have h_Evaluation_give := ok_Evaluation_give (P := P) (w := w) (base := base) T 
  have h__begin_literal := ok__begin_literal (P := P) (w := w) (base := base) T (h_Evaluation_give.mono (by decide))
  have h__begin_name := ok__begin_name (P := P) (w := w) (base := base) T (h_Evaluation_give.mono (by decide))
  have h__begin_fn := ok__begin_fn (P := P) (w := w) (base := base) T (h_Evaluation_give.mono (by decide))
  have h__begin_handle := ok__begin_handle (P := P) (w := w) (base := base) T (h_Evaluation_begin.mono (by decide))
  have h_Outcome_spend := ok_Outcome_spend (P := P) (w := w) (base := base) T 
  have h__end_call := ok__end_call (P := P) (w := w) (base := base) T (h_Outcome_spend.mono (by decide)) (h_Evaluation_begin.mono (by decide)) (h__bound.mono (by decide))
  have h__end_make := ok__end_make (P := P) (w := w) (base := base) T (h_Evaluation_give.mono (by decide))
  have h__end_tuple := ok__end_tuple (P := P) (w := w) (base := base) T (h_Evaluation_give.mono (by decide))
  have h__end_get := ok__end_get (P := P) (w := w) (base := base) T (h_Evaluation_give.mono (by decide))
  have h_inner_scope := ok_inner_scope (P := P) (w := w) (base := base) T 
  have h__end_let := ok__end_let (P := P) (w := w) (base := base) T (h_Evaluation_begin.mono (by decide)) (h_inner_scope.mono (by decide))
  have h__end_if := ok__end_if (P := P) (w := w) (base := base) T (h_Evaluation_begin.mono (by decide))
  have h__end_case := ok__end_case (P := P) (w := w) (base := base) T (h_Evaluation_begin.mono (by decide)) (h_inner_scope.mono (by decide))
  have h__end_apply := ok__end_apply (P := P) (w := w) (base := base) T (h_Outcome_spend.mono (by decide)) (h_Evaluation_begin.mono (by decide)) (h_inner_scope.mono (by decide))
  have h__end_ref := ok__end_ref (P := P) (w := w) (base := base) T (h_Evaluation_give.mono (by decide))
  have h__end_deref := ok__end_deref (P := P) (w := w) (base := base) T (h_Evaluation_give.mono (by decide))
  have h__end_set := ok__end_set (P := P) (w := w) (base := base) T (h_Evaluation_give.mono (by decide))
  have h_Evaluation_throw := ok_Evaluation_throw (P := P) (w := w) (base := base) T (h_Evaluation_begin.mono (by decide)) (h_inner_scope.mono (by decide))
  have h__end_array := ok__end_array (P := P) (w := w) (base := base) T (h_Evaluation_throw.mono (by decide)) (h_Outcome_spend.mono (by decide)) (h_Evaluation_give.mono (by decide))
  have h__end_at := ok__end_at (P := P) (w := w) (base := base) T (h_Evaluation_throw.mono (by decide)) (h_Evaluation_give.mono (by decide))
  have h__end_put := ok__end_put (P := P) (w := w) (base := base) T (h_Evaluation_throw.mono (by decide)) (h_Evaluation_give.mono (by decide))
  have h__end_len := ok__end_len (P := P) (w := w) (base := base) T (h_Evaluation_give.mono (by decide))
  have h__end_raise := ok__end_raise (P := P) (w := w) (base := base) T (h_Evaluation_throw.mono (by decide))
  have h__end_print := ok__end_print (P := P) (w := w) (base := base) T (h_Evaluation_give.mono (by decide))
  have h__end_seq := ok__end_seq (P := P) (w := w) (base := base) T (h_Evaluation_give.mono (by decide))
  have h_divides_by_zero := ok_divides_by_zero (P := P) (w := w) (base := base) T 
  have h_wrap := ok_wrap (P := P) (w := w) (base := base) T 
  have h__add := ok__add (P := P) (w := w) (base := base) T (h_wrap.mono (by decide))
  have h__sub := ok__sub (P := P) (w := w) (base := base) T (h_wrap.mono (by decide))
  have h__mul := ok__mul (P := P) (w := w) (base := base) T (h_wrap.mono (by decide))
  have h__quotient := ok__quotient (P := P) (w := w) (base := base) T 
  have h__div := ok__div (P := P) (w := w) (base := base) T (h_wrap.mono (by decide)) (h__quotient.mono (by decide))
  have h__rem := ok__rem (P := P) (w := w) (base := base) T (h__quotient.mono (by decide))
  have h__equal := ok__equal (P := P) (w := w) (base := base) T 
  have h__less := ok__less (P := P) (w := w) (base := base) T 
  have h_compute := ok_compute (P := P) (w := w) (base := base) T (h__add.mono (by decide)) (h__sub.mono (by decide)) (h__mul.mono (by decide)) (h__div.mono (by decide)) (h__rem.mono (by decide)) (h__equal.mono (by decide)) (h__less.mono (by decide))
  have h__end_operation := ok__end_operation (P := P) (w := w) (base := base) T (h_divides_by_zero.mono (by decide)) (h_Evaluation_throw.mono (by decide)) (h_Evaluation_give.mono (by decide)) (h_compute.mono (by decide))
  have h_Evaluation_take := ok_Evaluation_take (P := P) (w := w) (base := base) T 
  have h_Evaluation_do_task := ok_Evaluation_do_task (P := P) (w := w) (base := base) T (h__begin_kids.mono (by decide)) (h__begin_literal.mono (by decide)) (h__begin_name.mono (by decide)) (h__begin_fn.mono (by decide)) (h__begin_handle.mono (by decide)) (h__end_call.mono (by decide)) (h__end_make.mono (by decide)) (h__end_tuple.mono (by decide)) (h__end_get.mono (by decide)) (h__end_let.mono (by decide)) (h__end_if.mono (by decide)) (h__end_case.mono (by decide)) (h__end_apply.mono (by decide)) (h__end_ref.mono (by decide)) (h__end_deref.mono (by decide)) (h__end_set.mono (by decide)) (h__end_array.mono (by decide)) (h__end_at.mono (by decide)) (h__end_put.mono (by decide)) (h__end_len.mono (by decide)) (h__end_raise.mono (by decide)) (h__end_print.mono (by decide)) (h__end_seq.mono (by decide)) (h__end_operation.mono (by decide)) (h_Evaluation_take.mono (by decide))
  have h_Evaluation_evaluate := ok_Evaluation_evaluate (P := P) (w := w) (base := base) T (h_Outcome_end_stuck.mono (by decide)) (h_Evaluation_begin.mono (by decide)) (h__bound.mono (by decide)) (h_wrap.mono (by decide)) (h_Evaluation_do_task.mono (by decide))
  have h_Outcome_result := ok_Outcome_result (P := P) (w := w) (base := base) T 
  have h_run := ok_run (P := P) (w := w) (base := base) T (h_Evaluation_evaluate.mono (by decide)) (h_Outcome_result.mono (by decide)) (h_Evaluation___init__.mono (by decide))
  have h_law := ok_law (P := P) (w := w) (base := base) T (h__law_number.mono (by decide)) (h__law_cell.mono (by decide)) (h__law_program.mono (by decide)) (h__law_right.mono (by decide)) (h_run.mono (by decide))
  exact h_law
end
section
set_option maxHeartbeats 2000000 in
theorem law_facts {l : PySem.W.OpenLaw} {w : World} {K : PySem.W.Frag} {h : Heap} {mg : Str → Option Value} {fa : Addr} (X : K.In h) (G : h.Ns mainGlobals mg) (hfa : mg "law" = some (.ref fa))
    {a_cls_Outcome : Addr} (ac_Outcome : PySem.W.nsIn K mainGlobals "Outcome" = some (some (.ref a_cls_Outcome)))
    (pg_Outcome : PySem.W.plainGet K a_cls_Outcome Str.empty = true) (hd_Outcome : PySem.W.hasDictIn K a_cls_Outcome = true) (po_Outcome : PySem.W.plainOver K a_cls_Outcome = true) (sa_Outcome : PySem.W.findIn K (.ref a_cls_Outcome) "__setattr__" = some (some (.builtin "object.__setattr__")))
    (no_Outcome_fault : PySem.W.findIn K (.ref a_cls_Outcome) "fault" = some none)
    (no_Outcome_fuel : PySem.W.findIn K (.ref a_cls_Outcome) "fuel" = some none)
    (no_Outcome_outs : PySem.W.findIn K (.ref a_cls_Outcome) "outs" = some none)
    (no_Outcome_returned : PySem.W.findIn K (.ref a_cls_Outcome) "returned" = some none)
    (no_Outcome_ticks : PySem.W.findIn K (.ref a_cls_Outcome) "ticks" = some none)
    (mk_Outcome : PySem.W.makesIn K a_cls_Outcome = true) (kc_Outcome : PySem.W.keepIn K (.ref a_cls_Outcome) = true)
    {a_cls_Evaluation : Addr} (ac_Evaluation : PySem.W.nsIn K mainGlobals "Evaluation" = some (some (.ref a_cls_Evaluation)))
    (pg_Evaluation : PySem.W.plainGet K a_cls_Evaluation Str.empty = true) (hd_Evaluation : PySem.W.hasDictIn K a_cls_Evaluation = true) (po_Evaluation : PySem.W.plainOver K a_cls_Evaluation = true) (sa_Evaluation : PySem.W.findIn K (.ref a_cls_Evaluation) "__setattr__" = some (some (.builtin "object.__setattr__")))
    (no_Evaluation_done : PySem.W.findIn K (.ref a_cls_Evaluation) "done" = some none)
    (no_Evaluation_exceptions : PySem.W.findIn K (.ref a_cls_Evaluation) "exceptions" = some none)
    (no_Evaluation_functions : PySem.W.findIn K (.ref a_cls_Evaluation) "functions" = some none)
    (no_Evaluation_outcome : PySem.W.findIn K (.ref a_cls_Evaluation) "outcome" = some none)
    (no_Evaluation_tasks : PySem.W.findIn K (.ref a_cls_Evaluation) "tasks" = some none)
    (mk_Evaluation : PySem.W.makesIn K a_cls_Evaluation = true) (kc_Evaluation : PySem.W.keepIn K (.ref a_cls_Evaluation) = true)
    {f0 : Addr} {od0 an0 : Option Addr} {sl0 : Array (Option Value)} {oc0 kV0 dc0 pm0 cd0 ct0 : Value}
    (a0 : PySem.W.nsIn K mainGlobals "_law_number" = some (some (.ref f0))) (l0 : K.lookup f0 = some ⟨oc0, od0, .func (PySem.W.fnOf "_law_number" "_law_number" (defArgs s__law_number) (defBody s__law_number) (defScope s__law_number) .none kV0 dc0 pm0 an0 cd0 ct0), sl0⟩) (c0 : PySem.W.codeIn K cd0 "_law_number" = true) (k0 : PySem.W.keepIn K (.ref f0) = true)
    {f1 : Addr} {od1 an1 : Option Addr} {sl1 : Array (Option Value)} {oc1 kV1 dc1 pm1 cd1 ct1 : Value}
    (a1 : PySem.W.nsIn K mainGlobals "_law_program" = some (some (.ref f1))) (l1 : K.lookup f1 = some ⟨oc1, od1, .func (PySem.W.fnOf "_law_program" "_law_program" (defArgs s__law_program) (defBody s__law_program) (defScope s__law_program) .none kV1 dc1 pm1 an1 cd1 ct1), sl1⟩) (c1 : PySem.W.codeIn K cd1 "_law_program" = true) (k1 : PySem.W.keepIn K (.ref f1) = true)
    {f2 : Addr} {od2 an2 : Option Addr} {sl2 : Array (Option Value)} {oc2 kV2 dc2 pm2 cd2 ct2 : Value}
    (a2 : PySem.W.nsIn K mainGlobals "_law_wrap" = some (some (.ref f2))) (l2 : K.lookup f2 = some ⟨oc2, od2, .func (PySem.W.fnOf "_law_wrap" "_law_wrap" (defArgs s__law_wrap) (defBody s__law_wrap) (defScope s__law_wrap) .none kV2 dc2 pm2 an2 cd2 ct2), sl2⟩) (c2 : PySem.W.codeIn K cd2 "_law_wrap" = true) (k2 : PySem.W.keepIn K (.ref f2) = true)
    {f3 : Addr} {od3 an3 : Option Addr} {sl3 : Array (Option Value)} {oc3 kV3 dc3 pm3 cd3 ct3 : Value}
    (a3 : PySem.W.nsIn K mainGlobals "_law_due" = some (some (.ref f3))) (l3 : K.lookup f3 = some ⟨oc3, od3, .func (PySem.W.fnOf "_law_due" "_law_due" (defArgs s__law_due) (defBody s__law_due) (defScope s__law_due) .none kV3 dc3 pm3 an3 cd3 ct3), sl3⟩) (c3 : PySem.W.codeIn K cd3 "_law_due" = true) (k3 : PySem.W.keepIn K (.ref f3) = true)
    {f4 : Addr} {od4 an4 : Option Addr} {sl4 : Array (Option Value)} {oc4 kV4 dc4 pm4 cd4 ct4 : Value}
    (a4 : PySem.W.nsIn K mainGlobals "_law_right" = some (some (.ref f4))) (l4 : K.lookup f4 = some ⟨oc4, od4, .func (PySem.W.fnOf "_law_right" "_law_right" (defArgs s__law_right) (defBody s__law_right) (defScope s__law_right) .none kV4 dc4 pm4 an4 cd4 ct4), sl4⟩) (c4 : PySem.W.codeIn K cd4 "_law_right" = true) (k4 : PySem.W.keepIn K (.ref f4) = true)
    {f5 : Addr} {od5 an5 : Option Addr} {sl5 : Array (Option Value)} {oc5 kV5 dc5 pm5 cd5 ct5 : Value}
    (a5 : PySem.W.nsIn K mainGlobals "_law_cell" = some (some (.ref f5))) (l5 : K.lookup f5 = some ⟨oc5, od5, .func (PySem.W.fnOf "_law_cell" "_law_cell" (defArgs s__law_cell) (defBody s__law_cell) (defScope s__law_cell) .none kV5 dc5 pm5 an5 cd5 ct5), sl5⟩) (c5 : PySem.W.codeIn K cd5 "_law_cell" = true) (k5 : PySem.W.keepIn K (.ref f5) = true)
    {f6 : Addr} {od6 an6 : Option Addr} {sl6 : Array (Option Value)} {oc6 kV6 dc6 pm6 cd6 ct6 : Value}
    (a6 : PySem.W.findIn K (.ref a_cls_Outcome) "__init__" = some (some (.ref f6))) (j6 : PySem.W.isFn K (.ref f6) = true) (l6 : K.lookup f6 = some ⟨oc6, od6, .func (PySem.W.fnOf "__init__" "Outcome.__init__" (defArgs s_Outcome___init__) (defBody s_Outcome___init__) (defScope s_Outcome___init__) .none kV6 dc6 pm6 an6 cd6 ct6), sl6⟩) (c6 : PySem.W.codeIn K cd6 "Outcome.__init__" = true) (k6 : PySem.W.keepIn K (.ref f6) = true)
    {f7 : Addr} {od7 an7 : Option Addr} {sl7 : Array (Option Value)} {oc7 kV7 dc7 pm7 cd7 ct7 : Value}
    (a7 : PySem.W.findIn K (.ref a_cls_Evaluation) "__init__" = some (some (.ref f7))) (j7 : PySem.W.isFn K (.ref f7) = true) (l7 : K.lookup f7 = some ⟨oc7, od7, .func (PySem.W.fnOf "__init__" "Evaluation.__init__" (defArgs s_Evaluation___init__) (defBody s_Evaluation___init__) (defScope s_Evaluation___init__) .none kV7 dc7 pm7 an7 cd7 ct7), sl7⟩) (c7 : PySem.W.codeIn K cd7 "Evaluation.__init__" = true) (k7 : PySem.W.keepIn K (.ref f7) = true)
    {f8 : Addr} {od8 an8 : Option Addr} {sl8 : Array (Option Value)} {oc8 kV8 dc8 pm8 cd8 ct8 : Value}
    (a8 : PySem.W.findIn K (.ref a_cls_Evaluation) "begin" = some (some (.ref f8))) (j8 : PySem.W.isFn K (.ref f8) = true) (l8 : K.lookup f8 = some ⟨oc8, od8, .func (PySem.W.fnOf "begin" "Evaluation.begin" (defArgs s_Evaluation_begin) (defBody s_Evaluation_begin) (defScope s_Evaluation_begin) .none kV8 dc8 pm8 an8 cd8 ct8), sl8⟩) (c8 : PySem.W.codeIn K cd8 "Evaluation.begin" = true) (k8 : PySem.W.keepIn K (.ref f8) = true)
    {f9 : Addr} {od9 an9 : Option Addr} {sl9 : Array (Option Value)} {oc9 kV9 dc9 pm9 cd9 ct9 : Value}
    (a9 : PySem.W.findIn K (.ref a_cls_Outcome) "end_stuck" = some (some (.ref f9))) (j9 : PySem.W.isFn K (.ref f9) = true) (l9 : K.lookup f9 = some ⟨oc9, od9, .func (PySem.W.fnOf "end_stuck" "Outcome.end_stuck" (defArgs s_Outcome_end_stuck) (defBody s_Outcome_end_stuck) (defScope s_Outcome_end_stuck) .none kV9 dc9 pm9 an9 cd9 ct9), sl9⟩) (c9 : PySem.W.codeIn K cd9 "Outcome.end_stuck" = true) (k9 : PySem.W.keepIn K (.ref f9) = true)
    {f10 : Addr} {od10 an10 : Option Addr} {sl10 : Array (Option Value)} {oc10 kV10 dc10 pm10 cd10 ct10 : Value}
    (a10 : PySem.W.nsIn K mainGlobals "_bound" = some (some (.ref f10))) (l10 : K.lookup f10 = some ⟨oc10, od10, .func (PySem.W.fnOf "_bound" "_bound" (defArgs s__bound) (defBody s__bound) (defScope s__bound) .none kV10 dc10 pm10 an10 cd10 ct10), sl10⟩) (c10 : PySem.W.codeIn K cd10 "_bound" = true) (k10 : PySem.W.keepIn K (.ref f10) = true)
    {f11 : Addr} {od11 an11 : Option Addr} {sl11 : Array (Option Value)} {oc11 kV11 dc11 pm11 cd11 ct11 : Value}
    (a11 : PySem.W.nsIn K mainGlobals "_begin_kids" = some (some (.ref f11))) (l11 : K.lookup f11 = some ⟨oc11, od11, .func (PySem.W.fnOf "_begin_kids" "_begin_kids" (defArgs s__begin_kids) (defBody s__begin_kids) (defScope s__begin_kids) .none kV11 dc11 pm11 an11 cd11 ct11), sl11⟩) (c11 : PySem.W.codeIn K cd11 "_begin_kids" = true) (k11 : PySem.W.keepIn K (.ref f11) = true)
    {f12 : Addr} {od12 an12 : Option Addr} {sl12 : Array (Option Value)} {oc12 kV12 dc12 pm12 cd12 ct12 : Value}
    (a12 : PySem.W.findIn K (.ref a_cls_Evaluation) "give" = some (some (.ref f12))) (j12 : PySem.W.isFn K (.ref f12) = true) (l12 : K.lookup f12 = some ⟨oc12, od12, .func (PySem.W.fnOf "give" "Evaluation.give" (defArgs s_Evaluation_give) (defBody s_Evaluation_give) (defScope s_Evaluation_give) .none kV12 dc12 pm12 an12 cd12 ct12), sl12⟩) (c12 : PySem.W.codeIn K cd12 "Evaluation.give" = true) (k12 : PySem.W.keepIn K (.ref f12) = true)
    {f13 : Addr} {od13 an13 : Option Addr} {sl13 : Array (Option Value)} {oc13 kV13 dc13 pm13 cd13 ct13 : Value}
    (a13 : PySem.W.nsIn K mainGlobals "_begin_literal" = some (some (.ref f13))) (l13 : K.lookup f13 = some ⟨oc13, od13, .func (PySem.W.fnOf "_begin_literal" "_begin_literal" (defArgs s__begin_literal) (defBody s__begin_literal) (defScope s__begin_literal) .none kV13 dc13 pm13 an13 cd13 ct13), sl13⟩) (c13 : PySem.W.codeIn K cd13 "_begin_literal" = true) (k13 : PySem.W.keepIn K (.ref f13) = true)
    {f14 : Addr} {od14 an14 : Option Addr} {sl14 : Array (Option Value)} {oc14 kV14 dc14 pm14 cd14 ct14 : Value}
    (a14 : PySem.W.nsIn K mainGlobals "_begin_name" = some (some (.ref f14))) (l14 : K.lookup f14 = some ⟨oc14, od14, .func (PySem.W.fnOf "_begin_name" "_begin_name" (defArgs s__begin_name) (defBody s__begin_name) (defScope s__begin_name) .none kV14 dc14 pm14 an14 cd14 ct14), sl14⟩) (c14 : PySem.W.codeIn K cd14 "_begin_name" = true) (k14 : PySem.W.keepIn K (.ref f14) = true)
    {f15 : Addr} {od15 an15 : Option Addr} {sl15 : Array (Option Value)} {oc15 kV15 dc15 pm15 cd15 ct15 : Value}
    (a15 : PySem.W.nsIn K mainGlobals "_begin_fn" = some (some (.ref f15))) (l15 : K.lookup f15 = some ⟨oc15, od15, .func (PySem.W.fnOf "_begin_fn" "_begin_fn" (defArgs s__begin_fn) (defBody s__begin_fn) (defScope s__begin_fn) .none kV15 dc15 pm15 an15 cd15 ct15), sl15⟩) (c15 : PySem.W.codeIn K cd15 "_begin_fn" = true) (k15 : PySem.W.keepIn K (.ref f15) = true)
    {f16 : Addr} {od16 an16 : Option Addr} {sl16 : Array (Option Value)} {oc16 kV16 dc16 pm16 cd16 ct16 : Value}
    (a16 : PySem.W.nsIn K mainGlobals "_begin_handle" = some (some (.ref f16))) (l16 : K.lookup f16 = some ⟨oc16, od16, .func (PySem.W.fnOf "_begin_handle" "_begin_handle" (defArgs s__begin_handle) (defBody s__begin_handle) (defScope s__begin_handle) .none kV16 dc16 pm16 an16 cd16 ct16), sl16⟩) (c16 : PySem.W.codeIn K cd16 "_begin_handle" = true) (k16 : PySem.W.keepIn K (.ref f16) = true)
    {f17 : Addr} {od17 an17 : Option Addr} {sl17 : Array (Option Value)} {oc17 kV17 dc17 pm17 cd17 ct17 : Value}
    (a17 : PySem.W.findIn K (.ref a_cls_Outcome) "spend" = some (some (.ref f17))) (j17 : PySem.W.isFn K (.ref f17) = true) (l17 : K.lookup f17 = some ⟨oc17, od17, .func (PySem.W.fnOf "spend" "Outcome.spend" (defArgs s_Outcome_spend) (defBody s_Outcome_spend) (defScope s_Outcome_spend) .none kV17 dc17 pm17 an17 cd17 ct17), sl17⟩) (c17 : PySem.W.codeIn K cd17 "Outcome.spend" = true) (k17 : PySem.W.keepIn K (.ref f17) = true)
    {f18 : Addr} {od18 an18 : Option Addr} {sl18 : Array (Option Value)} {oc18 kV18 dc18 pm18 cd18 ct18 : Value}
    (a18 : PySem.W.nsIn K mainGlobals "_end_call" = some (some (.ref f18))) (l18 : K.lookup f18 = some ⟨oc18, od18, .func (PySem.W.fnOf "_end_call" "_end_call" (defArgs s__end_call) (defBody s__end_call) (defScope s__end_call) .none kV18 dc18 pm18 an18 cd18 ct18), sl18⟩) (c18 : PySem.W.codeIn K cd18 "_end_call" = true) (k18 : PySem.W.keepIn K (.ref f18) = true)
    {f19 : Addr} {od19 an19 : Option Addr} {sl19 : Array (Option Value)} {oc19 kV19 dc19 pm19 cd19 ct19 : Value}
    (a19 : PySem.W.nsIn K mainGlobals "_end_make" = some (some (.ref f19))) (l19 : K.lookup f19 = some ⟨oc19, od19, .func (PySem.W.fnOf "_end_make" "_end_make" (defArgs s__end_make) (defBody s__end_make) (defScope s__end_make) .none kV19 dc19 pm19 an19 cd19 ct19), sl19⟩) (c19 : PySem.W.codeIn K cd19 "_end_make" = true) (k19 : PySem.W.keepIn K (.ref f19) = true)
    {f20 : Addr} {od20 an20 : Option Addr} {sl20 : Array (Option Value)} {oc20 kV20 dc20 pm20 cd20 ct20 : Value}
    (a20 : PySem.W.nsIn K mainGlobals "_end_tuple" = some (some (.ref f20))) (l20 : K.lookup f20 = some ⟨oc20, od20, .func (PySem.W.fnOf "_end_tuple" "_end_tuple" (defArgs s__end_tuple) (defBody s__end_tuple) (defScope s__end_tuple) .none kV20 dc20 pm20 an20 cd20 ct20), sl20⟩) (c20 : PySem.W.codeIn K cd20 "_end_tuple" = true) (k20 : PySem.W.keepIn K (.ref f20) = true)
    {f21 : Addr} {od21 an21 : Option Addr} {sl21 : Array (Option Value)} {oc21 kV21 dc21 pm21 cd21 ct21 : Value}
    (a21 : PySem.W.nsIn K mainGlobals "_end_get" = some (some (.ref f21))) (l21 : K.lookup f21 = some ⟨oc21, od21, .func (PySem.W.fnOf "_end_get" "_end_get" (defArgs s__end_get) (defBody s__end_get) (defScope s__end_get) .none kV21 dc21 pm21 an21 cd21 ct21), sl21⟩) (c21 : PySem.W.codeIn K cd21 "_end_get" = true) (k21 : PySem.W.keepIn K (.ref f21) = true)
    {f22 : Addr} {od22 an22 : Option Addr} {sl22 : Array (Option Value)} {oc22 kV22 dc22 pm22 cd22 ct22 : Value}
    (a22 : PySem.W.nsIn K mainGlobals "inner_scope" = some (some (.ref f22))) (l22 : K.lookup f22 = some ⟨oc22, od22, .func (PySem.W.fnOf "inner_scope" "inner_scope" (defArgs s_inner_scope) (defBody s_inner_scope) (defScope s_inner_scope) .none kV22 dc22 pm22 an22 cd22 ct22), sl22⟩) (c22 : PySem.W.codeIn K cd22 "inner_scope" = true) (k22 : PySem.W.keepIn K (.ref f22) = true)
    {f23 : Addr} {od23 an23 : Option Addr} {sl23 : Array (Option Value)} {oc23 kV23 dc23 pm23 cd23 ct23 : Value}
    (a23 : PySem.W.nsIn K mainGlobals "_end_let" = some (some (.ref f23))) (l23 : K.lookup f23 = some ⟨oc23, od23, .func (PySem.W.fnOf "_end_let" "_end_let" (defArgs s__end_let) (defBody s__end_let) (defScope s__end_let) .none kV23 dc23 pm23 an23 cd23 ct23), sl23⟩) (c23 : PySem.W.codeIn K cd23 "_end_let" = true) (k23 : PySem.W.keepIn K (.ref f23) = true)
    {f24 : Addr} {od24 an24 : Option Addr} {sl24 : Array (Option Value)} {oc24 kV24 dc24 pm24 cd24 ct24 : Value}
    (a24 : PySem.W.nsIn K mainGlobals "_end_if" = some (some (.ref f24))) (l24 : K.lookup f24 = some ⟨oc24, od24, .func (PySem.W.fnOf "_end_if" "_end_if" (defArgs s__end_if) (defBody s__end_if) (defScope s__end_if) .none kV24 dc24 pm24 an24 cd24 ct24), sl24⟩) (c24 : PySem.W.codeIn K cd24 "_end_if" = true) (k24 : PySem.W.keepIn K (.ref f24) = true)
    {f25 : Addr} {od25 an25 : Option Addr} {sl25 : Array (Option Value)} {oc25 kV25 dc25 pm25 cd25 ct25 : Value}
    (a25 : PySem.W.nsIn K mainGlobals "_end_case" = some (some (.ref f25))) (l25 : K.lookup f25 = some ⟨oc25, od25, .func (PySem.W.fnOf "_end_case" "_end_case" (defArgs s__end_case) (defBody s__end_case) (defScope s__end_case) .none kV25 dc25 pm25 an25 cd25 ct25), sl25⟩) (c25 : PySem.W.codeIn K cd25 "_end_case" = true) (k25 : PySem.W.keepIn K (.ref f25) = true)
    {f26 : Addr} {od26 an26 : Option Addr} {sl26 : Array (Option Value)} {oc26 kV26 dc26 pm26 cd26 ct26 : Value}
    (a26 : PySem.W.nsIn K mainGlobals "_end_apply" = some (some (.ref f26))) (l26 : K.lookup f26 = some ⟨oc26, od26, .func (PySem.W.fnOf "_end_apply" "_end_apply" (defArgs s__end_apply) (defBody s__end_apply) (defScope s__end_apply) .none kV26 dc26 pm26 an26 cd26 ct26), sl26⟩) (c26 : PySem.W.codeIn K cd26 "_end_apply" = true) (k26 : PySem.W.keepIn K (.ref f26) = true)
    {f27 : Addr} {od27 an27 : Option Addr} {sl27 : Array (Option Value)} {oc27 kV27 dc27 pm27 cd27 ct27 : Value}
    (a27 : PySem.W.nsIn K mainGlobals "_end_ref" = some (some (.ref f27))) (l27 : K.lookup f27 = some ⟨oc27, od27, .func (PySem.W.fnOf "_end_ref" "_end_ref" (defArgs s__end_ref) (defBody s__end_ref) (defScope s__end_ref) .none kV27 dc27 pm27 an27 cd27 ct27), sl27⟩) (c27 : PySem.W.codeIn K cd27 "_end_ref" = true) (k27 : PySem.W.keepIn K (.ref f27) = true)
    {f28 : Addr} {od28 an28 : Option Addr} {sl28 : Array (Option Value)} {oc28 kV28 dc28 pm28 cd28 ct28 : Value}
    (a28 : PySem.W.nsIn K mainGlobals "_end_deref" = some (some (.ref f28))) (l28 : K.lookup f28 = some ⟨oc28, od28, .func (PySem.W.fnOf "_end_deref" "_end_deref" (defArgs s__end_deref) (defBody s__end_deref) (defScope s__end_deref) .none kV28 dc28 pm28 an28 cd28 ct28), sl28⟩) (c28 : PySem.W.codeIn K cd28 "_end_deref" = true) (k28 : PySem.W.keepIn K (.ref f28) = true)
    {f29 : Addr} {od29 an29 : Option Addr} {sl29 : Array (Option Value)} {oc29 kV29 dc29 pm29 cd29 ct29 : Value}
    (a29 : PySem.W.nsIn K mainGlobals "_end_set" = some (some (.ref f29))) (l29 : K.lookup f29 = some ⟨oc29, od29, .func (PySem.W.fnOf "_end_set" "_end_set" (defArgs s__end_set) (defBody s__end_set) (defScope s__end_set) .none kV29 dc29 pm29 an29 cd29 ct29), sl29⟩) (c29 : PySem.W.codeIn K cd29 "_end_set" = true) (k29 : PySem.W.keepIn K (.ref f29) = true)
    {f30 : Addr} {od30 an30 : Option Addr} {sl30 : Array (Option Value)} {oc30 kV30 dc30 pm30 cd30 ct30 : Value}
    (a30 : PySem.W.findIn K (.ref a_cls_Evaluation) "throw" = some (some (.ref f30))) (j30 : PySem.W.isFn K (.ref f30) = true) (l30 : K.lookup f30 = some ⟨oc30, od30, .func (PySem.W.fnOf "throw" "Evaluation.throw" (defArgs s_Evaluation_throw) (defBody s_Evaluation_throw) (defScope s_Evaluation_throw) .none kV30 dc30 pm30 an30 cd30 ct30), sl30⟩) (c30 : PySem.W.codeIn K cd30 "Evaluation.throw" = true) (k30 : PySem.W.keepIn K (.ref f30) = true)
    {f31 : Addr} {od31 an31 : Option Addr} {sl31 : Array (Option Value)} {oc31 kV31 dc31 pm31 cd31 ct31 : Value}
    (a31 : PySem.W.nsIn K mainGlobals "_end_array" = some (some (.ref f31))) (l31 : K.lookup f31 = some ⟨oc31, od31, .func (PySem.W.fnOf "_end_array" "_end_array" (defArgs s__end_array) (defBody s__end_array) (defScope s__end_array) .none kV31 dc31 pm31 an31 cd31 ct31), sl31⟩) (c31 : PySem.W.codeIn K cd31 "_end_array" = true) (k31 : PySem.W.keepIn K (.ref f31) = true)
    {f32 : Addr} {od32 an32 : Option Addr} {sl32 : Array (Option Value)} {oc32 kV32 dc32 pm32 cd32 ct32 : Value}
    (a32 : PySem.W.nsIn K mainGlobals "_end_at" = some (some (.ref f32))) (l32 : K.lookup f32 = some ⟨oc32, od32, .func (PySem.W.fnOf "_end_at" "_end_at" (defArgs s__end_at) (defBody s__end_at) (defScope s__end_at) .none kV32 dc32 pm32 an32 cd32 ct32), sl32⟩) (c32 : PySem.W.codeIn K cd32 "_end_at" = true) (k32 : PySem.W.keepIn K (.ref f32) = true)
    {f33 : Addr} {od33 an33 : Option Addr} {sl33 : Array (Option Value)} {oc33 kV33 dc33 pm33 cd33 ct33 : Value}
    (a33 : PySem.W.nsIn K mainGlobals "_end_put" = some (some (.ref f33))) (l33 : K.lookup f33 = some ⟨oc33, od33, .func (PySem.W.fnOf "_end_put" "_end_put" (defArgs s__end_put) (defBody s__end_put) (defScope s__end_put) .none kV33 dc33 pm33 an33 cd33 ct33), sl33⟩) (c33 : PySem.W.codeIn K cd33 "_end_put" = true) (k33 : PySem.W.keepIn K (.ref f33) = true)
    {f34 : Addr} {od34 an34 : Option Addr} {sl34 : Array (Option Value)} {oc34 kV34 dc34 pm34 cd34 ct34 : Value}
    (a34 : PySem.W.nsIn K mainGlobals "_end_len" = some (some (.ref f34))) (l34 : K.lookup f34 = some ⟨oc34, od34, .func (PySem.W.fnOf "_end_len" "_end_len" (defArgs s__end_len) (defBody s__end_len) (defScope s__end_len) .none kV34 dc34 pm34 an34 cd34 ct34), sl34⟩) (c34 : PySem.W.codeIn K cd34 "_end_len" = true) (k34 : PySem.W.keepIn K (.ref f34) = true)
    {f35 : Addr} {od35 an35 : Option Addr} {sl35 : Array (Option Value)} {oc35 kV35 dc35 pm35 cd35 ct35 : Value}
    (a35 : PySem.W.nsIn K mainGlobals "_end_raise" = some (some (.ref f35))) (l35 : K.lookup f35 = some ⟨oc35, od35, .func (PySem.W.fnOf "_end_raise" "_end_raise" (defArgs s__end_raise) (defBody s__end_raise) (defScope s__end_raise) .none kV35 dc35 pm35 an35 cd35 ct35), sl35⟩) (c35 : PySem.W.codeIn K cd35 "_end_raise" = true) (k35 : PySem.W.keepIn K (.ref f35) = true)
    {f36 : Addr} {od36 an36 : Option Addr} {sl36 : Array (Option Value)} {oc36 kV36 dc36 pm36 cd36 ct36 : Value}
    (a36 : PySem.W.nsIn K mainGlobals "_end_print" = some (some (.ref f36))) (l36 : K.lookup f36 = some ⟨oc36, od36, .func (PySem.W.fnOf "_end_print" "_end_print" (defArgs s__end_print) (defBody s__end_print) (defScope s__end_print) .none kV36 dc36 pm36 an36 cd36 ct36), sl36⟩) (c36 : PySem.W.codeIn K cd36 "_end_print" = true) (k36 : PySem.W.keepIn K (.ref f36) = true)
    {f37 : Addr} {od37 an37 : Option Addr} {sl37 : Array (Option Value)} {oc37 kV37 dc37 pm37 cd37 ct37 : Value}
    (a37 : PySem.W.nsIn K mainGlobals "_end_seq" = some (some (.ref f37))) (l37 : K.lookup f37 = some ⟨oc37, od37, .func (PySem.W.fnOf "_end_seq" "_end_seq" (defArgs s__end_seq) (defBody s__end_seq) (defScope s__end_seq) .none kV37 dc37 pm37 an37 cd37 ct37), sl37⟩) (c37 : PySem.W.codeIn K cd37 "_end_seq" = true) (k37 : PySem.W.keepIn K (.ref f37) = true)
    {f38 : Addr} {od38 an38 : Option Addr} {sl38 : Array (Option Value)} {oc38 kV38 dc38 pm38 cd38 ct38 : Value}
    (a38 : PySem.W.nsIn K mainGlobals "divides_by_zero" = some (some (.ref f38))) (l38 : K.lookup f38 = some ⟨oc38, od38, .func (PySem.W.fnOf "divides_by_zero" "divides_by_zero" (defArgs s_divides_by_zero) (defBody s_divides_by_zero) (defScope s_divides_by_zero) .none kV38 dc38 pm38 an38 cd38 ct38), sl38⟩) (c38 : PySem.W.codeIn K cd38 "divides_by_zero" = true) (k38 : PySem.W.keepIn K (.ref f38) = true)
    {f39 : Addr} {od39 an39 : Option Addr} {sl39 : Array (Option Value)} {oc39 kV39 dc39 pm39 cd39 ct39 : Value}
    (a39 : PySem.W.nsIn K mainGlobals "wrap" = some (some (.ref f39))) (l39 : K.lookup f39 = some ⟨oc39, od39, .func (PySem.W.fnOf "wrap" "wrap" (defArgs s_wrap) (defBody s_wrap) (defScope s_wrap) .none kV39 dc39 pm39 an39 cd39 ct39), sl39⟩) (c39 : PySem.W.codeIn K cd39 "wrap" = true) (k39 : PySem.W.keepIn K (.ref f39) = true)
    {f40 : Addr} {od40 an40 : Option Addr} {sl40 : Array (Option Value)} {oc40 kV40 dc40 pm40 cd40 ct40 : Value}
    (a40 : PySem.W.nsIn K mainGlobals "_add" = some (some (.ref f40))) (l40 : K.lookup f40 = some ⟨oc40, od40, .func (PySem.W.fnOf "_add" "_add" (defArgs s__add) (defBody s__add) (defScope s__add) .none kV40 dc40 pm40 an40 cd40 ct40), sl40⟩) (c40 : PySem.W.codeIn K cd40 "_add" = true) (k40 : PySem.W.keepIn K (.ref f40) = true)
    {f41 : Addr} {od41 an41 : Option Addr} {sl41 : Array (Option Value)} {oc41 kV41 dc41 pm41 cd41 ct41 : Value}
    (a41 : PySem.W.nsIn K mainGlobals "_sub" = some (some (.ref f41))) (l41 : K.lookup f41 = some ⟨oc41, od41, .func (PySem.W.fnOf "_sub" "_sub" (defArgs s__sub) (defBody s__sub) (defScope s__sub) .none kV41 dc41 pm41 an41 cd41 ct41), sl41⟩) (c41 : PySem.W.codeIn K cd41 "_sub" = true) (k41 : PySem.W.keepIn K (.ref f41) = true)
    {f42 : Addr} {od42 an42 : Option Addr} {sl42 : Array (Option Value)} {oc42 kV42 dc42 pm42 cd42 ct42 : Value}
    (a42 : PySem.W.nsIn K mainGlobals "_mul" = some (some (.ref f42))) (l42 : K.lookup f42 = some ⟨oc42, od42, .func (PySem.W.fnOf "_mul" "_mul" (defArgs s__mul) (defBody s__mul) (defScope s__mul) .none kV42 dc42 pm42 an42 cd42 ct42), sl42⟩) (c42 : PySem.W.codeIn K cd42 "_mul" = true) (k42 : PySem.W.keepIn K (.ref f42) = true)
    {f43 : Addr} {od43 an43 : Option Addr} {sl43 : Array (Option Value)} {oc43 kV43 dc43 pm43 cd43 ct43 : Value}
    (a43 : PySem.W.nsIn K mainGlobals "_quotient" = some (some (.ref f43))) (l43 : K.lookup f43 = some ⟨oc43, od43, .func (PySem.W.fnOf "_quotient" "_quotient" (defArgs s__quotient) (defBody s__quotient) (defScope s__quotient) .none kV43 dc43 pm43 an43 cd43 ct43), sl43⟩) (c43 : PySem.W.codeIn K cd43 "_quotient" = true) (k43 : PySem.W.keepIn K (.ref f43) = true)
    {f44 : Addr} {od44 an44 : Option Addr} {sl44 : Array (Option Value)} {oc44 kV44 dc44 pm44 cd44 ct44 : Value}
    (a44 : PySem.W.nsIn K mainGlobals "_div" = some (some (.ref f44))) (l44 : K.lookup f44 = some ⟨oc44, od44, .func (PySem.W.fnOf "_div" "_div" (defArgs s__div) (defBody s__div) (defScope s__div) .none kV44 dc44 pm44 an44 cd44 ct44), sl44⟩) (c44 : PySem.W.codeIn K cd44 "_div" = true) (k44 : PySem.W.keepIn K (.ref f44) = true)
    {f45 : Addr} {od45 an45 : Option Addr} {sl45 : Array (Option Value)} {oc45 kV45 dc45 pm45 cd45 ct45 : Value}
    (a45 : PySem.W.nsIn K mainGlobals "_rem" = some (some (.ref f45))) (l45 : K.lookup f45 = some ⟨oc45, od45, .func (PySem.W.fnOf "_rem" "_rem" (defArgs s__rem) (defBody s__rem) (defScope s__rem) .none kV45 dc45 pm45 an45 cd45 ct45), sl45⟩) (c45 : PySem.W.codeIn K cd45 "_rem" = true) (k45 : PySem.W.keepIn K (.ref f45) = true)
    {f46 : Addr} {od46 an46 : Option Addr} {sl46 : Array (Option Value)} {oc46 kV46 dc46 pm46 cd46 ct46 : Value}
    (a46 : PySem.W.nsIn K mainGlobals "_equal" = some (some (.ref f46))) (l46 : K.lookup f46 = some ⟨oc46, od46, .func (PySem.W.fnOf "_equal" "_equal" (defArgs s__equal) (defBody s__equal) (defScope s__equal) .none kV46 dc46 pm46 an46 cd46 ct46), sl46⟩) (c46 : PySem.W.codeIn K cd46 "_equal" = true) (k46 : PySem.W.keepIn K (.ref f46) = true)
    {f47 : Addr} {od47 an47 : Option Addr} {sl47 : Array (Option Value)} {oc47 kV47 dc47 pm47 cd47 ct47 : Value}
    (a47 : PySem.W.nsIn K mainGlobals "_less" = some (some (.ref f47))) (l47 : K.lookup f47 = some ⟨oc47, od47, .func (PySem.W.fnOf "_less" "_less" (defArgs s__less) (defBody s__less) (defScope s__less) .none kV47 dc47 pm47 an47 cd47 ct47), sl47⟩) (c47 : PySem.W.codeIn K cd47 "_less" = true) (k47 : PySem.W.keepIn K (.ref f47) = true)
    {f48 : Addr} {od48 an48 : Option Addr} {sl48 : Array (Option Value)} {oc48 kV48 dc48 pm48 cd48 ct48 : Value}
    (a48 : PySem.W.nsIn K mainGlobals "compute" = some (some (.ref f48))) (l48 : K.lookup f48 = some ⟨oc48, od48, .func (PySem.W.fnOf "compute" "compute" (defArgs s_compute) (defBody s_compute) (defScope s_compute) .none kV48 dc48 pm48 an48 cd48 ct48), sl48⟩) (c48 : PySem.W.codeIn K cd48 "compute" = true) (k48 : PySem.W.keepIn K (.ref f48) = true)
    {f49 : Addr} {od49 an49 : Option Addr} {sl49 : Array (Option Value)} {oc49 kV49 dc49 pm49 cd49 ct49 : Value}
    (a49 : PySem.W.nsIn K mainGlobals "_end_operation" = some (some (.ref f49))) (l49 : K.lookup f49 = some ⟨oc49, od49, .func (PySem.W.fnOf "_end_operation" "_end_operation" (defArgs s__end_operation) (defBody s__end_operation) (defScope s__end_operation) .none kV49 dc49 pm49 an49 cd49 ct49), sl49⟩) (c49 : PySem.W.codeIn K cd49 "_end_operation" = true) (k49 : PySem.W.keepIn K (.ref f49) = true)
    {f50 : Addr} {od50 an50 : Option Addr} {sl50 : Array (Option Value)} {oc50 kV50 dc50 pm50 cd50 ct50 : Value}
    (a50 : PySem.W.findIn K (.ref a_cls_Evaluation) "take" = some (some (.ref f50))) (j50 : PySem.W.isFn K (.ref f50) = true) (l50 : K.lookup f50 = some ⟨oc50, od50, .func (PySem.W.fnOf "take" "Evaluation.take" (defArgs s_Evaluation_take) (defBody s_Evaluation_take) (defScope s_Evaluation_take) .none kV50 dc50 pm50 an50 cd50 ct50), sl50⟩) (c50 : PySem.W.codeIn K cd50 "Evaluation.take" = true) (k50 : PySem.W.keepIn K (.ref f50) = true)
    {f51 : Addr} {od51 an51 : Option Addr} {sl51 : Array (Option Value)} {oc51 kV51 dc51 pm51 cd51 ct51 : Value}
    (a51 : PySem.W.findIn K (.ref a_cls_Evaluation) "do_task" = some (some (.ref f51))) (j51 : PySem.W.isFn K (.ref f51) = true) (l51 : K.lookup f51 = some ⟨oc51, od51, .func (PySem.W.fnOf "do_task" "Evaluation.do_task" (defArgs s_Evaluation_do_task) (defBody s_Evaluation_do_task) (defScope s_Evaluation_do_task) .none kV51 dc51 pm51 an51 cd51 ct51), sl51⟩) (c51 : PySem.W.codeIn K cd51 "Evaluation.do_task" = true) (k51 : PySem.W.keepIn K (.ref f51) = true)
    {f52 : Addr} {od52 an52 : Option Addr} {sl52 : Array (Option Value)} {oc52 kV52 dc52 pm52 cd52 ct52 : Value}
    (a52 : PySem.W.findIn K (.ref a_cls_Evaluation) "evaluate" = some (some (.ref f52))) (j52 : PySem.W.isFn K (.ref f52) = true) (l52 : K.lookup f52 = some ⟨oc52, od52, .func (PySem.W.fnOf "evaluate" "Evaluation.evaluate" (defArgs s_Evaluation_evaluate) (defBody s_Evaluation_evaluate) (defScope s_Evaluation_evaluate) .none kV52 dc52 pm52 an52 cd52 ct52), sl52⟩) (c52 : PySem.W.codeIn K cd52 "Evaluation.evaluate" = true) (k52 : PySem.W.keepIn K (.ref f52) = true)
    {f53 : Addr} {od53 an53 : Option Addr} {sl53 : Array (Option Value)} {oc53 kV53 dc53 pm53 cd53 ct53 : Value}
    (a53 : PySem.W.findIn K (.ref a_cls_Outcome) "result" = some (some (.ref f53))) (j53 : PySem.W.isFn K (.ref f53) = true) (l53 : K.lookup f53 = some ⟨oc53, od53, .func (PySem.W.fnOf "result" "Outcome.result" (defArgs s_Outcome_result) (defBody s_Outcome_result) (defScope s_Outcome_result) .none kV53 dc53 pm53 an53 cd53 ct53), sl53⟩) (c53 : PySem.W.codeIn K cd53 "Outcome.result" = true) (k53 : PySem.W.keepIn K (.ref f53) = true)
    {f54 : Addr} {od54 an54 : Option Addr} {sl54 : Array (Option Value)} {oc54 dc54 pm54 cd54 ct54  : Value}
    {kD54 : Addr} (a54 : PySem.W.nsIn K mainGlobals "run" = some (some (.ref f54))) (l54 : K.lookup f54 = some ⟨oc54, od54, .func (PySem.W.fnOf "run" "run" (defArgs s_run) (defBody s_run) (defScope s_run) .none (.ref kD54) dc54 pm54 an54 cd54 ct54), sl54⟩) (c54 : PySem.W.codeIn K cd54 "run" = true) (k54 : PySem.W.keepIn K (.ref f54) = true)
    {kt54_0 : Tok} (q54_0 : PySem.W.nsIn K kD54 "fuel" = some (some (.int 200 kt54_0)))
    {f55 : Addr} {od55 an55 : Option Addr} {sl55 : Array (Option Value)} {oc55 kV55 dc55 pm55 cd55 ct55 : Value}
    (a55 : PySem.W.nsIn K mainGlobals "law" = some (some (.ref f55))) (l55 : K.lookup f55 = some ⟨oc55, od55, .func (PySem.W.fnOf "law" "law" (defArgs s_law) (defBody s_law) (defScope s_law) .none kV55 dc55 pm55 an55 cd55 ct55), sl55⟩) (c55 : PySem.W.codeIn K cd55 "law" = true) (k55 : PySem.W.keepIn K (.ref f55) = true)
    (z_int : PySem.W.nsIn K mainGlobals "int" = some none)
    (z_abs : PySem.W.nsIn K mainGlobals "abs" = some none)
    (z_tuple : PySem.W.nsIn K mainGlobals "tuple" = some none)
    (z_isinstance : PySem.W.nsIn K mainGlobals "isinstance" = some none)
    (z_len : PySem.W.nsIn K mainGlobals "len" = some none)
    (z_bool : PySem.W.nsIn K mainGlobals "bool" = some none)
    (z_max : PySem.W.nsIn K mainGlobals "max" = some none)
    (z_min : PySem.W.nsIn K mainGlobals "min" = some none)
    (z_zip : PySem.W.nsIn K mainGlobals "zip" = some none)
    (z_list : PySem.W.nsIn K mainGlobals "list" = some none)
    (z_reversed : PySem.W.nsIn K mainGlobals "reversed" = some none)
    {t_MAX_FUEL : Tok} (g_MAX_FUEL : PySem.W.nsIn K mainGlobals "MAX_FUEL" = some (some (.int 200 t_MAX_FUEL)))
    {p_EARLY : Addr} {es_EARLY : Array DictEntry} {n_EARLY : Nat} (g_EARLY : PySem.W.nsIn K mainGlobals "EARLY" = some (some (.ref p_EARLY))) (l_EARLY : K.lookup p_EARLY = some ⟨.type "dict", none, .dict es_EARLY n_EARLY, #[]⟩) (y_EARLY : PySem.W.KeysLit w.params es_EARLY.toList) (o_EARLY : (p_EARLY == sysModules) = false) (r_EARLY : kDic K kv_EARLY es_EARLY.toList = true)
    {t_MAX_ARRAY : Tok} (g_MAX_ARRAY : PySem.W.nsIn K mainGlobals "MAX_ARRAY" = some (some (.int 12 t_MAX_ARRAY)))
    {t_SIZE : Tok} (g_SIZE : PySem.W.nsIn K mainGlobals "SIZE" = some (some (.int 2 t_SIZE)))
    {t_INDEX : Tok} (g_INDEX : PySem.W.nsIn K mainGlobals "INDEX" = some (some (.int 1 t_INDEX)))
    {t_HALF : Tok} (g_HALF : PySem.W.nsIn K mainGlobals "HALF" = some (some (.int 2147483648 t_HALF)))
    {p_OPERATIONS : Addr} {es_OPERATIONS : Array DictEntry} {n_OPERATIONS : Nat} (g_OPERATIONS : PySem.W.nsIn K mainGlobals "OPERATIONS" = some (some (.ref p_OPERATIONS))) (l_OPERATIONS : K.lookup p_OPERATIONS = some ⟨.type "dict", none, .dict es_OPERATIONS n_OPERATIONS, #[]⟩) (y_OPERATIONS : PySem.W.KeysLit w.params es_OPERATIONS.toList) (o_OPERATIONS : (p_OPERATIONS == sysModules) = false) (r_OPERATIONS : kDic K kv_OPERATIONS es_OPERATIONS.toList = true)
    {t_DIV : Tok} (g_DIV : PySem.W.nsIn K mainGlobals "DIV" = some (some (.int 0 t_DIV)))
    {p_BEGINNINGS : Addr} {es_BEGINNINGS : Array DictEntry} {n_BEGINNINGS : Nat} (g_BEGINNINGS : PySem.W.nsIn K mainGlobals "BEGINNINGS" = some (some (.ref p_BEGINNINGS))) (l_BEGINNINGS : K.lookup p_BEGINNINGS = some ⟨.type "dict", none, .dict es_BEGINNINGS n_BEGINNINGS, #[]⟩) (y_BEGINNINGS : PySem.W.KeysLit w.params es_BEGINNINGS.toList) (o_BEGINNINGS : (p_BEGINNINGS == sysModules) = false) (r_BEGINNINGS : kDic K kv_BEGINNINGS es_BEGINNINGS.toList = true)
    {p_ENDS : Addr} {es_ENDS : Array DictEntry} {n_ENDS : Nat} (g_ENDS : PySem.W.nsIn K mainGlobals "ENDS" = some (some (.ref p_ENDS))) (l_ENDS : K.lookup p_ENDS = some ⟨.type "dict", none, .dict es_ENDS n_ENDS, #[]⟩) (y_ENDS : PySem.W.KeysLit w.params es_ENDS.toList) (o_ENDS : (p_ENDS == sysModules) = false) (r_ENDS : kDic K kv_ENDS es_ENDS.toList = true)
    : ∃ fd : FuncData, (∀ (s : Shared) (v : Value), BindsTo s fd ⟨[v], []⟩ [("script", v)]) ∧ ∀ base : Heap, K.In base → base.Ns mainGlobals mg → FnOk l.prog w K mg base (L2N.CX l.prog w) 8 fa fd ["script"] (spOf K m_law) := by
  have e := hfa.symm.trans (PySem.W.mg_of X G a55)
  cases e
  have F0 := fun_mk (st := s__law_number) l0 c0 k0
  have b0 := F0.binds (ps := ["cell"]) fun _ _ _ _ _ _ us hl => match us, hl with | [_], _ => rfl
  have F1 := fun_mk (st := s__law_program) l1 c1 k1
  have b1 := F1.binds (ps := ["op"]) fun _ _ _ _ _ _ us hl => match us, hl with | [_], _ => rfl
  have F2 := fun_mk (st := s__law_wrap) l2 c2 k2
  have b2 := F2.binds (ps := ["number"]) fun _ _ _ _ _ _ us hl => match us, hl with | [_], _ => rfl
  have F3 := fun_mk (st := s__law_due) l3 c3 k3
  have b3 := F3.binds (ps := ["op", "first", "second"]) fun _ _ _ _ _ _ us hl => match us, hl with | [_, _, _], _ => rfl
  have F4 := fun_mk (st := s__law_right) l4 c4 k4
  have b4 := F4.binds (ps := ["op", "first", "second", "actual"]) fun _ _ _ _ _ _ us hl => match us, hl with | [_, _, _, _], _ => rfl
  have F5 := fun_mk (st := s__law_cell) l5 c5 k5
  have b5 := F5.binds (ps := ["script", "at"]) fun _ _ _ _ _ _ us hl => match us, hl with | [_, _], _ => rfl
  have F6 := fun_mk (st := s_Outcome___init__) l6 c6 k6
  have b6 := F6.binds (ps := ["self", "fuel"]) fun _ _ _ _ _ _ us hl => match us, hl with | [_, _], _ => rfl
  have F7 := fun_mk (st := s_Evaluation___init__) l7 c7 k7
  have b7 := F7.binds (ps := ["self", "program", "fuel"]) fun _ _ _ _ _ _ us hl => match us, hl with | [_, _, _], _ => rfl
  have F8 := fun_mk (st := s_Evaluation_begin) l8 c8 k8
  have b8 := F8.binds (ps := ["self", "expression", "scope"]) fun _ _ _ _ _ _ us hl => match us, hl with | [_, _, _], _ => rfl
  have F9 := fun_mk (st := s_Outcome_end_stuck) l9 c9 k9
  have b9 := F9.binds (ps := ["self"]) fun _ _ _ _ _ _ us hl => match us, hl with | [_], _ => rfl
  have F10 := fun_mk (st := s__bound) l10 c10 k10
  have b10 := F10.binds (ps := ["parameters", "values"]) fun _ _ _ _ _ _ us hl => match us, hl with | [_, _], _ => rfl
  have F11 := fun_mk (st := s__begin_kids) l11 c11 k11
  have b11 := F11.binds (ps := ["evaluation", "expression", "scope"]) fun _ _ _ _ _ _ us hl => match us, hl with | [_, _, _], _ => rfl
  have F12 := fun_mk (st := s_Evaluation_give) l12 c12 k12
  have b12 := F12.binds (ps := ["self", "value"]) fun _ _ _ _ _ _ us hl => match us, hl with | [_, _], _ => rfl
  have F13 := fun_mk (st := s__begin_literal) l13 c13 k13
  have b13 := F13.binds (ps := ["evaluation", "expression", "scope"]) fun _ _ _ _ _ _ us hl => match us, hl with | [_, _, _], _ => rfl
  have F14 := fun_mk (st := s__begin_name) l14 c14 k14
  have b14 := F14.binds (ps := ["evaluation", "expression", "scope"]) fun _ _ _ _ _ _ us hl => match us, hl with | [_, _, _], _ => rfl
  have F15 := fun_mk (st := s__begin_fn) l15 c15 k15
  have b15 := F15.binds (ps := ["evaluation", "expression", "scope"]) fun _ _ _ _ _ _ us hl => match us, hl with | [_, _, _], _ => rfl
  have F16 := fun_mk (st := s__begin_handle) l16 c16 k16
  have b16 := F16.binds (ps := ["evaluation", "expression", "scope"]) fun _ _ _ _ _ _ us hl => match us, hl with | [_, _, _], _ => rfl
  have F17 := fun_mk (st := s_Outcome_spend) l17 c17 k17
  have b17 := F17.binds (ps := ["self", "ticks"]) fun _ _ _ _ _ _ us hl => match us, hl with | [_, _], _ => rfl
  have F18 := fun_mk (st := s__end_call) l18 c18 k18
  have b18 := F18.binds (ps := ["evaluation", "expression", "scope", "values"]) fun _ _ _ _ _ _ us hl => match us, hl with | [_, _, _, _], _ => rfl
  have F19 := fun_mk (st := s__end_make) l19 c19 k19
  have b19 := F19.binds (ps := ["evaluation", "expression", "scope", "values"]) fun _ _ _ _ _ _ us hl => match us, hl with | [_, _, _, _], _ => rfl
  have F20 := fun_mk (st := s__end_tuple) l20 c20 k20
  have b20 := F20.binds (ps := ["evaluation", "expression", "scope", "values"]) fun _ _ _ _ _ _ us hl => match us, hl with | [_, _, _, _], _ => rfl
  have F21 := fun_mk (st := s__end_get) l21 c21 k21
  have b21 := F21.binds (ps := ["evaluation", "expression", "scope", "values"]) fun _ _ _ _ _ _ us hl => match us, hl with | [_, _, _, _], _ => rfl
  have F22 := fun_mk (st := s_inner_scope) l22 c22 k22
  have b22 := F22.binds (ps := ["scope", "names", "values"]) fun _ _ _ _ _ _ us hl => match us, hl with | [_, _, _], _ => rfl
  have F23 := fun_mk (st := s__end_let) l23 c23 k23
  have b23 := F23.binds (ps := ["evaluation", "expression", "scope", "values"]) fun _ _ _ _ _ _ us hl => match us, hl with | [_, _, _, _], _ => rfl
  have F24 := fun_mk (st := s__end_if) l24 c24 k24
  have b24 := F24.binds (ps := ["evaluation", "expression", "scope", "values"]) fun _ _ _ _ _ _ us hl => match us, hl with | [_, _, _, _], _ => rfl
  have F25 := fun_mk (st := s__end_case) l25 c25 k25
  have b25 := F25.binds (ps := ["evaluation", "expression", "scope", "values"]) fun _ _ _ _ _ _ us hl => match us, hl with | [_, _, _, _], _ => rfl
  have F26 := fun_mk (st := s__end_apply) l26 c26 k26
  have b26 := F26.binds (ps := ["evaluation", "expression", "scope", "values"]) fun _ _ _ _ _ _ us hl => match us, hl with | [_, _, _, _], _ => rfl
  have F27 := fun_mk (st := s__end_ref) l27 c27 k27
  have b27 := F27.binds (ps := ["evaluation", "expression", "scope", "values"]) fun _ _ _ _ _ _ us hl => match us, hl with | [_, _, _, _], _ => rfl
  have F28 := fun_mk (st := s__end_deref) l28 c28 k28
  have b28 := F28.binds (ps := ["evaluation", "expression", "scope", "values"]) fun _ _ _ _ _ _ us hl => match us, hl with | [_, _, _, _], _ => rfl
  have F29 := fun_mk (st := s__end_set) l29 c29 k29
  have b29 := F29.binds (ps := ["evaluation", "expression", "scope", "values"]) fun _ _ _ _ _ _ us hl => match us, hl with | [_, _, _, _], _ => rfl
  have F30 := fun_mk (st := s_Evaluation_throw) l30 c30 k30
  have b30 := F30.binds (ps := ["self", "number", "payload"]) fun _ _ _ _ _ _ us hl => match us, hl with | [_, _, _], _ => rfl
  have F31 := fun_mk (st := s__end_array) l31 c31 k31
  have b31 := F31.binds (ps := ["evaluation", "expression", "scope", "values"]) fun _ _ _ _ _ _ us hl => match us, hl with | [_, _, _, _], _ => rfl
  have F32 := fun_mk (st := s__end_at) l32 c32 k32
  have b32 := F32.binds (ps := ["evaluation", "expression", "scope", "values"]) fun _ _ _ _ _ _ us hl => match us, hl with | [_, _, _, _], _ => rfl
  have F33 := fun_mk (st := s__end_put) l33 c33 k33
  have b33 := F33.binds (ps := ["evaluation", "expression", "scope", "values"]) fun _ _ _ _ _ _ us hl => match us, hl with | [_, _, _, _], _ => rfl
  have F34 := fun_mk (st := s__end_len) l34 c34 k34
  have b34 := F34.binds (ps := ["evaluation", "expression", "scope", "values"]) fun _ _ _ _ _ _ us hl => match us, hl with | [_, _, _, _], _ => rfl
  have F35 := fun_mk (st := s__end_raise) l35 c35 k35
  have b35 := F35.binds (ps := ["evaluation", "expression", "scope", "values"]) fun _ _ _ _ _ _ us hl => match us, hl with | [_, _, _, _], _ => rfl
  have F36 := fun_mk (st := s__end_print) l36 c36 k36
  have b36 := F36.binds (ps := ["evaluation", "expression", "scope", "values"]) fun _ _ _ _ _ _ us hl => match us, hl with | [_, _, _, _], _ => rfl
  have F37 := fun_mk (st := s__end_seq) l37 c37 k37
  have b37 := F37.binds (ps := ["evaluation", "expression", "scope", "values"]) fun _ _ _ _ _ _ us hl => match us, hl with | [_, _, _, _], _ => rfl
  have F38 := fun_mk (st := s_divides_by_zero) l38 c38 k38
  have b38 := F38.binds (ps := ["op", "second"]) fun _ _ _ _ _ _ us hl => match us, hl with | [_, _], _ => rfl
  have F39 := fun_mk (st := s_wrap) l39 c39 k39
  have b39 := F39.binds (ps := ["number"]) fun _ _ _ _ _ _ us hl => match us, hl with | [_], _ => rfl
  have F40 := fun_mk (st := s__add) l40 c40 k40
  have b40 := F40.binds (ps := ["first", "second"]) fun _ _ _ _ _ _ us hl => match us, hl with | [_, _], _ => rfl
  have F41 := fun_mk (st := s__sub) l41 c41 k41
  have b41 := F41.binds (ps := ["first", "second"]) fun _ _ _ _ _ _ us hl => match us, hl with | [_, _], _ => rfl
  have F42 := fun_mk (st := s__mul) l42 c42 k42
  have b42 := F42.binds (ps := ["first", "second"]) fun _ _ _ _ _ _ us hl => match us, hl with | [_, _], _ => rfl
  have F43 := fun_mk (st := s__quotient) l43 c43 k43
  have b43 := F43.binds (ps := ["first", "second"]) fun _ _ _ _ _ _ us hl => match us, hl with | [_, _], _ => rfl
  have F44 := fun_mk (st := s__div) l44 c44 k44
  have b44 := F44.binds (ps := ["first", "second"]) fun _ _ _ _ _ _ us hl => match us, hl with | [_, _], _ => rfl
  have F45 := fun_mk (st := s__rem) l45 c45 k45
  have b45 := F45.binds (ps := ["first", "second"]) fun _ _ _ _ _ _ us hl => match us, hl with | [_, _], _ => rfl
  have F46 := fun_mk (st := s__equal) l46 c46 k46
  have b46 := F46.binds (ps := ["first", "second"]) fun _ _ _ _ _ _ us hl => match us, hl with | [_, _], _ => rfl
  have F47 := fun_mk (st := s__less) l47 c47 k47
  have b47 := F47.binds (ps := ["first", "second"]) fun _ _ _ _ _ _ us hl => match us, hl with | [_, _], _ => rfl
  have F48 := fun_mk (st := s_compute) l48 c48 k48
  have b48 := F48.binds (ps := ["op", "first", "second"]) fun _ _ _ _ _ _ us hl => match us, hl with | [_, _, _], _ => rfl
  have F49 := fun_mk (st := s__end_operation) l49 c49 k49
  have b49 := F49.binds (ps := ["evaluation", "expression", "scope", "values"]) fun _ _ _ _ _ _ us hl => match us, hl with | [_, _, _, _], _ => rfl
  have F50 := fun_mk (st := s_Evaluation_take) l50 c50 k50
  have b50 := F50.binds (ps := ["self", "many"]) fun _ _ _ _ _ _ us hl => match us, hl with | [_, _], _ => rfl
  have F51 := fun_mk (st := s_Evaluation_do_task) l51 c51 k51
  have b51 := F51.binds (ps := ["self"]) fun _ _ _ _ _ _ us hl => match us, hl with | [_], _ => rfl
  have F52 := fun_mk (st := s_Evaluation_evaluate) l52 c52 k52
  have b52 := F52.binds (ps := ["self", "arguments"]) fun _ _ _ _ _ _ us hl => match us, hl with | [_, _], _ => rfl
  have F53 := fun_mk (st := s_Outcome_result) l53 c53 k53
  have b53 := F53.binds (ps := ["self"]) fun _ _ _ _ _ _ us hl => match us, hl with | [_], _ => rfl
  have F54 : FunD K "run" "run" (defArgs s_run) (defBody s_run) (defScope s_run) [] [("fuel", .int 200)] f54 _ := ⟨⟨_, _, _, _, _, _, _, _, _, _, rfl, l54, c54, .inl ⟨rfl, rfl⟩, .inr ⟨kD54, rfl, fun q hq => by simp only [List.mem_cons, List.not_mem_nil, or_false] at hq; rcases hq with rfl <;> first | exact ⟨_, q54_0, ⟨_, rfl⟩⟩⟩⟩, k54⟩
  have F55 := fun_mk (st := s_law) l55 c55 k55
  have b55 := F55.binds (ps := ["script"]) fun _ _ _ _ _ _ us hl => match us, hl with | [_], _ => rfl
  let T : Top w K mg := { a_cls_Outcome := a_cls_Outcome, cls_Outcome := ⟨ac_Outcome, ⟨pg_Outcome, hd_Outcome, po_Outcome, sa_Outcome⟩, fun x hx => by simp only [List.mem_cons, List.not_mem_nil, or_false] at hx; rcases hx with rfl | rfl | rfl | rfl | rfl <;> assumption⟩, mg_Outcome := PySem.W.mg_of X G ac_Outcome, mk_Outcome := ⟨mk_Outcome, a6, j6, kc_Outcome⟩, a_cls_Evaluation := a_cls_Evaluation, cls_Evaluation := ⟨ac_Evaluation, ⟨pg_Evaluation, hd_Evaluation, po_Evaluation, sa_Evaluation⟩, fun x hx => by simp only [List.mem_cons, List.not_mem_nil, or_false] at hx; rcases hx with rfl | rfl | rfl | rfl | rfl <;> assumption⟩, mg_Evaluation := PySem.W.mg_of X G ac_Evaluation, mk_Evaluation := ⟨mk_Evaluation, a7, j7, kc_Evaluation⟩, a__law_number := f0, f__law_number := _, d__law_number := ⟨F0, PySem.W.mg_of X G a0, b0⟩, a__law_program := f1, f__law_program := _, d__law_program := ⟨F1, PySem.W.mg_of X G a1, b1⟩, a__law_wrap := f2, f__law_wrap := _, d__law_wrap := ⟨F2, PySem.W.mg_of X G a2, b2⟩, a__law_due := f3, f__law_due := _, d__law_due := ⟨F3, PySem.W.mg_of X G a3, b3⟩, a__law_right := f4, f__law_right := _, d__law_right := ⟨F4, PySem.W.mg_of X G a4, b4⟩, a__law_cell := f5, f__law_cell := _, d__law_cell := ⟨F5, PySem.W.mg_of X G a5, b5⟩, a_Outcome___init__ := f6, f_Outcome___init__ := _, d_Outcome___init__ := ⟨F6, ⟨a6, j6, k6⟩, b6⟩, a_Evaluation___init__ := f7, f_Evaluation___init__ := _, d_Evaluation___init__ := ⟨F7, ⟨a7, j7, k7⟩, b7⟩, a_Evaluation_begin := f8, f_Evaluation_begin := _, d_Evaluation_begin := ⟨F8, ⟨a8, j8, k8⟩, b8⟩, a_Outcome_end_stuck := f9, f_Outcome_end_stuck := _, d_Outcome_end_stuck := ⟨F9, ⟨a9, j9, k9⟩, b9⟩, a__bound := f10, f__bound := _, d__bound := ⟨F10, PySem.W.mg_of X G a10, b10⟩, a__begin_kids := f11, f__begin_kids := _, d__begin_kids := ⟨F11, PySem.W.mg_of X G a11, b11⟩, a_Evaluation_give := f12, f_Evaluation_give := _, d_Evaluation_give := ⟨F12, ⟨a12, j12, k12⟩, b12⟩, a__begin_literal := f13, f__begin_literal := _, d__begin_literal := ⟨F13, PySem.W.mg_of X G a13, b13⟩, a__begin_name := f14, f__begin_name := _, d__begin_name := ⟨F14, PySem.W.mg_of X G a14, b14⟩, a__begin_fn := f15, f__begin_fn := _, d__begin_fn := ⟨F15, PySem.W.mg_of X G a15, b15⟩, a__begin_handle := f16, f__begin_handle := _, d__begin_handle := ⟨F16, PySem.W.mg_of X G a16, b16⟩, a_Outcome_spend := f17, f_Outcome_spend := _, d_Outcome_spend := ⟨F17, ⟨a17, j17, k17⟩, b17⟩, a__end_call := f18, f__end_call := _, d__end_call := ⟨F18, PySem.W.mg_of X G a18, b18⟩, a__end_make := f19, f__end_make := _, d__end_make := ⟨F19, PySem.W.mg_of X G a19, b19⟩, a__end_tuple := f20, f__end_tuple := _, d__end_tuple := ⟨F20, PySem.W.mg_of X G a20, b20⟩, a__end_get := f21, f__end_get := _, d__end_get := ⟨F21, PySem.W.mg_of X G a21, b21⟩, a_inner_scope := f22, f_inner_scope := _, d_inner_scope := ⟨F22, PySem.W.mg_of X G a22, b22⟩, a__end_let := f23, f__end_let := _, d__end_let := ⟨F23, PySem.W.mg_of X G a23, b23⟩, a__end_if := f24, f__end_if := _, d__end_if := ⟨F24, PySem.W.mg_of X G a24, b24⟩, a__end_case := f25, f__end_case := _, d__end_case := ⟨F25, PySem.W.mg_of X G a25, b25⟩, a__end_apply := f26, f__end_apply := _, d__end_apply := ⟨F26, PySem.W.mg_of X G a26, b26⟩, a__end_ref := f27, f__end_ref := _, d__end_ref := ⟨F27, PySem.W.mg_of X G a27, b27⟩, a__end_deref := f28, f__end_deref := _, d__end_deref := ⟨F28, PySem.W.mg_of X G a28, b28⟩, a__end_set := f29, f__end_set := _, d__end_set := ⟨F29, PySem.W.mg_of X G a29, b29⟩, a_Evaluation_throw := f30, f_Evaluation_throw := _, d_Evaluation_throw := ⟨F30, ⟨a30, j30, k30⟩, b30⟩, a__end_array := f31, f__end_array := _, d__end_array := ⟨F31, PySem.W.mg_of X G a31, b31⟩, a__end_at := f32, f__end_at := _, d__end_at := ⟨F32, PySem.W.mg_of X G a32, b32⟩, a__end_put := f33, f__end_put := _, d__end_put := ⟨F33, PySem.W.mg_of X G a33, b33⟩, a__end_len := f34, f__end_len := _, d__end_len := ⟨F34, PySem.W.mg_of X G a34, b34⟩, a__end_raise := f35, f__end_raise := _, d__end_raise := ⟨F35, PySem.W.mg_of X G a35, b35⟩, a__end_print := f36, f__end_print := _, d__end_print := ⟨F36, PySem.W.mg_of X G a36, b36⟩, a__end_seq := f37, f__end_seq := _, d__end_seq := ⟨F37, PySem.W.mg_of X G a37, b37⟩, a_divides_by_zero := f38, f_divides_by_zero := _, d_divides_by_zero := ⟨F38, PySem.W.mg_of X G a38, b38⟩, a_wrap := f39, f_wrap := _, d_wrap := ⟨F39, PySem.W.mg_of X G a39, b39⟩, a__add := f40, f__add := _, d__add := ⟨F40, PySem.W.mg_of X G a40, b40⟩, a__sub := f41, f__sub := _, d__sub := ⟨F41, PySem.W.mg_of X G a41, b41⟩, a__mul := f42, f__mul := _, d__mul := ⟨F42, PySem.W.mg_of X G a42, b42⟩, a__quotient := f43, f__quotient := _, d__quotient := ⟨F43, PySem.W.mg_of X G a43, b43⟩, a__div := f44, f__div := _, d__div := ⟨F44, PySem.W.mg_of X G a44, b44⟩, a__rem := f45, f__rem := _, d__rem := ⟨F45, PySem.W.mg_of X G a45, b45⟩, a__equal := f46, f__equal := _, d__equal := ⟨F46, PySem.W.mg_of X G a46, b46⟩, a__less := f47, f__less := _, d__less := ⟨F47, PySem.W.mg_of X G a47, b47⟩, a_compute := f48, f_compute := _, d_compute := ⟨F48, PySem.W.mg_of X G a48, b48⟩, a__end_operation := f49, f__end_operation := _, d__end_operation := ⟨F49, PySem.W.mg_of X G a49, b49⟩, a_Evaluation_take := f50, f_Evaluation_take := _, d_Evaluation_take := ⟨F50, ⟨a50, j50, k50⟩, b50⟩, a_Evaluation_do_task := f51, f_Evaluation_do_task := _, d_Evaluation_do_task := ⟨F51, ⟨a51, j51, k51⟩, b51⟩, a_Evaluation_evaluate := f52, f_Evaluation_evaluate := _, d_Evaluation_evaluate := ⟨F52, ⟨a52, j52, k52⟩, b52⟩, a_Outcome_result := f53, f_Outcome_result := _, d_Outcome_result := ⟨F53, ⟨a53, j53, k53⟩, b53⟩, a_run := f54, f_run := _, d_run := ⟨F54, PySem.W.mg_of X G a54⟩, a_law := fa, f_law := _, d_law := ⟨F55, PySem.W.mg_of X G a55, b55⟩, z_int := PySem.W.mg_none_of X G z_int, z_abs := PySem.W.mg_none_of X G z_abs, z_tuple := PySem.W.mg_none_of X G z_tuple, z_isinstance := PySem.W.mg_none_of X G z_isinstance, z_len := PySem.W.mg_none_of X G z_len, z_bool := PySem.W.mg_none_of X G z_bool, z_max := PySem.W.mg_none_of X G z_max, z_min := PySem.W.mg_none_of X G z_min, z_zip := PySem.W.mg_none_of X G z_zip, z_list := PySem.W.mg_none_of X G z_list, z_reversed := PySem.W.mg_none_of X G z_reversed, n__add := a40, n__sub := a41, n__mul := a42, n__div := a44, n__rem := a45, n__equal := a46, n__less := a47, n__begin_kids := a11, n__begin_literal := a13, n__begin_name := a14, n__begin_fn := a15, n__begin_handle := a16, n__end_call := a18, n__end_make := a19, n__end_tuple := a20, n__end_get := a21, n__end_let := a23, n__end_if := a24, n__end_case := a25, n__end_apply := a26, n__end_ref := a27, n__end_deref := a28, n__end_set := a29, n__end_array := a31, n__end_at := a32, n__end_put := a33, n__end_len := a34, n__end_raise := a35, n__end_print := a36, n__end_seq := a37, n__end_operation := a49, c_MAX_FUEL := ⟨_, (.int 200), PySem.W.mg_of X G g_MAX_FUEL, ⟨_, rfl⟩, fun _ _ => rep_int⟩, k_EARLY := ⟨p_EARLY, es_EARLY, n_EARLY, PySem.W.mg_of X G g_EARLY, ⟨l_EARLY, y_EARLY, o_EARLY⟩, r_EARLY⟩, c_MAX_ARRAY := ⟨_, (.int 12), PySem.W.mg_of X G g_MAX_ARRAY, ⟨_, rfl⟩, fun _ _ => rep_int⟩, c_SIZE := ⟨_, (.int 2), PySem.W.mg_of X G g_SIZE, ⟨_, rfl⟩, fun _ _ => rep_int⟩, c_INDEX := ⟨_, (.int 1), PySem.W.mg_of X G g_INDEX, ⟨_, rfl⟩, fun _ _ => rep_int⟩, c_HALF := ⟨_, (.int 2147483648), PySem.W.mg_of X G g_HALF, ⟨_, rfl⟩, fun _ _ => rep_int⟩, k_OPERATIONS := ⟨p_OPERATIONS, es_OPERATIONS, n_OPERATIONS, PySem.W.mg_of X G g_OPERATIONS, ⟨l_OPERATIONS, y_OPERATIONS, o_OPERATIONS⟩, r_OPERATIONS⟩, c_DIV := ⟨_, (.int 0), PySem.W.mg_of X G g_DIV, ⟨_, rfl⟩, fun _ _ => rep_int⟩, k_BEGINNINGS := ⟨p_BEGINNINGS, es_BEGINNINGS, n_BEGINNINGS, PySem.W.mg_of X G g_BEGINNINGS, ⟨l_BEGINNINGS, y_BEGINNINGS, o_BEGINNINGS⟩, r_BEGINNINGS⟩, k_ENDS := ⟨p_ENDS, es_ENDS, n_ENDS, PySem.W.mg_of X G g_ENDS, ⟨l_ENDS, y_ENDS, o_ENDS⟩, r_ENDS⟩ }
  exact ⟨T.f_law, fun s v => .of_eq rfl, fun base _ _ => ok_all T⟩
end
end K17

namespace K17
open PySem PySem.Spec PyProof.Rows L2 MM
section
variable {a N : Nat} {ms : MSt} {ds : List D} {d : D} {δ : MS} {h h' : MH}
theorem left_all (hl : h'.length = h.length) (lo : ∀ o ∈ h', o.lows h.length = true) : LeftOf h h' := ⟨by omega, fun n o hn e => .inr (lo o (List.mem_of_getElem? e))⟩
theorem fn_non (el : ds.length = a) (r : ms (mStart N ds) h = .ok (.next δ) h') (hl : h'.length = h.length) (lo : ∀ o ∈ h', o.lows h.length = true) : mFn a N ms ds h = .ok .non h' := by
  rw [mFn_eq el, r]
  show leave h .non h' = _
  rw [leave_eq (left_all hl lo) rfl, ← hl, List.take_length]
theorem fn_ret (el : ds.length = a) (r : ms (mStart N ds) h = .ok (.ret d) h') (hl : h'.length = h.length) (lo : ∀ o ∈ h', o.lows h.length = true) (q : d.lows h.length = true) : mFn a N ms ds h = .ok d h' := by
  rw [mFn_eq el, r]
  show leave h d h' = _
  rw [leave_eq (left_all hl lo) q, ← hl, List.take_length]
/-- a def that leaves the heap as it is -/
theorem fn_same (el : ds.length = a) (r : ms (mStart N ds) h = .ok (.ret d) h) (q : d.lows h.length = true) : mFn a N ms ds h = .ok d h := by
  rw [mFn_eq el, r]
  show leave h d h = _
  rw [leave_eq ⟨Nat.le_refl _, fun n o hn e => .inl e⟩ q, List.take_length]
end
/-- the heap of a run -/
def St (ex fs : D) (f : Int) (fl rt : D) (T Dn : List D) : MH :=
  [.ins "Evaluation" [("exceptions", ex), ("functions", fs), ("outcome", .ref 1), ("tasks", .ref 3), ("done", .ref 4)],
   .ins "Outcome" [("fuel", .int f), ("ticks", .int 0), ("outs", .ref 2), ("fault", fl), ("returned", rt)], .lst [], .lst T, .lst Dn]
section
variable {ex fs : D} {f : Int} {fl rt : D} {T Dn : List D}
structure Lw (ex fs fl rt : D) (T Dn : List D) : Prop where
  ex : ex.lows 5 = true
  fs : fs.lows 5 = true
  fl : fl.lows 5 = true
  rt : rt.lows 5 = true
  T : lowsL 5 T = true
  Dn : lowsL 5 Dn = true
theorem Lw.all (l : Lw ex fs fl rt T Dn) : ∀ o ∈ St ex fs f fl rt T Dn, o.lows 5 = true := by
  intro o ho
  unfold St at ho
  simp only [List.mem_cons, List.not_mem_nil, or_false] at ho
  rcases ho with rfl | rfl | rfl | rfl | rfl
  · show ([("exceptions", ex), ("functions", fs), ("outcome", D.ref 1), ("tasks", .ref 3), ("done", .ref 4)] : List (Str × D)).all (fun p => p.2.lows 5) = true
    simp only [List.all_cons, List.all_nil, l.ex, l.fs]
    rfl
  · show ([("fuel", D.int f), ("ticks", .int 0), ("outs", .ref 2), ("fault", fl), ("returned", rt)] : List (Str × D)).all (fun p => p.2.lows 5) = true
    simp only [List.all_cons, List.all_nil, l.fl, l.rt]
    rfl
  · rfl
  · exact l.T
  · exact l.Dn
theorem tasks_at : fldG ["Evaluation"] "tasks" (.ref 0) (St ex fs f fl rt T Dn) = .ok (.ref 3) (St ex fs f fl rt T Dn) := rfl
theorem done_at : fldG ["Evaluation"] "done" (.ref 0) (St ex fs f fl rt T Dn) = .ok (.ref 4) (St ex fs f fl rt T Dn) := rfl
theorem outc_at : fldG ["Evaluation"] "outcome" (.ref 0) (St ex fs f fl rt T Dn) = .ok (.ref 1) (St ex fs f fl rt T Dn) := rfl
theorem fns_at : fldG ["Evaluation"] "functions" (.ref 0) (St ex fs f fl rt T Dn) = .ok fs (St ex fs f fl rt T Dn) := rfl
theorem exs_at : fldG ["Evaluation"] "exceptions" (.ref 0) (St ex fs f fl rt T Dn) = .ok ex (St ex fs f fl rt T Dn) := rfl
theorem fault_at : fldG ["Outcome"] "fault" (.ref 1) (St ex fs f fl rt T Dn) = .ok fl (St ex fs f fl rt T Dn) := rfl
theorem T_at : lst? (St ex fs f fl rt T Dn) 3 = some T := rfl
theorem D_at : lst? (St ex fs f fl rt T Dn) 4 = some Dn := rfl
theorem isE (m : Str) (hm : ([("exceptions", ex), ("functions", fs), ("outcome", D.ref 1), ("tasks", .ref 3), ("done", .ref 4)] : List (Str × D)).lookup m = none) : isI "Evaluation" m (.ref 0) (St ex fs f fl rt T Dn) = true := by
  show decide (("Evaluation" : Str) = "Evaluation" ∧ _) = true
  exact decide_eq_true ⟨rfl, hm⟩
theorem push_T {x : D} (z : T.length < 16777216) : fAppend (.ref 3) [x] (St ex fs f fl rt T Dn) = .ok .non (St ex fs f fl rt (T ++ [x]) Dn) := by
  show (if T.length < 16777216 then _ else _) = _
  rw [if_pos z]; rfl
theorem push_D {x : D} (z : Dn.length < 16777216) : fAppend (.ref 4) [x] (St ex fs f fl rt T Dn) = .ok .non (St ex fs f fl rt T (Dn ++ [x])) := by
  show (if Dn.length < 16777216 then _ else _) = _
  rw [if_pos z]; rfl
theorem pop_T {x : D} : fPop (.ref 3) [] (St ex fs f fl rt (T ++ [x]) Dn) = .ok x (St ex fs f fl rt T Dn) := by
  unfold fPop
  simp only [T_at]
  rw [show (T ++ [x])[(T ++ [x]).length - 1]? = some x by simp]
  simp only [List.dropLast_concat]
  rfl
theorem lowsL_app {n : Nat} : ∀ {xs ys : List D}, lowsL n xs = true → lowsL n ys = true → lowsL n (xs ++ ys) = true
  | [], _, _, b => b
  | x :: xs, ys, a, b => by
    have a : (x.lows n && lowsL n xs) = true := a
    rw [Bool.and_eq_true] at a
    show (x.lows n && lowsL n (xs ++ ys)) = true
    rw [a.1, lowsL_app a.2 b]; rfl
theorem begin_ok {e sc : D} (l : Lw ex fs fl rt T Dn) (z : T.length < 1000) (he : e.lows 5 = true) (hs : sc.lows 5 = true) :
    m_Evaluation_begin [.ref 0, e, sc] (St ex fs f fl rt T Dn) = .ok .non (St ex fs f fl rt (T ++ [.tup [.str "begin", e, sc]]) Dn) := by
  refine fn_non rfl (δ := mStart 3 [.ref 0, e, sc]) ?_ rfl (Lw.all ⟨l.ex, l.fs, l.fl, l.rt, lowsL_app l.T ?_, l.Dn⟩)
  · show (fAppend (.ref 3) [.tup [.str "begin", e, sc]] (St ex fs f fl rt T Dn)).st _ _ = _
    rw [push_T (by omega)]; rfl
  · show ((true && (e.lows 5 && (sc.lows 5 && true))) && true) = true
    rw [he, hs]; rfl
theorem give_ok {v : D} (l : Lw ex fs fl rt T Dn) (z : Dn.length < 1000) (he : v.lows 5 = true) :
    m_Evaluation_give [.ref 0, v] (St ex fs f fl rt T Dn) = .ok .non (St ex fs f fl rt T (Dn ++ [v])) := by
  refine fn_non rfl (δ := mStart 2 [.ref 0, v]) ?_ rfl (Lw.all ⟨l.ex, l.fs, l.fl, l.rt, l.T, lowsL_app l.Dn ?_⟩)
  · show (fAppend (.ref 4) [v] (St ex fs f fl rt T Dn)).st _ _ = _
    rw [push_D (by omega)]; rfl
  · show (v.lows 5 && true) = true
    rw [he]; rfl
theorem take_ok {X Y : List D} {k : Nat} (l : Lw ex fs fl rt T (X ++ Y)) (hk : Y.length = k) (z : (X ++ Y).length < 1000) (hx : lowsL 5 X = true) (hy : lowsL 5 Y = true) :
    m_Evaluation_take [.ref 0, .int k] (St ex fs f fl rt T (X ++ Y)) = .ok (.rol Y) (St ex fs f fl rt T X) := by
  refine fn_ret rfl ?_ rfl (Lw.all ⟨l.ex, l.fs, l.fl, l.rt, l.T, hx⟩) hy
  subst hk
  have e1 : fLen [.ref 4] (St ex fs f fl rt T (X ++ Y)) = .ok (.int ((X ++ Y).length : Int)) (St ex fs f fl rt T (X ++ Y)) := fLen_ref D_at
  have e2 : (((X ++ Y).length : Nat) : Int) - ((Y.length : Nat) : Int) = ((X.length : Nat) : Int) := by rw [List.length_append]; omega
  have e3 : opSl (.ref 4) (some ((X.length : Nat) : Int)) none (St ex fs f fl rt T (X ++ Y)) = .ok (.rol Y) (St ex fs f fl rt T (X ++ Y)) := by
    have c1 : HT.sIx (X ++ Y).length 0 (some ((X.length : Nat) : Int)) = X.length := by
      unfold HT.sIx
      simp only [List.length_append]
      split <;> omega
    show R.ok (D.rol (MM.cutD (X ++ Y) (some ((X.length : Nat) : Int)) none)) _ = _
    unfold MM.cutD
    rw [c1, show HT.sIx (X ++ Y).length (X ++ Y).length none = (X ++ Y).length from rfl, List.drop_left, List.take_of_length_le (by rw [List.length_append]; omega)]
  have e4 : delG (.ref 4) (some ((X.length : Nat) : Int)) none (St ex fs f fl rt T (X ++ Y)) = some (St ex fs f fl rt T X) := by
    show (if (0 : Int) ≤ ((X.length : Nat) : Int) then some (St ex fs f fl rt T ((X ++ Y).take ((X.length : Nat) : Int).toNat)) else none) = _
    rw [if_pos (by omega), Int.toNat_natCast, List.take_left]
  unfold b_Evaluation_take
  show SR.seq (R.st (R.bnd (fLen [.ref 4] (St ex fs f fl rt T (X ++ Y))) (fun x h1 => opSub x (.int Y.length) h1)) _ _) _ = _
  rw [e1, R.bnd_ok, opSub_int, e2, R.st_ok, SR.seq_next, mSeq_eq]
  show SR.seq (R.st (opSl (.ref 4) (some ((X.length : Nat) : Int)) none (St ex fs f fl rt T (X ++ Y))) _ _) _ = _
  rw [e3, R.st_ok, SR.seq_next, mSeq_eq]
  show SR.seq (match delG (.ref 4) (some ((X.length : Nat) : Int)) none (St ex fs f fl rt T (X ++ Y)) with | some h5 => .ok (.next _) h5 | none => .stuck) _ = _
  rw [e4]
  rfl
end
end K17

namespace K17
open PySem PySem.Spec PyProof.Rows L2 MM
/-! ### the arithmetic -/
def wr (n : Int) : Int := (n + 2147483648) % 4294967296 - 2147483648
theorem wr_lo (n : Int) : -2147483648 ≤ wr n ∧ wr n < 2147483648 := by unfold wr; omega
def q0 (x y : Int) : Int := ((x.natAbs : Int)) / (y.natAbs : Int)
def quo (x y : Int) : Int := if decide (x < 0) = decide (y < 0) then q0 x y else -(q0 x y)
theorem log_lt {i : Int} {k : Nat} (h : i.natAbs < 2 ^ k) (k0 : 0 < k) : i.natAbs.log2 < k := by
  by_cases z : i.natAbs = 0
  · rw [z]; exact k0
  · exact (Nat.log2_lt z).mpr h
theorem mul_ok {i j : Int} {h : MH} (a : i.natAbs < 2 ^ 100) (b : j.natAbs < 2 ^ 100) : opMul (.int i) (.int j) h = .ok (.int (i * j)) h := by
  have a1 := log_lt a (by decide)
  have b1 := log_lt b (by decide)
  exact opMul_int (by omega)
section
variable {a b c d e f g : D} {δ : MS} {o1 o2 o3 o4 o5 o6 : Option D} {h : MH}
theorem v0 : mVar 0 (some a :: δ) h = .ok a h := rfl
theorem v1 : mVar 1 (o1 :: some a :: δ) h = .ok a h := rfl
theorem v2 : mVar 2 (o1 :: o2 :: some a :: δ) h = .ok a h := rfl
theorem v3 : mVar 3 (o1 :: o2 :: o3 :: some a :: δ) h = .ok a h := rfl
theorem v4 : mVar 4 (o1 :: o2 :: o3 :: o4 :: some a :: δ) h = .ok a h := rfl
theorem v5 : mVar 5 (o1 :: o2 :: o3 :: o4 :: o5 :: some a :: δ) h = .ok a h := rfl
theorem v6 : mVar 6 (o1 :: o2 :: o3 :: o4 :: o5 :: o6 :: some a :: δ) h = .ok a h := rfl
theorem fAbs_v {i : Int} : fAbs [.int i] h = .ok (.int (i.natAbs : Int)) h := by
  show R.ok (D.int (if i < 0 then -i else i)) h = _
  congr 2
  split <;> omega
theorem addS_int {i j : Int} : opAddS (.int i) (.int j) h = .ok (.int (i + j)) h := rfl
end
section
variable {h : MH} {x y n : Int}
theorem wrap_ok : m_wrap [.int n] h = .ok (.int (wr n)) h := by
  refine fn_same rfl ?_ rfl
  have e1 : opMul (.int 2) (.int 2147483648) h = .ok (.int 4294967296) h := mul_ok (by decide) (by decide)
  have e2 : opMod (.int (n + 2147483648)) (.int 4294967296) h = .ok (.int ((n + 2147483648) % 4294967296)) h := opMod_int (by decide)
  show b_wrap [some (.int n)] h = _
  unfold b_wrap
  simp only [mSeq_eq, mSet_eq, mRet_eq, mOp_eq, mCall_eq, mCons_eq, mNil_eq, mC_eq, mIf_eq, mB_eq, isB_eq, mAndV_eq, mDrop_eq, mMeth_eq, mFld_eq, mMtd_eq, mAsg_eq, mIfS_eq, mTru_eq, mNot_eq, mUn_eq, v0, v1, v2, v3, v4, v5, v6, R.bnd_ok, R.st_ok, SR.seq_next, SR.seq_ret, List.set_cons_zero, List.set_cons_succ, fAbs_v, opLt_int, opNeg_int, opSub_int, opEq_int, opEq_str, opEq_bl, if_true, if_false, Bool.false_eq_true, Bool.true_eq_false, c_HALF, addS_int, e1, e2]
  rfl
theorem add_ok : m__add [.int x, .int y] h = .ok (.int (wr (x + y))) h := by
  refine fn_same rfl ?_ rfl
  show R.st (m_wrap [.int (x + y)] h) _ _ = _
  rw [wrap_ok]; rfl
theorem sub_ok : m__sub [.int x, .int y] h = .ok (.int (wr (x - y))) h := by
  refine fn_same rfl ?_ rfl
  show R.st (m_wrap [.int (x - y)] h) _ _ = _
  rw [wrap_ok]; rfl
theorem mulw_ok (a : x.natAbs < 2 ^ 100) (b : y.natAbs < 2 ^ 100) : m__mul [.int x, .int y] h = .ok (.int (wr (x * y))) h := by
  refine fn_same rfl ?_ rfl
  show R.st (R.bnd (R.bnd (opMul (.int x) (.int y) h) fun d h1 => .ok [d] h1) m_wrap) _ _ = _
  rw [mul_ok a b, R.bnd_ok, R.bnd_ok, wrap_ok]; rfl
theorem div0_ok (b : y.natAbs < 2 ^ 60) (y0 : y ≠ 0) : opDiv (.int (x.natAbs : Int)) (.int (y.natAbs : Int)) h = .ok (.int (q0 x y)) h := opDiv_int (by omega) (by
  have : ((y.natAbs : Nat) : Int) < ((2 ^ 60 : Nat) : Int) := by exact_mod_cast b
  exact Int.lt_trans this (by decide))
theorem quotient_ok (b : y.natAbs < 2 ^ 60) (y0 : y ≠ 0) : m__quotient [.int x, .int y] h = .ok (.int (quo x y)) h := by
  refine fn_same rfl ?_ rfl
  show b__quotient [some (.int x), some (.int y), none] h = _
  unfold b__quotient
  simp only [mSeq_eq, mSet_eq, mRet_eq, mOp_eq, mCall_eq, mCons_eq, mNil_eq, mC_eq, mIf_eq, mB_eq, isB_eq, mAndV_eq, mDrop_eq, mMeth_eq, mFld_eq, mMtd_eq, mAsg_eq, mIfS_eq, mTru_eq, mNot_eq, mUn_eq, v0, v1, v2, v3, v4, v5, v6, R.bnd_ok, R.st_ok, SR.seq_next, SR.seq_ret, List.set_cons_zero, List.set_cons_succ, fAbs_v, opLt_int, opNeg_int, opSub_int, opEq_int, opEq_str, opEq_bl, if_true, if_false, Bool.false_eq_true, Bool.true_eq_false, div0_ok b y0]
  unfold quo
  by_cases z : decide (x < 0) = decide (y < 0)
  · rw [decide_eq_true z, if_pos rfl, if_pos z]; rfl
  · rw [decide_eq_false z, if_neg Bool.false_ne_true, if_neg z]; rfl
theorem div_ok (b : y.natAbs < 2 ^ 60) (y0 : y ≠ 0) : m__div [.int x, .int y] h = .ok (.int (wr (quo x y))) h := by
  refine fn_same rfl ?_ rfl
  show R.st (R.bnd (R.bnd (m__quotient [.int x, .int y] h) fun d h1 => .ok [d] h1) m_wrap) _ _ = _
  rw [quotient_ok b y0, R.bnd_ok, R.bnd_ok, wrap_ok]; rfl
theorem quo_small (a : x.natAbs < 2 ^ 60) : (quo x y).natAbs < 2 ^ 100 := by
  have e : (q0 x y).natAbs ≤ x.natAbs := by
    unfold q0
    rw [← Int.natCast_ediv, Int.natAbs_natCast]
    exact Nat.div_le_self _ _
  have e2 : (quo x y).natAbs = (q0 x y).natAbs := by
    unfold quo
    split
    · rfl
    · exact Int.natAbs_neg _
  rw [e2]
  have : (2 : Nat) ^ 60 < 2 ^ 100 := by decide
  omega
theorem rem_ok (a : x.natAbs < 2 ^ 60) (b : y.natAbs < 2 ^ 60) (y0 : y ≠ 0) : m__rem [.int x, .int y] h = .ok (.int (x - y * quo x y)) h := by
  refine fn_same rfl ?_ rfl
  show R.st (R.bnd (R.bnd (m__quotient [.int x, .int y] h) fun v h2 => opMul (.int y) v h2) fun v h1 => opSub (.int x) v h1) _ _ = _
  rw [quotient_ok b y0, R.bnd_ok, mul_ok (Nat.lt_trans b (by decide)) (quo_small a), R.bnd_ok, opSub_int]; rfl
theorem equal_ok : m__equal [.int x, .int y] h = .ok (.bl (decide (x = y))) h := by
  refine fn_same rfl ?_ rfl
  show b__equal [some (.int x), some (.int y)] h = _
  unfold b__equal
  simp only [mSeq_eq, mSet_eq, mRet_eq, mOp_eq, mCall_eq, mCons_eq, mNil_eq, mC_eq, mIf_eq, mB_eq, isB_eq, mAndV_eq, mDrop_eq, mMeth_eq, mFld_eq, mMtd_eq, mAsg_eq, mIfS_eq, mTru_eq, mNot_eq, mUn_eq, v0, v1, v2, v3, v4, v5, v6, R.bnd_ok, R.st_ok, SR.seq_next, SR.seq_ret, List.set_cons_zero, List.set_cons_succ, fAbs_v, opLt_int, opNeg_int, opSub_int, opEq_int, opEq_str, opEq_bl, if_true, if_false, Bool.false_eq_true, Bool.true_eq_false]
theorem less_ok : m__less [.int x, .int y] h = .ok (.bl (decide (x < y))) h := fn_same rfl rfl rfl
end
/-- what an operation gives -/
def cmp (op : Str) (x y : Int) : D :=
  if op = "add" then .int (wr (x + y)) else if op = "sub" then .int (wr (x - y)) else if op = "mul" then .int (wr (x * y)) else if op = "div" then .int (wr (quo x y)) else if op = "rem" then .int (x - y * quo x y)
  else if op = "equal" then .bl (decide (x = y)) else .bl (decide (x < y))
def ops : List Str := ["add", "sub", "mul", "div", "rem", "equal", "less"]
def dz (op : Str) (y : Int) : Bool := (decide (op = "div") || decide (op = "rem")) && decide (y = 0)
theorem compute_ok {op : Str} {x y : Int} {h : MH} (ho : op ∈ ops) (a : x.natAbs < 2 ^ 60) (b : y.natAbs < 2 ^ 60) (hz : dz op y = false) : m_compute [.str op, .int x, .int y] h = .ok (cmp op x y) h := by
  have lt : (2 : Nat) ^ 60 < 2 ^ 100 := by decide
  unfold ops at ho
  simp only [List.mem_cons, List.not_mem_nil, or_false] at ho
  rcases ho with rfl | rfl | rfl | rfl | rfl | rfl | rfl
  · refine fn_same rfl ?_ rfl
    show R.st (m__add [.int x, .int y] h) _ _ = _
    rw [add_ok]; rfl
  · refine fn_same rfl ?_ rfl
    show R.st (m__sub [.int x, .int y] h) _ _ = _
    rw [sub_ok]; rfl
  · refine fn_same rfl ?_ rfl
    show R.st (m__mul [.int x, .int y] h) _ _ = _
    rw [mulw_ok (Nat.lt_trans a lt) (Nat.lt_trans b lt)]; rfl
  · have y0 : y ≠ 0 := fun z => by rw [z] at hz; exact absurd hz (by decide)
    refine fn_same rfl ?_ rfl
    show R.st (m__div [.int x, .int y] h) _ _ = _
    rw [div_ok b y0]; rfl
  · have y0 : y ≠ 0 := fun z => by rw [z] at hz; exact absurd hz (by decide)
    refine fn_same rfl ?_ rfl
    show R.st (m__rem [.int x, .int y] h) _ _ = _
    rw [rem_ok a b y0]; rfl
  · refine fn_same rfl ?_ rfl
    show R.st (m__equal [.int x, .int y] h) _ _ = _
    rw [equal_ok]; rfl
  · refine fn_same rfl ?_ rfl
    show R.st (m__less [.int x, .int y] h) _ _ = _
    rw [less_ok]; rfl
theorem dbz_ok {op : Str} {y : Int} {h : MH} (ho : op ∈ ops) : m_divides_by_zero [.str op, .int y] h = .ok (.bl (dz op y)) h := by
  unfold ops at ho
  simp only [List.mem_cons, List.not_mem_nil, or_false] at ho
  rcases ho with rfl | rfl | rfl | rfl | rfl | rfl | rfl
  all_goals (refine fn_same rfl ?_ rfl)
  · rfl
  · rfl
  · rfl
  · show SR.ok (Fl.ret (D.bl (decide (y = 0)))) h = _
    unfold dz
    rw [show (decide (("div" : Str) = "div") || decide (("div" : Str) = "rem")) = true by decide, Bool.true_and]
  · show SR.ok (Fl.ret (D.bl (decide (y = 0)))) h = _
    unfold dz
    rw [show (decide (("rem" : Str) = "div") || decide (("rem" : Str) = "rem")) = true by decide, Bool.true_and]
  · rfl
  · rfl
end K17

namespace K17
open PySem PySem.Spec PyProof.Rows L2 MM
section
variable {ex fs : D} {f : Int} {fl rt fl' rt' : D} {T Dn T' Dn' : List D} {e sc : D}
theorem isT : isTy "list" (.ref 3) (St ex fs f fl rt T Dn) = true := rfl
/-- a task that begins an expression -/
theorem do_begin {n : Str} {mm : List D → MH → R D} (kop : mKGet2 kv_BEGINNINGS (mOp opIx (mVar 2) (mC (.int 0))) (mC (.kon "_begin_kids")) [some (.ref 0), some (.str "begin"), some e, some sc, none, none, none, none] (St ex fs f fl rt T Dn) = .ok (.kon n) (St ex fs f fl rt T Dn))
    (tb : tab_Evaluation_do_task_action.lookup n = some mm) (r : mm [.ref 0, e, sc] (St ex fs f fl rt T Dn) = .ok .non (St ex fs f fl' rt' T' Dn')) (l : Lw ex fs fl' rt' T' Dn') :
    m_Evaluation_do_task [.ref 0] (St ex fs f fl rt (T ++ [.tup [.str "begin", e, sc]]) Dn) = .ok .non (St ex fs f fl' rt' T' Dn') := by
  refine fn_non rfl (δ := [some (.ref 0), some (.str "begin"), some e, some sc, some (.kon n), none, none, none]) ?_ rfl (Lw.all l)
  have g : mgSeq 3 (mgCons (mgName 1) (mgCons (mgName 2) (mgCons (mgName 3) (mgNil)))) (.tup [.str "begin", e, sc]) [some (.ref 0), none, none, none, none, none, none, none] = some [some (.ref 0), some (.str "begin"), some e, some sc, none, none, none, none] := rfl
  have c : mCallV tab_Evaluation_do_task_action (mVar 4) (mCons (mVar 0) (mCons (mVar 2) (mCons (mVar 3) (mNil)))) [some (.ref 0), some (.str "begin"), some e, some sc, some (.kon n), none, none, none] (St ex fs f fl rt T Dn) = .ok .non (St ex fs f fl' rt' T' Dn') := by
    show R.bnd (R.ok (D.kon n) (St ex fs f fl rt T Dn)) _ = _
    rw [R.bnd_ok]
    simp only [tb]
    exact r
  show b_Evaluation_do_task [some (.ref 0), none, none, none, none, none, none, none] _ = _
  unfold b_Evaluation_do_task
  simp only [mSeq_eq, mSet_eq, mRet_eq, mOp_eq, mCall_eq, mCons_eq, mNil_eq, mC_eq, mIf_eq, mB_eq, isB_eq, mAndV_eq, mDrop_eq, mMeth_eq, mFld_eq, mMtd_eq, mAsg_eq, mIfS_eq, mTru_eq, mNot_eq, mUn_eq, v0, v1, v2, v3, v4, v5, v6, R.bnd_ok, R.st_ok, SR.seq_next, SR.seq_ret, List.set_cons_zero, List.set_cons_succ, fAbs_v, opLt_int, opNeg_int, opSub_int, opEq_int, opEq_str, opEq_bl, if_true, if_false, Bool.false_eq_true, Bool.true_eq_false, tasks_at, isT, pop_T, g, decide_true]
  rw [kop, R.st_ok, SR.seq_next]
  show R.st (mCallV tab_Evaluation_do_task_action (mVar 4) (mCons (mVar 0) (mCons (mVar 2) (mCons (mVar 3) (mNil)))) [some (.ref 0), some (.str "begin"), some e, some sc, some (.kon n), none, none, none] (St ex fs f fl rt T Dn)) _ _ = _
  rw [c]; rfl
/-- a task that finishes one -/
theorem do_finish {op : Str} {w i arms : D} {kids : List D} {n : Str} {k : Nat} {X Y : List D} {mm : List D → MH → R D} (kop : mKIx kv_ENDS (mVar 5) [some (.ref 0), some (.str "finish"), some (.tup [.str op, w, i, .tup kids, arms]), some sc, none, some (.str op), some arms, some (.tup kids)] (St ex fs f fl rt T (X ++ Y)) = .ok (.kon n) (St ex fs f fl rt T (X ++ Y)))
    (tb : tab_Evaluation_do_task_action.lookup n = some mm)
    (ke : mKGet2 kv_EARLY (mVar 5) (mCall fLen (mCons (mVar 7) (mNil))) [some (.ref 0), some (.str "finish"), some (.tup [.str op, w, i, .tup kids, arms]), some sc, some (.kon n), some (.str op), some arms, some (.tup kids)] (St ex fs f fl rt T (X ++ Y)) = .ok (.int k) (St ex fs f fl rt T (X ++ Y)))
    (hk : Y.length = k) (z : (X ++ Y).length < 1000) (l0 : Lw ex fs fl rt T (X ++ Y)) (hx : lowsL 5 X = true) (hy : lowsL 5 Y = true)
    (r : mm [.ref 0, .tup [.str op, w, i, .tup kids, arms], sc, .rol Y] (St ex fs f fl rt T X) = .ok .non (St ex fs f fl' rt' T' Dn')) (l : Lw ex fs fl' rt' T' Dn') :
    m_Evaluation_do_task [.ref 0] (St ex fs f fl rt (T ++ [.tup [.str "finish", .tup [.str op, w, i, .tup kids, arms], sc]]) (X ++ Y)) = .ok .non (St ex fs f fl' rt' T' Dn') := by
  refine fn_non rfl (δ := [some (.ref 0), some (.str "finish"), some (.tup [.str op, w, i, .tup kids, arms]), some sc, some (.kon n), some (.str op), some arms, some (.tup kids)]) ?_ rfl (Lw.all l)
  have g : mgSeq 3 (mgCons (mgName 1) (mgCons (mgName 2) (mgCons (mgName 3) (mgNil)))) (.tup [.str "finish", .tup [.str op, w, i, .tup kids, arms], sc]) [some (.ref 0), none, none, none, none, none, none, none] = some [some (.ref 0), some (.str "finish"), some (.tup [.str op, w, i, .tup kids, arms]), some sc, none, none, none, none] := rfl
  have g2 : mgSeq 5 (mgCons (mgName 5) (mgCons (mgName 6) (mgCons (mgName 6) (mgCons (mgName 7) (mgCons (mgName 6) (mgNil)))))) (.tup [.str op, w, i, .tup kids, arms]) [some (.ref 0), some (.str "finish"), some (.tup [.str op, w, i, .tup kids, arms]), some sc, none, none, none, none] = some [some (.ref 0), some (.str "finish"), some (.tup [.str op, w, i, .tup kids, arms]), some sc, none, some (.str op), some arms, some (.tup kids)] := rfl
  have c : mCallV tab_Evaluation_do_task_action (mVar 4) (mCons (mVar 0) (mCons (mVar 2) (mCons (mVar 3) (mCons (mMeth "Evaluation" "take" m_Evaluation_take (mVar 0) (mCons (mKGet2 kv_EARLY (mVar 5) (mCall fLen (mCons (mVar 7) (mNil)))) (mNil))) (mNil))))) [some (.ref 0), some (.str "finish"), some (.tup [.str op, w, i, .tup kids, arms]), some sc, some (.kon n), some (.str op), some arms, some (.tup kids)] (St ex fs f fl rt T (X ++ Y)) = .ok .non (St ex fs f fl' rt' T' Dn') := by
    show R.bnd (R.ok (D.kon n) (St ex fs f fl rt T (X ++ Y))) _ = _
    rw [R.bnd_ok]
    simp only [tb]
    simp only [mSeq_eq, mSet_eq, mRet_eq, mOp_eq, mCall_eq, mCons_eq, mNil_eq, mC_eq, mIf_eq, mB_eq, isB_eq, mAndV_eq, mDrop_eq, mMeth_eq, mFld_eq, mMtd_eq, mAsg_eq, mIfS_eq, mTru_eq, mNot_eq, mUn_eq, v0, v1, v2, v3, v4, v5, v6, R.bnd_ok, R.st_ok, SR.seq_next, SR.seq_ret, List.set_cons_zero, List.set_cons_succ, fAbs_v, opLt_int, opNeg_int, opSub_int, opEq_int, opEq_str, opEq_bl, if_true, if_false, Bool.false_eq_true, Bool.true_eq_false, if_pos (isE (ex := ex) (fs := fs) (f := f) (fl := fl) (rt := rt) (T := T) (Dn := X ++ Y) "take" rfl), ke, take_ok l0 hk z hx hy]
    exact r
  show b_Evaluation_do_task [some (.ref 0), none, none, none, none, none, none, none] _ = _
  unfold b_Evaluation_do_task
  simp only [mSeq_eq, mSet_eq, mRet_eq, mOp_eq, mCall_eq, mCons_eq, mNil_eq, mC_eq, mIf_eq, mB_eq, isB_eq, mAndV_eq, mDrop_eq, mMeth_eq, mFld_eq, mMtd_eq, mAsg_eq, mIfS_eq, mTru_eq, mNot_eq, mUn_eq, v0, v1, v2, v3, v4, v5, v6, R.bnd_ok, R.st_ok, SR.seq_next, SR.seq_ret, List.set_cons_zero, List.set_cons_succ, fAbs_v, opLt_int, opNeg_int, opSub_int, opEq_int, opEq_str, opEq_bl, if_true, if_false, Bool.false_eq_true, Bool.true_eq_false, tasks_at, isT, pop_T, g, g2, show (("finish" : Str) = "begin") = False from eq_false (by decide), decide_false, decide_true]
  rw [kop, R.st_ok, SR.seq_next]
  show R.st (mCallV tab_Evaluation_do_task_action (mVar 4) (mCons (mVar 0) (mCons (mVar 2) (mCons (mVar 3) (mCons (mMeth "Evaluation" "take" m_Evaluation_take (mVar 0) (mCons (mKGet2 kv_EARLY (mVar 5) (mCall fLen (mCons (mVar 7) (mNil)))) (mNil))) (mNil))))) [some (.ref 0), some (.str "finish"), some (.tup [.str op, w, i, .tup kids, arms]), some sc, some (.kon n), some (.str op), some arms, some (.tup kids)] (St ex fs f fl rt T (X ++ Y))) _ _ = _
  rw [c]; rfl
end
end K17

namespace K17
open PySem PySem.Spec PyProof.Rows L2 MM
def W : D := .tup [.str "int", .tup [], .int 0]
def nm (x : Str) : D := .tup [.str "name", W, .str x, .tup [], .tup []]
def lit (v : Int) : D := .tup [.str "int", W, .int v, .tup [], .tup []]
def opE (op : Str) (w : D) : D := .tup [.str op, w, .non, .tup [nm "n", nm "m"], .tup []]
def ifE (t : D) : D := .tup [.str "if", W, .non, .tup [t, lit 1, lit 0], .tup []]
def env (a b : Int) : D := .rdc [.inr "n", .inr "m"] [.int a, .int b]
def bg (e sc : D) : D := .tup [.str "begin", e, sc]
def fi (e sc : D) : D := .tup [.str "finish", e, sc]
section
variable {ex fs : D} {f : Int} {fl rt : D} {T Dn : List D} {a b v : Int} {op : Str} {w e sc : D}
theorem Lw.pushT (l : Lw ex fs fl rt T Dn) {xs : List D} (h : lowsL 5 xs = true) : Lw ex fs fl rt (T ++ xs) Dn := ⟨l.ex, l.fs, l.fl, l.rt, lowsL_app l.T h, l.Dn⟩
theorem Lw.pushD (l : Lw ex fs fl rt T Dn) {xs : List D} (h : lowsL 5 xs = true) : Lw ex fs fl rt T (Dn ++ xs) := ⟨l.ex, l.fs, l.fl, l.rt, l.T, lowsL_app l.Dn h⟩
/-- the name n | m -/
theorem do_n (l : Lw ex fs fl rt T Dn) (z : Dn.length < 900) : m_Evaluation_do_task [.ref 0] (St ex fs f fl rt (T ++ [bg (nm "n") (env a b)]) Dn) = .ok .non (St ex fs f fl rt T (Dn ++ [.int a])) := by
  refine do_begin (n := "_begin_name") (mm := m__begin_name) rfl rfl ?_ (l.pushD rfl)
  refine fn_non rfl (δ := [some (.ref 0), some (nm "n"), some (env a b)]) ?_ rfl (Lw.all (l.pushD rfl))
  show b__begin_name [some (.ref 0), some (nm "n"), some (env a b)] _ = _
  unfold b__begin_name
  show R.st (if isI "Evaluation" "give" (.ref 0) (St ex fs f fl rt T Dn) = true then m_Evaluation_give [.ref 0, .int a] (St ex fs f fl rt T Dn) else .stuck) _ _ = _
  rw [if_pos (isE "give" rfl), give_ok l (by omega) rfl]; rfl
theorem do_m (l : Lw ex fs fl rt T Dn) (z : Dn.length < 900) : m_Evaluation_do_task [.ref 0] (St ex fs f fl rt (T ++ [bg (nm "m") (env a b)]) Dn) = .ok .non (St ex fs f fl rt T (Dn ++ [.int b])) := by
  refine do_begin (n := "_begin_name") (mm := m__begin_name) rfl rfl ?_ (l.pushD rfl)
  refine fn_non rfl (δ := [some (.ref 0), some (nm "m"), some (env a b)]) ?_ rfl (Lw.all (l.pushD rfl))
  show b__begin_name [some (.ref 0), some (nm "m"), some (env a b)] _ = _
  unfold b__begin_name
  show R.st (if isI "Evaluation" "give" (.ref 0) (St ex fs f fl rt T Dn) = true then m_Evaluation_give [.ref 0, .int b] (St ex fs f fl rt T Dn) else .stuck) _ _ = _
  rw [if_pos (isE "give" rfl), give_ok l (by omega) rfl]; rfl
theorem do_lit (l : Lw ex fs fl rt T Dn) (z : Dn.length < 900) : m_Evaluation_do_task [.ref 0] (St ex fs f fl rt (T ++ [bg (lit v) (env a b)]) Dn) = .ok .non (St ex fs f fl rt T (Dn ++ [.int v])) := by
  refine do_begin (n := "_begin_literal") (mm := m__begin_literal) rfl rfl ?_ (l.pushD rfl)
  refine fn_non rfl (δ := [some (.ref 0), some (lit v), some (env a b)]) ?_ rfl (Lw.all (l.pushD rfl))
  show b__begin_literal [some (.ref 0), some (lit v), some (env a b)] _ = _
  unfold b__begin_literal
  show R.st (if isI "Evaluation" "give" (.ref 0) (St ex fs f fl rt T Dn) = true then m_Evaluation_give [.ref 0, .int v] (St ex fs f fl rt T Dn) else .stuck) _ _ = _
  rw [if_pos (isE "give" rfl), give_ok l (by omega) rfl]; rfl
/-- what the kids of an expression push -/
theorem kids_ok {i arms : D} {kids ks : List D} (l : Lw ex fs fl rt T Dn) (z : T.length < 500) (he : (D.tup [.str op, w, i, .tup kids, arms]).lows 5 = true) (hs : sc.lows 5 = true)
    (hk : mRevT (mSl opSl (mVar 5) (mNoP) (mPart (mKGet2 kv_EARLY (mVar 3) (mCall fLen (mCons (mVar 5) (mNil)))))) [some (.ref 0), some (.tup [.str op, w, i, .tup kids, arms]), some sc, some (.str op), some arms, some (.tup kids), none] (St ex fs f fl rt (T ++ [fi (.tup [.str op, w, i, .tup kids, arms]) sc]) Dn) = .ok (.rol ks) (St ex fs f fl rt (T ++ [fi (.tup [.str op, w, i, .tup kids, arms]) sc]) Dn))
    (hl : ks.length < 100) (kl : ∀ k ∈ ks, k.lows 5 = true) :
    m__begin_kids [.ref 0, .tup [.str op, w, i, .tup kids, arms], sc] (St ex fs f fl rt T Dn) = .ok .non (St ex fs f fl rt (T ++ fi (.tup [.str op, w, i, .tup kids, arms]) sc :: ks.map fun k => bg k sc) Dn) := by
  have fl5 : lowsL 5 [fi (.tup [.str op, w, i, .tup kids, arms]) sc] = true := by
    show ((true && ((D.tup [.str op, w, i, .tup kids, arms]).lows 5 && (sc.lows 5 && true))) && true) = true
    rw [he, hs]; rfl
  have bl : ∀ qs : List D, (∀ k ∈ qs, k.lows 5 = true) → lowsL 5 (qs.map fun k => bg k sc) = true := fun qs => by
    induction qs with
    | nil => intro; rfl
    | cons k qs ih =>
      intro h
      show ((true && (k.lows 5 && (sc.lows 5 && true))) && lowsL 5 (qs.map fun k => bg k sc)) = true
      rw [h k List.mem_cons_self, hs, ih fun q hq => h q (List.mem_cons_of_mem _ hq)]; rfl
  have lp : ∀ (qs : List D) (P : List D) (o : Option D), P.length + qs.length < 900 → Lw ex fs fl rt P Dn → (∀ k ∈ qs, k.lows 5 = true) → ∃ o', forM (fun _ => True) (mgName 6) b__begin_kids_1 qs [some (.ref 0), some (.tup [.str op, w, i, .tup kids, arms]), some sc, some (.str op), some arms, some (.tup kids), o] (St ex fs f fl rt P Dn)
      = .ok (.next [some (.ref 0), some (.tup [.str op, w, i, .tup kids, arms]), some sc, some (.str op), some arms, some (.tup kids), o']) (St ex fs f fl rt (P ++ qs.map fun k => bg k sc) Dn) := fun qs => by
    induction qs with
    | nil =>
      intro P o _ _ _
      refine ⟨o, ?_⟩
      rw [List.map_nil, List.append_nil]
      unfold MM.forM
      rw [if_pos trivial]
    | cons k qs ih =>
      intro P o hP lP hk'
      rw [List.length_cons] at hP
      have k5 := hk' k List.mem_cons_self
      obtain ⟨o', e'⟩ := ih (P ++ [bg k sc]) (some k) (by rw [List.length_append, List.length_singleton]; omega) (lP.pushT (bl [k] fun q hq => by rw [List.mem_singleton.mp hq]; exact k5)) fun q hq => hk' q (List.mem_cons_of_mem _ hq)
      refine ⟨o', ?_⟩
      unfold MM.forM
      rw [if_pos trivial]
      have s1 : b__begin_kids_1 [some (.ref 0), some (.tup [.str op, w, i, .tup kids, arms]), some sc, some (.str op), some arms, some (.tup kids), some k] (St ex fs f fl rt P Dn) = .ok (.next [some (.ref 0), some (.tup [.str op, w, i, .tup kids, arms]), some sc, some (.str op), some arms, some (.tup kids), some k]) (St ex fs f fl rt (P ++ [bg k sc]) Dn) := by
        unfold b__begin_kids_1
        show R.st (if isI "Evaluation" "begin" (.ref 0) (St ex fs f fl rt P Dn) = true then m_Evaluation_begin [.ref 0, k, sc] (St ex fs f fl rt P Dn) else .stuck) _ _ = _
        rw [if_pos (isE "begin" rfl), begin_ok lP (by omega) k5 hs]; rfl
      simp only [mgName_eq, List.set_cons_zero, List.set_cons_succ, s1]
      rw [List.map_cons, show P ++ bg k sc :: List.map (fun k => bg k sc) qs = (P ++ [bg k sc]) ++ List.map (fun k => bg k sc) qs by simp]
      exact e'
  obtain ⟨o', e'⟩ := lp ks (T ++ [fi (.tup [.str op, w, i, .tup kids, arms]) sc]) none (by rw [List.length_append, List.length_singleton]; omega) (l.pushT fl5) kl
  refine fn_non rfl (δ := [some (.ref 0), some (.tup [.str op, w, i, .tup kids, arms]), some sc, some (.str op), some arms, some (.tup kids), o']) ?_ rfl (Lw.all ?_)
  · show b__begin_kids [some (.ref 0), some (.tup [.str op, w, i, .tup kids, arms]), some sc, none, none, none, none] _ = _
    unfold b__begin_kids
    have g2 : mgSeq 5 (mgCons (mgName 3) (mgCons (mgName 4) (mgCons (mgName 4) (mgCons (mgName 5) (mgCons (mgName 4) (mgNil)))))) (.tup [.str op, w, i, .tup kids, arms]) [some (.ref 0), some (.tup [.str op, w, i, .tup kids, arms]), some sc, none, none, none, none] = some [some (.ref 0), some (.tup [.str op, w, i, .tup kids, arms]), some sc, some (.str op), some arms, some (.tup kids), none] := rfl
    simp only [mSeq_eq, mSet_eq, mRet_eq, mOp_eq, mCall_eq, mCons_eq, mNil_eq, mC_eq, mIf_eq, mB_eq, isB_eq, mAndV_eq, mDrop_eq, mMeth_eq, mFld_eq, mMtd_eq, mAsg_eq, mIfS_eq, mTru_eq, mNot_eq, mUn_eq, v0, v1, v2, v3, v4, v5, v6, R.bnd_ok, R.st_ok, SR.seq_next, SR.seq_ret, List.set_cons_zero, List.set_cons_succ, fAbs_v, opLt_int, opNeg_int, opSub_int, opEq_int, opEq_str, opEq_bl, if_true, if_false, Bool.false_eq_true, Bool.true_eq_false, g2, tasks_at, isT]
    show SR.seq (R.st (fAppend (.ref 3) [fi (.tup [.str op, w, i, .tup kids, arms]) sc] (St ex fs f fl rt T Dn)) _ _) _ = _
    rw [push_T (by omega), R.st_ok, SR.seq_next, mFor_eq, mSrc_eq, hk, R.bnd_ok, srcOf_rol, R.st_ok, e', List.append_assoc]
    rfl
  · rw [show T ++ fi (.tup [.str op, w, i, .tup kids, arms]) sc :: List.map (fun k => bg k sc) ks = (T ++ [fi (.tup [.str op, w, i, .tup kids, arms]) sc]) ++ List.map (fun k => bg k sc) ks by simp]
    exact (l.pushT fl5).pushT (bl ks kl)
end
end K17

namespace K17
open PySem PySem.Spec PyProof.Rows L2 MM
def exs : D := .tup [.str "Div", .str "Index", .str "Size"]
def divF : D := .tup [.str "raised", .str "Div", .int 0]
theorem cmp_lows {op : Str} {x y : Int} : (cmp op x y).lows 5 = true := by
  unfold cmp
  repeat' split
  all_goals rfl
section
variable {ex fs : D} {f : Int} {fl rt : D} {T Dn X : List D} {a b v x y : Int} {op : Str} {w e sc : D}
theorem opE_lows (hw : w.lows 5 = true) : (opE op w).lows 5 = true := by
  show (true && (w.lows 5 && (true && (true && (true && true))))) = true
  rw [hw]; rfl
theorem begin_op (ho : op ∈ ops) (hw : w.lows 5 = true) (l : Lw ex fs fl rt T Dn) (z : T.length < 400) :
    m_Evaluation_do_task [.ref 0] (St ex fs f fl rt (T ++ [bg (opE op w) (env a b)]) Dn) = .ok .non (St ex fs f fl rt (T ++ [fi (opE op w) (env a b), bg (nm "m") (env a b), bg (nm "n") (env a b)]) Dn) := by
  have lw := opE_lows (op := op) hw
  have l2 : Lw ex fs fl rt (T ++ [fi (opE op w) (env a b), bg (nm "m") (env a b), bg (nm "n") (env a b)]) Dn := l.pushT (by
    show ((true && ((opE op w).lows 5 && (true && true))) && _) = true
    rw [lw]; rfl)
  unfold ops at ho
  simp only [List.mem_cons, List.not_mem_nil, or_false] at ho
  rcases ho with rfl | rfl | rfl | rfl | rfl | rfl | rfl
  all_goals
    refine do_begin (n := "_begin_kids") (mm := m__begin_kids) rfl rfl ?_ l2
    exact kids_ok (ks := [nm "m", nm "n"]) l (by omega) lw rfl rfl (by decide) (fun k hk => by
      simp only [List.mem_cons, List.not_mem_nil, or_false] at hk
      rcases hk with rfl | rfl <;> rfl)
theorem end_op (ho : op ∈ ops) (a : x.natAbs < 2 ^ 60) (b : y.natAbs < 2 ^ 60) (hz : dz op y = false) (l : Lw ex fs fl rt T Dn) (z : Dn.length < 400) :
    m__end_operation [.ref 0, opE op w, sc, .rol [.int x, .int y]] (St ex fs f fl rt T Dn) = .ok .non (St ex fs f fl rt T (Dn ++ [cmp op x y])) := by
  have l2 : Lw ex fs fl rt T (Dn ++ [cmp op x y]) := l.pushD (by
    show ((cmp op x y).lows 5 && true) = true
    rw [cmp_lows]; rfl)
  refine fn_non rfl (δ := [some (.ref 0), some (opE op w), some sc, some (.rol [.int x, .int y]), some (.str op), some (.int x), some (.int y)]) ?_ rfl (Lw.all l2)
  show b__end_operation [some (.ref 0), some (opE op w), some sc, some (.rol [.int x, .int y]), none, none, none] _ = _
  unfold b__end_operation
  have g1 : opIx (opE op w) (.int 0) (St ex fs f fl rt T Dn) = .ok (.str op) (St ex fs f fl rt T Dn) := rfl
  have g2 : mgSeq 2 (mgCons (mgName 5) (mgCons (mgName 6) (mgNil))) (.rol [.int x, .int y]) [some (.ref 0), some (opE op w), some sc, some (.rol [.int x, .int y]), some (.str op), none, none] = some [some (.ref 0), some (opE op w), some sc, some (.rol [.int x, .int y]), some (.str op), some (.int x), some (.int y)] := rfl
  simp only [mSeq_eq, mSet_eq, mRet_eq, mOp_eq, mCall_eq, mCons_eq, mNil_eq, mC_eq, mIf_eq, mB_eq, isB_eq, mAndV_eq, mDrop_eq, mMeth_eq, mFld_eq, mMtd_eq, mAsg_eq, mIfS_eq, mTru_eq, mNot_eq, mUn_eq, v0, v1, v2, v3, v4, v5, v6, R.bnd_ok, R.st_ok, SR.seq_next, SR.seq_ret, List.set_cons_zero, List.set_cons_succ, fAbs_v, opLt_int, opNeg_int, opSub_int, opEq_int, opEq_str, opEq_bl, if_true, if_false, Bool.false_eq_true, Bool.true_eq_false, g1, g2, dbz_ok ho, hz, truD_bl, compute_ok ho a b hz, if_pos (isE (ex := ex) (fs := fs) (f := f) (fl := fl) (rt := rt) (T := T) (Dn := Dn) "give" rfl), give_ok l (show Dn.length < 1000 by omega) cmp_lows]
theorem throw_ok (l : Lw exs fs fl rt [] Dn) : m_Evaluation_throw [.ref 0, .int 0, .int 0] (St exs fs f fl rt [] Dn) = .ok .non (St exs fs f divF rt [] Dn) := by
  refine fn_non rfl (δ := [some (.ref 0), some (.int 0), some (.int 0), none, none, none, none, none, none, none, none]) ?_ rfl (Lw.all ⟨l.ex, l.fs, rfl, l.rt, l.T, l.Dn⟩)
  show b_Evaluation_throw [some (.ref 0), some (.int 0), some (.int 0), none, none, none, none, none, none, none, none] _ = _
  unfold b_Evaluation_throw
  rw [mSeq_eq, mWhile_end (h1 := St exs fs f fl rt [] Dn) rfl, SR.seq_next]
  rfl
theorem end_op0 (ho : op ∈ ops) (hz : dz op y = true) (l : Lw exs fs fl rt [] Dn) :
    m__end_operation [.ref 0, opE op w, sc, .rol [.int x, .int y]] (St exs fs f fl rt [] Dn) = .ok .non (St exs fs f divF rt [] Dn) := by
  refine fn_non rfl (δ := [some (.ref 0), some (opE op w), some sc, some (.rol [.int x, .int y]), some (.str op), some (.int x), some (.int y)]) ?_ rfl (Lw.all ⟨l.ex, l.fs, rfl, l.rt, l.T, l.Dn⟩)
  show b__end_operation [some (.ref 0), some (opE op w), some sc, some (.rol [.int x, .int y]), none, none, none] _ = _
  unfold b__end_operation
  have g1 : opIx (opE op w) (.int 0) (St exs fs f fl rt [] Dn) = .ok (.str op) (St exs fs f fl rt [] Dn) := rfl
  have g2 : mgSeq 2 (mgCons (mgName 5) (mgCons (mgName 6) (mgNil))) (.rol [.int x, .int y]) [some (.ref 0), some (opE op w), some sc, some (.rol [.int x, .int y]), some (.str op), none, none] = some [some (.ref 0), some (opE op w), some sc, some (.rol [.int x, .int y]), some (.str op), some (.int x), some (.int y)] := rfl
  simp only [mSeq_eq, mSet_eq, mRet_eq, mOp_eq, mCall_eq, mCons_eq, mNil_eq, mC_eq, mIf_eq, mB_eq, isB_eq, mAndV_eq, mDrop_eq, mMeth_eq, mFld_eq, mMtd_eq, mAsg_eq, mIfS_eq, mTru_eq, mNot_eq, mUn_eq, v0, v1, v2, v3, v4, v5, v6, R.bnd_ok, R.st_ok, SR.seq_next, SR.seq_ret, List.set_cons_zero, List.set_cons_succ, fAbs_v, opLt_int, opNeg_int, opSub_int, opEq_int, opEq_str, opEq_bl, if_true, if_false, Bool.false_eq_true, Bool.true_eq_false, g1, g2, dbz_ok ho, hz, truD_bl, if_pos (isE (ex := exs) (fs := fs) (f := f) (fl := fl) (rt := rt) (T := []) (Dn := Dn) "throw" rfl), c_DIV, throw_ok l]
/-- an operation is finished -/
theorem finish_op (ho : op ∈ ops) (a' : x.natAbs < 2 ^ 60) (b' : y.natAbs < 2 ^ 60) (hz : dz op y = false) (l : Lw ex fs fl rt T X) (z : X.length < 400) :
    m_Evaluation_do_task [.ref 0] (St ex fs f fl rt (T ++ [fi (opE op w) (env a b)]) (X ++ [.int x, .int y])) = .ok .non (St ex fs f fl rt T (X ++ [cmp op x y])) := by
  have l2 : Lw ex fs fl rt T (X ++ [cmp op x y]) := l.pushD (by
    show ((cmp op x y).lows 5 && true) = true
    rw [cmp_lows]; rfl)
  have r := end_op (w := w) (sc := env a b) (f := f) ho a' b' hz l z
  have z2 : (X ++ [D.int x, .int y]).length < 1000 := by rw [List.length_append]; simp only [List.length_cons, List.length_nil]; omega
  have ho' := ho
  unfold ops at ho
  simp only [List.mem_cons, List.not_mem_nil, or_false] at ho
  rcases ho with rfl | rfl | rfl | rfl | rfl | rfl | rfl
  all_goals exact do_finish (n := "_end_operation") (mm := m__end_operation) (k := 2) rfl rfl rfl rfl z2 (l.pushD rfl) l.Dn rfl r l2
theorem finish_op0 (ho : op ∈ ops) (hz : dz op y = true) (l : Lw exs fs fl rt [] X) (z : X.length < 400) :
    m_Evaluation_do_task [.ref 0] (St exs fs f fl rt ([] ++ [fi (opE op w) (env a b)]) (X ++ [.int x, .int y])) = .ok .non (St exs fs f divF rt [] X) := by
  have l2 : Lw exs fs divF rt [] X := ⟨l.ex, l.fs, rfl, l.rt, l.T, l.Dn⟩
  have r := end_op0 (w := w) (x := x) (sc := env a b) (f := f) ho hz l
  have z2 : (X ++ [D.int x, .int y]).length < 1000 := by rw [List.length_append]; simp only [List.length_cons, List.length_nil]; omega
  have ho' := ho
  unfold ops at ho
  simp only [List.mem_cons, List.not_mem_nil, or_false] at ho
  rcases ho with rfl | rfl | rfl | rfl | rfl | rfl | rfl
  all_goals exact do_finish (n := "_end_operation") (mm := m__end_operation) (k := 2) rfl rfl rfl rfl z2 (l.pushD rfl) l.Dn rfl r l2
/-! ### if -/
theorem ifE_lows (h : e.lows 5 = true) : (ifE e).lows 5 = true := by
  show (true && (true && (true && ((e.lows 5 && (true && (true && true))) && (true && true))))) = true
  rw [h]; rfl
theorem begin_if (he : e.lows 5 = true) (l : Lw ex fs fl rt T Dn) (z : T.length < 400) :
    m_Evaluation_do_task [.ref 0] (St ex fs f fl rt (T ++ [bg (ifE e) (env a b)]) Dn) = .ok .non (St ex fs f fl rt (T ++ [fi (ifE e) (env a b), bg e (env a b)]) Dn) := by
  have lw := ifE_lows he
  have l2 : Lw ex fs fl rt (T ++ [fi (ifE e) (env a b), bg e (env a b)]) Dn := l.pushT (by
    show ((true && ((ifE e).lows 5 && (true && true))) && ((true && (e.lows 5 && (true && true))) && true)) = true
    rw [lw, he]; rfl)
  refine do_begin (n := "_begin_kids") (mm := m__begin_kids) rfl rfl ?_ l2
  exact kids_ok (ks := [e]) l (by omega) lw rfl rfl (by simp) (fun k hk => by rw [List.mem_singleton.mp hk]; exact he)
theorem end_if {c : Bool} (l : Lw ex fs fl rt T Dn) (z : T.length < 400) : m__end_if [.ref 0, ifE e, env a b, .rol [.bl c]] (St ex fs f fl rt T Dn) = .ok .non (St ex fs f fl rt (T ++ [bg (lit (if c then 1 else 0)) (env a b)]) Dn) := by
  refine fn_non rfl (δ := [some (.ref 0), some (ifE e), some (env a b), some (.rol [.bl c]), some e, some (lit 1), some (lit 0)]) ?_ rfl (Lw.all (l.pushT rfl))
  show b__end_if [some (.ref 0), some (ifE e), some (env a b), some (.rol [.bl c]), none, none, none] _ = _
  unfold b__end_if
  have g1 : opIx (ifE e) (.int 3) (St ex fs f fl rt T Dn) = .ok (.tup [e, lit 1, lit 0]) (St ex fs f fl rt T Dn) := rfl
  have g2 : mgSeq 3 (mgCons (mgName 4) (mgCons (mgName 5) (mgCons (mgName 6) (mgNil)))) (.tup [e, lit 1, lit 0]) [some (.ref 0), some (ifE e), some (env a b), some (.rol [.bl c]), none, none, none] = some [some (.ref 0), some (ifE e), some (env a b), some (.rol [.bl c]), some e, some (lit 1), some (lit 0)] := rfl
  have g3 : opIx (.rol [.bl c]) (.int 0) (St ex fs f fl rt T Dn) = .ok (.bl c) (St ex fs f fl rt T Dn) := rfl
  cases c
  · simp only [mSeq_eq, mSet_eq, mRet_eq, mOp_eq, mCall_eq, mCons_eq, mNil_eq, mC_eq, mIf_eq, mB_eq, isB_eq, mAndV_eq, mDrop_eq, mMeth_eq, mFld_eq, mMtd_eq, mAsg_eq, mIfS_eq, mTru_eq, mNot_eq, mUn_eq, v0, v1, v2, v3, v4, v5, v6, R.bnd_ok, R.st_ok, SR.seq_next, SR.seq_ret, List.set_cons_zero, List.set_cons_succ, fAbs_v, opLt_int, opNeg_int, opSub_int, opEq_int, opEq_str, opEq_bl, if_true, if_false, Bool.false_eq_true, Bool.true_eq_false, g1, g2, g3, truD_bl, if_pos (isE (ex := ex) (fs := fs) (f := f) (fl := fl) (rt := rt) (T := T) (Dn := Dn) "begin" rfl), begin_ok (e := lit 0) (sc := env a b) l (show T.length < 1000 by omega) rfl rfl]
    rfl
  · simp only [mSeq_eq, mSet_eq, mRet_eq, mOp_eq, mCall_eq, mCons_eq, mNil_eq, mC_eq, mIf_eq, mB_eq, isB_eq, mAndV_eq, mDrop_eq, mMeth_eq, mFld_eq, mMtd_eq, mAsg_eq, mIfS_eq, mTru_eq, mNot_eq, mUn_eq, v0, v1, v2, v3, v4, v5, v6, R.bnd_ok, R.st_ok, SR.seq_next, SR.seq_ret, List.set_cons_zero, List.set_cons_succ, fAbs_v, opLt_int, opNeg_int, opSub_int, opEq_int, opEq_str, opEq_bl, if_true, if_false, Bool.false_eq_true, Bool.true_eq_false, g1, g2, g3, truD_bl, if_pos (isE (ex := ex) (fs := fs) (f := f) (fl := fl) (rt := rt) (T := T) (Dn := Dn) "begin" rfl), begin_ok (e := lit 1) (sc := env a b) l (show T.length < 1000 by omega) rfl rfl]
    rfl
theorem finish_if {c : Bool} (he : e.lows 5 = true) (l : Lw ex fs fl rt T X) (z : T.length < 400) (z' : X.length < 400) :
    m_Evaluation_do_task [.ref 0] (St ex fs f fl rt (T ++ [fi (ifE e) (env a b)]) (X ++ [.bl c])) = .ok .non (St ex fs f fl rt (T ++ [bg (lit (if c then 1 else 0)) (env a b)]) X) := by
  have z2 : (X ++ [D.bl c]).length < 1000 := by rw [List.length_append, List.length_singleton]; omega
  exact do_finish (n := "_end_if") (mm := m__end_if) (k := 1) rfl rfl rfl rfl z2 (l.pushD rfl) l.Dn rfl (end_if l z) (l.pushT rfl)
end
end K17

namespace K17
open PySem PySem.Spec PyProof.Rows L2 MM
/-! ### the scope of main -/
section
variable {h : MH} {acc : List (Key × D)} {x y kd : D} {r : List D} {g : MH → Prop} {tgt : MG} {kx vx : ME} {δ0 δ1 : MS} {k : Key} {n : Nat}
theorem dic_last : dic? (h ++ [.dic acc]) h.length = some acc := by unfold dic?; simp
theorem set_last {u v : MO} : (h ++ [u]).set h.length v = h ++ [v] := by simp
theorem dc_step (hg : g (h ++ [.dic acc])) (et : tgt x δ0 = some δ1) (ek : kx δ1 (h ++ [.dic acc]) = .ok kd (h ++ [.dic acc])) (ev : vx δ1 (h ++ [.dic acc]) = .ok y (h ++ [.dic acc])) (e : keyD kd = some k) (hz : acc.length < 16777216) :
    dcM g tgt mYes kx vx h.length δ0 (x :: r) (h ++ [.dic acc]) = dcM g tgt mYes kx vx h.length δ0 r (h ++ [.dic (putD acc k y)]) := by
  rw [dcM, if_pos hg]
  simp only [et]
  show R.bnd (R.ok true (h ++ [.dic acc])) _ = _
  rw [R.bnd_ok]
  simp only [if_true, ek]
  show R.bnd (R.ok kd (h ++ [.dic acc])) _ = _
  rw [R.bnd_ok]
  simp only [ev]
  show R.bnd (R.ok y (h ++ [.dic acc])) _ = _
  rw [R.bnd_ok]
  simp only [e, dic_last, if_pos hz, set_last]
theorem dc_last (hg : g h) : dcM g tgt mYes kx vx n δ0 [] h = .ok () h := by
  rw [dcM, if_pos hg]
end
def TG : MG := mgSeq 2 (mgCons (mgSeq 2 (mgCons (mgName 2) (mgCons (mgName 3) (mgNil)))) (mgCons (mgName 4) (mgNil)))
def prs : D := .tup [.tup [.str "n", W], .tup [.str "m", W]]
section
variable {h : MH} {a b x y f lim : Int} {op : Str} {w body args : D}
theorem bound_ok : m__bound [prs, .rol [.int a, .int b]] h = .ok (env a b) h := by
  refine fn_same rfl ?_ rfl
  show R.st (mDc (mCallI fZip3 (mCons (mVar 0) (mCons (mVar 1) (mNil)))) (mgSeq 2 (mgCons (mgSeq 2 (mgCons (mgName 2) (mgCons (mgName 3) (mgNil)))) (mgCons (mgName 4) (mgNil)))) (mYes) (mVar 2) (mVar 4) [2, 3, 4] [some prs, some (.rol [.int a, .int b]), none, none, none] h) _ _ = _
  have key : mDc (mCallI fZip3 (mCons (mVar 0) (mCons (mVar 1) (mNil)))) (mgSeq 2 (mgCons (mgSeq 2 (mgCons (mgName 2) (mgCons (mgName 3) (mgNil)))) (mgCons (mgName 4) (mgNil)))) (mYes) (mVar 2) (mVar 4) [2, 3, 4] [some prs, some (.rol [.int a, .int b]), none, none, none] h = .ok (env a b) h := by
    unfold mDc
    have src : mCallI fZip3 (mCons (mVar 0) (mCons (mVar 1) (mNil))) [some prs, some (.rol [.int a, .int b]), none, none, none] h = .ok ⟨[.tup [.tup [.str "n", W], .int a], .tup [.tup [.str "m", W], .int b]], fun h' => lstD (.rol [.int a, .int b]) h' = some [.int a, .int b]⟩ h := rfl
    rw [src, R.bnd_ok]
    have s1 := dc_step (h := h) (acc := []) (g := fun h' => lstD (.rol [.int a, .int b]) h' = some [.int a, .int b]) (tgt := TG) (kx := mVar 2) (vx := mVar 4) (δ0 := [some prs, some (.rol [.int a, .int b]), none, none, none]) (x := .tup [.tup [.str "n", W], .int a]) (r := [.tup [.tup [.str "m", W], .int b]]) (δ1 := [some prs, some (.rol [.int a, .int b]), some (.str "n"), some W, some (.int a)]) (kd := .str "n") (y := .int a) (k := .inr "n") rfl rfl rfl rfl rfl (by decide)
    have s2 := dc_step (h := h) (acc := [(.inr "n", .int a)]) (g := fun h' => lstD (.rol [.int a, .int b]) h' = some [.int a, .int b]) (tgt := TG) (kx := mVar 2) (vx := mVar 4) (δ0 := [some prs, some (.rol [.int a, .int b]), none, none, none]) (x := .tup [.tup [.str "m", W], .int b]) (r := []) (δ1 := [some prs, some (.rol [.int a, .int b]), some (.str "m"), some W, some (.int b)]) (kd := .str "m") (y := .int b) (k := .inr "m") rfl rfl rfl rfl rfl (by show 1 < 16777216; decide)
    show R.bnd (dcM (fun h' => lstD (.rol [.int a, .int b]) h' = some [.int a, .int b]) TG mYes (mVar 2) (mVar 4) h.length [some prs, some (.rol [.int a, .int b]), none, none, none] [.tup [.tup [.str "n", W], .int a], .tup [.tup [.str "m", W], .int b]] (h ++ [.dic []])) _ = _
    rw [s1]
    show R.bnd (dcM (fun h' => lstD (.rol [.int a, .int b]) h' = some [.int a, .int b]) TG mYes (mVar 2) (mVar 4) h.length [some prs, some (.rol [.int a, .int b]), none, none, none] [.tup [.tup [.str "m", W], .int b]] (h ++ [.dic [(.inr "n", .int a)]])) _ = _
    rw [s2, dc_last (g := fun h' => lstD (.rol [.int a, .int b]) h' = some [.int a, .int b]) rfl, R.bnd_ok, dic_last]
    show leave h (.rdc [.inr "n", .inr "m"] [.int a, .int b]) ((h ++ [_]).set h.length .dead) = _
    rw [set_last, leave_eq ((LeftOf.refl h).app) rfl, List.take_left]
    rfl
  rw [key]; rfl
/-! ### the loop -/
def tst : MT := mAnd (mTru (mFld ["Evaluation"] "tasks" (mVar 0))) (mB (mOp opIsN (mFld ["Outcome"] "fault" (mFld ["Evaluation"] "outcome" (mVar 0))) (mC .non)))
noncomputable def loopB : MS → MH → SR := mWhile tst b_Evaluation_evaluate_1
variable {ex fs rt fl' rt' e : D} {T Dn T' Dn' : List D} {δ : MS} {res : SR}
theorem loop_step (r : m_Evaluation_do_task [.ref 0] (St ex fs f .non rt (T ++ [e]) Dn) = .ok .non (St ex fs f fl' rt' T' Dn')) (q : loopB (some (.ref 0) :: δ) (St ex fs f fl' rt' T' Dn') = res) (ne : res ≠ .stuck) :
    loopB (some (.ref 0) :: δ) (St ex fs f .non rt (T ++ [e]) Dn) = res := by
  refine mWhile_next (h1 := St ex fs f .non rt (T ++ [e]) Dn) (δ2 := some (.ref 0) :: δ) (h2 := St ex fs f fl' rt' T' Dn') ?_ ?_ q ne
  · have t1 : truD (.ref 3) (St ex fs f .non rt (T ++ [e]) Dn) = .ok true (St ex fs f .non rt (T ++ [e]) Dn) := by
      rw [truD_ref T_at]; simp
    unfold tst
    rw [mAnd_eq, mTru_eq, mFld_eq, v0, R.bnd_ok, tasks_at, R.bnd_ok, t1]
    rfl
  · show R.st (if isI "Evaluation" "do_task" (.ref 0) (St ex fs f .non rt (T ++ [e]) Dn) = true then m_Evaluation_do_task [.ref 0] (St ex fs f .non rt (T ++ [e]) Dn) else .stuck) _ _ = _
    rw [if_pos (isE "do_task" rfl), r]; rfl
theorem loop_end {fl : D} : loopB (some (.ref 0) :: δ) (St ex fs f fl rt [] Dn) = .ok (.next (some (.ref 0) :: δ)) (St ex fs f fl rt [] Dn) := mWhile_end rfl
end
/-! ### the two shapes of a body -/
def Bk : D := .tup [.str "bool", .tup [], .int 0]
def isC (op : Str) : Bool := decide (op = "equal") || decide (op = "less")
def bodyOf (op : Str) : D := if isC op then ifE (opE op Bk) else opE op W
def cB (op : Str) (a b : Int) : Bool := if op = "equal" then decide (a = b) else decide (a < b)
def val (op : Str) (a b : Int) : D := if isC op then .int (if cB op a b then 1 else 0) else cmp op a b
section
variable {fs : D} {a b f : Int} {op : Str} {δ : MS}
theorem loop_ok (hf : fs.lows 5 = true) (ho : op ∈ ops) (a' : a.natAbs < 2 ^ 60) (b' : b.natAbs < 2 ^ 60) (hz : dz op b = false) : loopB (some (.ref 0) :: δ) (St exs fs f .non (.int 0) [bg (bodyOf op) (env a b)] []) = .ok (.next (some (.ref 0) :: δ)) (St exs fs f .non (.int 0) [] [val op a b]) := by
  have l0 : Lw exs fs .non (.int 0) [] [] := ⟨rfl, hf, rfl, rfl, rfl, rfl⟩
  have ne : ∀ {d : MS} {k : MH}, SR.ok (Fl.next d) k ≠ .stuck := fun z => by cases z
  by_cases c : isC op = true
  · have hb : bodyOf op = ifE (opE op Bk) := if_pos c
    have hv : val op a b = .int (if cB op a b then 1 else 0) := if_pos c
    have hc : cmp op a b = .bl (cB op a b) := by
      unfold isC at c
      rcases Bool.or_eq_true_iff.mp c with q | q
      · rw [of_decide_eq_true q]; rfl
      · rw [of_decide_eq_true q]; rfl
    rw [hb, hv]
    have lw : (opE op Bk).lows 5 = true := opE_lows rfl
    have lf : lowsL 5 [fi (ifE (opE op Bk)) (env a b)] = true := by
      show ((true && ((ifE (opE op Bk)).lows 5 && (true && true))) && true) = true
      rw [ifE_lows lw]; rfl
    have lt : lowsL 5 [fi (opE op Bk) (env a b)] = true := by
      show ((true && ((opE op Bk).lows 5 && (true && true))) && true) = true
      rw [lw]; rfl
    have l1 : Lw exs fs .non (.int 0) [fi (ifE (opE op Bk)) (env a b)] [] := ⟨rfl, hf, rfl, rfl, lf, rfl⟩
    have l2 : Lw exs fs .non (.int 0) ([fi (ifE (opE op Bk)) (env a b)] ++ [fi (opE op Bk) (env a b)]) [] := l1.pushT lt
    refine loop_step (T := []) (begin_if lw l0 (by decide)) ?_ ne
    refine loop_step (T := [fi (ifE (opE op Bk)) (env a b)]) (begin_op ho rfl l1 (by show 1 < 400; decide)) ?_ ne
    refine loop_step (T := [fi (ifE (opE op Bk)) (env a b)] ++ [fi (opE op Bk) (env a b)] ++ [bg (nm "m") (env a b)]) (do_n (l2.pushT rfl) (by decide)) ?_ ne
    refine loop_step (T := [fi (ifE (opE op Bk)) (env a b)] ++ [fi (opE op Bk) (env a b)]) (do_m (l2.pushD rfl) (by show 1 < 900; decide)) ?_ ne
    refine loop_step (T := [fi (ifE (opE op Bk)) (env a b)]) (finish_op (X := []) ho a' b' hz l1 (by decide)) ?_ ne
    rw [hc]
    refine loop_step (T := []) (finish_if (X := []) lw l0 (by decide) (by decide)) ?_ ne
    refine loop_step (T := []) (do_lit l0 (by decide)) ?_ ne
    exact loop_end
  · have hb : bodyOf op = opE op W := if_neg c
    have hv : val op a b = cmp op a b := if_neg c
    rw [hb, hv]
    have lt : lowsL 5 [fi (opE op W) (env a b)] = true := by
      show ((true && ((opE op W).lows 5 && (true && true))) && true) = true
      rw [opE_lows rfl]; rfl
    have l1 : Lw exs fs .non (.int 0) [fi (opE op W) (env a b)] [] := ⟨rfl, hf, rfl, rfl, lt, rfl⟩
    refine loop_step (T := []) (begin_op ho rfl l0 (by decide)) ?_ ne
    refine loop_step (T := [fi (opE op W) (env a b)] ++ [bg (nm "m") (env a b)]) (do_n (l1.pushT rfl) (by decide)) ?_ ne
    refine loop_step (T := [fi (opE op W) (env a b)]) (do_m (l1.pushD rfl) (by show 1 < 900; decide)) ?_ ne
    refine loop_step (T := []) (finish_op (X := []) ho a' b' hz l0 (by decide)) ?_ ne
    exact loop_end
theorem loop_ok0 (hf : fs.lows 5 = true) (ho : op ∈ ops) (hz : dz op b = true) : loopB (some (.ref 0) :: δ) (St exs fs f .non (.int 0) [bg (bodyOf op) (env a b)] []) = .ok (.next (some (.ref 0) :: δ)) (St exs fs f divF (.int 0) [] []) := by
  have l0 : Lw exs fs .non (.int 0) [] [] := ⟨rfl, hf, rfl, rfl, rfl, rfl⟩
  have ne : ∀ {d : MS} {k : MH}, SR.ok (Fl.next d) k ≠ .stuck := fun z => by cases z
  have c : ¬ isC op = true := fun c => by
    unfold isC at c
    unfold dz at hz
    rcases Bool.or_eq_true_iff.mp c with q | q
    · rw [of_decide_eq_true q, show (decide (("equal" : Str) = "div") || decide (("equal" : Str) = "rem")) = false by decide] at hz
      cases hz
    · rw [of_decide_eq_true q, show (decide (("less" : Str) = "div") || decide (("less" : Str) = "rem")) = false by decide] at hz
      cases hz
  have hb : bodyOf op = opE op W := if_neg c
  rw [hb]
  have lt : lowsL 5 [fi (opE op W) (env a b)] = true := by
    show ((true && ((opE op W).lows 5 && (true && true))) && true) = true
    rw [opE_lows rfl]; rfl
  have l1 : Lw exs fs .non (.int 0) [fi (opE op W) (env a b)] [] := ⟨rfl, hf, rfl, rfl, lt, rfl⟩
  refine loop_step (T := []) (begin_op ho rfl l0 (by decide)) ?_ ne
  refine loop_step (T := [fi (opE op W) (env a b)] ++ [bg (nm "m") (env a b)]) (do_n (l1.pushT rfl) (by decide)) ?_ ne
  refine loop_step (T := [fi (opE op W) (env a b)]) (do_m (l1.pushD rfl) (by show 1 < 900; decide)) ?_ ne
  refine loop_step (T := []) (finish_op0 (X := []) ho hz l0 (by decide)) ?_ ne
  exact loop_end
end
end K17

namespace K17
open PySem PySem.Spec PyProof.Rows L2 MM
def mainE (op : Str) : D := .tup [.str "main", prs, W, bodyOf op]
def progD (op : Str) : D := .tup [.tup [], exs, .tup [mainE op]]
def Two (args : D) (x y : Int) : Prop := args = .rol [.int x, .int y] ∨ args = .tup [.int x, .int y]
theorem body_lows {op : Str} : (bodyOf op).lows 5 = true := by
  unfold bodyOf
  split
  · exact ifE_lows (opE_lows rfl)
  · exact opE_lows rfl
theorem fs_lows {op : Str} : (D.tup [mainE op]).lows 5 = true := by
  show ((true && (true && (true && ((bodyOf op).lows 5 && true)))) && true) = true
  rw [body_lows]; rfl
theorem val_lows {op : Str} {a b : Int} {n : Nat} : (val op a b).lows n = true := by
  unfold val cmp
  repeat' split
  all_goals rfl
theorem wr_60 (n : Int) : (wr n).natAbs < 2 ^ 60 := by
  have := wr_lo n
  have : (2 : Nat) ^ 60 = 1152921504606846976 := by decide
  omega
section
variable {f x y lim : Int} {op : Str} {args : D} {h : MH}
def wf : D → D
  | .int n => .int (wr n)
  | d => d
theorem wraps_ok {δ : MS} (tw : Two args x y) (e : δ[1]? = some (some args)) (hl : δ.length = 6) : mLc (mSrc (mVar 1)) (mgName 5) (mYes) (mCall m_wrap (mCons (mVar 5) (mNil))) [5] δ h = .ok (.rol [.int (wr x), .int (wr y)]) h := by
  have es : ∃ g, mSrc (mVar 1) δ h = .ok ⟨[.int x, .int y], g⟩ h ∧ ∀ k, g (h ++ k) := by
    rw [mSrc_eq, mVar_eq e, R.bnd_ok]
    rcases tw with rfl | rfl
    · exact ⟨_, srcOf_rol, fun _ => trivial⟩
    · exact ⟨_, srcOf_tup, fun _ => trivial⟩
  obtain ⟨g, es, hg⟩ := es
  have := mLc_map (vs := [5]) (elt := mCall m_wrap (mCons (mVar 5) (mNil))) (tgt := mgName 5) wf es hg (by show 2 < 16777216; decide) (fun d hd => by
    have : ∃ n, d = .int n := by
      simp only [List.mem_cons, List.not_mem_nil, or_false] at hd
      rcases hd with rfl | rfl
      · exact ⟨_, rfl⟩
      · exact ⟨_, rfl⟩
    obtain ⟨n, rfl⟩ := this
    refine ⟨_, rfl, fun k => ?_⟩
    have e5 : ((wipeM δ [5]).set 5 (some (D.int n)))[5]? = some (some (.int n)) := List.getElem?_set_self (by
      show 5 < (δ.set 5 none).length
      rw [List.length_set, hl]; decide)
    rw [mCall_eq, mCons_eq, mVar_eq e5, R.bnd_ok, mNil_eq, R.bnd_ok, R.bnd_ok, wrap_ok]
    rfl) (fun d hd => by
      simp only [List.mem_cons, List.not_mem_nil, or_false] at hd
      rcases hd with rfl | rfl <;> rfl)
  exact this
/-- what evaluate leaves -/
def endSt (fs : D) (f : Int) (op : Str) (a b : Int) : MH := if dz op b then St exs fs f divF (.int 0) [] [] else St exs fs f .non (val op a b) [] [val op a b]
theorem evaluate_ok (ho : op ∈ ops) (tw : Two args x y) (al : args.lows 5 = true) : m_Evaluation_evaluate [.ref 0, args] (St exs (.tup [mainE op]) f .non (.int 0) [] []) = .ok .non (endSt (.tup [mainE op]) f op (wr x) (wr y)) := by
  have l0 : Lw exs (.tup [mainE op]) .non (.int 0) [] [] := ⟨rfl, fs_lows, rfl, rfl, rfl, rfl⟩
  have e1 : opIx (.tup [mainE op]) (.int (-1)) (St exs (.tup [mainE op]) f .non (.int 0) [] []) = .ok (mainE op) (St exs (.tup [mainE op]) f .non (.int 0) [] []) := rfl
  have e2 : mgSeq 4 (mgCons (mgName 2) (mgCons (mgName 3) (mgCons (mgName 2) (mgCons (mgName 4) (mgNil))))) (mainE op) [some (.ref 0), some args, none, none, none, none] = some [some (.ref 0), some args, some W, some prs, some (bodyOf op), none] := rfl
  have e3 : fLen [args] (St exs (.tup [mainE op]) f .non (.int 0) [] []) = .ok (.int 2) (St exs (.tup [mainE op]) f .non (.int 0) [] []) := by rcases tw with rfl | rfl <;> rfl
  have e4 : fLen [prs] (St exs (.tup [mainE op]) f .non (.int 0) [] []) = .ok (.int 2) (St exs (.tup [mainE op]) f .non (.int 0) [] []) := rfl
  have e5 := wraps_ok (δ := [some (.ref 0), some args, some W, some prs, some (bodyOf op), none]) (h := St exs (.tup [mainE op]) f .non (.int 0) [] []) tw rfl rfl
  have e6 : m_Evaluation_begin [.ref 0, bodyOf op, env (wr x) (wr y)] (St exs (.tup [mainE op]) f .non (.int 0) [] []) = .ok .non (St exs (.tup [mainE op]) f .non (.int 0) [bg (bodyOf op) (env (wr x) (wr y))] []) := begin_ok l0 (by decide) body_lows rfl
  have pre : ∀ K : MSt, mSeq (mAsg (mOp opIx (mFld ["Evaluation"] "functions" (mVar 0)) (mUn opNeg (mC (.int 1)))) (mgSeq 4 (mgCons (mgName 2) (mgCons (mgName 3) (mgCons (mgName 2) (mgCons (mgName 4) (mgNil))))))) (mSeq (mIfS (mB (mOp opNe (mCall fLen (mCons (mVar 1) (mNil))) (mCall fLen (mCons (mVar 3) (mNil))))) (mSeq (mDrop (mMeth "Outcome" "end_stuck" m_Outcome_end_stuck (mFld ["Evaluation"] "outcome" (mVar 0)) mNil)) (mRet (mC .non))) (mNext)) (mSeq (mDrop (mMeth "Evaluation" "begin" m_Evaluation_begin (mVar 0) (mCons (mVar 4) (mCons (mCall m__bound (mCons (mVar 3) (mCons (mLc (mSrc (mVar 1)) (mgName 5) (mYes) (mCall m_wrap (mCons (mVar 5) (mNil))) [5]) (mNil)))) (mNil))))) K)) [some (.ref 0), some args, none, none, none, none] (St exs (.tup [mainE op]) f .non (.int 0) [] [])
      = K [some (.ref 0), some args, some W, some prs, some (bodyOf op), none] (St exs (.tup [mainE op]) f .non (.int 0) [bg (bodyOf op) (env (wr x) (wr y))] []) := fun K => by
    simp only [mSeq_eq, mSet_eq, mRet_eq, mOp_eq, mCall_eq, mCons_eq, mNil_eq, mC_eq, mIf_eq, mB_eq, isB_eq, mAndV_eq, mDrop_eq, mMeth_eq, mFld_eq, mMtd_eq, mAsg_eq, mIfS_eq, mTru_eq, mNot_eq, mUn_eq, v0, v1, v2, v3, v4, v5, v6, R.bnd_ok, R.st_ok, SR.seq_next, SR.seq_ret, List.set_cons_zero, List.set_cons_succ, fAbs_v, opLt_int, opNeg_int, opSub_int, opEq_int, opEq_str, opEq_bl, if_true, if_false, Bool.false_eq_true, Bool.true_eq_false, fns_at, e1, e2, e3, e4, opNe_int, decide_true, Bool.not_true, mNext_eq, e5, bound_ok, if_pos (isE (ex := exs) (fs := .tup [mainE op]) (f := f) (fl := .non) (rt := .int 0) (T := []) (Dn := []) "begin" rfl), e6]
  unfold endSt
  by_cases hz : dz op (wr y) = true
  · rw [if_pos hz]
    refine fn_non rfl (δ := [some (.ref 0), some args, some W, some prs, some (bodyOf op), none]) ?_ rfl (Lw.all ⟨rfl, fs_lows, rfl, rfl, rfl, rfl⟩)
    show b_Evaluation_evaluate [some (.ref 0), some args, none, none, none, none] _ = _
    unfold b_Evaluation_evaluate
    rw [pre, mSeq_eq]
    have lp := loop_ok0 (fs := .tup [mainE op]) (f := f) (a := wr x) (b := wr y) (δ := [some args, some W, some prs, some (bodyOf op), none]) fs_lows ho hz
    show SR.seq (loopB [some (.ref 0), some args, some W, some prs, some (bodyOf op), none] _) _ = _
    rw [lp, SR.seq_next]
    rfl
  · rw [if_neg hz]
    have hz' : dz op (wr y) = false := by simpa using hz
    refine fn_non rfl (δ := [some (.ref 0), some args, some W, some prs, some (bodyOf op), none]) ?_ rfl (Lw.all ⟨rfl, fs_lows, rfl, val_lows, rfl, ?_⟩)
    · show b_Evaluation_evaluate [some (.ref 0), some args, none, none, none, none] _ = _
      unfold b_Evaluation_evaluate
      rw [pre, mSeq_eq]
      have lp := loop_ok (fs := .tup [mainE op]) (f := f) (a := wr x) (b := wr y) (δ := [some args, some W, some prs, some (bodyOf op), none]) fs_lows ho (wr_60 x) (wr_60 y) hz'
      show SR.seq (loopB [some (.ref 0), some args, some W, some prs, some (bodyOf op), none] _) _ = _
      rw [lp, SR.seq_next]
      rfl
    · show ((val op (wr x) (wr y)).lows 5 && true) = true
      rw [val_lows]; rfl
/-- the result of a run -/
def resD (op : Str) (a b : Int) : D := if dz op b then .tup [divF, .int 0, .tup [], .int 0] else .tup [.non, val op a b, .tup [], .int 0]
theorem make_ok : ∃ f', mMake "Evaluation" m_Evaluation___init__ (mCons (mVar 0) (mCons (mVar 2) (mNil))) [some (progD op), some args, some (.int lim), none] [] = .ok (.ref 0) (St exs (.tup [mainE op]) f' .non (.int 0) [] []) := ⟨_, rfl⟩
theorem result_ok {fs fl rt : D} {Dn : List D} (hl : fl.lows 5 = true) (hr : rt.lows 5 = true) : m_Outcome_result [.ref 1] (St exs fs f fl rt [] Dn) = .ok (.tup [fl, rt, .tup [], .int 0]) (St exs fs f fl rt [] Dn) := by
  refine fn_same rfl rfl ?_
  show (fl.lows 5 && (rt.lows 5 && (true && (true && true)))) = true
  rw [hl, hr]; rfl
theorem run_ok (ho : op ∈ ops) (tw : Two args x y) (al : args.lows 5 = true) : m_run [progD op, args, .int lim] [] = .ok (resD op (wr x) (wr y)) [] := by
  have rl : (resD op (wr x) (wr y)).lows 0 = true := by
    unfold resD
    split
    · rfl
    · show (true && ((val op (wr x) (wr y)).lows 0 && (true && (true && true)))) = true
      rw [val_lows]; rfl
  obtain ⟨f', mk⟩ := make_ok (op := op) (args := args) (lim := lim)
  have fin : ∃ h', b_run [some (progD op), some args, some (.int lim), none] [] = .ok (.ret (resD op (wr x) (wr y))) h' := by
    unfold b_run
    rw [mSeq_eq, mSet_eq, mk, R.st_ok, SR.seq_next, mSeq_eq]
    show ∃ h', SR.seq (R.st (if isI "Evaluation" "evaluate" (.ref 0) (St exs (.tup [mainE op]) f' .non (.int 0) [] []) = true then m_Evaluation_evaluate [.ref 0, args] (St exs (.tup [mainE op]) f' .non (.int 0) [] []) else .stuck) _ _) _ = _
    rw [if_pos (isE "evaluate" rfl), evaluate_ok ho tw al, R.st_ok, SR.seq_next]
    unfold endSt resD
    by_cases hz : dz op (wr y) = true
    · rw [if_pos hz, if_pos hz]
      refine ⟨St exs (.tup [mainE op]) f' divF (.int 0) [] [], ?_⟩
      show R.st (m_Outcome_result [.ref 1] (St exs (.tup [mainE op]) f' divF (.int 0) [] [])) _ _ = _
      rw [result_ok rfl rfl]; rfl
    · rw [if_neg hz, if_neg hz]
      refine ⟨St exs (.tup [mainE op]) f' .non (val op (wr x) (wr y)) [] [val op (wr x) (wr y)], ?_⟩
      show R.st (m_Outcome_result [.ref 1] (St exs (.tup [mainE op]) f' .non (val op (wr x) (wr y)) [] [val op (wr x) (wr y)])) _ _ = _
      rw [result_ok rfl val_lows]; rfl
  obtain ⟨h', e⟩ := fin
  have q : m_run [progD op, args, .int lim] [] = mEnd [] (b_run [some (progD op), some args, some (.int lim), none] []) := mFn_eq rfl
  rw [q, e]
  show leave [] (resD op (wr x) (wr y)) h' = _
  have L : LeftOf [] h' := ⟨Nat.zero_le _, fun n o hn => absurd hn (by simp)⟩
  rw [leave_eq L rl]
  rfl
end
end K17

namespace K17
open PySem PySem.Spec PyProof.Rows L2 MM
theorem eq_same {d : D} {h : MH} {n : Nat} (hn : n ≤ 64) (o : (seeD d h).eok n = true) : opEq d d h = .ok (.bl true) h := by
  rw [opEq_is hn hn o o, eqD_refl o]
theorem pow_ok {i : Int} {j : Nat} {h : MH} (hj : j ≤ 1000) (hi : i.natAbs < 2 ^ 64) : opPow (.int i) (.int (j : Int)) h = .ok (.int (i ^ j)) h := by
  unfold opPow
  simp only
  rw [if_pos ⟨by omega, by omega, hi⟩, Int.toNat_natCast]
section
variable {h : MH} {ns : List Int} {x y c n : Int} {op : Str}
theorem cell_ok (k : Nat) : m__law_cell [.rol (ns.map D.int), .int k] h = .ok (.int (ns.getD k 0)) h := by
  refine fn_same rfl ?_ rfl
  show b__law_cell [some (.rol (ns.map D.int)), some (.int k)] h = _
  unfold b__law_cell
  have e1 : fLen [.rol (ns.map D.int)] h = .ok (.int (ns.length : Int)) h := by
    rw [fLen_rol, List.length_map]
  by_cases z : k < ns.length
  · have z' : decide ((k : Int) < (ns.length : Int)) = true := decide_eq_true (by omega)
    have e2 : opIx (.rol (ns.map D.int)) (.int k) h = .ok (.int (ns.getD k 0)) h := by
      refine opIx_of ?_
      rw [ixG_rol]
      refine atI_ok (by omega) ?_
      rw [Int.toNat_natCast, List.getElem?_map, List.getD_eq_getElem?_getD, List.getElem?_eq_getElem z]
      rfl
    simp only [mSeq_eq, mSet_eq, mRet_eq, mOp_eq, mCall_eq, mCons_eq, mNil_eq, mC_eq, mIf_eq, mB_eq, isB_eq, mAndV_eq, mDrop_eq, mMeth_eq, mFld_eq, mMtd_eq, mAsg_eq, mIfS_eq, mTru_eq, mNot_eq, mUn_eq, v0, v1, v2, v3, v4, v5, v6, R.bnd_ok, R.st_ok, SR.seq_next, SR.seq_ret, List.set_cons_zero, List.set_cons_succ, fAbs_v, opLt_int, opNeg_int, opSub_int, opEq_int, opEq_str, opEq_bl, if_true, if_false, Bool.false_eq_true, Bool.true_eq_false, e1, z', e2]
  · have z' : decide ((k : Int) < (ns.length : Int)) = false := decide_eq_false (by omega)
    have e0 : ns.getD k 0 = 0 := by rw [List.getD_eq_getElem?_getD, List.getElem?_eq_none (by omega)]; rfl
    simp only [mSeq_eq, mSet_eq, mRet_eq, mOp_eq, mCall_eq, mCons_eq, mNil_eq, mC_eq, mIf_eq, mB_eq, isB_eq, mAndV_eq, mDrop_eq, mMeth_eq, mFld_eq, mMtd_eq, mAsg_eq, mIfS_eq, mTru_eq, mNot_eq, mUn_eq, v0, v1, v2, v3, v4, v5, v6, R.bnd_ok, R.st_ok, SR.seq_next, SR.seq_ret, List.set_cons_zero, List.set_cons_succ, fAbs_v, opLt_int, opNeg_int, opSub_int, opEq_int, opEq_str, opEq_bl, if_true, if_false, Bool.false_eq_true, Bool.true_eq_false, e1, z', e0, mNext_eq]
theorem lwrap_ok : m__law_wrap [.int n] h = .ok (.int (wr n)) h := by
  refine fn_same rfl ?_ rfl
  show b__law_wrap [some (.int n)] h = _
  unfold b__law_wrap
  have p32 : opPow (.int 2) (.int 32) h = .ok (.int 4294967296) h := pow_ok (j := 32) (by decide) (by decide)
  have p31 : opPow (.int 2) (.int 31) h = .ok (.int 2147483648) h := pow_ok (j := 31) (by decide) (by decide)
  have e2 : opMod (.int n) (.int 4294967296) h = .ok (.int (n % 4294967296)) h := opMod_int (by decide)
  by_cases z : (2147483648 : Int) ≤ n % 4294967296
  · have w : n % 4294967296 - 4294967296 = wr n := by unfold wr; omega
    simp only [mSeq_eq, mSet_eq, mRet_eq, mOp_eq, mCall_eq, mCons_eq, mNil_eq, mC_eq, mIf_eq, mB_eq, isB_eq, mAndV_eq, mDrop_eq, mMeth_eq, mFld_eq, mMtd_eq, mAsg_eq, mIfS_eq, mTru_eq, mNot_eq, mUn_eq, v0, v1, v2, v3, v4, v5, v6, R.bnd_ok, R.st_ok, SR.seq_next, SR.seq_ret, List.set_cons_zero, List.set_cons_succ, fAbs_v, opLt_int, opNeg_int, opSub_int, opEq_int, opEq_str, opEq_bl, if_true, if_false, Bool.false_eq_true, Bool.true_eq_false, fInt_int, p32, p31, e2, opGe_int, decide_eq_true z, w]
  · have w : n % 4294967296 = wr n := by unfold wr; omega
    rw [w] at z e2
    simp only [mSeq_eq, mSet_eq, mRet_eq, mOp_eq, mCall_eq, mCons_eq, mNil_eq, mC_eq, mIf_eq, mB_eq, isB_eq, mAndV_eq, mDrop_eq, mMeth_eq, mFld_eq, mMtd_eq, mAsg_eq, mIfS_eq, mTru_eq, mNot_eq, mUn_eq, v0, v1, v2, v3, v4, v5, v6, R.bnd_ok, R.st_ok, SR.seq_next, SR.seq_ret, List.set_cons_zero, List.set_cons_succ, fAbs_v, opLt_int, opNeg_int, opSub_int, opEq_int, opEq_str, opEq_bl, if_true, if_false, Bool.false_eq_true, Bool.true_eq_false, fInt_int, p32, p31, e2, opGe_int, decide_eq_false z, mNext_eq]
/-- numbers of a script -/
theorem number_ok : ∃ v : Int, m__law_number [.int c] h = .ok (.int v) h := by
  have p40 : opPow (.int 2) (.int 40) h = .ok (.int 1099511627776) h := pow_ok (j := 40) (by decide) (by decide)
  have p41 : opPow (.int 2) (.int 41) h = .ok (.int 2199023255552) h := pow_ok (j := 41) (by decide) (by decide)
  have p43 : opPow (.int 2) (.int 43) h = .ok (.int 8796093022208) h := pow_ok (j := 43) (by decide) (by decide)
  have p31 : opPow (.int 2) (.int 31) h = .ok (.int 2147483648) h := pow_ok (j := 31) (by decide) (by decide)
  have p32 : opPow (.int 2) (.int 32) h = .ok (.int 4294967296) h := pow_ok (j := 32) (by decide) (by decide)
  have p16 : opPow (.int 2) (.int 16) h = .ok (.int 65536) h := pow_ok (j := 16) (by decide) (by decide)
  have p33 : opPow (.int 2) (.int 33) h = .ok (.int 8589934592) h := pow_ok (j := 33) (by decide) (by decide)
  have d2 : opDiv (.int c) (.int 2) h = .ok (.int (c / 2)) h := opDiv_int (by decide) (by decide)
  have d41 : opDiv (.int c) (.int 2199023255552) h = .ok (.int (c / 2199023255552)) h := opDiv_int (by decide) (by decide)
  have d43 : opDiv (.int c) (.int 8796093022208) h = .ok (.int (c / 8796093022208)) h := opDiv_int (by decide) (by decide)
  have m2 : ∀ i : Int, opMod (.int i) (.int 2) h = .ok (.int (i % 2)) h := fun i => opMod_int (by decide)
  have m3 : ∀ i : Int, opMod (.int i) (.int 3) h = .ok (.int (i % 3)) h := fun i => opMod_int (by decide)
  have m5 : ∀ i : Int, opMod (.int i) (.int 5) h = .ok (.int (i % 5)) h := fun i => opMod_int (by decide)
  have m40 : ∀ i : Int, opMod (.int i) (.int 1099511627776) h = .ok (.int (i % 1099511627776)) h := fun i => opMod_int (by decide)
  have b100 : (2 : Nat) ^ 100 = 1267650600228229401496703205376 := by decide
  have mul2 : opMul (.int 2) (.int (c % 2)) h = .ok (.int (2 * (c % 2))) h := mul_ok (by decide) (by omega)
  obtain ⟨w, bw, ew⟩ : ∃ w : Int, (w.natAbs < 2 ^ 60) ∧ opIx (.rol [.int 2147483648, .int 4294967296, .int 65536, .int 8589934592, .int 0]) (.int (c / 8796093022208 % 5)) h = .ok (.int w) h := by
    have h0 : 0 ≤ c / 8796093022208 % 5 := by omega
    have h5 : c / 8796093022208 % 5 < 5 := by omega
    have q : ∀ i : Int, 0 ≤ i → i < 5 → ∃ w : Int, (w.natAbs < 2 ^ 60) ∧ opIx (.rol [.int 2147483648, .int 4294967296, .int 65536, .int 8589934592, .int 0]) (.int i) h = .ok (.int w) h := fun i a b => by
      obtain ⟨j, rfl⟩ := Int.eq_ofNat_of_zero_le a
      match j, b with
      | 0, _ => exact ⟨_, by decide, rfl⟩
      | 1, _ => exact ⟨_, by decide, rfl⟩
      | 2, _ => exact ⟨_, by decide, rfl⟩
      | 3, _ => exact ⟨_, by decide, rfl⟩
      | 4, _ => exact ⟨_, by decide, rfl⟩
      | n + 5, b => exact absurd b (by omega)
    exact q _ h0 h5
  have b60 : (2 : Nat) ^ 60 = 1152921504606846976 := by decide
  have big : ([D.int 2147483648, .int 4294967296, .int 65536, .int 8589934592, .int 0] : List D).length ≤ 16777216 := by decide
  by_cases z : c / 2199023255552 % 3 = 1
  · refine ⟨(1 - 2 * (c % 2)) * (w + c / 2 % 5 - 2), fn_same rfl ?_ rfl⟩
    have mm : opMul (.int (1 - 2 * (c % 2))) (.int (w + c / 2 % 5 - 2)) h = .ok (.int ((1 - 2 * (c % 2)) * (w + c / 2 % 5 - 2))) h := mul_ok (by omega) (by omega)
    show b__law_number [some (.int c), none, none] h = _
    unfold b__law_number
    simp only [mSeq_eq, mSet_eq, mRet_eq, mOp_eq, mCall_eq, mCons_eq, mNil_eq, mC_eq, mIf_eq, mB_eq, isB_eq, mAndV_eq, mDrop_eq, mMeth_eq, mFld_eq, mMtd_eq, mAsg_eq, mIfS_eq, mTru_eq, mNot_eq, mUn_eq, v0, v1, v2, v3, v4, v5, v6, R.bnd_ok, R.st_ok, SR.seq_next, SR.seq_ret, List.set_cons_zero, List.set_cons_succ, fAbs_v, opLt_int, opNeg_int, opSub_int, opEq_int, opEq_str, opEq_bl, if_true, if_false, Bool.false_eq_true, Bool.true_eq_false, p40, p41, p43, p31, p32, p16, p33, d2, d41, d43, m2, m3, m5, m40, mul2, decide_eq_true z, mLst_eq, if_pos big, ew, addS_int, mm]
  · refine ⟨(1 - 2 * (c % 2)) * (c / 2 % 1099511627776), fn_same rfl ?_ rfl⟩
    have mm : opMul (.int (1 - 2 * (c % 2))) (.int (c / 2 % 1099511627776)) h = .ok (.int ((1 - 2 * (c % 2)) * (c / 2 % 1099511627776))) h := mul_ok (by omega) (by omega)
    show b__law_number [some (.int c), none, none] h = _
    unfold b__law_number
    simp only [mSeq_eq, mSet_eq, mRet_eq, mOp_eq, mCall_eq, mCons_eq, mNil_eq, mC_eq, mIf_eq, mB_eq, isB_eq, mAndV_eq, mDrop_eq, mMeth_eq, mFld_eq, mMtd_eq, mAsg_eq, mIfS_eq, mTru_eq, mNot_eq, mUn_eq, v0, v1, v2, v3, v4, v5, v6, R.bnd_ok, R.st_ok, SR.seq_next, SR.seq_ret, List.set_cons_zero, List.set_cons_succ, fAbs_v, opLt_int, opNeg_int, opSub_int, opEq_int, opEq_str, opEq_bl, if_true, if_false, Bool.false_eq_true, Bool.true_eq_false, p40, p41, p43, p31, p32, p16, p33, d2, d41, d43, m2, m3, m5, m40, mul2, decide_eq_false z, mNext_eq, mm]
theorem program_ok (ho : op ∈ ops) : m__law_program [.str op] h = .ok (progD op) h := by
  unfold ops at ho
  simp only [List.mem_cons, List.not_mem_nil, or_false] at ho
  rcases ho with rfl | rfl | rfl | rfl | rfl | rfl | rfl
  all_goals exact fn_same rfl rfl rfl
/-- what is due -/
theorem due_ok (ho : op ∈ ops) (a : x.natAbs < 2 ^ 60) (b : y.natAbs < 2 ^ 60) (hz : dz op y = false) : m__law_due [.str op, .int x, .int y] h = .ok (val op x y) h := by
  unfold ops at ho
  simp only [List.mem_cons, List.not_mem_nil, or_false] at ho
  rcases ho with rfl | rfl | rfl | rfl | rfl | rfl | rfl
  · refine fn_same rfl ?_ rfl
    show SR.seq (R.st (m__law_wrap [.int (x + y)] h) _ _) _ = _
    rw [lwrap_ok]; rfl
  · refine fn_same rfl ?_ rfl
    show SR.seq (R.st (m__law_wrap [.int (x - y)] h) _ _) _ = _
    rw [lwrap_ok]; rfl
  · refine fn_same rfl ?_ rfl
    show b__law_due [some (.str "mul"), some (.int x), some (.int y), none] h = _
    unfold b__law_due
    simp only [mSeq_eq, mSet_eq, mRet_eq, mOp_eq, mCall_eq, mCons_eq, mNil_eq, mC_eq, mIf_eq, mB_eq, isB_eq, mAndV_eq, mDrop_eq, mMeth_eq, mFld_eq, mMtd_eq, mAsg_eq, mIfS_eq, mTru_eq, mNot_eq, mUn_eq, v0, v1, v2, v3, v4, v5, v6, R.bnd_ok, R.st_ok, SR.seq_next, SR.seq_ret, List.set_cons_zero, List.set_cons_succ, fAbs_v, opLt_int, opNeg_int, opSub_int, opEq_int, opEq_str, opEq_bl, if_true, if_false, Bool.false_eq_true, Bool.true_eq_false, show (("mul" : Str) = "add") = False from eq_false (by decide), show (("mul" : Str) = "sub") = False from eq_false (by decide), decide_false, decide_true, mNext_eq, mul_ok (h := h) (Nat.lt_trans a (by decide)) (Nat.lt_trans b (by decide)), lwrap_ok]
    rfl
  · have y0 : y ≠ 0 := fun z => by rw [z] at hz; exact absurd hz (by decide)
    refine fn_same rfl ?_ rfl
    show b__law_due [some (.str "div"), some (.int x), some (.int y), none] h = _
    unfold b__law_due
    by_cases z : decide (x < 0) = decide (y < 0)
    · have q : quo x y = q0 x y := if_pos z
      simp only [mSeq_eq, mSet_eq, mRet_eq, mOp_eq, mCall_eq, mCons_eq, mNil_eq, mC_eq, mIf_eq, mB_eq, isB_eq, mAndV_eq, mDrop_eq, mMeth_eq, mFld_eq, mMtd_eq, mAsg_eq, mIfS_eq, mTru_eq, mNot_eq, mUn_eq, v0, v1, v2, v3, v4, v5, v6, R.bnd_ok, R.st_ok, SR.seq_next, SR.seq_ret, List.set_cons_zero, List.set_cons_succ, fAbs_v, opLt_int, opNeg_int, opSub_int, opEq_int, opEq_str, opEq_bl, if_true, if_false, Bool.false_eq_true, Bool.true_eq_false, show (("div" : Str) = "add") = False from eq_false (by decide), show (("div" : Str) = "sub") = False from eq_false (by decide), show (("div" : Str) = "mul") = False from eq_false (by decide), show (("div" : Str) = "equal") = False from eq_false (by decide), show (("div" : Str) = "less") = False from eq_false (by decide), decide_false, decide_true, mNext_eq, div0_ok b y0, opNe_bl, decide_eq_true z, Bool.not_true, lwrap_ok, ← q]
      rfl
    · have q : (0 : Int) - q0 x y = quo x y := by
        unfold quo
        rw [if_neg z, Int.zero_sub]
      simp only [mSeq_eq, mSet_eq, mRet_eq, mOp_eq, mCall_eq, mCons_eq, mNil_eq, mC_eq, mIf_eq, mB_eq, isB_eq, mAndV_eq, mDrop_eq, mMeth_eq, mFld_eq, mMtd_eq, mAsg_eq, mIfS_eq, mTru_eq, mNot_eq, mUn_eq, v0, v1, v2, v3, v4, v5, v6, R.bnd_ok, R.st_ok, SR.seq_next, SR.seq_ret, List.set_cons_zero, List.set_cons_succ, fAbs_v, opLt_int, opNeg_int, opSub_int, opEq_int, opEq_str, opEq_bl, if_true, if_false, Bool.false_eq_true, Bool.true_eq_false, show (("div" : Str) = "add") = False from eq_false (by decide), show (("div" : Str) = "sub") = False from eq_false (by decide), show (("div" : Str) = "mul") = False from eq_false (by decide), show (("div" : Str) = "equal") = False from eq_false (by decide), show (("div" : Str) = "less") = False from eq_false (by decide), decide_false, decide_true, mNext_eq, div0_ok b y0, opNe_bl, decide_eq_false z, Bool.not_false, q, lwrap_ok]
      rfl
  · have y0 : y ≠ 0 := fun z => by rw [z] at hz; exact absurd hz (by decide)
    have mm : opMul (.int y) (.int (quo x y)) h = .ok (.int (y * quo x y)) h := mul_ok (Nat.lt_trans b (by decide)) (quo_small a)
    refine fn_same rfl ?_ rfl
    show b__law_due [some (.str "rem"), some (.int x), some (.int y), none] h = _
    unfold b__law_due
    by_cases z : decide (x < 0) = decide (y < 0)
    · have q : quo x y = q0 x y := if_pos z
      simp only [mSeq_eq, mSet_eq, mRet_eq, mOp_eq, mCall_eq, mCons_eq, mNil_eq, mC_eq, mIf_eq, mB_eq, isB_eq, mAndV_eq, mDrop_eq, mMeth_eq, mFld_eq, mMtd_eq, mAsg_eq, mIfS_eq, mTru_eq, mNot_eq, mUn_eq, v0, v1, v2, v3, v4, v5, v6, R.bnd_ok, R.st_ok, SR.seq_next, SR.seq_ret, List.set_cons_zero, List.set_cons_succ, fAbs_v, opLt_int, opNeg_int, opSub_int, opEq_int, opEq_str, opEq_bl, if_true, if_false, Bool.false_eq_true, Bool.true_eq_false, show (("rem" : Str) = "add") = False from eq_false (by decide), show (("rem" : Str) = "sub") = False from eq_false (by decide), show (("rem" : Str) = "mul") = False from eq_false (by decide), show (("rem" : Str) = "equal") = False from eq_false (by decide), show (("rem" : Str) = "less") = False from eq_false (by decide), show (("rem" : Str) = "div") = False from eq_false (by decide), decide_false, decide_true, mNext_eq, div0_ok b y0, opNe_bl, decide_eq_true z, Bool.not_true, mm, ← q]
      rfl
    · have q : (0 : Int) - q0 x y = quo x y := by
        unfold quo
        rw [if_neg z, Int.zero_sub]
      simp only [mSeq_eq, mSet_eq, mRet_eq, mOp_eq, mCall_eq, mCons_eq, mNil_eq, mC_eq, mIf_eq, mB_eq, isB_eq, mAndV_eq, mDrop_eq, mMeth_eq, mFld_eq, mMtd_eq, mAsg_eq, mIfS_eq, mTru_eq, mNot_eq, mUn_eq, v0, v1, v2, v3, v4, v5, v6, R.bnd_ok, R.st_ok, SR.seq_next, SR.seq_ret, List.set_cons_zero, List.set_cons_succ, fAbs_v, opLt_int, opNeg_int, opSub_int, opEq_int, opEq_str, opEq_bl, if_true, if_false, Bool.false_eq_true, Bool.true_eq_false, show (("rem" : Str) = "add") = False from eq_false (by decide), show (("rem" : Str) = "sub") = False from eq_false (by decide), show (("rem" : Str) = "mul") = False from eq_false (by decide), show (("rem" : Str) = "equal") = False from eq_false (by decide), show (("rem" : Str) = "less") = False from eq_false (by decide), show (("rem" : Str) = "div") = False from eq_false (by decide), decide_false, decide_true, mNext_eq, div0_ok b y0, opNe_bl, decide_eq_false z, Bool.not_false, q, mm]
      rfl
  · exact fn_same rfl rfl rfl
  · exact fn_same rfl rfl rfl
theorem val_int (ho : op ∈ ops) : ∃ v : Int, val op x y = .int v := by
  unfold ops at ho
  simp only [List.mem_cons, List.not_mem_nil, or_false] at ho
  rcases ho with rfl | rfl | rfl | rfl | rfl | rfl | rfl
  all_goals exact ⟨_, rfl⟩
theorem right_ok (ho : op ∈ ops) : m__law_right [.str op, .int x, .int y, resD op (wr x) (wr y)] h = .ok (.bl true) h := by
  have inn : ∀ {y' : Int}, mAnd (mB (mOp opIn2 (mVar 0) (mTup (mCons (mC (.str "div")) (mCons (mC (.str "rem")) (mNil)))))) (mB (mOp opEq (mVar 2) (mC (.int 0)))) [some (.str op), some (.int (wr x)), some (.int y'), some (resD op (wr x) (wr y))] h = .ok (dz op y') h := fun {y'} => by
    have ho := ho
    unfold ops at ho
    simp only [List.mem_cons, List.not_mem_nil, or_false] at ho
    unfold dz
    rcases ho with rfl | rfl | rfl | rfl | rfl | rfl | rfl
    · rfl
    · rfl
    · rfl
    · rw [show (decide (("div" : Str) = "div") || decide (("div" : Str) = "rem")) = true by decide, Bool.true_and]; rfl
    · rw [show (decide (("rem" : Str) = "div") || decide (("rem" : Str) = "rem")) = true by decide, Bool.true_and]; rfl
    · rfl
    · rfl
  refine fn_same rfl ?_ rfl
  show b__law_right [some (.str op), some (.int x), some (.int y), some (resD op (wr x) (wr y))] h = _
  unfold b__law_right
  by_cases hz : dz op (wr y) = true
  · have er : resD op (wr x) (wr y) = .tup [divF, .int 0, .tup [], .int 0] := if_pos hz
    rw [er] at inn ⊢
    rw [mSeq_eq]
    have first : mIfS (mOr (mNot (mTru (mCall fIsi (mCons (mVar 3) (mCons (mC (.ty "tuple")) (mNil)))))) (mOr (mB (mOp opNe (mCall fLen (mCons (mVar 3) (mNil))) (mC (.int 4)))) (mTru (mCall fIsi (mCons (mOp opIx (mVar 3) (mC (.int 1))) (mCons (mC (.ty "bool")) (mNil))))))) (mRet (mC (.bl false))) (mNext) [some (.str op), some (.int x), some (.int y), some (.tup [divF, .int 0, .tup [], .int 0])] h = .ok (.next [some (.str op), some (.int x), some (.int y), some (.tup [divF, .int 0, .tup [], .int 0])]) h := rfl
    rw [first, SR.seq_next]
    simp only [mSeq_eq, mSet_eq, mRet_eq, mOp_eq, mCall_eq, mCons_eq, mNil_eq, mC_eq, mIf_eq, mB_eq, isB_eq, mAndV_eq, mDrop_eq, mMeth_eq, mFld_eq, mMtd_eq, mAsg_eq, mIfS_eq, mTru_eq, mNot_eq, mUn_eq, v0, v1, v2, v3, v4, v5, v6, R.bnd_ok, R.st_ok, SR.seq_next, SR.seq_ret, List.set_cons_zero, List.set_cons_succ, fAbs_v, opLt_int, opNeg_int, opSub_int, opEq_int, opEq_str, opEq_bl, if_true, if_false, Bool.false_eq_true, Bool.true_eq_false, lwrap_ok]
    rw [inn, hz]
    have eq := eq_same (d := .tup [divF, .int 0, .tup [], .int 0]) (h := h) (n := 3) (by decide) (by show D.eok 3 (.tup [divF, .int 0, .tup [], .int 0]) = true; decide +kernel)
    show SR.seq (R.st (opEq (.tup [divF, .int 0, .tup [], .int 0]) (.tup [divF, .int 0, .tup [], .int 0]) h) _ _) _ = _
    rw [eq]; rfl
  · have hz' : dz op (wr y) = false := by simpa using hz
    have er : resD op (wr x) (wr y) = .tup [.non, val op (wr x) (wr y), .tup [], .int 0] := if_neg hz
    have du := due_ok (h := h) ho (wr_60 x) (wr_60 y) hz'
    obtain ⟨v, ev⟩ := val_int (x := wr x) (y := wr y) ho
    rw [er] at inn ⊢
    rw [ev] at inn du ⊢
    rw [mSeq_eq]
    have first : mIfS (mOr (mNot (mTru (mCall fIsi (mCons (mVar 3) (mCons (mC (.ty "tuple")) (mNil)))))) (mOr (mB (mOp opNe (mCall fLen (mCons (mVar 3) (mNil))) (mC (.int 4)))) (mTru (mCall fIsi (mCons (mOp opIx (mVar 3) (mC (.int 1))) (mCons (mC (.ty "bool")) (mNil))))))) (mRet (mC (.bl false))) (mNext) [some (.str op), some (.int x), some (.int y), some (.tup [.non, .int v, .tup [], .int 0])] h = .ok (.next [some (.str op), some (.int x), some (.int y), some (.tup [.non, .int v, .tup [], .int 0])]) h := rfl
    rw [first, SR.seq_next]
    simp only [mSeq_eq, mSet_eq, mRet_eq, mOp_eq, mCall_eq, mCons_eq, mNil_eq, mC_eq, mIf_eq, mB_eq, isB_eq, mAndV_eq, mDrop_eq, mMeth_eq, mFld_eq, mMtd_eq, mAsg_eq, mIfS_eq, mTru_eq, mNot_eq, mUn_eq, v0, v1, v2, v3, v4, v5, v6, R.bnd_ok, R.st_ok, SR.seq_next, SR.seq_ret, List.set_cons_zero, List.set_cons_succ, fAbs_v, opLt_int, opNeg_int, opSub_int, opEq_int, opEq_str, opEq_bl, if_true, if_false, Bool.false_eq_true, Bool.true_eq_false, lwrap_ok]
    rw [inn, hz']
    have eq := eq_same (d := .tup [.non, .int v, .tup [], .int 0]) (h := h) (n := 3) (by decide) rfl
    have n0 : (([] : List D).length ≤ 16777216) = True := eq_true (by decide)
    have n4 : ([D.non, .int v, .tup [], .int 0].length ≤ 16777216) = True := eq_true (by show 4 ≤ 16777216; decide)
    simp only [mSeq_eq, mSet_eq, mRet_eq, mOp_eq, mCall_eq, mCons_eq, mNil_eq, mC_eq, mIf_eq, mB_eq, isB_eq, mAndV_eq, mDrop_eq, mMeth_eq, mFld_eq, mMtd_eq, mAsg_eq, mIfS_eq, mTru_eq, mNot_eq, mUn_eq, v0, v1, v2, v3, v4, v5, v6, R.bnd_ok, R.st_ok, SR.seq_next, SR.seq_ret, List.set_cons_zero, List.set_cons_succ, fAbs_v, opLt_int, opNeg_int, opSub_int, opEq_int, opEq_str, opEq_bl, if_true, if_false, Bool.false_eq_true, Bool.true_eq_false, mNext_eq, du, mTup_eq, n0, n4, eq]
end
theorem mMore_eq {mas : MA} {ds : List D} {δ : MS} {h : MH} : mMore mas ds δ h = (mas δ h).bnd fun xs h1 => .ok (xs ++ ds) h1 := rfl
set_option maxHeartbeats 4000000 in
/-- THE LAW -/
theorem law_true (ns : List Int) (hl : ns.length ≤ 63) : ∃ h', m_law [.rol (ns.map D.int)] [] = .ok (.bl true) h' := by
  obtain ⟨g1, e1⟩ := number_ok (c := ns.getD 0 0) (h := [])
  obtain ⟨g2, e2⟩ := number_ok (c := ns.getD 1 0) (h := [])
  have c0 := cell_ok (ns := ns) (h := []) 0
  have c1 := cell_ok (ns := ns) (h := []) 1
  have c2 := cell_ok (ns := ns) (h := []) 2
  have c3 := cell_ok (ns := ns) (h := []) 3
  generalize ns.map D.int = sc at c0 c1 c2 c3 ⊢
  generalize ns.getD 0 0 = k0 at c0 e1
  generalize ns.getD 1 0 = k1 at c1 e2
  generalize ns.getD 2 0 = k2 at c2
  generalize ns.getD 3 0 = k3 at c3
  have m7 : opMod (.int k2) (.int 7) [] = .ok (.int (k2 % 7)) [] := opMod_int (by decide)
  have d7 : opDiv (.int k2) (.int 7) [] = .ok (.int (k2 / 7)) [] := opDiv_int (by decide) (by decide)
  have m4 : opMod (.int (k2 / 7)) (.int 4) [] = .ok (.int (k2 / 7 % 4)) [] := opMod_int (by decide)
  have m5 : opMod (.int k3) (.int 5) [] = .ok (.int (k3 % 5)) [] := opMod_int (by decide)
  obtain ⟨op, ho, eo⟩ : ∃ op : Str, op ∈ ops ∧ opIx (.rol [.str "add", .str "sub", .str "mul", .str "div", .str "rem", .str "equal", .str "less"]) (.int (k2 % 7)) [] = .ok (.str op) [] := by
    have q : ∀ i : Int, 0 ≤ i → i < 7 → ∃ op : Str, op ∈ ops ∧ opIx (.rol [.str "add", .str "sub", .str "mul", .str "div", .str "rem", .str "equal", .str "less"]) (.int i) [] = .ok (.str op) [] := fun i a b => by
      obtain ⟨j, rfl⟩ := Int.eq_ofNat_of_zero_le a
      match j, b with
      | 0, _ => exact ⟨_, by decide, rfl⟩
      | 1, _ => exact ⟨_, by decide, rfl⟩
      | 2, _ => exact ⟨_, by decide, rfl⟩
      | 3, _ => exact ⟨_, by decide, rfl⟩
      | 4, _ => exact ⟨_, by decide, rfl⟩
      | 5, _ => exact ⟨_, by decide, rfl⟩
      | 6, _ => exact ⟨_, by decide, rfl⟩
      | n + 7, b => exact absurd b (by omega)
    exact q _ (by omega) (by omega)
  have pr := program_ok (h := []) ho
  -- what stands behind the choice of the second number
  have rest : ∀ a b : Int, ∃ h', mSeq (mSet 6 (mLst (mCons (mVar 1) (mCons (mVar 2) (mNil))))) (mSeq (mIfS (mNot (mTru (mCall m__law_right (mCons (mVar 3) (mCons (mVar 1) (mCons (mVar 2) (mCons (mCallN 2 1 m_run (mCons (mVar 5) (mCons (mVar 6) (mNil))) (mCons (mVar 4) (mNil))) (mNil)))))))) (mRet (mC (.bl false))) (mNext)) (mSeq (mIfS (mB (mOp opNe (mVar 6) (mLst (mCons (mVar 1) (mCons (mVar 2) (mNil)))))) (mRet (mC (.bl false))) (mNext)) (mSeq (mIfS (mNot (mTru (mCall m__law_right (mCons (mVar 3) (mCons (mVar 2) (mCons (mVar 1) (mCons (mCallN 2 1 m_run (mCons (mVar 5) (mCons (mTup (mCons (mVar 2) (mCons (mVar 1) (mNil)))) (mNil))) (mCons (mVar 4) (mNil))) (mNil)))))))) (mRet (mC (.bl false))) (mNext)) (mRet (mCall m__law_right (mCons (mVar 3) (mCons (mVar 1) (mCons (mVar 2) (mCons (mCall m_run (mMore (mCons (mVar 5) (mCons (mVar 6) (mNil))) [(.int 200)])) (mNil))))))))))
      [some (.rol sc), some (.int a), some (.int b), some (.str op), some (.int (k2 / 7 % 4)), some (progD op), none] [] = .ok (.ret (.bl true)) h' := fun a b => by
    have r1 := run_ok (op := op) (args := .rol [.int a, .int b]) (x := a) (y := b) (lim := k2 / 7 % 4) ho (.inl rfl) rfl
    have r2 := run_ok (op := op) (args := .tup [.int b, .int a]) (x := b) (y := a) (lim := k2 / 7 % 4) ho (.inr rfl) rfl
    have r3 := run_ok (op := op) (args := .rol [.int a, .int b]) (x := a) (y := b) (lim := 200) ho (.inl rfl) rfl
    have w1 := right_ok (x := a) (y := b) (h := []) ho
    have w2 := right_ok (x := b) (y := a) (h := []) ho
    have ne : opNe (.rol [.int a, .int b]) (.rol [.int a, .int b]) [] = .ok (.bl false) [] := by
      have q := eqG_is (d := .rol [.int a, .int b]) (e := .rol [.int a, .int b]) (h := []) (n := 2) (m := 2) (by decide) (by decide) rfl rfl
      unfold opNe
      rw [q, eqD_refl (d := seeD (.rol [.int a, .int b]) []) (n := 2) rfl]
      rfl
    have t1 : ∀ δ : MS, mCallN 2 1 m_run (mCons (mVar 5) (mCons (mVar 6) (mNil))) (mCons (mVar 4) (mNil)) [some (.rol sc), some (.int a), some (.int b), some (.str op), some (.int (k2 / 7 % 4)), some (progD op), some (.rol [.int a, .int b])] [] = .ok (resD op (wr a) (wr b)) [] := fun _ => by
      unfold mCallN
      simp only [mSeq_eq, mSet_eq, mRet_eq, mOp_eq, mCall_eq, mCons_eq, mNil_eq, mC_eq, mIf_eq, mB_eq, isB_eq, mAndV_eq, mDrop_eq, mMeth_eq, mFld_eq, mMtd_eq, mAsg_eq, mIfS_eq, mTru_eq, mNot_eq, mUn_eq, v0, v1, v2, v3, v4, v5, v6, R.bnd_ok, R.st_ok, SR.seq_next, SR.seq_ret, List.set_cons_zero, List.set_cons_succ, fAbs_v, opLt_int, opNeg_int, opSub_int, opEq_int, opEq_str, opEq_bl, if_true, if_false, Bool.false_eq_true, Bool.true_eq_false]
      rw [if_pos ⟨rfl, rfl⟩]
      exact r1
    have t2 : mCallN 2 1 m_run (mCons (mVar 5) (mCons (mTup (mCons (mVar 2) (mCons (mVar 1) (mNil)))) (mNil))) (mCons (mVar 4) (mNil)) [some (.rol sc), some (.int a), some (.int b), some (.str op), some (.int (k2 / 7 % 4)), some (progD op), some (.rol [.int a, .int b])] [] = .ok (resD op (wr b) (wr a)) [] := by
      unfold mCallN
      simp only [mSeq_eq, mSet_eq, mRet_eq, mOp_eq, mCall_eq, mCons_eq, mNil_eq, mC_eq, mIf_eq, mB_eq, isB_eq, mAndV_eq, mDrop_eq, mMeth_eq, mFld_eq, mMtd_eq, mAsg_eq, mIfS_eq, mTru_eq, mNot_eq, mUn_eq, v0, v1, v2, v3, v4, v5, v6, R.bnd_ok, R.st_ok, SR.seq_next, SR.seq_ret, List.set_cons_zero, List.set_cons_succ, fAbs_v, opLt_int, opNeg_int, opSub_int, opEq_int, opEq_str, opEq_bl, if_true, if_false, Bool.false_eq_true, Bool.true_eq_false, mTup_eq, show ([D.int b, .int a].length ≤ 16777216) = True from eq_true (by show 2 ≤ 16777216; decide)]
      rw [if_pos ⟨rfl, rfl⟩]
      exact r2
    have two : ([D.int a, .int b].length ≤ 16777216) = True := eq_true (by show 2 ≤ 16777216; decide)
    refine ⟨[], ?_⟩
    simp only [mSeq_eq, mSet_eq, mRet_eq, mOp_eq, mCall_eq, mCons_eq, mNil_eq, mC_eq, mIf_eq, mB_eq, isB_eq, mAndV_eq, mDrop_eq, mMeth_eq, mFld_eq, mMtd_eq, mAsg_eq, mIfS_eq, mTru_eq, mNot_eq, mUn_eq, v0, v1, v2, v3, v4, v5, v6, R.bnd_ok, R.st_ok, SR.seq_next, SR.seq_ret, List.set_cons_zero, List.set_cons_succ, fAbs_v, opLt_int, opNeg_int, opSub_int, opEq_int, opEq_str, opEq_bl, if_true, if_false, Bool.false_eq_true, Bool.true_eq_false, mLst_eq, two, t1 [], t2, mMore_eq, List.cons_append, List.nil_append, r3, w1, w2, ne, truD_bl, Bool.not_true, Bool.not_false, mNext_eq]
  have body : ∃ h', b_law [some (.rol sc), none, none, none, none, none, none] [] = .ok (.ret (.bl true)) h' := by
    unfold b_law
    have z0 : (0 : Int) = ((0 : Nat) : Int) := rfl
    have z1 : (1 : Int) = ((1 : Nat) : Int) := rfl
    have z2 : (2 : Int) = ((2 : Nat) : Int) := rfl
    have z3 : (3 : Int) = ((3 : Nat) : Int) := rfl
    have c0' : m__law_cell [.rol sc, .int 0] [] = .ok (.int k0) [] := c0
    have c1' : m__law_cell [.rol sc, .int 1] [] = .ok (.int k1) [] := c1
    have c2' : m__law_cell [.rol sc, .int 2] [] = .ok (.int k2) [] := c2
    have c3' : m__law_cell [.rol sc, .int 3] [] = .ok (.int k3) [] := c3
    have seven : ([D.str "add", .str "sub", .str "mul", .str "div", .str "rem", .str "equal", .str "less"].length ≤ 16777216) = True := eq_true (by show 7 ≤ 16777216; decide)
    have step : ∀ K : MSt, mSeq (mSet 1 (mCall m__law_number (mCons (mCall m__law_cell (mCons (mVar 0) (mCons (mC (.int 0)) (mNil)))) (mNil)))) (mSeq (mSet 2 (mCall m__law_number (mCons (mCall m__law_cell (mCons (mVar 0) (mCons (mC (.int 1)) (mNil)))) (mNil)))) (mSeq (mSet 3 (mOp opIx (mLst (mCons (mC (.str "add")) (mCons (mC (.str "sub")) (mCons (mC (.str "mul")) (mCons (mC (.str "div")) (mCons (mC (.str "rem")) (mCons (mC (.str "equal")) (mCons (mC (.str "less")) (mNil))))))))) (mOp opMod (mCall m__law_cell (mCons (mVar 0) (mCons (mC (.int 2)) (mNil)))) (mC (.int 7))))) (mSeq (mSet 4 (mOp opMod (mOp opDiv (mCall m__law_cell (mCons (mVar 0) (mCons (mC (.int 2)) (mNil)))) (mC (.int 7))) (mC (.int 4)))) (mSeq (mSet 5 (mCall m__law_program (mCons (mVar 3) (mNil)))) K))))
        [some (.rol sc), none, none, none, none, none, none] [] = K [some (.rol sc), some (.int g1), some (.int g2), some (.str op), some (.int (k2 / 7 % 4)), some (progD op), none] [] := fun K => by
      simp only [mSeq_eq, mSet_eq, mRet_eq, mOp_eq, mCall_eq, mCons_eq, mNil_eq, mC_eq, mIf_eq, mB_eq, isB_eq, mAndV_eq, mDrop_eq, mMeth_eq, mFld_eq, mMtd_eq, mAsg_eq, mIfS_eq, mTru_eq, mNot_eq, mUn_eq, v0, v1, v2, v3, v4, v5, v6, R.bnd_ok, R.st_ok, SR.seq_next, SR.seq_ret, List.set_cons_zero, List.set_cons_succ, fAbs_v, opLt_int, opNeg_int, opSub_int, opEq_int, opEq_str, opEq_bl, if_true, if_false, Bool.false_eq_true, Bool.true_eq_false, c0', c1', c2', e1, e2, m7, d7, m4, mLst_eq, seven, eo, pr]
    rw [step, mSeq_eq]
    by_cases z : k3 % 5 = 1
    · have q : mIfS (mB (mOp opEq (mOp opMod (mCall m__law_cell (mCons (mVar 0) (mCons (mC (.int 3)) (mNil)))) (mC (.int 5))) (mC (.int 1)))) (mSet 2 (mVar 1)) (mNext) [some (.rol sc), some (.int g1), some (.int g2), some (.str op), some (.int (k2 / 7 % 4)), some (progD op), none] [] = .ok (.next [some (.rol sc), some (.int g1), some (.int g1), some (.str op), some (.int (k2 / 7 % 4)), some (progD op), none]) [] := by
        simp only [mSeq_eq, mSet_eq, mRet_eq, mOp_eq, mCall_eq, mCons_eq, mNil_eq, mC_eq, mIf_eq, mB_eq, isB_eq, mAndV_eq, mDrop_eq, mMeth_eq, mFld_eq, mMtd_eq, mAsg_eq, mIfS_eq, mTru_eq, mNot_eq, mUn_eq, v0, v1, v2, v3, v4, v5, v6, R.bnd_ok, R.st_ok, SR.seq_next, SR.seq_ret, List.set_cons_zero, List.set_cons_succ, fAbs_v, opLt_int, opNeg_int, opSub_int, opEq_int, opEq_str, opEq_bl, if_true, if_false, Bool.false_eq_true, Bool.true_eq_false, c3', m5, decide_eq_true z]
      rw [q, SR.seq_next]
      exact rest g1 g1
    · have q : mIfS (mB (mOp opEq (mOp opMod (mCall m__law_cell (mCons (mVar 0) (mCons (mC (.int 3)) (mNil)))) (mC (.int 5))) (mC (.int 1)))) (mSet 2 (mVar 1)) (mNext) [some (.rol sc), some (.int g1), some (.int g2), some (.str op), some (.int (k2 / 7 % 4)), some (progD op), none] [] = .ok (.next [some (.rol sc), some (.int g1), some (.int g2), some (.str op), some (.int (k2 / 7 % 4)), some (progD op), none]) [] := by
        simp only [mSeq_eq, mSet_eq, mRet_eq, mOp_eq, mCall_eq, mCons_eq, mNil_eq, mC_eq, mIf_eq, mB_eq, isB_eq, mAndV_eq, mDrop_eq, mMeth_eq, mFld_eq, mMtd_eq, mAsg_eq, mIfS_eq, mTru_eq, mNot_eq, mUn_eq, v0, v1, v2, v3, v4, v5, v6, R.bnd_ok, R.st_ok, SR.seq_next, SR.seq_ret, List.set_cons_zero, List.set_cons_succ, fAbs_v, opLt_int, opNeg_int, opSub_int, opEq_int, opEq_str, opEq_bl, if_true, if_false, Bool.false_eq_true, Bool.true_eq_false, c3', m5, decide_eq_false z, mNext_eq]
      rw [q, SR.seq_next]
      exact rest g1 g2
  obtain ⟨h', e⟩ := body
  have q : m_law [.rol sc] [] = mEnd [] (b_law [some (.rol sc), none, none, none, none, none, none] []) := mFn_eq rfl
  rw [q, e]
  have L : LeftOf [] h' := ⟨Nat.zero_le _, fun n o hn => absurd hn (by simp)⟩
  exact ⟨_, leave_eq (d := .bl true) L rfl⟩
end K17

open PySem PySem.W PyProof.Rows
set_option maxHeartbeats 0 in
theorem PySem.Challenge.cw_escheat_k17_integer_operations_holds : PySem.Challenge.rw_escheat_k17_integer_operations.Holds := by
  w_on; o_law; k_head; (case hw => w_witness2)
  k_fill
  refine L2.walk_of (l := PySem.Challenge.rw_escheat_k17_integer_operations) (n := 63) (k := 8) (x := "script") (CX := fun w => L2N.CX PySem.Challenge.rw_escheat_k17_integer_operations.prog w) (sp := fun w => MM.spOf _ K17.m_law) rfl (by decide) rfl ⟨rfl, by decide, by decide⟩ (fun w h Y => PySem.W.kIn_of Y) ?F (fun _ _ a ns hl _ hS => MM.law_end hS (K17.law_true ns hl)) (fun _ _ _ _ _ q => MM.no_exc q)
  case F =>
    intro w mg fa h KX G hmg
    refine' K17.law_facts KX G hmg ?ac_Outcome ?pg_Outcome ?hd_Outcome ?po_Outcome ?sa_Outcome ?no_Outcome_fault ?no_Outcome_fuel ?no_Outcome_outs ?no_Outcome_returned ?no_Outcome_ticks ?mk_Outcome ?kc_Outcome ?ac_Evaluation ?pg_Evaluation ?hd_Evaluation ?po_Evaluation ?sa_Evaluation ?no_Evaluation_done ?no_Evaluation_exceptions ?no_Evaluation_functions ?no_Evaluation_outcome ?no_Evaluation_tasks ?mk_Evaluation ?kc_Evaluation ?a0 ?l0 ?c0 ?k0 ?a1 ?l1 ?c1 ?k1 ?a2 ?l2 ?c2 ?k2 ?a3 ?l3 ?c3 ?k3 ?a4 ?l4 ?c4 ?k4 ?a5 ?l5 ?c5 ?k5 ?a6 ?j6 ?l6 ?c6 ?k6 ?a7 ?j7 ?l7 ?c7 ?k7 ?a8 ?j8 ?l8 ?c8 ?k8 ?a9 ?j9 ?l9 ?c9 ?k9 ?a10 ?l10 ?c10 ?k10 ?a11 ?l11 ?c11 ?k11 ?a12 ?j12 ?l12 ?c12 ?k12 ?a13 ?l13 ?c13 ?k13 ?a14 ?l14 ?c14 ?k14 ?a15 ?l15 ?c15 ?k15 ?a16 ?l16 ?c16 ?k16 ?a17 ?j17 ?l17 ?c17 ?k17 ?a18 ?l18 ?c18 ?k18 ?a19 ?l19 ?c19 ?k19 ?a20 ?l20 ?c20 ?k20 ?a21 ?l21 ?c21 ?k21 ?a22 ?l22 ?c22 ?k22 ?a23 ?l23 ?c23 ?k23 ?a24 ?l24 ?c24 ?k24 ?a25 ?l25 ?c25 ?k25 ?a26 ?l26 ?c26 ?k26 ?a27 ?l27 ?c27 ?k27 ?a28 ?l28 ?c28 ?k28 ?a29 ?l29 ?c29 ?k29 ?a30 ?j30 ?l30 ?c30 ?k30 ?a31 ?l31 ?c31 ?k31 ?a32 ?l32 ?c32 ?k32 ?a33 ?l33 ?c33 ?k33 ?a34 ?l34 ?c34 ?k34 ?a35 ?l35 ?c35 ?k35 ?a36 ?l36 ?c36 ?k36 ?a37 ?l37 ?c37 ?k37 ?a38 ?l38 ?c38 ?k38 ?a39 ?l39 ?c39 ?k39 ?a40 ?l40 ?c40 ?k40 ?a41 ?l41 ?c41 ?k41 ?a42 ?l42 ?c42 ?k42 ?a43 ?l43 ?c43 ?k43 ?a44 ?l44 ?c44 ?k44 ?a45 ?l45 ?c45 ?k45 ?a46 ?l46 ?c46 ?k46 ?a47 ?l47 ?c47 ?k47 ?a48 ?l48 ?c48 ?k48 ?a49 ?l49 ?c49 ?k49 ?a50 ?j50 ?l50 ?c50 ?k50 ?a51 ?j51 ?l51 ?c51 ?k51 ?a52 ?j52 ?l52 ?c52 ?k52 ?a53 ?j53 ?l53 ?c53 ?k53 ?a54 ?l54 ?c54 ?k54 ?q54_0 ?a55 ?l55 ?c55 ?k55 ?z_int ?z_abs ?z_tuple ?z_isinstance ?z_len ?z_bool ?z_max ?z_min ?z_zip ?z_list ?z_reversed ?g_MAX_FUEL ?g_EARLY ?l_EARLY ?y_EARLY ?o_EARLY ?r_EARLY ?g_MAX_ARRAY ?g_SIZE ?g_INDEX ?g_HALF ?g_OPERATIONS ?l_OPERATIONS ?y_OPERATIONS ?o_OPERATIONS ?r_OPERATIONS ?g_DIV ?g_BEGINNINGS ?l_BEGINNINGS ?y_BEGINNINGS ?o_BEGINNINGS ?r_BEGINNINGS ?g_ENDS ?l_ENDS ?y_ENDS ?o_ENDS ?r_ENDS
    (case ac_Outcome => k_is); (case pg_Outcome => k_is); (case hd_Outcome => k_is); (case po_Outcome => k_is); (case sa_Outcome => k_is); (case no_Outcome_fault => k_is); (case no_Outcome_fuel => k_is); (case no_Outcome_outs => k_is); (case no_Outcome_returned => k_is); (case no_Outcome_ticks => k_is); (case mk_Outcome => k_is); (case kc_Outcome => k_is); (case ac_Evaluation => k_is); (case pg_Evaluation => k_is); (case hd_Evaluation => k_is); (case po_Evaluation => k_is); (case sa_Evaluation => k_is); (case no_Evaluation_done => k_is); (case no_Evaluation_exceptions => k_is); (case no_Evaluation_functions => k_is); (case no_Evaluation_outcome => k_is); (case no_Evaluation_tasks => k_is); (case mk_Evaluation => k_is); (case kc_Evaluation => k_is); (case a0 => k_is); (case l0 => k_is); (case c0 => k_is); (case k0 => k_is); (case a1 => k_is); (case l1 => k_is); (case c1 => k_is); (case k1 => k_is); (case a2 => k_is); (case l2 => k_is); (case c2 => k_is); (case k2 => k_is); (case a3 => k_is); (case l3 => k_is); (case c3 => k_is); (case k3 => k_is); (case a4 => k_is); (case l4 => k_is); (case c4 => k_is); (case k4 => k_is); (case a5 => k_is); (case l5 => k_is); (case c5 => k_is); (case k5 => k_is); (case a6 => k_is); (case j6 => k_is); (case l6 => k_is); (case c6 => k_is); (case k6 => k_is); (case a7 => k_is); (case j7 => k_is); (case l7 => k_is); (case c7 => k_is); (case k7 => k_is); (case a8 => k_is); (case j8 => k_is); (case l8 => k_is); (case c8 => k_is); (case k8 => k_is); (case a9 => k_is); (case j9 => k_is); (case l9 => k_is); (case c9 => k_is); (case k9 => k_is); (case a10 => k_is); (case l10 => k_is); (case c10 => k_is); (case k10 => k_is); (case a11 => k_is); (case l11 => k_is); (case c11 => k_is); (case k11 => k_is); (case a12 => k_is); (case j12 => k_is); (case l12 => k_is); (case c12 => k_is); (case k12 => k_is); (case a13 => k_is); (case l13 => k_is); (case c13 => k_is); (case k13 => k_is); (case a14 => k_is); (case l14 => k_is); (case c14 => k_is); (case k14 => k_is); (case a15 => k_is); (case l15 => k_is); (case c15 => k_is); (case k15 => k_is); (case a16 => k_is); (case l16 => k_is); (case c16 => k_is); (case k16 => k_is); (case a17 => k_is); (case j17 => k_is); (case l17 => k_is); (case c17 => k_is); (case k17 => k_is); (case a18 => k_is); (case l18 => k_is); (case c18 => k_is); (case k18 => k_is); (case a19 => k_is); (case l19 => k_is); (case c19 => k_is); (case k19 => k_is); (case a20 => k_is); (case l20 => k_is); (case c20 => k_is); (case k20 => k_is); (case a21 => k_is); (case l21 => k_is); (case c21 => k_is); (case k21 => k_is); (case a22 => k_is); (case l22 => k_is); (case c22 => k_is); (case k22 => k_is); (case a23 => k_is); (case l23 => k_is); (case c23 => k_is); (case k23 => k_is); (case a24 => k_is); (case l24 => k_is); (case c24 => k_is); (case k24 => k_is); (case a25 => k_is); (case l25 => k_is); (case c25 => k_is); (case k25 => k_is); (case a26 => k_is); (case l26 => k_is); (case c26 => k_is); (case k26 => k_is); (case a27 => k_is); (case l27 => k_is); (case c27 => k_is); (case k27 => k_is); (case a28 => k_is); (case l28 => k_is); (case c28 => k_is); (case k28 => k_is); (case a29 => k_is); (case l29 => k_is); (case c29 => k_is); (case k29 => k_is); (case a30 => k_is); (case j30 => k_is); (case l30 => k_is); (case c30 => k_is); (case k30 => k_is); (case a31 => k_is); (case l31 => k_is); (case c31 => k_is); (case k31 => k_is); (case a32 => k_is); (case l32 => k_is); (case c32 => k_is); (case k32 => k_is); (case a33 => k_is); (case l33 => k_is); (case c33 => k_is); (case k33 => k_is); (case a34 => k_is); (case l34 => k_is); (case c34 => k_is); (case k34 => k_is); (case a35 => k_is); (case l35 => k_is); (case c35 => k_is); (case k35 => k_is); (case a36 => k_is); (case l36 => k_is); (case c36 => k_is); (case k36 => k_is); (case a37 => k_is); (case l37 => k_is); (case c37 => k_is); (case k37 => k_is); (case a38 => k_is); (case l38 => k_is); (case c38 => k_is); (case k38 => k_is); (case a39 => k_is); (case l39 => k_is); (case c39 => k_is); (case k39 => k_is); (case a40 => k_is); (case l40 => k_is); (case c40 => k_is); (case k40 => k_is); (case a41 => k_is); (case l41 => k_is); (case c41 => k_is); (case k41 => k_is); (case a42 => k_is); (case l42 => k_is); (case c42 => k_is); (case k42 => k_is); (case a43 => k_is); (case l43 => k_is); (case c43 => k_is); (case k43 => k_is); (case a44 => k_is); (case l44 => k_is); (case c44 => k_is); (case k44 => k_is); (case a45 => k_is); (case l45 => k_is); (case c45 => k_is); (case k45 => k_is); (case a46 => k_is); (case l46 => k_is); (case c46 => k_is); (case k46 => k_is); (case a47 => k_is); (case l47 => k_is); (case c47 => k_is); (case k47 => k_is); (case a48 => k_is); (case l48 => k_is); (case c48 => k_is); (case k48 => k_is); (case a49 => k_is); (case l49 => k_is); (case c49 => k_is); (case k49 => k_is); (case a50 => k_is); (case j50 => k_is); (case l50 => k_is); (case c50 => k_is); (case k50 => k_is); (case a51 => k_is); (case j51 => k_is); (case l51 => k_is); (case c51 => k_is); (case k51 => k_is); (case a52 => k_is); (case j52 => k_is); (case l52 => k_is); (case c52 => k_is); (case k52 => k_is); (case a53 => k_is); (case j53 => k_is); (case l53 => k_is); (case c53 => k_is); (case k53 => k_is); (case a54 => k_is); (case l54 => k_is); (case c54 => k_is); (case k54 => k_is); (case q54_0 => k_is); (case a55 => k_is); (case l55 => k_is); (case c55 => k_is); (case k55 => k_is); (case z_int => k_is); (case z_abs => k_is); (case z_tuple => k_is); (case z_isinstance => k_is); (case z_len => k_is); (case z_bool => k_is); (case z_max => k_is); (case z_min => k_is); (case z_zip => k_is); (case z_list => k_is); (case z_reversed => k_is); (case g_MAX_FUEL => k_is); (case g_EARLY => k_is); (case l_EARLY => k_is); (case y_EARLY => k_keys); (case o_EARLY => decide); (case r_EARLY => kernel_rfl); (case g_MAX_ARRAY => k_is); (case g_SIZE => k_is); (case g_INDEX => k_is); (case g_HALF => k_is); (case g_OPERATIONS => k_is); (case l_OPERATIONS => k_is); (case y_OPERATIONS => k_keys); (case o_OPERATIONS => decide); (case r_OPERATIONS => kernel_rfl); (case g_DIV => k_is); (case g_BEGINNINGS => k_is); (case l_BEGINNINGS => k_is); (case y_BEGINNINGS => k_keys); (case o_BEGINNINGS => decide); (case r_BEGINNINGS => kernel_rfl); (case g_ENDS => k_is); (case l_ENDS => k_is); (case y_ENDS => k_keys); (case o_ENDS => decide); (case r_ENDS => kernel_rfl)

