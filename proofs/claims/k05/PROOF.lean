import PyProof.Rows.All
import Wide.All
import OpenK.AllK
import Wide.FinOn
import PySem.Challenge.RW_escheat_k05_write_a_program
import HandS.ForMost
import HandS.ForExc
import HandS.Walk
import HandS.Flow
import HandS.IsInst
import HandS.StrMore
import HandS.ExcCtx
import HandS.HotCalls
import HandS.Wide
import HandS.TupAny
import HandS.Zip
import HandS.Codes
import HandS.ExcOwn
import PyProof.AutoSeq1
import HandS.More
import KE.IntTextLaws
import HandS.Star
import HandS.Small
import HandS.SortInts
import HandS.RaiseMore
import PyProof.DictUpdate
import PyProof.DictDisplay
set_option Elab.async false
set_option linter.all false
set_option maxRecDepth 100000
set_option exponentiation.threshold 3000
/-! values with their depth, a small heap of what changes, and readings that follow a plain function over them -/
namespace MM
open PySem PySem.Spec PyProof.Rows L2

inductive D where
  | non | bl (b : Bool) | int (i : Int) | str (s : Str) | tup (ds : List D) | rol (ds : List D) | ref (n : Nat) | obj (a : Addr) | ty (n : String) | kon (n : Str) | rdc (ks : List Key) (ds : List D) | xo (a d : Addr) (fl : List Str) (ds : List D)
deriving Inhabited

inductive MO where
  | lst (ds : List D) | dic (kvs : List (Key × D)) | ldc (kvs : List (Key × D)) | ins (C : Str) (fs : List (Str × D)) | dead
abbrev MH := List MO
abbrev MS := List (Option D)
abbrev TL := List (Option Addr)
/-- an exception of a class of the top -/
def EV (K : PySem.W.Frag) (c : Str) (v : Value) : Prop := ∃ a, v = .ref a ∧ PySem.W.nsIn K mainGlobals c = some (some (.ref a))

def NL (L : TL) (a : Addr) : Prop := ∀ n : Nat, L[n]? ≠ some (some a)
def KL (K : PySem.W.Frag) (a : Addr) (xs : List V) : Prop :=
  ∃ (o : Obj) (its : Array Value) (n : Nat), K.lookup a = some o ∧ o.cls = .type "list" ∧ o.dict = none ∧ o.data = .seq its n ∧ its.size ≤ sizeLine ∧ Vals xs its.toList
def KT (K : PySem.W.Frag) (a : Addr) (xs : List V) : Prop :=
  ∃ (o : Obj) (its : Array Value) (n : Nat), K.lookup a = some o ∧ o.cls = .type "tuple" ∧ o.data = .seq its n ∧ its.size ≤ sizeLine ∧ Vals xs its.toList
def SF (K : PySem.W.Frag) (L : TL) (H : Hp) (a : Addr) (xs : List V) : Prop := (Rd H a (.lst xs) ∧ NL L a) ∨ KL K a xs
def SU (K : PySem.W.Frag) (L : TL) (H : Hp) (a : Addr) (xs : List V) : Prop := (Rd H a (.tup xs) ∧ NL L a) ∨ KT K a xs

section
variable (K : PySem.W.Frag) (L : TL) (H : Hp)
mutual
def Rep : D → V → Prop
  | .non, v => v = .non
  | .bl b, v => v = .bl b
  | .int i, v => v = .int i
  | .str s, v => v = .str s
  | .obj a, v => v = .ref a
  | .ty n, v => v = .ty n
  | .kon n, v => ∃ a, v = .ref a ∧ PySem.W.nsIn K mainGlobals n = some (some (.ref a))
  | .rdc ks ds, v => ∃ a xs, v = .ref a ∧ Rd H a (.dK (ks.zip xs)) ∧ NL L a ∧ (ks.length = ds.length ∧ ks ≠ []) ∧ RepL ds xs
  | .xo a d fl ds, v => v = .ref a ∧ ∃ xs, Rd H d (.xd (fl.zip xs)) ∧ NL L d ∧ fl.length = ds.length ∧ RepL ds xs
  | .tup ds, v => ∃ a xs, v = .ref a ∧ SU K L H a xs ∧ RepL ds xs
  | .rol ds, v => ∃ a xs, v = .ref a ∧ SF K L H a xs ∧ RepL ds xs
  | .ref n, v => ∃ a, v = .ref a ∧ (L[n]? = some (some a) ∨ L[n]? = some none)
def RepL : List D → List V → Prop
  | [], xs => xs = []
  | d :: ds, xs => ∃ v vs, xs = v :: vs ∧ Rep d v ∧ RepL ds vs
end
def RepK : List (Key × D) → List (Key × V) → Prop
  | [], xs => xs = []
  | d :: ds, xs => ∃ v vs, xs = (d.1, v) :: vs ∧ Rep K L H d.2 v ∧ RepK ds vs
def RepF : List (Str × D) → List (Str × V) → Prop
  | [], xs => xs = []
  | d :: ds, xs => ∃ v vs, xs = (d.1, v) :: vs ∧ Rep K L H d.2 v ∧ RepF ds vs
/-- the slots -/
structure RepS (δ : MS) (σ : L2.St) : Prop where
  len : δ.length = σ.length
  at' : ∀ (i : Nat) (d : D), δ[i]? = some (some d) → ∃ v, σ[i]? = some (some v) ∧ Rep K L H d v
def OAt (l : Option (Option Addr)) : MO → Prop
  | .dead => l = some none
  | .lst ds => ∃ a xs, l = some (some a) ∧ H a = some (.lst xs) ∧ RepL K L H ds xs
  | .dic kvs => ∃ a ws, l = some (some a) ∧ H a = some (.dK ws) ∧ RepK K L H kvs ws
  | .ldc kvs => ∃ a o ws, l = some (some a) ∧ H a = some (.frz o (.dK ws)) ∧ RepK K L H kvs ws
  | .ins C fs => ∃ a dx Ca ws, l = some (some a) ∧ H a = some (.ins Ca dx ws) ∧ RepF K L H fs ws ∧ PySem.W.nsIn K mainGlobals C = some (some (.ref Ca))
structure Rel (h : MH) : Prop where
  len : L.length = h.length
  at' : ∀ (n : Nat) (o : MO), h[n]? = some o → OAt K L H L[n]? o
  inj : ∀ (n m : Nat) (a : Addr), L[n]? = some (some a) → L[m]? = some (some a) → n = m
end
/-- what stands behind stands as it was -/
structure Ext (L : TL) (H : Hp) (L' : TL) (H' : Hp) : Prop where
  live : ∀ (n : Nat) (o : Option Addr), L[n]? = some o → L'[n]? = some o ∨ L'[n]? = some none
  kept : ∀ a o, H a = some o → NL L a → H' a = some o ∧ NL L' a
  lkd : ∀ a o u, H a = some (.frz o u) → H' a = some (.frz o u)
section
variable {K : PySem.W.Frag} {L L' : TL} {H H' : Hp} {h h' : MH} {a p : Addr}
theorem Ext.refl (L : TL) (H : Hp) : Ext L H L H := ⟨fun _ _ e => .inl e, fun _ _ e n => ⟨e, n⟩, fun _ _ _ e => e⟩
theorem Ext.trans {L₁ L₂ L₃ : TL} {H₁ H₂ H₃ : Hp} (x : Ext L₁ H₁ L₂ H₂) (y : Ext L₂ H₂ L₃ H₃) : Ext L₁ H₁ L₃ H₃ := by
  refine ⟨fun n o e => ?_, fun a o e n => ?_, fun a o u e => y.lkd a o u (x.lkd a o u e)⟩
  · rcases x.live n o e with e1 | e1
    · exact y.live n o e1
    · rcases y.live n _ e1 with e2 | e2 <;> exact .inr e2
  · obtain ⟨e1, n1⟩ := x.kept a o e n
    exact y.kept a o e1 n1
theorem Ext.rd (x : Ext L H L' H') {u : HO} (r : Rd H a u) (n : NL L a) : Rd H' a u ∧ NL L' a := by
  rcases r with r | ⟨o, r⟩
  · obtain ⟨e, m⟩ := x.kept a _ r n
    exact ⟨.inl e, m⟩
  · obtain ⟨e, m⟩ := x.kept a _ r n
    exact ⟨.inr ⟨o, e⟩, m⟩
theorem Ext.sf (x : Ext L H L' H') {xs : List V} (r : SF K L H a xs) : SF K L' H' a xs := by
  rcases r with ⟨r, n⟩ | r
  · exact .inl (x.rd r n)
  · exact .inr r
theorem Ext.su (x : Ext L H L' H') {xs : List V} (r : SU K L H a xs) : SU K L' H' a xs := by
  rcases r with ⟨r, n⟩ | r
  · exact .inl (x.rd r n)
  · exact .inr r
mutual
theorem Rep.mono (x : Ext L H L' H') : ∀ {d : D} {v : V}, Rep K L H d v → Rep K L' H' d v
  | .non, _, r => by unfold Rep at r ⊢; exact r
  | .bl _, _, r => by unfold Rep at r ⊢; exact r
  | .int _, _, r => by unfold Rep at r ⊢; exact r
  | .str _, _, r => by unfold Rep at r ⊢; exact r
  | .obj _, _, r => by unfold Rep at r ⊢; exact r
  | .ty _, _, r => by unfold Rep at r ⊢; exact r
  | .kon _, _, r => by unfold Rep at r ⊢; exact r
  | .rdc ks ds, _, r => by
    unfold Rep at r ⊢
    obtain ⟨a, xs, e, s, n, l, q⟩ := r
    exact ⟨a, xs, e, (x.rd s n).1, (x.rd s n).2, l, RepL.mono x q⟩
  | .xo a d fl ds, _, r => by
    unfold Rep at r ⊢
    obtain ⟨e, xs, s, n, l, q⟩ := r
    exact ⟨e, xs, (x.rd s n).1, (x.rd s n).2, l, RepL.mono x q⟩
  | .tup ds, _, r => by
    unfold Rep at r ⊢
    obtain ⟨a, xs, e, s, q⟩ := r
    exact ⟨a, xs, e, x.su s, RepL.mono x q⟩
  | .rol ds, _, r => by
    unfold Rep at r ⊢
    obtain ⟨a, xs, e, s, q⟩ := r
    exact ⟨a, xs, e, x.sf s, RepL.mono x q⟩
  | .ref n, _, r => by
    unfold Rep at r ⊢
    obtain ⟨a, e, q⟩ := r
    refine ⟨a, e, ?_⟩
    rcases q with q | q
    · exact x.live n _ q
    · rcases x.live n _ q with z | z <;> exact .inr z
theorem RepL.mono (x : Ext L H L' H') : ∀ {ds : List D} {vs : List V}, RepL K L H ds vs → RepL K L' H' ds vs
  | [], _, r => by unfold RepL at r ⊢; exact r
  | d :: ds, _, r => by
    unfold RepL at r ⊢
    obtain ⟨v, vs, e, q, w⟩ := r
    exact ⟨v, vs, e, Rep.mono x q, RepL.mono x w⟩
end
theorem RepK.mono (x : Ext L H L' H') : ∀ {ds : List (Key × D)} {vs}, RepK K L H ds vs → RepK K L' H' ds vs
  | [], _, r => r
  | d :: ds, _, ⟨v, vs, e, q, w⟩ => ⟨v, vs, e, q.mono x, RepK.mono x w⟩
theorem RepF.mono (x : Ext L H L' H') : ∀ {ds : List (Str × D)} {vs}, RepF K L H ds vs → RepF K L' H' ds vs
  | [], _, r => r
  | d :: ds, _, ⟨v, vs, e, q, w⟩ => ⟨v, vs, e, q.mono x, RepF.mono x w⟩
theorem RepS.mono {δ : MS} {σ : L2.St} (x : Ext L H L' H') (r : RepS K L H δ σ) : RepS K L' H' δ σ :=
  ⟨r.len, fun i d e => let ⟨v, e1, q⟩ := r.at' i d e; ⟨v, e1, q.mono x⟩⟩
theorem RepS.set {δ : MS} {σ : L2.St} {i : Nat} {d : D} {v : V} (r : RepS K L H δ σ) (q : Rep K L H d v) : RepS K L H (δ.set i (some d)) (σ.set i (some v)) := by
  refine ⟨by rw [List.length_set, List.length_set]; exact r.len, fun j c e => ?_⟩
  by_cases hj : i = j
  · subst hj
    have hi : i < δ.length := by
      have := (List.getElem?_eq_some_iff.mp e).1
      rwa [List.length_set] at this
    rw [List.getElem?_set_self hi] at e
    cases e
    exact ⟨v, List.getElem?_set_self (by rw [← r.len]; exact hi), q⟩
  · rw [List.getElem?_set_ne hj] at e
    rw [List.getElem?_set_ne hj]
    exact r.at' j c e
theorem RepS.setNone {δ : MS} {σ : L2.St} {i : Nat} (r : RepS K L H δ σ) : RepS K L H (δ.set i none) (σ.set i none) := by
  refine ⟨by rw [List.length_set, List.length_set]; exact r.len, fun j c e => ?_⟩
  by_cases hj : i = j
  · subst hj
    have hi : i < δ.length := by
      have := (List.getElem?_eq_some_iff.mp e).1
      rwa [List.length_set] at this
    rw [List.getElem?_set_self hi] at e
    cases e
  · rw [List.getElem?_set_ne hj] at e
    rw [List.getElem?_set_ne hj]
    exact r.at' j c e

/-! ### lists of values -/
theorem RepL.length : ∀ {ds : List D} {vs : List V}, RepL K L H ds vs → ds.length = vs.length
  | [], _, r => by unfold RepL at r; subst r; rfl
  | d :: ds, _, r => by
    unfold RepL at r
    obtain ⟨v, vs, rfl, _, w⟩ := r
    rw [List.length_cons, List.length_cons, RepL.length w]
theorem RepL.nil : RepL K L H [] [] := by unfold RepL; rfl
theorem RepL.cons {d : D} {v : V} {ds vs} (q : Rep K L H d v) (r : RepL K L H ds vs) : RepL K L H (d :: ds) (v :: vs) := by
  unfold RepL; exact ⟨v, vs, rfl, q, r⟩
theorem RepL.cons_inv {d : D} {ds vs} (r : RepL K L H (d :: ds) vs) : ∃ v ws, vs = v :: ws ∧ Rep K L H d v ∧ RepL K L H ds ws := by
  unfold RepL at r; exact r
theorem RepL.nil_inv {vs} (r : RepL K L H [] vs) : vs = [] := by unfold RepL at r; exact r
theorem RepL.get : ∀ {ds : List D} {vs : List V} {i : Nat} {d : D}, RepL K L H ds vs → ds[i]? = some d → ∃ v, vs[i]? = some v ∧ Rep K L H d v
  | [], _, _, _, _, e => by simp at e
  | d :: ds, _, 0, _, r, e => by
    obtain ⟨v, ws, rfl, q, _⟩ := r.cons_inv
    simp at e; subst e
    exact ⟨v, rfl, q⟩
  | d :: ds, _, i + 1, _, r, e => by
    obtain ⟨v, ws, rfl, _, w⟩ := r.cons_inv
    exact RepL.get (i := i) w (by simpa using e)
theorem RepL.get' : ∀ {ds : List D} {vs : List V} {i : Nat} {v : V}, RepL K L H ds vs → vs[i]? = some v → ∃ d, ds[i]? = some d ∧ Rep K L H d v := fun {ds vs i v} r e => by
  have hl := r.length
  have hi := (List.getElem?_eq_some_iff.mp e).1
  have hd : i < ds.length := by omega
  obtain ⟨u, e1, q⟩ := r.get (List.getElem?_eq_getElem hd)
  rw [e] at e1; cases e1
  exact ⟨_, List.getElem?_eq_getElem hd, q⟩
theorem RepL.append : ∀ {ds es : List D} {vs ws : List V}, RepL K L H ds vs → RepL K L H es ws → RepL K L H (ds ++ es) (vs ++ ws)
  | [], _, _, _, r, s => by rw [r.nil_inv]; exact s
  | d :: ds, _, _, _, r, s => by
    obtain ⟨v, vs, rfl, q, w⟩ := r.cons_inv
    exact .cons q (RepL.append w s)
theorem RepL.take : ∀ {ds : List D} {vs : List V} (n : Nat), RepL K L H ds vs → RepL K L H (ds.take n) (vs.take n)
  | _, _, 0, _ => .nil
  | [], _, _ + 1, r => by rw [r.nil_inv]; exact .nil
  | d :: ds, _, n + 1, r => by
    obtain ⟨v, vs, rfl, q, w⟩ := r.cons_inv
    exact .cons q (RepL.take n w)
theorem RepL.drop : ∀ {ds : List D} {vs : List V} (n : Nat), RepL K L H ds vs → RepL K L H (ds.drop n) (vs.drop n)
  | _, _, 0, r => r
  | [], _, _ + 1, r => by rw [r.nil_inv]; exact .nil
  | d :: ds, _, n + 1, r => by
    obtain ⟨v, vs, rfl, _, w⟩ := r.cons_inv
    exact RepL.drop n w
theorem RepL.set {d : D} {v : V} (q : Rep K L H d v) : ∀ {ds : List D} {vs : List V} (n : Nat), RepL K L H ds vs → RepL K L H (ds.set n d) (vs.set n v)
  | [], _, _, r => by rw [r.nil_inv]; exact .nil
  | c :: ds, _, 0, r => by
    obtain ⟨u, vs, rfl, _, w⟩ := r.cons_inv
    exact .cons q w
  | c :: ds, _, n + 1, r => by
    obtain ⟨u, vs, rfl, p, w⟩ := r.cons_inv
    exact .cons p (RepL.set q n w)
theorem RepL.reverse : ∀ {ds : List D} {vs : List V}, RepL K L H ds vs → RepL K L H ds.reverse vs.reverse
  | [], _, r => by rw [r.nil_inv]; exact .nil
  | d :: ds, _, r => by
    obtain ⟨v, vs, rfl, q, w⟩ := r.cons_inv
    rw [List.reverse_cons, List.reverse_cons]
    exact (RepL.reverse w).append (.cons q .nil)
theorem RepL.of_get : ∀ {ds : List D} {vs : List V}, ds.length = vs.length → (∀ (i : Nat) (d : D) (v : V), ds[i]? = some d → vs[i]? = some v → Rep K L H d v) → RepL K L H ds vs
  | [], [], _, _ => .nil
  | [], _ :: _, e, _ => by simp at e
  | _ :: _, [], e, _ => by simp at e
  | d :: ds, v :: vs, e, f => .cons (f 0 d v rfl rfl) (RepL.of_get (by simpa using e) fun i c u h1 h2 => f (i + 1) c u (by simpa using h1) (by simpa using h2))

/-! ### the heap: what may happen -/
theorem Rel.ltL (r : Rel K L H h) {n : Nat} {o : Option Addr} (e : L[n]? = some o) : n < h.length := by
  rw [← r.len]; exact (List.getElem?_eq_some_iff.mp e).1
/-- a live address is tracked, by no tuple and no lock -/
theorem Rel.live (r : Rel K L H h) {n : Nat} (e : L[n]? = some (some a)) : ∃ o, H a = some o := by
  have hn := r.ltL e
  have q := r.at' n h[n] (List.getElem?_eq_getElem hn)
  generalize h[n] = o at q
  cases o with
  | dead => rw [show OAt K L H L[n]? .dead = (L[n]? = some none) from rfl, e] at q; cases q
  | lst ds =>
    obtain ⟨b, xs, e1, e2, _⟩ := q
    rw [e] at e1; cases e1
    exact ⟨_, e2⟩
  | dic ds =>
    obtain ⟨b, xs, e1, e2, _⟩ := q
    rw [e] at e1; cases e1
    exact ⟨_, e2⟩
  | ldc ds =>
    obtain ⟨b, o, xs, e1, e2, _⟩ := q
    rw [e] at e1; cases e1
    exact ⟨_, e2⟩
  | ins C ds =>
    obtain ⟨b, dx, Ca, xs, e1, e2, _⟩ := q
    rw [e] at e1; cases e1
    exact ⟨_, e2⟩
theorem Rel.nl_new (r : Rel K L H h) (hp : H p = none) : NL L p := fun n e => by
  obtain ⟨o, e1⟩ := r.live e
  rw [hp] at e1; cases e1
theorem OAt.mono (x : Ext L H L' H') {l : Option (Option Addr)} {o : MO} (same : ∀ a, l = some (some a) → H' a = H a) (q : OAt K L H l o) : OAt K L' H' l o := by
  cases o with
  | dead => exact q
  | lst ds =>
    obtain ⟨b, xs, e1, e2, w⟩ := q
    exact ⟨b, xs, e1, (same b e1).trans e2, w.mono x⟩
  | dic ds =>
    obtain ⟨b, xs, e1, e2, w⟩ := q
    exact ⟨b, xs, e1, (same b e1).trans e2, w.mono x⟩
  | ldc ds =>
    obtain ⟨b, o, xs, e1, e2, w⟩ := q
    exact ⟨b, o, xs, e1, (same b e1).trans e2, w.mono x⟩
  | ins C ds =>
    obtain ⟨b, dx, Ca, xs, e1, e2, w, hC⟩ := q
    exact ⟨b, dx, Ca, xs, e1, (same b e1).trans e2, w.mono x, hC⟩
/-- something new that is not tracked here -/
theorem Rel.fresh (r : Rel K L H h) {o : HO} (hp : H p = none) : Ext L H L (upd H p o) ∧ Rel K L (upd H p o) h := by
  have x : Ext L H L (upd H p o) := ⟨fun _ _ e => .inl e, fun a u e n => ⟨by rw [upd_ne (ne_of_none e hp)]; exact e, n⟩, fun a ob u e => by rw [upd_ne (ne_of_none e hp)]; exact e⟩
  refine ⟨x, r.len, fun n u e => ?_, r.inj⟩
  refine (r.at' n u e).mono x fun a ea => ?_
  obtain ⟨v, ev⟩ := r.live ea
  exact upd_ne (ne_of_none ev hp)
theorem getElem?_snoc {α : Type} (l : List α) (x : α) (n : Nat) : (l ++ [x])[n]? = if n = l.length then some x else l[n]? := by
  split
  · rename_i e; subst e; simp
  · rename_i e
    by_cases hn : n < l.length
    · rw [List.getElem?_append_left hn]
    · rw [List.getElem?_append_right (by omega), List.getElem?_eq_none (by simp; omega), List.getElem?_eq_none (by omega)]
theorem ext_alloc {o : HO} (hp : H p = none) : Ext L H (L ++ [some p]) (upd H p o) := by
  refine ⟨fun n u e => .inl ?_, fun a u e n => ⟨by rw [upd_ne (ne_of_none e hp)]; exact e, fun k z => ?_⟩, fun a ob u e => by rw [upd_ne (ne_of_none e hp)]; exact e⟩
  · rw [List.getElem?_append_left (List.getElem?_eq_some_iff.mp e).1]; exact e
  · rw [getElem?_snoc] at z
    split at z
    · have e1 : p = a := by simpa using z
      subst e1; rw [hp] at e; cases e
    · exact n k z
/-- a new tracked object -/
theorem Rel.alloc (r : Rel K L H h) {o : HO} {m : MO} (hp : H p = none) (q : OAt K (L ++ [some p]) (upd H p o) (some (some p)) m) : Ext L H (L ++ [some p]) (upd H p o) ∧ Rel K (L ++ [some p]) (upd H p o) (h ++ [m]) := by
  have x : Ext L H (L ++ [some p]) (upd H p o) := ext_alloc hp
  have low : ∀ n : Nat, n ≠ L.length → (L ++ [some p])[n]? = L[n]? := fun n hn => by rw [getElem?_snoc, if_neg hn]
  refine ⟨x, by rw [List.length_append, List.length_append, r.len]; rfl, fun n u e => ?_, fun n k b e1 e2 => ?_⟩
  · rw [getElem?_snoc] at e
    by_cases hn : n = h.length
    · rw [if_pos hn] at e; cases e
      rw [getElem?_snoc, if_pos (by rw [r.len]; exact hn)]
      exact q
    · rw [if_neg hn] at e
      rw [low n (by rw [r.len]; exact hn)]
      refine (r.at' n u e).mono x fun a ea => ?_
      obtain ⟨v, ev⟩ := r.live ea
      exact upd_ne (ne_of_none ev hp)
  · rw [getElem?_snoc] at e1 e2
    split at e1 <;> split at e2
    · rename_i z1 z2; rw [z1, z2]
    · have : p = b := by simpa using e1
      subst this
      exact absurd e2 (r.nl_new hp k)
    · have : p = b := by simpa using e2
      subst this
      exact absurd e1 (r.nl_new hp n)
    · exact r.inj n k b e1 e2
/-- a tracked object is written -/
theorem ext_write {n : Nat} {o : HO} (en : L[n]? = some (some a)) (nf : ∀ o u, H a ≠ some (.frz o u)) : Ext L H L (upd H a o) := ⟨fun _ _ e => .inl e, fun b u e k => ⟨by rw [upd_ne (fun z => k n (by rw [z]; exact en))]; exact e, k⟩, fun b ob u e => by rw [upd_ne (fun z => by subst z; exact nf _ _ e)]; exact e⟩
theorem Rel.write (r : Rel K L H h) {n : Nat} {o : HO} {m : MO} (en : L[n]? = some (some a)) (nf : ∀ o u, H a ≠ some (.frz o u)) (q : OAt K L (upd H a o) (some (some a)) m) : Ext L H L (upd H a o) ∧ Rel K L (upd H a o) (h.set n m) := by
  have x : Ext L H L (upd H a o) := ext_write en nf
  refine ⟨x, by rw [List.length_set]; exact r.len, fun k u e => ?_, r.inj⟩
  by_cases hk : n = k
  · subst hk
    rw [List.getElem?_set_self (r.ltL en)] at e
    cases e
    rw [en]; exact q
  · rw [List.getElem?_set_ne hk] at e
    refine (r.at' k u e).mono x fun b eb => upd_ne fun z => hk (r.inj n k a en (by rw [← z]; exact eb))
/-- a tracked object is tracked no longer -/
theorem Rel.kill (r : Rel K L H h) {n : Nat} (hn : n < h.length) : Ext L H (L.set n none) H ∧ Rel K (L.set n none) H (h.set n .dead) := by
  have hl : n < L.length := by rw [r.len]; exact hn
  have x : Ext L H (L.set n none) H := by
    refine ⟨fun k o e => ?_, fun a o e k => ⟨e, fun j z => ?_⟩, fun _ _ _ e => e⟩
    · by_cases hk : n = k
      · subst hk; exact .inr (List.getElem?_set_self hl)
      · rw [List.getElem?_set_ne hk]; exact .inl e
    · by_cases hj : n = j
      · subst hj; rw [List.getElem?_set_self hl] at z; cases z
      · rw [List.getElem?_set_ne hj] at z; exact k j z
  refine ⟨x, by rw [List.length_set, List.length_set]; exact r.len, fun k o e => ?_, fun k j a e1 e2 => ?_⟩
  · by_cases hk : n = k
    · subst hk
      rw [List.getElem?_set_self hn] at e
      cases e
      exact List.getElem?_set_self hl
    · rw [List.getElem?_set_ne hk] at e
      rw [List.getElem?_set_ne hk]
      exact (r.at' k o e).mono x fun _ _ => rfl
  · have f : ∀ i : Nat, (L.set n none)[i]? = some (some a) → L[i]? = some (some a) := fun i z => by
      by_cases hi : n = i
      · subst hi; rw [List.getElem?_set_self hl] at z; cases z
      · rw [List.getElem?_set_ne hi] at z; exact z
    exact r.inj k j a (f k e1) (f j e2)
theorem NL.kill {n : Nat} (r : Rel K L H h) (e : L[n]? = some (some a)) : NL (L.set n none) a := fun k z => by
  have hl : n < L.length := (List.getElem?_eq_some_iff.mp e).1
  by_cases hk : n = k
  · subst hk; rw [List.getElem?_set_self hl] at z; cases z
  · rw [List.getElem?_set_ne hk] at z
    exact hk (r.inj n k a e z)

/-! ### below -/
mutual
def D.lows (n : Nat) : D → Bool
  | .ref k => decide (k < n)
  | .tup ds => lowsL n ds
  | .rol ds => lowsL n ds
  | .rdc _ ds => lowsL n ds
  | .xo _ _ _ ds => lowsL n ds
  | _ => true
def lowsL (n : Nat) : List D → Bool
  | [] => true
  | d :: ds => d.lows n && lowsL n ds
end
def MO.lows (n : Nat) : MO → Bool
  | .lst ds => lowsL n ds
  | .dic kvs => kvs.all fun p => p.2.lows n
  | .ldc kvs => kvs.all fun p => p.2.lows n
  | .ins _ fs => fs.all fun p => p.2.lows n
  | .dead => true
theorem take_at {L : TL} {k n : Nat} (hn : n < k) : (L.take k)[n]? = L[n]? := List.getElem?_take_of_lt hn
theorem NL.take (k : Nat) (n : NL L a) : NL (L.take k) a := fun i z => by
  by_cases hi : i < k
  · rw [take_at hi] at z; exact n i z
  · rw [List.getElem?_eq_none (by rw [List.length_take]; omega)] at z; cases z
mutual
theorem Rep.take {k : Nat} : ∀ {d : D} {v : V}, d.lows k = true → Rep K L H d v → Rep K (L.take k) H d v
  | .non, _, _, r => by unfold Rep at r ⊢; exact r
  | .bl _, _, _, r => by unfold Rep at r ⊢; exact r
  | .int _, _, _, r => by unfold Rep at r ⊢; exact r
  | .str _, _, _, r => by unfold Rep at r ⊢; exact r
  | .obj _, _, _, r => by unfold Rep at r ⊢; exact r
  | .ty _, _, _, r => by unfold Rep at r ⊢; exact r
  | .kon _, _, _, r => by unfold Rep at r ⊢; exact r
  | .rdc ks ds, _, b, r => by
    unfold Rep at r ⊢
    unfold D.lows at b
    obtain ⟨a, xs, e, s, n, l, q⟩ := r
    exact ⟨a, xs, e, s, n.take k, l, RepL.takeB b q⟩
  | .xo a d fl ds, _, b, r => by
    unfold Rep at r ⊢
    unfold D.lows at b
    obtain ⟨e, xs, s, n, l, q⟩ := r
    exact ⟨e, xs, s, n.take k, l, RepL.takeB b q⟩
  | .tup ds, _, b, r => by
    unfold Rep at r ⊢
    unfold D.lows at b
    obtain ⟨a, xs, e, s, q⟩ := r
    refine ⟨a, xs, e, ?_, RepL.takeB b q⟩
    rcases s with ⟨s, n⟩ | s
    · exact .inl ⟨s, n.take k⟩
    · exact .inr s
  | .rol ds, _, b, r => by
    unfold Rep at r ⊢
    unfold D.lows at b
    obtain ⟨a, xs, e, s, q⟩ := r
    refine ⟨a, xs, e, ?_, RepL.takeB b q⟩
    rcases s with ⟨s, n⟩ | s
    · exact .inl ⟨s, n.take k⟩
    · exact .inr s
  | .ref n, _, b, r => by
    unfold Rep at r ⊢
    unfold D.lows at b
    obtain ⟨a, e, q⟩ := r
    refine ⟨a, e, ?_⟩
    rw [take_at (of_decide_eq_true b)]
    exact q
theorem RepL.takeB {k : Nat} : ∀ {ds : List D} {vs : List V}, lowsL k ds = true → RepL K L H ds vs → RepL K (L.take k) H ds vs
  | [], _, _, r => by unfold RepL at r ⊢; exact r
  | d :: ds, _, b, r => by
    unfold RepL at r ⊢
    unfold lowsL at b
    obtain ⟨v, vs, e, q, w⟩ := r
    rw [Bool.and_eq_true] at b
    exact ⟨v, vs, e, Rep.take b.1 q, RepL.takeB b.2 w⟩
end
mutual
theorem Rep.lows : ∀ {d : D} {v : V}, Rep K L H d v → d.lows L.length = true
  | .non, _, _ => rfl
  | .bl _, _, _ => rfl
  | .int _, _, _ => rfl
  | .str _, _, _ => rfl
  | .obj _, _, _ => rfl
  | .ty _, _, _ => rfl
  | .kon _, _, _ => rfl
  | .rdc ks ds, _, r => by
    unfold Rep at r
    unfold D.lows
    obtain ⟨a, xs, e, s, n, l, q⟩ := r
    exact RepL.lows q
  | .xo a d fl ds, _, r => by
    unfold Rep at r
    unfold D.lows
    obtain ⟨e, xs, s, n, l, q⟩ := r
    exact RepL.lows q
  | .tup ds, _, r => by
    unfold Rep at r
    unfold D.lows
    obtain ⟨a, xs, e, s, q⟩ := r
    exact RepL.lows q
  | .rol ds, _, r => by
    unfold Rep at r
    unfold D.lows
    obtain ⟨a, xs, e, s, q⟩ := r
    exact RepL.lows q
  | .ref n, _, r => by
    unfold Rep at r
    unfold D.lows
    obtain ⟨a, e, q⟩ := r
    rcases q with q | q <;> exact decide_eq_true (List.getElem?_eq_some_iff.mp q).1
theorem RepL.lows : ∀ {ds : List D} {vs : List V}, RepL K L H ds vs → lowsL L.length ds = true
  | [], _, _ => rfl
  | d :: ds, _, r => by
    unfold RepL at r
    unfold lowsL
    obtain ⟨v, vs, e, q, w⟩ := r
    rw [Rep.lows q, RepL.lows w]; rfl
end
theorem RepK.lows : ∀ {ds : List (Key × D)} {vs}, RepK K L H ds vs → (ds.all fun p => p.2.lows L.length) = true
  | [], _, _ => rfl
  | d :: ds, _, ⟨v, vs, e, q, w⟩ => by rw [List.all_cons, q.lows, RepK.lows w]; rfl
theorem RepF.lows : ∀ {ds : List (Str × D)} {vs}, RepF K L H ds vs → (ds.all fun p => p.2.lows L.length) = true
  | [], _, _ => rfl
  | d :: ds, _, ⟨v, vs, e, q, w⟩ => by rw [List.all_cons, q.lows, RepF.lows w]; rfl
theorem RepK.take {k : Nat} : ∀ {ds : List (Key × D)} {vs}, (ds.all fun p => p.2.lows k) = true → RepK K L H ds vs → RepK K (L.take k) H ds vs
  | [], _, _, r => r
  | d :: ds, _, b, ⟨v, vs, e, q, w⟩ => by
    rw [List.all_cons, Bool.and_eq_true] at b
    exact ⟨v, vs, e, q.take b.1, RepK.take b.2 w⟩
theorem RepF.take {k : Nat} : ∀ {ds : List (Str × D)} {vs}, (ds.all fun p => p.2.lows k) = true → RepF K L H ds vs → RepF K (L.take k) H ds vs
  | [], _, _, r => r
  | d :: ds, _, b, ⟨v, vs, e, q, w⟩ => by
    rw [List.all_cons, Bool.and_eq_true] at b
    exact ⟨v, vs, e, q.take b.1, RepF.take b.2 w⟩
theorem OAt.lows {l : Option (Option Addr)} {o : MO} (q : OAt K L H l o) : o.lows L.length = true := by
  cases o with
  | dead => rfl
  | lst ds => obtain ⟨_, _, _, _, w⟩ := q; exact w.lows
  | dic ds => obtain ⟨_, _, _, _, w⟩ := q; exact w.lows
  | ldc ds => obtain ⟨_, _, _, _, _, w⟩ := q; exact w.lows
  | ins C ds => obtain ⟨_, _, _, _, _, _, w, _⟩ := q; exact w.lows
theorem OAt.take {k : Nat} {l : Option (Option Addr)} {o : MO} (b : o.lows k = true) (q : OAt K L H l o) : OAt K (L.take k) H l o := by
  cases o with
  | dead => exact q
  | lst ds => obtain ⟨a, xs, e1, e2, w⟩ := q; exact ⟨a, xs, e1, e2, w.takeB b⟩
  | dic ds => obtain ⟨a, xs, e1, e2, w⟩ := q; exact ⟨a, xs, e1, e2, w.take b⟩
  | ldc ds => obtain ⟨a, o, xs, e1, e2, w⟩ := q; exact ⟨a, o, xs, e1, e2, w.take b⟩
  | ins C ds => obtain ⟨a, dx, Ca, xs, e1, e2, w, hC⟩ := q; exact ⟨a, dx, Ca, xs, e1, e2, w.take b, hC⟩
/-- what a call leaves of its heap: as long as the caller's, each object as it was or of what the caller knows -/
def LeftOf (h h' : MH) : Prop := h.length ≤ h'.length ∧ ∀ (n : Nat) (o : MO), n < h.length → h'[n]? = some o → h[n]? = some o ∨ o.lows h.length = true
theorem Rel.leave (r : Rel K L H h) (r' : Rel K L' H' h') (x : Ext L H L' H') (l : LeftOf h h') : Ext L H (L'.take h.length) H' ∧ Rel K (L'.take h.length) H' (h'.take h.length) := by
  refine ⟨⟨fun n o e => ?_, fun a o e n => let ⟨e1, n1⟩ := x.kept a o e n; ⟨e1, n1.take _⟩, x.lkd⟩, by rw [List.length_take, List.length_take, r'.len], fun n o e => ?_, fun n m a e1 e2 => ?_⟩
  · rw [take_at (r.ltL e)]; exact x.live n o e
  · have hn : n < h.length := by
      have := (List.getElem?_eq_some_iff.mp e).1
      rw [List.length_take] at this; omega
    rw [List.getElem?_take_of_lt hn] at e
    rw [take_at hn]
    refine (r'.at' n o e).take ?_
    rcases l.2 n o hn e with z | z
    · rw [← r.len]; exact (r.at' n o z).lows
    · exact z
  · have f : ∀ i : Nat, (L'.take h.length)[i]? = some (some a) → L'[i]? = some (some a) := fun i z => by
      by_cases hi : i < h.length
      · rw [take_at hi] at z; exact z
      · rw [List.getElem?_eq_none (by rw [List.length_take]; omega)] at z; cases z
    exact r'.inj n m a (f n e1) (f m e2)
end
end MM

namespace MM
open PySem PySem.Spec PyProof.Rows L2

/-- what a plain function over the small heap gives -/
inductive R (α : Type) where
  | ok (a : α) (h : MH)
  | exc (c : Str) (fs : List (Str × D)) (h : MH)
  | stuck
def R.bnd {α β : Type} (r : R α) (f : α → MH → R β) : R β := match r with
  | .ok a h => f a h
  | .exc c fs h => .exc c fs h
  | .stuck => .stuck
@[simp] theorem R.bnd_ok {α β : Type} (a : α) (h : MH) (f : α → MH → R β) : (R.ok a h).bnd f = f a h := rfl
@[simp] theorem R.bnd_exc {α β : Type} (c fs) (h : MH) (f : α → MH → R β) : (R.exc c fs h).bnd f = .exc c fs h := rfl
@[simp] theorem R.bnd_stuck {α β : Type} (f : α → MH → R β) : (R.stuck).bnd f = .stuck := rfl
theorem R.bnd_assoc {α β γ : Type} (r : R α) (f : α → MH → R β) (g : β → MH → R γ) : (r.bnd f).bnd g = r.bnd fun a h => (f a h).bnd g := by cases r <;> rfl
abbrev ME := MS → MH → R D
abbrev MT := MS → MH → R Bool
abbrev MA := MS → MH → R (List D)
abbrev RP (α β : Type) := TL → Hp → α → β → Prop
def rpB : RP Bool Bool := fun _ _ a b => a = b

def Ans {α β : Type} (K : PySem.W.Frag) (rp : RP α β) (L : TL) (H : Hp) (r : R α) (Q : β → Hp → Prop) (E : XK) : Prop := match r with
  | .ok d h' => ∀ L' H' v, Ext L H L' H' → Rel K L' H' h' → rp L' H' d v → Q v H'
  | .exc c fs h' => ∀ L' H' dx xs, Ext L H L' H' → Rel K L' H' h' → H' dx = some (.xd xs) → RepF K L' H' fs xs → ∀ ev, EV K c ev → E ev (some dx) H'
  | .stuck => False
section
variable {α β γ δ' : Type} {K : PySem.W.Frag} {rp : RP α β} {rp2 : RP γ δ'} {L L' : TL} {H H' : Hp} {E : XK}
theorem Ans.mono {r : R α} {Q : β → Hp → Prop} (x : Ext L H L' H') (a : Ans K rp L H r Q E) : Ans K rp L' H' r Q E := by
  cases r with
  | ok d h => exact fun L2 H2 v e => a L2 H2 v (x.trans e)
  | exc c fs h => exact fun L2 H2 dx xs e => a L2 H2 dx xs (x.trans e)
  | stuck => exact a
theorem Ans.imp {r : R α} {Q Q' : β → Hp → Prop} (a : Ans K rp L H r Q E) (f : ∀ v H', Q v H' → Q' v H') : Ans K rp L H r Q' E := by
  cases r with
  | ok d h => exact fun L2 H2 v e r q => f _ _ (a L2 H2 v e r q)
  | exc c fs h => exact a
  | stuck => exact a
theorem Ans.bind {r : R α} {k : α → MH → R γ} {Q : δ' → Hp → Prop} (a : Ans K rp2 L H (r.bnd k) Q E) :
    Ans K rp L H r (fun v H1 => ∃ L1 h1 d, Ext L H L1 H1 ∧ Rel K L1 H1 h1 ∧ rp L1 H1 d v ∧ Ans K rp2 L1 H1 (k d h1) Q E) E := by
  cases r with
  | ok d h => exact fun L2 H2 v e r q => ⟨L2, h, d, e, r, q, Ans.mono e a⟩
  | exc c fs h => exact a
  | stuck => exact a
end

def tE (K : PySem.W.Frag) (W : WX) (m : ME) : TE := fun σ H Q => ∃ L h δ, Rel K L H h ∧ RepS K L H δ σ ∧ Ans K (Rep K) L H (m δ h) Q (WE W σ)
def tT (K : PySem.W.Frag) (W : WX) (m : MT) : TT := fun σ H Q => ∃ L h δ, Rel K L H h ∧ RepS K L H δ σ ∧ Ans K rpB L H (m δ h) Q (WE W σ)
def tA (K : PySem.W.Frag) (W : WX) (m : MA) : TA := fun σ H Q => ∃ L h δ, Rel K L H h ∧ RepS K L H δ σ ∧ Ans K (RepL K) L H (m δ h) Q (WE W σ)
def PEM (X : Cx) (W : WX) (e : Expr) (m : ME) : Prop := PE X e (tE X.K W m)
def PTM (X : Cx) (W : WX) (e : Expr) (m : MT) : Prop := PT X e (tT X.K W m)
def PWM (X : Cx) (W : WX) (e : Expr) (m : MT) : Prop := PW X e (tT X.K W m)
def PAM (X : Cx) (W : WX) (es : List Expr) (m : MA) : Prop := PA X es (tA X.K W m)
theorem _root_.L2.PE.imp {X : Cx} {e : Expr} {t t' : TE} (p : PE X e t) (h : ∀ σ H Q, t' σ H Q → t σ H Q) : PE X e t' := ⟨fun pins s σ H Q I q => p.run pins s σ H Q I (h σ H Q q)⟩
theorem _root_.L2.PT.imp {X : Cx} {e : Expr} {t t' : TT} (p : PT X e t) (h : ∀ σ H Q, t' σ H Q → t σ H Q) : PT X e t' := ⟨fun pins s σ H Q I q => p.run pins s σ H Q I (h σ H Q q)⟩
theorem _root_.L2.PW.imp {X : Cx} {e : Expr} {t t' : TT} (p : PW X e t) (h : ∀ σ H Q, t' σ H Q → t σ H Q) : PW X e t' := ⟨fun wh pins s σ H Q I q => p.run wh pins s σ H Q I (h σ H Q q)⟩
theorem _root_.L2.PA.imp {X : Cx} {e : List Expr} {t t' : TA} (p : PA X e t) (h : ∀ σ H Q, t' σ H Q → t σ H Q) : PA X e t' := ⟨fun wh pins s σ H Q I q => p.run wh pins s σ H Q I (h σ H Q q)⟩
theorem _root_.L2.PS.imp {X : Cx} {e : Stmt} {t t' : TS} (p : PS X e t) (h : ∀ D σ H, t' D σ H → t D σ H) : PS X e t' := ⟨fun pins s σ H Q I q => p.run pins s σ H Q I (h Q σ H q)⟩
theorem _root_.L2.PSs.imp {X : Cx} {e : List Stmt} {t t' : TS} (p : PSs X e t) (h : ∀ D σ H, t' D σ H → t D σ H) : PSs X e t' := ⟨fun pins s σ H Q I q => p.run pins s σ H Q I (h Q σ H q)⟩

/-! ### names, constants -/
def mVar (i : Nat) : ME := fun δ h => match δ[i]? with
  | some (some d) => .ok d h
  | _ => .stuck
def mC (d : D) : ME := fun _ h => .ok d h
section
variable {X : Cx} {W : WX} {pos : Pos} {a b c : Expr} {ma mb mc : ME}
theorem tE_val {K : PySem.W.Frag} {L : TL} {H : Hp} {h : MH} {d : D} {v : V} {Q : VK} {E : XK} (r : Rel K L H h) (q : Rep K L H d v) (a : Ans K (Rep K) L H (.ok d h) Q E) : Q v H := a L H v (Ext.refl L H) r q
theorem rep_none {K L H} : Rep K L H .non .non := by unfold Rep; rfl
theorem rep_bl {K L H} {b : Bool} : Rep K L H (.bl b) (.bl b) := by unfold Rep; rfl
theorem rep_int {K L H} {i : Int} : Rep K L H (.int i) (.int i) := by unfold Rep; rfl
theorem rep_str {K L H} {s : Str} : Rep K L H (.str s) (.str s) := by unfold Rep; rfl
theorem rep_obj {K L H} {a : Addr} : Rep K L H (.obj a) (.ref a) := by unfold Rep; rfl
theorem rep_ty {K L H} {n : String} : Rep K L H (.ty n) (.ty n) := by unfold Rep; rfl
theorem pem_var {i : Nat} {x : Str} (h : PE X (.Name x pos) (tVar i)) : PEM X W (.Name x pos) (mVar i) := by
  refine PE.imp h fun σ H Q ⟨L, h, δ, r, s, a⟩ => ?_
  unfold mVar at a
  split at a
  · rename_i d e
    obtain ⟨v, e1, q⟩ := s.at' i d e
    exact ⟨v, e1, tE_val r q a⟩
  · exact a.elim
theorem pem_c {e : Expr} {d : D} {v : V} (h : PE X e (tC v)) (q : ∀ L H, Rep X.K L H d v) : PEM X W e (mC d) :=
  PE.imp h fun σ H Q ⟨L, h, δ, r, s, a⟩ => tE_val r (q L H) a
theorem pem_int {i j} : PEM X W (.Constant (.int i) j pos) (mC (.int i)) := pem_c pe_int fun _ _ => rep_int
theorem pem_bl {i j} : PEM X W (.Constant (.bool i) j pos) (mC (.bl i)) := pem_c pe_bl fun _ _ => rep_bl
theorem pem_non {j} : PEM X W (.Constant .none j pos) (mC .non) := pem_c pe_non fun _ _ => rep_none
theorem pem_str {i j} : PEM X W (.Constant (.str i) j pos) (mC (.str i)) := pem_c pe_str fun _ _ => rep_str

/-! ### operators -/
def mOp (f : D → D → MH → R D) (a b : ME) : ME := fun δ h => (a δ h).bnd fun x h1 => (b δ h1).bnd fun y h2 => f x y h2
def mUn (f : D → MH → R D) (a : ME) : ME := fun δ h => (a δ h).bnd fun x h1 => f x h1
def OpM (K : PySem.W.Frag) (r : R2) (f : D → D → MH → R D) : Prop := ∀ (L : TL) (H : Hp) (h : MH) (dx dy : D) (x y : V) (Q : VK) (E : XK), Rel K L H h → Rep K L H dx x → Rep K L H dy y → Ans K (Rep K) L H (f dx dy h) Q E → r x y H Q
def UnM (K : PySem.W.Frag) (r : V → Hp → VK → Prop) (f : D → MH → R D) : Prop := ∀ (L : TL) (H : Hp) (h : MH) (dx : D) (x : V) (Q : VK) (E : XK), Rel K L H h → Rep K L H dx x → Ans K (Rep K) L H (f dx h) Q E → r x H Q
theorem tOp_of {K : PySem.W.Frag} {W : WX} {r : R2} {f : D → D → MH → R D} (hm : OpM K r f) {σ : L2.St} {H : Hp} {Q : VK} (t : tE K W (mOp f ma mb) σ H Q) : tOp r (tE K W ma) (tE K W mb) σ H Q := by
  obtain ⟨L, h, δ, r0, s, a⟩ := t
  refine ⟨L, h, δ, r0, s, Ans.imp a.bind fun v H1 ⟨L1, h1, d, x1, r1, p1, a1⟩ => ⟨L1, h1, δ, r1, s.mono x1, Ans.imp a1.bind fun u H2 ⟨L2, h2, d2, x2, r2, p2, a2⟩ => ?_⟩⟩
  exact hm L2 H2 h2 d d2 v u Q _ r2 (p1.mono x2) p2 a2
theorem pem_op {op : Operator} {r : R2} {f : D → D → MH → R D} (ho : OpR X (binaryOp op) r) (hm : OpM X.K r f) (ha : PEM X W a ma) (hb : PEM X W b mb) : PEM X W (.BinOp a op b pos) (mOp f ma mb) :=
  PE.imp (pe_op ho ha hb) fun _ _ _ t => tOp_of hm t
theorem pem_cmp {op : CmpOp} {r : R2} {f : D → D → MH → R D} (ho : OpR X (compareOp op) r) (hm : OpM X.K r f) (hn : behindInMarks op b = false) (ha : PEM X W a ma) (hb : PEM X W b mb) : PEM X W (.Compare a [op] [b] pos) (mOp f ma mb) :=
  PE.imp (pe_cmpR ho ha hb hn) fun _ _ _ t => tOp_of hm t
theorem pem_un {op : UnaryOp} {r : V → Hp → VK → Prop} {f : D → MH → R D} (ho : UnR X (unaryOp op) r) (hm : UnM X.K r f) (ha : PEM X W a ma) : PEM X W (.UnaryOp op a pos) (mUn f ma) := by
  refine PE.imp (pe_un ho ha) fun σ H Q ⟨L, h, δ, r0, s, a⟩ => ?_
  exact ⟨L, h, δ, r0, s, Ans.imp a.bind fun v H1 ⟨L1, h1, d, x1, r1, p1, a1⟩ => hm L1 H1 h1 d v Q _ r1 p1 a1⟩
/-- a test that is a comparison -/
def isB (d : D) (h : MH) : R Bool := match d with
  | .bl b => .ok b h
  | _ => .stuck
def mB (m : ME) : MT := fun δ h => (m δ h).bnd isB
theorem ans_isB {K L H h d v} {Q : Bool → Hp → Prop} {E : XK} (r : Rel K L H h) (q : Rep K L H d v) (a : Ans K rpB L H (isB d h) Q E) : ∃ k, v = .bl k ∧ Q k H := by
  cases d with
  | bl b =>
    unfold Rep at q
    exact ⟨b, q, a L H b (Ext.refl _ _) r rfl⟩
  | _ => exact a.elim
theorem ptm_cmp {op : CmpOp} {r : R2} {f : D → D → MH → R D} (ho : OpR X (compareOp op) r) (hm : OpM X.K r f) (hn : behindInMarks op b = false) (ha : PEM X W a ma) (hb : PEM X W b mb) : PTM X W (.Compare a [op] [b] pos) (mB (mOp f ma mb)) := by
  refine PT.imp (pt_cmpR ho ha hb hn) fun σ H Q ⟨L, h, δ, r0, s, a⟩ => ?_
  refine tOp_of hm (K := X.K) (W := W) ⟨L, h, δ, r0, s, Ans.imp (Ans.bind (rp := Rep X.K) a) fun v H1 ⟨L1, h1, d, x1, r1, p1, a1⟩ => ?_⟩
  exact ans_isB r1 p1 a1
/-- a list, wherever it lies; a dict -/
def lst? (h : MH) (n : Nat) : Option (List D) := match h[n]? with
  | some (.lst ds) => some ds
  | _ => none
def dic? (h : MH) (n : Nat) : Option (List (Key × D)) := match h[n]? with
  | some (.dic ds) => some ds
  | _ => none
def lstD (d : D) (h : MH) : Option (List D) := match d with
  | .rol ds => some ds
  | .ref n => lst? h n
  | _ => none
def dicD (d : D) (h : MH) : Option (List (Key × D)) := match d with
  | .ref n => dic? h n
  | _ => none
theorem lst?_at {h : MH} {n : Nat} {ds} (e : lst? h n = some ds) : h[n]? = some (.lst ds) := by
  unfold lst? at e
  split at e
  · rename_i z; cases e; exact z
  · cases e
theorem dic?_at {h : MH} {n : Nat} {ds} (e : dic? h n = some ds) : h[n]? = some (.dic ds) := by
  unfold dic? at e
  split at e
  · rename_i z; cases e; exact z
  · cases e
/-- any value as a test -/
def truD (d : D) (h : MH) : R Bool := match d with
  | .non => .ok false h
  | .bl b => .ok b h
  | .int i => .ok (i != 0) h
  | .str s => if s.length ≤ 16777216 then .ok ((s.length : Int) != 0) h else .stuck
  | .tup ds => .ok (!ds.isEmpty) h
  | d => match lstD d h with
    | some ds => .ok (!ds.isEmpty) h
    | none => match dicD d h with
      | some kvs => .ok (!kvs.isEmpty) h
      | none => .stuck
def mTru (m : ME) : MT := fun δ h => (m δ h).bnd truD
theorem SF.sq {K L H a xs} (s : SF K L H a xs) : SqL K H a xs := by
  rcases s with ⟨s, _⟩ | s
  · exact .inl s
  · exact .inr s
theorem SU.sq {K L H a xs} (s : SU K L H a xs) : SqT K H a xs := by
  rcases s with ⟨s, _⟩ | s
  · exact .inl s
  · exact .inr s
theorem RepL.empty {K L H ds vs} (r : RepL K L H ds vs) : ds.isEmpty = vs.isEmpty := by
  have := r.length
  cases ds <;> cases vs <;> simp_all
theorem RepK.empty {K L H} : ∀ {ds : List (Key × D)} {vs}, RepK K L H ds vs → ds.isEmpty = vs.isEmpty
  | [], _, r => by cases r; rfl
  | d :: ds, _, ⟨v, vs, e, _, _⟩ => by subst e; rfl
theorem Rel.lst {K L H} {h : MH} {n : Nat} {ds} (r : Rel K L H h) (e : h[n]? = some (.lst ds)) : ∃ a xs, L[n]? = some (some a) ∧ H a = some (.lst xs) ∧ RepL K L H ds xs := r.at' n _ e
theorem Rel.dic {K L H} {h : MH} {n : Nat} {ds} (r : Rel K L H h) (e : h[n]? = some (.dic ds)) : ∃ a xs, L[n]? = some (some a) ∧ H a = some (.dK xs) ∧ RepK K L H ds xs := r.at' n _ e
theorem Rep.ref {K L H} {n : Nat} {v a} (q : Rep K L H (.ref n) v) (e : L[n]? = some (some a)) : v = .ref a := by
  unfold Rep at q
  obtain ⟨b, e1, z | z⟩ := q
  · rw [e] at z; cases z; exact e1
  · rw [e] at z; cases z
theorem lstD_of {K L H} {h : MH} {d v ds} (r : Rel K L H h) (q : Rep K L H d v) (e : lstD d h = some ds) : ∃ p xs, v = .ref p ∧ SqL K H p xs ∧ RepL K L H ds xs := by
  cases d with
  | rol es =>
    cases e
    unfold Rep at q
    obtain ⟨p, xs, rfl, s, w⟩ := q
    exact ⟨p, xs, rfl, s.sq, w⟩
  | ref n =>
    obtain ⟨p, xs, e1, e2, w⟩ := r.lst (lst?_at e)
    exact ⟨p, xs, q.ref e1, SqL.of e2, w⟩
  | _ => cases e
theorem dicD_of {K L H} {h : MH} {d v ds} (r : Rel K L H h) (q : Rep K L H d v) (e : dicD d h = some ds) : ∃ p xs, v = .ref p ∧ H p = some (.dK xs) ∧ RepK K L H ds xs := by
  cases d with
  | ref n =>
    obtain ⟨p, xs, e1, e2, w⟩ := r.dic (dic?_at e)
    exact ⟨p, xs, q.ref e1, e2, w⟩
  | _ => cases e
theorem tup_of {K L H} {v ds} (q : Rep K L H (.tup ds) v) : ∃ p xs, v = .ref p ∧ SqT K H p xs ∧ RepL K L H ds xs := by
  unfold Rep at q
  obtain ⟨p, xs, rfl, s, w⟩ := q
  exact ⟨p, xs, rfl, s.sq, w⟩
theorem ans_okB {K L H} {h : MH} {b : Bool} {Q : Bool → Hp → Prop} {E : XK} (r : Rel K L H h) (a : Ans K rpB L H (.ok b h) Q E) : Q b H := a L H b (Ext.refl _ _) r rfl
theorem ans_tru {K L H} {h : MH} {d v} {Q : Bool → Hp → Prop} {E : XK} (r : Rel K L H h) (q : Rep K L H d v) (a : Ans K rpB L H (truD d h) Q E) : ∃ k, TruV K v H k ∧ Q k H := by
  have big : ∀ d, truD d h = (match lstD d h with
    | some ds => .ok (!ds.isEmpty) h
    | none => match dicD d h with
      | some kvs => .ok (!kvs.isEmpty) h
      | none => .stuck) → Rep K L H d v → Ans K rpB L H (truD d h) Q E → ∃ k, TruV K v H k ∧ Q k H := fun d e q a => by
    rw [e] at a
    cases e1 : lstD d h with
    | some ds =>
      rw [e1] at a
      obtain ⟨p, xs, rfl, s, w⟩ := lstD_of r q e1
      exact ⟨_, .inl ⟨xs, s, rfl⟩, by rw [← w.empty]; exact ans_okB r a⟩
    | none =>
      rw [e1] at a
      cases e2 : dicD d h with
      | some ds =>
        rw [e2] at a
        obtain ⟨p, xs, rfl, s, w⟩ := dicD_of r q e2
        exact ⟨_, .inr (.inr ⟨xs, s, rfl⟩), by rw [← w.empty]; exact ans_okB r a⟩
      | none => rw [e2] at a; exact a.elim
  cases d with
  | non => unfold Rep at q; subst q; exact ⟨_, rfl, ans_okB r a⟩
  | bl b => unfold Rep at q; subst q; exact ⟨_, rfl, ans_okB r a⟩
  | int b => unfold Rep at q; subst q; exact ⟨_, rfl, ans_okB r a⟩
  | str s =>
    unfold Rep at q; subst q
    by_cases hs : s.length ≤ 16777216
    · rw [show truD (.str s) h = .ok ((s.length : Int) != 0) h from if_pos hs] at a
      exact ⟨_, ⟨by rw [sizeLine_eq]; exact hs, rfl⟩, ans_okB r a⟩
    · rw [show truD (.str s) h = .stuck from if_neg hs] at a; exact a.elim
  | tup ds =>
    obtain ⟨p, xs, rfl, s, w⟩ := tup_of q
    exact ⟨_, .inr (.inl ⟨xs, s, rfl⟩), by rw [← w.empty]; exact ans_okB r a⟩
  | rol ds => exact big _ rfl q a
  | ref n => exact big _ rfl q a
  | obj _ => exact a.elim
  | ty _ => exact a.elim
  | kon _ => exact a.elim
  | rdc _ _ => exact a.elim
  | xo _ _ _ _ => exact a.elim
theorem ptm_val (ha : PEM X W a ma) (he : ∀ whole, isTrue a X.env whole = (do let v ← whole; standAt a.pos; holding [v] (truthy v)) := by intro _; rfl) : PTM X W a (mTru ma) := by
  refine PT.imp (pt_truth ha he) fun σ H Q ⟨L, h, δ, r0, s, a⟩ => ?_
  exact ⟨L, h, δ, r0, s, Ans.imp a.bind fun v H1 ⟨L1, h1, d, x1, r1, p1, a1⟩ => ans_tru r1 p1 a1⟩
def mNot (m : MT) : MT := fun δ h => (m δ h).bnd fun b h1 => .ok (!b) h1
def mAnd (m n : MT) : MT := fun δ h => (m δ h).bnd fun b h1 => if b then n δ h1 else .ok false h1
def mOr (m n : MT) : MT := fun δ h => (m δ h).bnd fun b h1 => if b then .ok true h1 else n δ h1
variable {na nb : MT} {rest : List Expr}
theorem tT_ok {K L H h} {b : Bool} {Q : Bool → Hp → Prop} {E : XK} (r : Rel K L H h) (a : Ans K rpB L H (.ok b h) Q E) : Q b H := a L H b (Ext.refl _ _) r rfl
theorem ptm_not (ha : PTM X W a na) : PTM X W (.UnaryOp .Not a pos) (mNot na) := by
  refine PT.imp (pt_not ha) fun σ H Q ⟨L, h, δ, r0, s, a⟩ => ?_
  refine ⟨L, h, δ, r0, s, Ans.imp (Ans.bind (rp := rpB) a) fun v H1 ⟨L1, h1, d, x1, r1, p1, a1⟩ => ?_⟩
  cases p1
  exact tT_ok r1 a1
theorem pwm_and1 (ha : PTM X W a na) : PWM X W (.BoolOp .And [a] pos) na := pw_and1 ha
theorem pwm_or1 (ha : PTM X W a na) : PWM X W (.BoolOp .Or [a] pos) na := pw_or1 ha
theorem pwm_and (ha : PTM X W a na) (hb : PWM X W (.BoolOp .And (b :: rest) pos) nb) : PWM X W (.BoolOp .And (a :: b :: rest) pos) (mAnd na nb) := by
  refine PW.imp (pw_and ha hb) fun σ H Q ⟨L, h, δ, r0, s, a⟩ => ?_
  refine ⟨L, h, δ, r0, s, Ans.imp (Ans.bind (rp := rpB) a) fun v H1 ⟨L1, h1, d, x1, r1, p1, a1⟩ => ?_⟩
  cases p1
  cases v with
  | true => exact ⟨L1, h1, δ, r1, s.mono x1, a1⟩
  | false => exact tT_ok r1 a1
theorem pwm_or (ha : PTM X W a na) (hb : PWM X W (.BoolOp .Or (b :: rest) pos) nb) : PWM X W (.BoolOp .Or (a :: b :: rest) pos) (mOr na nb) := by
  refine PW.imp (pw_or ha hb) fun σ H Q ⟨L, h, δ, r0, s, a⟩ => ?_
  refine ⟨L, h, δ, r0, s, Ans.imp (Ans.bind (rp := rpB) a) fun v H1 ⟨L1, h1, d, x1, r1, p1, a1⟩ => ?_⟩
  cases p1
  cases v with
  | false => exact ⟨L1, h1, δ, r1, s.mono x1, a1⟩
  | true => exact tT_ok r1 a1
theorem ptm_w (h : PWM X W a na) : PTM X W a na := PW.pt h
def mIf (t : MT) (a b : ME) : ME := fun δ h => (t δ h).bnd fun c h1 => if c then a δ h1 else b δ h1
theorem pem_if (hc : PTM X W c na) (ha : PEM X W a ma) (hb : PEM X W b mb) : PEM X W (.IfExp c a b pos) (mIf na ma mb) := by
  refine PE.imp (pe_ifExp hc ha hb) fun σ H Q ⟨L, h, δ, r0, s, a⟩ => ?_
  refine ⟨L, h, δ, r0, s, Ans.imp (Ans.bind (rp := rpB) a) fun v H1 ⟨L1, h1, d, x1, r1, p1, a1⟩ => ?_⟩
  cases p1
  cases v with
  | true => exact ⟨L1, h1, δ, r1, s.mono x1, a1⟩
  | false => exact ⟨L1, h1, δ, r1, s.mono x1, a1⟩
theorem isB_inv {α β : Type} {rp : RP α β} {K L H} {h : MH} {d : D} {k : Bool → MH → R α} {Q : β → Hp → Prop} {E : XK} (a : Ans K rp L H ((isB d h).bnd k) Q E) : ∃ b, d = .bl b ∧ Ans K rp L H (k b h) Q E := by
  cases d with
  | bl b => exact ⟨b, rfl, a⟩
  | _ => exact a.elim
theorem rep_bl_inv {K L H b v} (q : Rep K L H (.bl b) v) : v = .bl b := by unfold Rep at q; exact q
theorem ans_okE {K L H} {h : MH} {d : D} {v : V} {Q : VK} {E : XK} (r : Rel K L H h) (q : Rep K L H d v) (a : Ans K (Rep K) L H (.ok d h) Q E) : Q v H := a L H v (Ext.refl L H) r q
/-- and, or, not as values: all but the last are bools -/
def mAndV (m n : ME) : ME := fun δ h => (m δ h).bnd fun x h1 => (isB x h1).bnd fun b h2 => if b then n δ h2 else .ok (.bl false) h2
def mOrV (m n : ME) : ME := fun δ h => (m δ h).bnd fun x h1 => (isB x h1).bnd fun b h2 => if b then .ok (.bl true) h2 else n δ h2
def mNotV (m : ME) : ME := fun δ h => (m δ h).bnd fun x h1 => (isB x h1).bnd fun b h2 => .ok (.bl (!b)) h2
theorem pem_one {op} (ha : PEM X W a ma) : PEM X W (.BoolOp op [a] pos) ma := pe_one ha
theorem pem_and (ha : PEM X W a ma) (hb : PEM X W (.BoolOp .And (b :: rest) pos) mb) : PEM X W (.BoolOp .And (a :: b :: rest) pos) (mAndV ma mb) := by
  refine PE.imp (pe_and ha hb) fun σ H Q ⟨L, h, δ, r0, s, a⟩ => ?_
  refine ⟨L, h, δ, r0, s, Ans.imp (Ans.bind (rp := Rep X.K) a) fun v H1 ⟨L1, h1, d, x1, r1, p1, a1⟩ => ?_⟩
  obtain ⟨b, rfl, a2⟩ := isB_inv a1
  refine ⟨b, rep_bl_inv p1, ?_⟩
  cases b with
  | true => exact iteT (show tE X.K W mb σ H1 Q from ⟨L1, h1, δ, r1, s.mono x1, a2⟩)
  | false => exact iteF (ans_okE r1 rep_bl a2)
theorem pem_or (ha : PEM X W a ma) (hb : PEM X W (.BoolOp .Or (b :: rest) pos) mb) : PEM X W (.BoolOp .Or (a :: b :: rest) pos) (mOrV ma mb) := by
  refine PE.imp (pe_or ha hb) fun σ H Q ⟨L, h, δ, r0, s, a⟩ => ?_
  refine ⟨L, h, δ, r0, s, Ans.imp (Ans.bind (rp := Rep X.K) a) fun v H1 ⟨L1, h1, d, x1, r1, p1, a1⟩ => ?_⟩
  obtain ⟨b, rfl, a2⟩ := isB_inv a1
  refine ⟨b, rep_bl_inv p1, ?_⟩
  cases b with
  | true => exact iteT (ans_okE r1 rep_bl a2)
  | false => exact iteF (show tE X.K W mb σ H1 Q from ⟨L1, h1, δ, r1, s.mono x1, a2⟩)
theorem pem_not (ha : PEM X W a ma) : PEM X W (.UnaryOp .Not a pos) (mNotV ma) := by
  refine PE.imp (pe_not ha) fun σ H Q ⟨L, h, δ, r0, s, a⟩ => ?_
  refine ⟨L, h, δ, r0, s, Ans.imp (Ans.bind (rp := Rep X.K) a) fun v H1 ⟨L1, h1, d, x1, r1, p1, a1⟩ => ?_⟩
  obtain ⟨b, rfl, a2⟩ := isB_inv a1
  exact ⟨b, rep_bl_inv p1, ans_okE r1 rep_bl a2⟩
/-- a < b < c -/
def mChain (f g : D → D → MH → R D) (a b c : ME) : ME := fun δ h => (a δ h).bnd fun x h1 => (b δ h1).bnd fun y h2 => (f x y h2).bnd fun z h3 => (isB z h3).bnd fun t h4 =>
  if t then (c δ h4).bnd fun w h5 => g y w h5 else .ok (.bl false) h4
theorem tChain_of {K : PySem.W.Frag} {r r' : R2} {f g : D → D → MH → R D} (hm : OpM K r f) (hm' : OpM K r' g) {σ : L2.St} {H : Hp} {Q : VK} (t : tE K W (mChain f g ma mb mc) σ H Q) : tChain r r' (tE K W ma) (tE K W mb) (tE K W mc) σ H Q := by
  obtain ⟨L, h, δ, r0, s, a⟩ := t
  refine ⟨L, h, δ, r0, s, Ans.imp (Ans.bind (rp := Rep K) a) fun v H1 ⟨L1, h1, d, x1, r1, p1, a1⟩ => ⟨L1, h1, δ, r1, s.mono x1, Ans.imp (Ans.bind (rp := Rep K) a1) fun u H2 ⟨L2, h2, d2, x2, r2, p2, a2⟩ => ?_⟩⟩
  refine hm L2 H2 h2 d d2 v u _ _ r2 (p1.mono x2) p2 (Ans.imp (Ans.bind (rp := Rep K) a2) fun z H3 ⟨L3, h3, d3, x3, r3, p3, a3⟩ => ?_)
  obtain ⟨b, rfl, a4⟩ := isB_inv a3
  refine ⟨b, rep_bl_inv p3, ?_⟩
  cases b with
  | false => exact iteF (ans_okE r3 rep_bl a4)
  | true =>
    refine iteT (show tE K W mc σ H3 _ from ?_)
    refine ⟨L3, h3, δ, r3, s.mono (x1.trans (x2.trans x3)), Ans.imp (Ans.bind (rp := Rep K) a4) fun w H4 ⟨L4, h4, d4, x4, r4, p4, a5⟩ => ?_⟩
    exact hm' L4 H4 h4 d2 d4 u w Q _ r4 (p2.mono (x3.trans x4)) p4 a5
theorem pem_chain {op op' : CmpOp} {r r' : R2} {f g : D → D → MH → R D} (ho : OpR X (compareOp op) r) (ho' : OpR X (compareOp op') r') (hm : OpM X.K r f) (hm' : OpM X.K r' g) (ha : PEM X W a ma) (hb : PEM X W b mb) (hc : PEM X W c mc)
    (h1 : lastMarks [op, op'] [b, c] = false) : PEM X W (.Compare a [op, op'] [b, c] pos) (mChain f g ma mb mc) :=
  PE.imp (pe_chain ho ho' ha hb hc h1) fun _ _ _ t => tChain_of hm hm' t
theorem ptm_chain {op op' : CmpOp} {r r' : R2} {f g : D → D → MH → R D} (ho : OpR X (compareOp op) r) (ho' : OpR X (compareOp op') r') (hm : OpM X.K r f) (hm' : OpM X.K r' g) (ha : PEM X W a ma) (hb : PEM X W b mb) (hc : PEM X W c mc)
    (h1 : lastMarks [op, op'] [b, c] = false) : PTM X W (.Compare a [op, op'] [b, c] pos) (mB (mChain f g ma mb mc)) := by
  refine PT.imp (pt_chain ho ho' ha hb hc h1) fun σ H Q ⟨L, h, δ, r0, s, a⟩ => ?_
  refine tChain_of hm hm' (K := X.K) (W := W) ⟨L, h, δ, r0, s, Ans.imp (Ans.bind (rp := Rep X.K) a) fun v H1 ⟨L1, h1, d, x1, r1, p1, a1⟩ => ?_⟩
  exact ans_isB r1 p1 a1
end
end MM

namespace MM
open PySem PySem.Spec PyProof.Rows L2

inductive Fl where
  | next (δ : MS) | ret (d : D) | brk (δ : MS) | cont (δ : MS)
inductive SR where
  | ok (f : Fl) (h : MH)
  | exc (c : Str) (fs : List (Str × D)) (δ : MS) (h : MH)
  | stuck
abbrev MSt := MS → MH → SR
def AnsF (K : PySem.W.Frag) (D : Ends) (L : TL) (H : Hp) (f : Fl) (h' : MH) : Prop := match f with
  | .next δ => ∀ L' H' σ', Ext L H L' H' → Rel K L' H' h' → RepS K L' H' δ σ' → D.nx σ' H'
  | .ret d => ∀ L' H' v, Ext L H L' H' → Rel K L' H' h' → Rep K L' H' d v → D.rt v H'
  | .brk δ => ∀ L' H' σ', Ext L H L' H' → Rel K L' H' h' → RepS K L' H' δ σ' → D.bk σ' H'
  | .cont δ => ∀ L' H' σ', Ext L H L' H' → Rel K L' H' h' → RepS K L' H' δ σ' → D.ct σ' H'
def AnsS (K : PySem.W.Frag) (D : Ends) (W : WX) (L : TL) (H : Hp) (r : SR) : Prop := match r with
  | .ok f h' => AnsF K D L H f h'
  | .exc c fs δ h' => ∀ L' H' σ' dx xs, Ext L H L' H' → Rel K L' H' h' → RepS K L' H' δ σ' → H' dx = some (.xd xs) → RepF K L' H' fs xs → ∀ ev, EV K c ev → W ev (some dx) σ' H'
  | .stuck => False
def tS (K : PySem.W.Frag) (W : WX) (m : MSt) : TS := fun D σ H => ∃ L h δ, Rel K L H h ∧ RepS K L H δ σ ∧ AnsS K D W L H (m δ h)
def PSM (X : Cx) (W : WX) (st : Stmt) (m : MSt) : Prop := PS X st (tS X.K W m)
def PSsM (X : Cx) (W : WX) (st : List Stmt) (m : MSt) : Prop := PSs X st (tS X.K W m)
def R.st {α : Type} (r : R α) (δ : MS) (k : α → MH → SR) : SR := match r with
  | .ok a h => k a h
  | .exc c fs h => .exc c fs δ h
  | .stuck => .stuck
@[simp] theorem R.st_ok {α : Type} (a : α) (h : MH) (δ) (k : α → MH → SR) : (R.ok a h).st δ k = k a h := rfl
@[simp] theorem R.st_exc {α : Type} (c fs) (h : MH) (δ) (k : α → MH → SR) : (R.exc c fs h).st δ k = .exc c fs δ h := rfl
@[simp] theorem R.st_stuck {α : Type} (δ) (k : α → MH → SR) : (R.stuck).st δ k = .stuck := rfl
section
variable {α β : Type} {K : PySem.W.Frag} {rp : RP α β} {L L' : TL} {H H' : Hp} {D D' : Ends} {W : WX}
theorem AnsF.mono {f : Fl} {h : MH} (x : Ext L H L' H') (a : AnsF K D L H f h) : AnsF K D L' H' f h := by
  cases f with
  | next δ => exact fun L2 H2 v e => a L2 H2 v (x.trans e)
  | ret δ => exact fun L2 H2 v e => a L2 H2 v (x.trans e)
  | brk δ => exact fun L2 H2 v e => a L2 H2 v (x.trans e)
  | cont δ => exact fun L2 H2 v e => a L2 H2 v (x.trans e)
theorem AnsS.mono {r : SR} (x : Ext L H L' H') (a : AnsS K D W L H r) : AnsS K D W L' H' r := by
  cases r with
  | ok f h => exact AnsF.mono x a
  | exc c fs δ h => exact fun L2 H2 s dx xs e => a L2 H2 s dx xs (x.trans e)
  | stuck => exact a
/-- an expression, then what a statement does with its value -/
theorem AnsS.bind {r : R α} {δ : MS} {σ : L2.St} {k : α → MH → SR} (s : RepS K L H δ σ) (a : AnsS K D W L H (r.st δ k)) :
    Ans K rp L H r (fun v H1 => ∃ L1 h1 d, Ext L H L1 H1 ∧ Rel K L1 H1 h1 ∧ rp L1 H1 d v ∧ RepS K L1 H1 δ σ ∧ AnsS K D W L1 H1 (k d h1)) (WE W σ) := by
  cases r with
  | ok d h => exact fun L2 H2 v e r q => ⟨L2, h, d, e, r, q, s.mono e, AnsS.mono e a⟩
  | exc c fs h => exact fun L2 H2 dx xs e r q1 q2 => a L2 H2 σ dx xs e r (s.mono e) q1 q2
  | stuck => exact a
theorem AnsS.nx {δ : MS} {h : MH} {σ : L2.St} (r : Rel K L H h) (s : RepS K L H δ σ) (a : AnsS K D W L H (.ok (.next δ) h)) : D.nx σ H := a L H σ (Ext.refl _ _) r s
theorem AnsS.rt {d : MM.D} {h : MH} {v : V} (r : Rel K L H h) (s : Rep K L H d v) (a : AnsS K D W L H (.ok (.ret d) h)) : D.rt v H := a L H v (Ext.refl _ _) r s
end

/-! ### blocks -/
def mNext : MSt := fun δ h => .ok (.next δ) h
def SR.seq (r : SR) (k : MSt) : SR := match r with
  | .ok (.next δ) h => k δ h
  | r => r
def mSeq (a b : MSt) : MSt := fun δ h => (a δ h).seq b
@[simp] theorem SR.seq_next (δ h k) : (SR.ok (.next δ) h).seq k = k δ h := rfl
@[simp] theorem SR.seq_ret (δ h k) : (SR.ok (.ret δ) h).seq k = .ok (.ret δ) h := rfl
@[simp] theorem SR.seq_brk (δ h k) : (SR.ok (.brk δ) h).seq k = .ok (.brk δ) h := rfl
@[simp] theorem SR.seq_cont (δ h k) : (SR.ok (.cont δ) h).seq k = .ok (.cont δ) h := rfl
@[simp] theorem SR.seq_exc (c fs δ h k) : (SR.exc c fs δ h).seq k = .exc c fs δ h := rfl
section
variable {X : Cx} {W : WX} {pos : Pos} {e : Expr} {me : ME} {st : Stmt} {rest body : List Stmt} {ma mb : MSt}
theorem pssm_nil : PSsM X W [] mNext := PSs.imp pss_nil fun D σ H ⟨L, h, δ, r, s, a⟩ => a.nx r s
theorem tSeq_of {K : PySem.W.Frag} {D : Ends} {σ : L2.St} {H : Hp} (t : tS K W (mSeq ma mb) D σ H) : tSeq (tS K W ma) (tS K W mb) D σ H := by
  obtain ⟨L, h, δ, r, s, a⟩ := t
  refine ⟨L, h, δ, r, s, ?_⟩
  unfold mSeq at a
  generalize ma δ h = m at a
  cases m with
  | ok f h1 =>
    cases f with
    | next δ1 => exact fun L1 H1 σ1 x1 r1 s1 => ⟨L1, h1, δ1, r1, s1, a.mono x1⟩
    | ret d => exact a
    | brk d => exact a
    | cont d => exact a
  | exc c fs δ h1 => exact a
  | stuck => exact a
theorem pssm_cons (h1 : PSM X W st ma) (h2 : PSsM X W rest mb) : PSsM X W (st :: rest) (mSeq ma mb) := PSs.imp (pss_cons h1 h2) fun _ _ _ t => tSeq_of t
theorem pssm_one (h1 : PSM X W st ma) : PSsM X W [st] ma := pss_one h1
def mBrk : MSt := fun δ h => .ok (.brk δ) h
def mCont : MSt := fun δ h => .ok (.cont δ) h
theorem psm_pass : PSM X W (.Pass pos) mNext := PS.imp ps_pass fun D σ H ⟨L, h, δ, r, s, a⟩ => a.nx r s
theorem psm_break : PSM X W (.Break pos) mBrk := PS.imp ps_break fun D σ H ⟨L, h, δ, r, s, a⟩ => a L H σ (Ext.refl _ _) r s
theorem psm_continue : PSM X W (.Continue pos) mCont := PS.imp ps_continue fun D σ H ⟨L, h, δ, r, s, a⟩ => a L H σ (Ext.refl _ _) r s
/-! ### simple statements -/
def mDrop (m : ME) : MSt := fun δ h => (m δ h).st δ fun _ h1 => .ok (.next δ) h1
theorem psm_expr (he : PEM X W e me) (hs : swapsWith e none pos.line X.env = pure false := by rfl) : PSM X W (.Expr e pos) (mDrop me) :=
  PS.imp (ps_expr he hs) fun D σ H ⟨L, h, δ, r, s, a⟩ => ⟨L, h, δ, r, s, Ans.imp (AnsS.bind (rp := Rep X.K) s a) fun v H1 ⟨L1, h1, d, x1, r1, p1, s1, a1⟩ => a1.nx r1 s1⟩
def mRet (m : ME) : MSt := fun δ h => (m δ h).st δ fun d h1 => .ok (.ret d) h1
theorem psm_ret (he : PEM X W e me) : PSM X W (.Return (some e) pos) (mRet me) :=
  PS.imp (ps_ret he) fun D σ H ⟨L, h, δ, r, s, a⟩ => ⟨L, h, δ, r, s, Ans.imp (AnsS.bind (rp := Rep X.K) s a) fun v H1 ⟨L1, h1, d, x1, r1, p1, s1, a1⟩ => a1.rt r1 p1⟩
theorem psm_retN : PSM X W (.Return none pos) (mRet (mC .non)) :=
  PS.imp ps_retN fun D σ H ⟨L, h, δ, r, s, a⟩ => AnsS.rt r rep_none a
def mIfS (t : MT) (a b : MSt) : MSt := fun δ h => (t δ h).st δ fun c h1 => if c then a δ h1 else b δ h1
theorem psm_if {c : Expr} {a b : List Stmt} {mt : MT} (hc : PTM X W c mt) (ha : PSsM X W a ma) (hb : PSsM X W b mb) : PSM X W (.If c a b pos) (mIfS mt ma mb) := by
  refine PS.imp (ps_if hc ha hb) fun D σ H ⟨L, h, δ, r, s, a⟩ => ?_
  refine ⟨L, h, δ, r, s, Ans.imp (AnsS.bind (rp := rpB) s a) fun v H1 ⟨L1, h1, d, x1, r1, p1, s1, a1⟩ => ?_⟩
  cases p1
  cases v with
  | true => exact iteT (show tS X.K W ma D σ H1 from ⟨L1, h1, δ, r1, s1, a1⟩)
  | false => exact iteF (show tS X.K W mb D σ H1 from ⟨L1, h1, δ, r1, s1, a1⟩)
/-! ### targets -/
abbrev MG := D → MS → Option MS
abbrev MGs := List D → MS → Option MS
/-- a target stores at the slots S alone -/
def Only (S : List Nat) (σ σ' : L2.St) : Prop := σ'.length = σ.length ∧ ∀ i : Nat, i ∉ S → σ'[i]? = σ[i]?
def tG (K : PySem.W.Frag) (S : List Nat) (g : MG) : TG := fun v σ H Q => ∃ L h δ d, Rel K L H h ∧ RepS K L H δ σ ∧ Rep K L H d v ∧ ∃ δ', g d δ = some δ' ∧ ∀ σ', RepS K L H δ' σ' → Only S σ σ' → Q σ' H
def tGs (K : PySem.W.Frag) (S : List Nat) (g : MGs) : TGs := fun vs σ H Q => ∃ L h δ ds, Rel K L H h ∧ RepS K L H δ σ ∧ RepL K L H ds vs ∧ ∃ δ', g ds δ = some δ' ∧ ∀ σ', RepS K L H δ' σ' → Only S σ σ' → Q σ' H
theorem _root_.L2.PG.imp {X : Cx} {e : Expr} {t t' : TG} (p : PG X e t) (h : ∀ v σ H Q, t' v σ H Q → t v σ H Q) : PG X e t' :=
  ⟨fun pins s σ H v u Q I r q => p.run pins s σ H v u Q I r (h _ _ _ _ q)⟩
theorem _root_.L2.PGs.imp {X : Cx} {e : List Expr} {t t' : TGs} (p : PGs X e t) (h : ∀ v σ H Q, t' v σ H Q → t v σ H Q) : PGs X e t' :=
  ⟨fun pins s σ H v u Q I r q => p.run pins s σ H v u Q I r (h _ _ _ _ q)⟩
def PGM (X : Cx) (e : Expr) (S : List Nat) (g : MG) : Prop := PG X e (tG X.K S g)
def PGsM (X : Cx) (e : List Expr) (S : List Nat) (g : MGs) : Prop := PGs X e (tGs X.K S g)
def mgName (i : Nat) : MG := fun d δ => some (δ.set i (some d))
theorem Only.set {σ : L2.St} {i : Nat} {v : Option V} : Only [i] σ (σ.set i v) := ⟨List.length_set .., fun j hj => List.getElem?_set_ne (fun e => hj (by simp [e]))⟩
theorem Only.refl {S : List Nat} {σ : L2.St} : Only S σ σ := ⟨rfl, fun _ _ => rfl⟩
theorem Only.trans {S T : List Nat} {a b c : L2.St} (x : Only S a b) (y : Only T b c) : Only (S ++ T) a c := ⟨y.1.trans x.1, fun i hi => (y.2 i fun z => hi (List.mem_append_right _ z)).trans (x.2 i fun z => hi (List.mem_append_left _ z))⟩
theorem pgm_name {i : Nat} {x : Str} (h : PG X (.Name x pos) (gName i)) : PGM X (.Name x pos) [i] (mgName i) :=
  PG.imp h fun v σ H Q ⟨L, h, δ, d, r, s, p, δ', e, q⟩ => by
    cases e
    exact q _ (s.set p) Only.set
def mgNil : MGs := fun ds δ => match ds with
  | [] => some δ
  | _ => none
def mgCons (g : MG) (gs : MGs) : MGs := fun ds δ => match ds with
  | [] => none
  | d :: ds => (g d δ).bind fun δ' => gs ds δ'
theorem pgsm_nil : PGsM X [] [] mgNil := PGs.imp pgs_nil fun v σ H Q ⟨L, h, δ, ds, r, s, p, δ', e, q⟩ => by
  cases ds with
  | nil => cases e; exact ⟨p.nil_inv, q σ s Only.refl⟩
  | cons _ _ => cases e
theorem pgsm_cons {S T : List Nat} {es : List Expr} {g : MG} {gs : MGs} (h1 : PGM X e S g) (h2 : PGsM X es T gs)
    (hs : (assignEach (e :: es) X.env).map (·.2) = assign e X.env :: (assignEach es X.env).map (·.2) := by rfl) : PGsM X (e :: es) (S ++ T) (mgCons g gs) :=
  PGs.imp (pgs_cons h1 h2 hs) fun v σ H Q ⟨L, h, δ, ds, r, s, p, δ', e, q⟩ => by
    cases ds with
    | nil => cases e
    | cons d ds =>
      obtain ⟨v, ws, rfl, p1, p2⟩ := p.cons_inv
      unfold mgCons at e
      obtain ⟨δ1, e1, e2⟩ := Option.bind_eq_some_iff.mp e
      exact ⟨v, ws, rfl, L, h, δ, d, r, s, p1, δ1, e1, fun σ1 s1 o1 => ⟨L, h, δ1, ds, r, s1, p2, δ', e2, fun σ2 s2 o2 => q σ2 s2 (o1.trans o2)⟩⟩
/-- (a, b, ..) = a tuple -/
def mgTup (n : Nat) (gs : MGs) : MG := fun d δ => match d with
  | .tup ds => if ds.length = n then gs ds δ else none
  | _ => none
theorem pgm_tup {S : List Nat} {es : List Expr} {k n : Nat} {gs : MGs} (hc : X.calm = true) (h : PGsM X es S gs)
    (hn : (assignEach es X.env).length = n := by rfl) (hst : (assignEach es X.env).findIdx? (·.1) = none := by rfl) : PGM X (.Tuple es k pos) S (mgTup n gs) :=
  PG.imp (pg_tup hc h hn hst) fun v σ H Q ⟨L, h, δ, d, r, s, p, δ', e, q⟩ => by
    cases d with
    | tup ds =>
      obtain ⟨a, xs, rfl, st, w⟩ := tup_of p
      replace e : (if ds.length = n then gs ds δ else none) = some δ' := e
      by_cases hl : ds.length = n
      · rw [if_pos hl] at e
        exact ⟨a, xs, rfl, st, by rw [← w.length]; exact hl, L, h, δ, ds, r, s, w, δ', e, q⟩
      · rw [if_neg hl] at e; cases e
    | _ => cases e
/-- x = e -/
def mAsg (m : ME) (g : MG) : MSt := fun δ h => (m δ h).st δ fun d h1 => match g d δ with
  | some δ' => .ok (.next δ') h1
  | none => .stuck
abbrev mSet (i : Nat) (m : ME) : MSt := fun δ h => (m δ h).st δ fun d h1 => .ok (.next (δ.set i (some d))) h1
theorem psm_asg {S : List Nat} {tg : Expr} {g : MG} (he : PEM X W e me) (hg : PGM X tg S g) (hs : swapsWithSole [tg] e pos.line X.env = pure false := by rfl) (hw : swappedStores [tg] e X.env = pure none := by rfl) (h1 : (assignEach [tg] X.env).map (·.2) = [assign tg X.env] := by rfl) : PSM X W (.Assign [tg] e pos) (mAsg me g) :=
  PS.imp (ps_asg he hg hs hw h1) fun D σ H ⟨L, h, δ, r, s, a⟩ => ⟨L, h, δ, r, s, Ans.imp (AnsS.bind (rp := Rep X.K) s a) fun v H1 ⟨L1, h1, d, x1, r1, p1, s1, a1⟩ => by
    cases e : g d δ with
    | none => rw [e] at a1; exact a1.elim
    | some δ' =>
      rw [e] at a1
      exact ⟨L1, h1, δ, d, r1, s1, p1, δ', e, fun σ' s' _ => a1.nx r1 s'⟩⟩
theorem psm_set {i : Nat} {x : Str} {pos' : Pos} (h : PS X (.Assign [.Name x pos'] e pos) (tAsg (tE X.K W me) (gName i))) : PSM X W (.Assign [.Name x pos'] e pos) (mSet i me) :=
  PS.imp h fun D σ H ⟨L, h, δ, r, s, a⟩ => ⟨L, h, δ, r, s, Ans.imp (AnsS.bind (rp := Rep X.K) s a) fun v H1 ⟨L1, h1, d, x1, r1, p1, s1, a1⟩ => a1.nx r1 (s1.set p1)⟩
end
end MM

namespace MM
open PySem PySem.Spec PyProof.Rows L2
open Classical in
/-- a call's end, as its caller sees it -/
noncomputable def leave (h : MH) (d : D) (h' : MH) : R D := if LeftOf h h' ∧ d.lows h.length = true then .ok d (h'.take h.length) else .stuck
theorem ans_leave {K L H L' H'} {h h' : MH} {d : D} {v : V} {Q : VK} {E : XK} (r : Rel K L H h) (x : Ext L H L' H') (r' : Rel K L' H' h') (q : Rep K L' H' d v) (a : Ans K (Rep K) L H (leave h d h') Q E) : Q v H' := by
  unfold leave at a
  split at a
  · rename_i z
    obtain ⟨x1, r1⟩ := r.leave r' x z.1
    exact a _ H' v x1 r1 (q.take z.2)
  · exact a.elim

/-! ### what is walked -/
structure Trod (K : PySem.W.Frag) (L : TL) (H : Hp) (J : It) (ds : List D) (g : MH → Prop) : Prop where
  go : ∀ L' H' h' (i : Nat), Ext L H L' H' → Rel K L' H' h' → g h' → i < ds.length → J.go i H'
  stop : ∀ L' H' h', Ext L H L' H' → Rel K L' H' h' → g h' → J.stop ds.length H'
  yld : ∀ L' H' h' (i : Nat) x H'', Ext L H L' H' → Rel K L' H' h' → g h' → i < ds.length → J.yld i H' x H'' → Ext L' H' L' H'' ∧ Rel K L' H'' h' ∧ ∃ d, ds[i]? = some d ∧ Rep K L' H'' d x
structure Src where
  ds : List D
  g : MH → Prop
abbrev MI := MS → MH → R Src
def AnsI (K : PySem.W.Frag) (W : WX) (σ : L2.St) (L : TL) (H : Hp) (r : R Src) (Q : It → Hp → Prop) : Prop := match r with
  | .ok S h1 => ∀ L1 H1 J, Ext L H L1 H1 → Rel K L1 H1 h1 → Trod K L1 H1 J S.ds S.g → Q J H1
  | .exc c fs h1 => ∀ L' H' dx xs, Ext L H L' H' → Rel K L' H' h1 → H' dx = some (.xd xs) → RepF K L' H' fs xs → ∀ ev, EV K c ev → W ev (some dx) σ H'
  | .stuck => False
def tI (K : PySem.W.Frag) (W : WX) (m : MI) : TI := fun σ H Q => ∃ L h δ, Rel K L H h ∧ RepS K L H δ σ ∧ AnsI K W σ L H (m δ h) Q
def PIM (X : Cx) (W : WX) (tg iter : Expr) (m : MI) : Prop := PI X tg iter (tI X.K W m)
theorem _root_.L2.PI.imp {X : Cx} {tg e : Expr} {t t' : TI} (p : PI X tg e t) (h : ∀ σ H Q, t' σ H Q → t σ H Q) : PI X tg e t' := ⟨fun pins s σ H R I q => p.run pins s σ H R I (h σ H R q)⟩
theorem _root_.L2.PI.or {X : Cx} {tg e : Expr} {t t' : TI} (p : PI X tg e t) (p' : PI X tg e t') : PI X tg e (fun σ H Q => t σ H Q ∨ t' σ H Q) := ⟨fun pins s σ H R I q => q.elim (p.run pins s σ H R I) (p'.run pins s σ H R I)⟩

open Classical in
noncomputable def forM (g : MH → Prop) (tgt : MG) (body : MSt) : List D → MS → MH → SR
  | [], δ, h => if g h then .ok (.next δ) h else .stuck
  | x :: r, δ, h => if g h then (match tgt x δ with
      | some δ1 => (match body δ1 h with
        | .ok (.next δ2) h2 => forM g tgt body r δ2 h2
        | .ok (.cont δ2) h2 => forM g tgt body r δ2 h2
        | .ok (.brk δ2) h2 => .ok (.next δ2) h2
        | .ok (.ret d) h2 => .ok (.ret d) h2
        | .exc c fs δ2 h2 => .exc c fs δ2 h2
        | .stuck => .stuck)
      | none => .stuck) else .stuck
noncomputable def mFor (src : MI) (tgt : MG) (body : MSt) : MSt := fun δ h => (src δ h).st δ fun S h1 => forM S.g tgt body S.ds δ h1
section
variable {X : Cx} {W : WX} {pos : Pos} {tg iter : Expr} {body : List Stmt} {mi : MI} {S : List Nat} {g : MG} {mb : MSt}
theorem psm_for (hp : PassesOwn (model X.prog X.w) X.A X.env X.xe) (hc : X.calm = true) (hi : PIM X W tg iter mi) (hg : PGM X tg S g) (hb : PSsM X W body mb) (hs : ∀ x, foldedSetIterable iter X.env x = pure x := by intro _; rfl) :
    PSM X W (.For tg iter body [] pos) (mFor mi g mb) := by
  refine PS.imp (ps_for hp hc hi hg hb hs) fun D σ H ⟨L, h, δ, r, s, a⟩ => ?_
  refine ⟨L, h, δ, r, s, ?_⟩
  unfold mFor at a
  generalize mi δ h = m at a
  cases m with
  | stuck => exact a
  | exc c fs h1 => exact fun L' H' dx xs x r q1 q2 => a L' H' σ dx xs x r (s.mono x) q1 q2
  | ok Sr h1 =>
    intro L1 H1 J x1 r1 tr
    replace a : AnsS X.K D W L H (forM Sr.g g mb Sr.ds δ h1) := a
    refine ⟨fun i m σ' H' => ∃ L' h' δ', Ext L1 H1 L' H' ∧ Rel X.K L' H' h' ∧ RepS X.K L' H' δ' σ' ∧ m = Sr.ds.length - i ∧ i ≤ Sr.ds.length ∧ AnsS X.K D W L' H' (forM Sr.g g mb (Sr.ds.drop i) δ' h'),
      ⟨Sr.ds.length, L1, h1, δ, Ext.refl _ _, r1, s.mono x1, by simp, Nat.zero_le _, by rw [List.drop_zero]; exact a.mono x1⟩, ?_⟩
    rintro i m σ' H' ⟨L', h', δ', x', r', s', rfl, hi, a'⟩
    by_cases hlt : i < Sr.ds.length
    · rw [List.drop_eq_getElem_cons hlt] at a'
      unfold forM at a'
      split at a'
      case isFalse => exact a'.elim
      rename_i hg'
      refine .inr ⟨tr.go L' H' h' i x' r' hg' hlt, fun σ2 H2 => ∃ L2 h2 δ2, Ext L1 H1 L2 H2 ∧ Rel X.K L2 H2 h2 ∧ RepS X.K L2 H2 δ2 σ2 ∧ AnsS X.K D W L2 H2 (forM Sr.g g mb (Sr.ds.drop (i + 1)) δ2 h2), fun σ2 H2 ⟨L2, h2, δ2, e1, e2, e3, e4⟩ => ⟨Sr.ds.length - (i + 1), by omega, L2, h2, δ2, e1, e2, e3, rfl, hlt, e4⟩, fun x H'' hy => ?_⟩
      obtain ⟨x2, r2, d, hd, pd⟩ := tr.yld L' H' h' i x H'' x' r' hg' hlt hy
      have hd' : Sr.ds[i] = d := by
        rw [List.getElem?_eq_getElem hlt] at hd
        exact Option.some.inj hd
      rw [hd'] at a'
      cases et : g d δ' with
      | none => rw [et] at a'; exact a'.elim
      | some δ1 =>
        simp only [et] at a'
        refine ⟨L', h', δ', d, r2, s'.mono x2, pd, δ1, et, fun σ2 s2 _ => ?_⟩
        refine ⟨L', h', δ1, r2, s2, ?_⟩
        replace a' := a'.mono x2
        have x3 := x'.trans x2
        generalize mb δ1 h' = res at a' ⊢
        cases res with
        | stuck => exact a'.elim
        | exc c fs δ2 h2 => exact a'
        | ok f h2 =>
          cases f with
          | next δ2 => exact fun L3 H3 σ3 y r3 s3 => ⟨L3, h2, δ2, x3.trans y, r3, s3, a'.mono y⟩
          | cont δ2 => exact fun L3 H3 σ3 y r3 s3 => ⟨L3, h2, δ2, x3.trans y, r3, s3, a'.mono y⟩
          | brk δ2 => exact a'
          | ret v => exact a'
    · have e : i = Sr.ds.length := by omega
      subst e
      rw [List.drop_length] at a'
      unfold forM at a'
      split at a'
      case isFalse => exact a'.elim
      rename_i hg'
      exact .inl ⟨tr.stop L' H' h' x' r' hg', a'.nx r' s'⟩
end

/-! ### while -/
def whileM (t : MT) (b : MSt) : Nat → MS → MH → SR
  | 0, _, _ => .stuck
  | n + 1, δ, h => (t δ h).st δ fun c h1 => if c then (match b δ h1 with
      | .ok (.next δ2) h2 => whileM t b n δ2 h2
      | .ok (.cont δ2) h2 => whileM t b n δ2 h2
      | .ok (.brk δ2) h2 => .ok (.next δ2) h2
      | .ok (.ret d) h2 => .ok (.ret d) h2
      | .exc c fs δ2 h2 => .exc c fs δ2 h2
      | .stuck => .stuck) else .ok (.next δ) h1
theorem whileM_more {t : MT} {b : MSt} : ∀ {n : Nat} {δ : MS} {h : MH} {r : SR}, whileM t b n δ h = r → r ≠ .stuck → whileM t b (n + 1) δ h = r
  | 0, _, _, _, e, ne => absurd e.symm ne
  | n + 1, δ, h, r, e, ne => by
    subst e
    unfold whileM at ne ⊢
    generalize t δ h = m at ne ⊢
    cases m with
    | stuck => rfl
    | exc _ _ _ => rfl
    | ok c h1 =>
      cases c with
      | false => rfl
      | true =>
        simp only [R.st_ok, if_true] at ne ⊢
        generalize b δ h1 = q at ne ⊢
        cases q with
        | stuck => rfl
        | exc _ _ _ _ => rfl
        | ok f h2 =>
          cases f with
          | next δ2 => exact whileM_more rfl ne
          | cont δ2 => exact whileM_more rfl ne
          | brk _ => rfl
          | ret _ => rfl
theorem whileM_add {t : MT} {b : MSt} {δ : MS} {h : MH} {r : SR} (n : Nat) (e : whileM t b n δ h = r) (ne : r ≠ .stuck) : ∀ k, whileM t b (n + k) δ h = r
  | 0 => e
  | k + 1 => whileM_more (whileM_add n e ne k) ne
open Classical in
noncomputable def mWhile (t : MT) (b : MSt) : MSt := fun δ h => if z : ∃ n, whileM t b n δ h ≠ .stuck then whileM t b (choose z) δ h else .stuck
theorem mWhile_eq {t : MT} {b : MSt} {δ : MS} {h : MH} {r : SR} (n : Nat) (e : whileM t b n δ h = r) (ne : r ≠ .stuck) : mWhile t b δ h = r := by
  have z : ∃ n, whileM t b n δ h ≠ .stuck := ⟨n, by rw [e]; exact ne⟩
  unfold mWhile
  rw [dif_pos z]
  have ne' := Classical.choose_spec z
  have e1 := whileM_add n e ne (Classical.choose z)
  have e2 := whileM_add (Classical.choose z) rfl ne' n
  rw [← e2, Nat.add_comm, e1]
section
variable {X : Cx} {W : WX} {pos : Pos} {c : Expr} {body : List Stmt} {mt : MT} {mb : MSt}
theorem psm_while (hp : PassesOwn (model X.prog X.w) X.A X.env X.xe) (hc : PTM X W c mt) (hb : PSsM X W body mb) : PSM X W (.While c body [] pos) (mWhile mt mb) := by
  refine PS.imp (ps_while hp hc hb) fun D σ H ⟨L, h, δ, r, s, a⟩ => ?_
  unfold mWhile at a
  split at a
  case isFalse => exact a.elim
  rename_i z
  generalize Classical.choose z = n0 at a
  refine ⟨fun n σ' H' => ∃ L' h' δ', Rel X.K L' H' h' ∧ RepS X.K L' H' δ' σ' ∧ AnsS X.K D W L' H' (whileM mt mb n δ' h'), ⟨n0, L, h, δ, r, s, a⟩, ?_⟩
  rintro n σ' H' ⟨L', h', δ', r', s', a'⟩
  cases n with
  | zero => exact a'.elim
  | succ n =>
    refine ⟨L', h', δ', r', s', Ans.imp (AnsS.bind (rp := rpB) s' a') fun v H1 ⟨L1, h1, d, x1, r1, p1, s1, a1⟩ => ?_⟩
    cases p1
    cases v with
    | false => exact iteF (a1.nx r1 s1)
    | true =>
      refine iteT ⟨fun σ2 H2 => ∃ L2 h2 δ2, Rel X.K L2 H2 h2 ∧ RepS X.K L2 H2 δ2 σ2 ∧ AnsS X.K D W L2 H2 (whileM mt mb n δ2 h2), fun σ2 H2 q => ⟨n, Nat.lt_succ_self n, q⟩, ?_⟩
      refine ⟨L1, h1, δ', r1, s1, ?_⟩
      simp only [if_true] at a1
      generalize mb δ' h1 = res at a1 ⊢
      cases res with
      | stuck => exact a1.elim
      | exc c fs δ2 h2 => exact a1
      | ok f h2 =>
        cases f with
        | next δ2 => exact fun L3 H3 σ3 y r3 s3 => ⟨L3, h2, δ2, r3, s3, a1.mono y⟩
        | cont δ2 => exact fun L3 H3 σ3 y r3 s3 => ⟨L3, h2, δ2, r3, s3, a1.mono y⟩
        | brk δ2 => exact a1
        | ret v => exact a1
end

/-! ### list comprehensions -/
def R.nx {α : Type} (r : R α) : R α := match r with
  | .exc _ _ _ => .stuck
  | r => r
@[simp] theorem R.nx_ok {α : Type} (a : α) (h) : (R.ok a h).nx = .ok a h := rfl
@[simp] theorem R.nx_exc {α : Type} (c fs h) : (R.exc c fs h : R α).nx = .stuck := rfl
@[simp] theorem R.nx_stuck {α : Type} : (R.stuck : R α).nx = .stuck := rfl
def W0 : WX := fun _ _ _ _ => False
theorem Ans.nx {α β : Type} {K : PySem.W.Frag} {rp : RP α β} {L H} {r : R α} {Q : β → Hp → Prop} {E E' : XK} (a : Ans K rp L H r.nx Q E) : Ans K rp L H r Q E' := by
  cases r with
  | ok d h => exact a
  | exc c fs h => exact a.elim
  | stuck => exact a
def wipeM (δ : MS) : List Nat → MS
  | [] => δ
  | v :: vs => (wipeM δ vs).set v none
theorem RepS.wipe {K L H} {δ : MS} {σ : L2.St} (s : RepS K L H δ σ) : ∀ vs, RepS K L H (wipeM δ vs) (wipe σ vs)
  | [] => s
  | v :: vs => (RepS.wipe s vs).setNone
theorem wipe_at (σ : L2.St) : ∀ (vs : List Nat) (i : Nat), (wipe σ vs)[i]? = if i ∈ vs then (if i < σ.length then some none else none) else σ[i]?
  | [], i => by simp [wipe]
  | v :: vs, i => by
    unfold L2.wipe
    by_cases hv : v = i
    · subst hv
      rw [if_pos (List.mem_cons_self ..)]
      by_cases hl : v < σ.length
      · rw [if_pos hl, List.getElem?_set_self (by rw [wipe_length]; exact hl)]
      · rw [if_neg hl, List.getElem?_eq_none (by rw [List.length_set, wipe_length]; omega)]
    · rw [List.getElem?_set_ne hv, wipe_at σ vs i]
      have : (i ∈ v :: vs) ↔ i ∈ vs := by simp [show ¬ i = v from fun z => hv z.symm]
      simp only [this]
theorem wipe_eq {σ σ' : L2.St} {S vs : List Nat} (o : Only S σ σ') (hs : ∀ i ∈ S, i ∈ vs) : wipe σ' vs = wipe σ vs := by
  apply List.ext_getElem?
  intro i
  rw [wipe_at, wipe_at, o.1]
  split
  · rfl
  · rename_i hi; exact o.2 i fun z => hi (hs i z)
theorem wipe_wipe (σ : L2.St) (vs : List Nat) : wipe (wipe σ vs) vs = wipe σ vs := by
  apply List.ext_getElem?
  intro i
  rw [wipe_at, wipe_at, wipe_length]
  split <;> rfl
open Classical in
noncomputable def compM (g : MH → Prop) (tgt : MG) (cond : MT) (elt : ME) (n : Nat) (δ0 : MS) : List D → MH → R Unit
  | [], h => if g h then .ok () h else .stuck
  | x :: r, h => if g h then (match tgt x δ0 with
      | some δ1 => (cond δ1 h).nx.bnd fun b h1 => if b then (elt δ1 h1).nx.bnd fun y h2 => (match lst? h2 n with
          | some acc => if acc.length < 16777216 then compM g tgt cond elt n δ0 r (h2.set n (.lst (acc ++ [y]))) else .stuck
          | none => .stuck) else compM g tgt cond elt n δ0 r h1
      | none => .stuck) else .stuck
/-- a list that nobody changes from now on; a list that may change -/
noncomputable def mLc (src : MI) (tgt : MG) (cond : MT) (elt : ME) (vs : List Nat) : ME := fun δ h => (src δ h).bnd fun S h1 => (compM S.g tgt cond elt h1.length (wipeM δ vs) S.ds (h1 ++ [.lst []])).bnd fun _ h2 => match lst? h2 h1.length with
  | some acc => leave h1 (.rol acc) (h2.set h1.length .dead)
  | none => .stuck
noncomputable def mLcN (src : MI) (tgt : MG) (cond : MT) (elt : ME) (vs : List Nat) : ME := fun δ h => (src δ h).bnd fun S h1 => (compM S.g tgt cond elt h1.length (wipeM δ vs) S.ds (h1 ++ [.lst []])).bnd fun _ h2 => match lst? h2 h1.length with
  | some acc => .ok (.ref h1.length) h2
  | none => .stuck
def mYes : MT := fun _ h => .ok true h
def PTsM (X : Cx) (W : WX) (ifs : List Expr) (m : MT) : Prop := PTs X ifs (tT X.K W m)
theorem ptsm_nil {X : Cx} {W : WX} : PTsM X W [] mYes := ⟨fun pins s σ H Q I ⟨L, h, δ, r, s', a⟩ => pts_nil.run pins s σ H Q I (ans_okB r a)⟩
theorem ptsm_one {X : Cx} {W : WX} {c : Expr} {m : MT} (h : PTM X W c m) : PTsM X W [c] m := pts_one h
theorem oat_nil {K L H a} : OAt K L (upd H a (.lst [])) (some (some a)) (.lst []) := ⟨a, [], rfl, upd_same, .nil⟩
theorem Ans.bind0 {α β γ δ' : Type} {K : PySem.W.Frag} {rp : RP α β} {rp2 : RP γ δ'} {L0 L : TL} {H0 H : Hp} {E : XK} {r : R α} {k : α → MH → R γ} {Q : δ' → Hp → Prop} (x0 : Ext L0 H0 L H) (a : Ans K rp2 L0 H0 (r.bnd k) Q E) :
    Ans K rp L H r (fun v H1 => ∃ L1 h1 d, Ext L H L1 H1 ∧ Rel K L1 H1 h1 ∧ rp L1 H1 d v ∧ Ans K rp2 L0 H0 (k d h1) Q E) E := by
  cases r with
  | ok d h => exact fun L2 H2 v e r q => ⟨L2, h, d, e, r, q, a⟩
  | exc c fs h => exact fun L2 H2 dx xs e => a L2 H2 dx xs (x0.trans e)
  | stuck => exact a
/-- the turns of a comprehension -/
theorem lc_turns {K : PySem.W.Frag} {J : It} {S : List Nat} {g : MG} {cond : MT} {elt : ME} {vs : List Nat} (hs : ∀ i ∈ S, i ∈ vs) {L1 : TL} {H1 : Hp} {h1 : MH} {Sr : Src} {δ : MS} {σ : L2.St} {Dl : Addr} {k : Unit → MH → R D} {Q : VK} {E : XK}
    (r1 : Rel K L1 H1 h1) (s1 : RepS K L1 H1 δ σ) (tr : Trod K L1 H1 J Sr.ds Sr.g) (hD : H1 Dl = none)
    (a : Ans K (Rep K) L1 H1 ((compM Sr.g g cond elt h1.length (wipeM δ vs) Sr.ds (h1 ++ [.lst []])).bnd k) Q E)
    (hd : ∀ L' H' h', Ext L1 H1 L' H' → Rel K L' H' h' → (∃ o, L'[h1.length]? = some o ∧ ∀ b, o = some b → b = Dl) → Ans K (Rep K) L1 H1 (k () h') Q E → Q (.ref Dl) H') :
    ∃ W : Nat → Nat → Hp → Prop, (∃ m, W 0 m (upd H1 Dl (.lst []))) ∧ ∀ i m H, W i m H →
      (J.stop i H ∧ Q (.ref Dl) H) ∨ (J.go i H ∧ ∃ Nx : Hp → Prop, (∀ H', Nx H' → ∃ m', m' < m ∧ W (i + 1) m' H') ∧ ∀ x H', J.yld i H x H' → tG K S g x (wipe σ vs) H' fun σ2 H2 => wipe σ2 vs = wipe σ vs ∧ tT K W0 cond σ2 H2 fun b H3 =>
        if b = true then tE K W0 elt σ2 H3 fun y H4 => ∃ acc, H4 Dl = some (.lst acc) ∧ acc.length < sizeLine ∧ Nx (upd H4 Dl (.lst (acc ++ [y]))) else Nx H3) := by
  obtain ⟨xa, ra⟩ := r1.alloc (m := .lst []) hD oat_nil
  have at0 : (L1 ++ [some Dl])[h1.length]? = some (some Dl) := by rw [getElem?_snoc, if_pos r1.len.symm]
  have own : ∀ {L' : TL} {H' : Hp}, Ext (L1 ++ [some Dl]) (upd H1 Dl (.lst [])) L' H' → ∃ o, L'[h1.length]? = some o ∧ ∀ b, o = some b → b = Dl := fun x => by
    rcases x.live _ _ at0 with z | z
    · exact ⟨_, z, fun b e => (Option.some.inj e).symm⟩
    · exact ⟨_, z, fun b e => by cases e⟩
  refine ⟨fun i m H' => ∃ L' h', Ext (L1 ++ [some Dl]) (upd H1 Dl (.lst [])) L' H' ∧ Rel K L' H' h' ∧ m = Sr.ds.length - i ∧ i ≤ Sr.ds.length ∧ Ans K (Rep K) L1 H1 ((compM Sr.g g cond elt h1.length (wipeM δ vs) (Sr.ds.drop i) h').bnd k) Q E,
    ⟨Sr.ds.length, _, _, Ext.refl _ _, ra, by simp, Nat.zero_le _, by rw [List.drop_zero]; exact a⟩, ?_⟩
  rintro i m H' ⟨L', h', x', r', rfl, hi, a'⟩
  have x1' := xa.trans x'
  by_cases hlt : i < Sr.ds.length
  · rw [List.drop_eq_getElem_cons hlt] at a'
    unfold compM at a'
    split at a'
    case isFalse => exact a'.elim
    rename_i hg'
    refine .inr ⟨tr.go L' H' h' i x1' r' hg' hlt, fun H2 => ∃ L2 h2, Ext (L1 ++ [some Dl]) (upd H1 Dl (.lst [])) L2 H2 ∧ Rel K L2 H2 h2 ∧ Ans K (Rep K) L1 H1 ((compM Sr.g g cond elt h1.length (wipeM δ vs) (Sr.ds.drop (i + 1)) h2).bnd k) Q E,
      fun H2 ⟨L2, h2, e1, e2, e3⟩ => ⟨Sr.ds.length - (i + 1), by omega, L2, h2, e1, e2, rfl, hlt, e3⟩, fun x H'' hy => ?_⟩
    obtain ⟨x2, r2, d, hd', pd⟩ := tr.yld L' H' h' i x H'' x1' r' hg' hlt hy
    have hdd : Sr.ds[i] = d := by
      rw [List.getElem?_eq_getElem hlt] at hd'
      exact Option.some.inj hd'
    rw [hdd] at a'
    cases et : g d (wipeM δ vs) with
    | none => rw [et] at a'; exact a'.elim
    | some δ1 =>
      simp only [et] at a'
      refine ⟨L', h', wipeM δ vs, d, r2, (s1.wipe vs).mono (x1'.trans x2), pd, δ1, et, fun σ2 s2 o2 => ⟨?_, ?_⟩⟩
      · rw [wipe_eq o2 hs, wipe_wipe]
      · rw [R.bnd_assoc] at a'
        refine ⟨L', h', δ1, r2, s2, Ans.imp (Ans.nx (Ans.bind0 (rp := rpB) (x1'.trans x2) a')) fun b H3 ⟨L3, h3, b', x3, r3, p3, a3⟩ => ?_⟩
        cases p3
        cases b with
        | false => exact iteF ⟨L3, h3, (x'.trans x2).trans x3, r3, a3⟩
        | true =>
          refine iteT ?_
          simp only [if_true] at a3
          rw [R.bnd_assoc] at a3
          refine ⟨L3, h3, δ1, r3, s2.mono x3, Ans.imp (Ans.nx (Ans.bind0 (rp := Rep K) ((x1'.trans x2).trans x3) a3)) fun y H4 ⟨L4, h4, dy, x4, r4, p4, a4⟩ => ?_⟩
          have x5 := (x'.trans x2).trans (x3.trans x4)
          cases el : lst? h4 h1.length with
          | none => rw [el] at a4; exact a4.elim
          | some acc =>
            simp only [el] at a4
            obtain ⟨ad, xs, e1, e2, w⟩ := r4.lst (lst?_at el)
            obtain ⟨o, eo, ho⟩ := own x5
            rw [e1] at eo; cases eo
            have : ad = Dl := ho ad rfl
            subst this
            by_cases hz : acc.length < 16777216
            · rw [if_pos hz] at a4
              refine ⟨xs, e2, by rw [sizeLine_eq, ← w.length]; exact hz, ?_⟩
              have nf : ∀ o u, H4 ad ≠ some (.frz o u) := fun o u z => by rw [e2] at z; cases z
              obtain ⟨x6, r6⟩ := r4.write (m := .lst (acc ++ [dy])) e1 nf (o := .lst (xs ++ [y])) ⟨ad, xs ++ [y], rfl, upd_same, (w.mono (ext_write e1 nf)).append (.cons (p4.mono (ext_write e1 nf)) .nil)⟩
              exact ⟨L4, _, x5.trans x6, r6, a4⟩
            · rw [if_neg hz] at a4; exact a4.elim
  · have e : i = Sr.ds.length := by omega
    subst e
    rw [List.drop_length] at a'
    unfold compM at a'
    split at a'
    case isFalse => exact a'.elim
    rename_i hg'
    exact .inl ⟨tr.stop L' H' h' x1' r' hg', hd L' H' h' x1' r' (own x') a'⟩
theorem lc_end {K : PySem.W.Frag} {L1 L' : TL} {H1 H' : Hp} {h1 h' : MH} {acc : List D} {Dl : Addr} {Q : VK} {E : XK} (r1 : Rel K L1 H1 h1) (x : Ext L1 H1 L' H') (r' : Rel K L' H' h') (o : ∃ o, L'[h1.length]? = some o ∧ ∀ b, o = some b → b = Dl) (e : lst? h' h1.length = some acc)
    (a : Ans K (Rep K) L1 H1 (leave h1 (.rol acc) (h'.set h1.length .dead)) Q E) : Q (.ref Dl) H' := by
  obtain ⟨ad, xs, e1, e2, w⟩ := r'.lst (lst?_at e)
  obtain ⟨o, eo, ho⟩ := o
  rw [e1] at eo; cases eo
  have : ad = Dl := ho ad rfl
  subst this
  obtain ⟨xk, rk⟩ := r'.kill (n := h1.length) (List.getElem?_eq_some_iff.mp (lst?_at e)).1
  refine ans_leave r1 (x.trans xk) rk ?_ a
  unfold Rep
  exact ⟨ad, xs, rfl, .inl ⟨.inl e2, NL.kill r' e1⟩, w.mono xk⟩
theorem lc_endN {K : PySem.W.Frag} {L1 L' : TL} {H1 H' : Hp} {h1 h' : MH} {acc : List D} {Dl : Addr} {Q : VK} {E : XK} (r1 : Rel K L1 H1 h1) (x : Ext L1 H1 L' H') (r' : Rel K L' H' h') (o : ∃ o, L'[h1.length]? = some o ∧ ∀ b, o = some b → b = Dl) (e : lst? h' h1.length = some acc)
    (a : Ans K (Rep K) L1 H1 (.ok (.ref h1.length) h') Q E) : Q (.ref Dl) H' := by
  obtain ⟨ad, xs, e1, e2, w⟩ := r'.lst (lst?_at e)
  obtain ⟨o, eo, ho⟩ := o
  rw [e1] at eo; cases eo
  have : ad = Dl := ho ad rfl
  subst this
  refine ans_okE r' ?_ (a.mono x)
  unfold Rep
  exact ⟨ad, rfl, .inl e1⟩
theorem tLc_of {K : PySem.W.Frag} {W : WX} {S : List Nat} {mi : MI} {g : MG} {cond : MT} {elt : ME} {vs : List Nat} (hs : ∀ i ∈ S, i ∈ vs) {σ : L2.St} {H : Hp} {Q : VK} (t : tE K W (mLc mi g cond elt vs) σ H Q) : tLc (tI K W mi) (tG K S g) (tT K W0 cond) (tE K W0 elt) vs σ H Q := by
  obtain ⟨L, h, δ, r, s, a⟩ := t
  refine ⟨L, h, δ, r, s, ?_⟩
  unfold mLc at a
  generalize mi δ h = m at a
  cases m with
  | stuck => exact a.elim
  | exc c fs h1 => exact a
  | ok Sr h1 =>
    intro L1 H1 J x1 r1 tr Dl hD
    refine lc_turns hs r1 (s.mono x1) tr hD (Ans.mono x1 a) fun L' H' h' x' r' o a' => ?_
    cases el : lst? h' h1.length with
    | none => rw [el] at a'; exact a'.elim
    | some acc => simp only [el] at a'; exact lc_end r1 x' r' o el a'
theorem tLcN_of {K : PySem.W.Frag} {W : WX} {S : List Nat} {mi : MI} {g : MG} {cond : MT} {elt : ME} {vs : List Nat} (hs : ∀ i ∈ S, i ∈ vs) {σ : L2.St} {H : Hp} {Q : VK} (t : tE K W (mLcN mi g cond elt vs) σ H Q) : tLc (tI K W mi) (tG K S g) (tT K W0 cond) (tE K W0 elt) vs σ H Q := by
  obtain ⟨L, h, δ, r, s, a⟩ := t
  refine ⟨L, h, δ, r, s, ?_⟩
  unfold mLcN at a
  generalize mi δ h = m at a
  cases m with
  | stuck => exact a.elim
  | exc c fs h1 => exact a
  | ok Sr h1 =>
    intro L1 H1 J x1 r1 tr Dl hD
    refine lc_turns hs r1 (s.mono x1) tr hD (Ans.mono x1 a) fun L' H' h' x' r' o a' => ?_
    cases el : lst? h' h1.length with
    | none => rw [el] at a'; exact a'.elim
    | some acc => simp only [el] at a'; exact lc_endN r1 x' r' o el a'
section
variable {X : Cx} {W : WX} {elt tg iter : Expr} {ifs : List Expr} {scope : Scope} {own : List (Str × Nat)} {pos : Pos} {mi : MI} {S : List Nat} {g : MG} {cond : MT} {me : ME}
theorem pem_lc (hc : X.calm = true) (hN : X.N.Nodup) (hi : PIM X W tg iter mi) (ok : BlkOk X.N X.env.scope scope own) (hS : ∀ i ∈ S, i ∈ own.map (·.2))
    (hg : ∀ (s : Shared) (H : Hp) (C : Addr) (cl : List (Str × Addr)) (fp : List Addr), PGM (X.blk s H scope (compEnvC scope cl C X.env) fp) tg S g)
    (ht : ∀ (s : Shared) (H : Hp) (C : Addr) (cl : List (Str × Addr)) (fp : List Addr), PTsM (X.blk s H scope (compEnvC scope cl C X.env) fp) W0 ifs cond)
    (he : ∀ (s : Shared) (H : Hp) (C : Addr) (cl : List (Str × Addr)) (fp : List Addr), PEM (X.blk s H scope (compEnvC scope cl C X.env) fp) W0 elt me) (hs : ∀ x, foldedSetIterable iter X.env x = pure x := by intro _; rfl) :
    PEM X W (.ListComp elt [⟨tg, iter, ifs, 0⟩] scope pos) (mLc mi g cond me (own.map (·.2))) :=
  PE.imp (pe_lc (wi := tI X.K W mi) (g := tG X.K S g) (tt := tT X.K W0 cond) (te := tE X.K W0 me) hc hN hi ok hg ht he hs) fun _ _ _ t => tLc_of hS t
theorem pem_lcN (hc : X.calm = true) (hN : X.N.Nodup) (hi : PIM X W tg iter mi) (ok : BlkOk X.N X.env.scope scope own) (hS : ∀ i ∈ S, i ∈ own.map (·.2))
    (hg : ∀ (s : Shared) (H : Hp) (C : Addr) (cl : List (Str × Addr)) (fp : List Addr), PGM (X.blk s H scope (compEnvC scope cl C X.env) fp) tg S g)
    (ht : ∀ (s : Shared) (H : Hp) (C : Addr) (cl : List (Str × Addr)) (fp : List Addr), PTsM (X.blk s H scope (compEnvC scope cl C X.env) fp) W0 ifs cond)
    (he : ∀ (s : Shared) (H : Hp) (C : Addr) (cl : List (Str × Addr)) (fp : List Addr), PEM (X.blk s H scope (compEnvC scope cl C X.env) fp) W0 elt me) (hs : ∀ x, foldedSetIterable iter X.env x = pure x := by intro _; rfl) :
    PEM X W (.ListComp elt [⟨tg, iter, ifs, 0⟩] scope pos) (mLcN mi g cond me (own.map (·.2))) :=
  PE.imp (pe_lc (wi := tI X.K W mi) (g := tG X.K S g) (tt := tT X.K W0 cond) (te := tE X.K W0 me) hc hN hi ok hg ht he hs) fun _ _ _ t => tLcN_of hS t
/-- y = [..], the same list -/
theorem psm_setLcN {i : Nat} {y : Str} {py spos : Pos} (hc : X.calm = true) (hN : X.N.Nodup) (hy : X.N[i]? = some y) (hyl : X.env.scope.names.lookup y = some .local)
    (hsw : swapsWith (.ListComp elt [⟨tg, iter, ifs, 0⟩] scope pos) (some (.Name y py)) spos.line X.env = pure true) (hi : PIM X W tg iter mi) (ok : BlkOk X.N X.env.scope scope own) (hS : ∀ i ∈ S, i ∈ own.map (·.2))
    (hg : ∀ (s : Shared) (H : Hp) (C : Addr) (cl : List (Str × Addr)) (fp : List Addr), PGM (X.blk s H scope (compEnvC scope cl C X.env) fp) tg S g)
    (ht : ∀ (s : Shared) (H : Hp) (C : Addr) (cl : List (Str × Addr)) (fp : List Addr), PTsM (X.blk s H scope (compEnvC scope cl C X.env) fp) W0 ifs cond)
    (he : ∀ (s : Shared) (H : Hp) (C : Addr) (cl : List (Str × Addr)) (fp : List Addr), PEM (X.blk s H scope (compEnvC scope cl C X.env) fp) W0 elt me) (hs : ∀ x, foldedSetIterable iter X.env x = pure x := by intro _; rfl) :
    PSM X W (.Assign [.Name y py] (.ListComp elt [⟨tg, iter, ifs, 0⟩] scope pos) spos) (mSet i (mLcN mi g cond me (own.map (·.2)))) := by
  refine PS.imp (ps_setLc (wi := tI X.K W mi) (g := tG X.K S g) (tt := tT X.K W0 cond) (te := tE X.K W0 me) hc hN hy hyl hsw hi ok hg ht he hs) fun D σ H ⟨L, h, δ, r, s, a⟩ => ?_
  exact tLcN_of hS ⟨L, h, δ, r, s, Ans.imp (AnsS.bind (rp := Rep X.K) s a) fun v H1 ⟨L1, h1, d, x1, r1, p1, s1, a1⟩ => a1.nx r1 (s1.set p1)⟩
theorem psm_setLc {i : Nat} {y : Str} {py spos : Pos} (hc : X.calm = true) (hN : X.N.Nodup) (hy : X.N[i]? = some y) (hyl : X.env.scope.names.lookup y = some .local)
    (hsw : swapsWith (.ListComp elt [⟨tg, iter, ifs, 0⟩] scope pos) (some (.Name y py)) spos.line X.env = pure true) (hi : PIM X W tg iter mi) (ok : BlkOk X.N X.env.scope scope own) (hS : ∀ i ∈ S, i ∈ own.map (·.2))
    (hg : ∀ (s : Shared) (H : Hp) (C : Addr) (cl : List (Str × Addr)) (fp : List Addr), PGM (X.blk s H scope (compEnvC scope cl C X.env) fp) tg S g)
    (ht : ∀ (s : Shared) (H : Hp) (C : Addr) (cl : List (Str × Addr)) (fp : List Addr), PTsM (X.blk s H scope (compEnvC scope cl C X.env) fp) W0 ifs cond)
    (he : ∀ (s : Shared) (H : Hp) (C : Addr) (cl : List (Str × Addr)) (fp : List Addr), PEM (X.blk s H scope (compEnvC scope cl C X.env) fp) W0 elt me) (hs : ∀ x, foldedSetIterable iter X.env x = pure x := by intro _; rfl) :
    PSM X W (.Assign [.Name y py] (.ListComp elt [⟨tg, iter, ifs, 0⟩] scope pos) spos) (mSet i (mLc mi g cond me (own.map (·.2)))) := by
  refine PS.imp (ps_setLc (wi := tI X.K W mi) (g := tG X.K S g) (tt := tT X.K W0 cond) (te := tE X.K W0 me) hc hN hy hyl hsw hi ok hg ht he hs) fun D σ H ⟨L, h, δ, r, s, a⟩ => ?_
  exact tLc_of hS ⟨L, h, δ, r, s, Ans.imp (AnsS.bind (rp := Rep X.K) s a) fun v H1 ⟨L1, h1, d, x1, r1, p1, s1, a1⟩ => a1.nx r1 (s1.set p1)⟩
end
end MM

namespace MM
open PySem PySem.Spec PyProof.Rows L2
section
variable {X : Cx} {W : WX} {pos : Pos} {a b c e : Expr} {ma mb mc me : ME} {es : List Expr} {mas : MA}
/-! ### argument lists, displays -/
def mNil : MA := fun _ h => .ok [] h
def mCons (m : ME) (ms : MA) : MA := fun δ h => (m δ h).bnd fun d h1 => (ms δ h1).bnd fun ds h2 => .ok (d :: ds) h2
theorem pam_nil : PAM X W [] mNil := PA.imp pa_nil fun σ H Q ⟨L, h, δ, r, s, a⟩ => a L H [] (Ext.refl _ _) r .nil
theorem pam_cons (ha : PEM X W e me) (hr : PAM X W es mas) (hs : starEach (e :: es) X.env = (false, eval e X.env) :: starEach es X.env := by rfl) : PAM X W (e :: es) (mCons me mas) :=
  PA.imp (pa_cons ha hr hs) fun σ H Q ⟨L, h, δ, r, s, a⟩ => ⟨L, h, δ, r, s, Ans.imp (Ans.bind (rp := Rep X.K) a) fun v H1 ⟨L1, h1, d, x1, r1, p1, a1⟩ =>
    ⟨L1, h1, δ, r1, s.mono x1, Ans.imp (Ans.bind (rp := RepL X.K) a1) fun vs H2 ⟨L2, h2, ds, x2, r2, p2, a2⟩ => a2 L2 H2 (v :: vs) (Ext.refl _ _) r2 (.cons (p1.mono x2) p2)⟩⟩
def mTup (ms : MA) : ME := fun δ h => (ms δ h).bnd fun ds h1 => if ds.length ≤ 16777216 then .ok (.tup ds) h1 else .stuck
theorem rep_tup {K L H} {h : MH} {ds vs p} (r : Rel K L H h) (hp : H p = none) (w : RepL K L H ds vs) : Ext L H L (upd H p (.tup vs)) ∧ Rel K L (upd H p (.tup vs)) h ∧ Rep K L (upd H p (.tup vs)) (.tup ds) (.ref p) := by
  obtain ⟨x, r'⟩ := r.fresh (o := .tup vs) hp
  refine ⟨x, r', ?_⟩
  unfold Rep
  exact ⟨p, vs, rfl, .inl ⟨.inl upd_same, r.nl_new hp⟩, w.mono x⟩
theorem rep_rol {K L H} {h : MH} {ds vs p} (r : Rel K L H h) (hp : H p = none) (w : RepL K L H ds vs) : Ext L H L (upd H p (.lst vs)) ∧ Rel K L (upd H p (.lst vs)) h ∧ Rep K L (upd H p (.lst vs)) (.rol ds) (.ref p) := by
  obtain ⟨x, r'⟩ := r.fresh (o := .lst vs) hp
  refine ⟨x, r', ?_⟩
  unfold Rep
  exact ⟨p, vs, rfl, .inl ⟨.inl upd_same, r.nl_new hp⟩, w.mono x⟩
theorem rep_new {K L H} {h : MH} {ds vs p} (r : Rel K L H h) (hp : H p = none) (w : RepL K L H ds vs) : Ext L H (L ++ [some p]) (upd H p (.lst vs)) ∧ Rel K (L ++ [some p]) (upd H p (.lst vs)) (h ++ [.lst ds]) ∧ Rep K (L ++ [some p]) (upd H p (.lst vs)) (.ref h.length) (.ref p) := by
  obtain ⟨x, r'⟩ := r.alloc (m := .lst ds) (o := .lst vs) hp ⟨p, vs, rfl, upd_same, w.mono (ext_alloc hp)⟩
  refine ⟨x, r', ?_⟩
  unfold Rep
  exact ⟨p, rfl, .inl (by rw [getElem?_snoc, if_pos r.len.symm])⟩
theorem ans_of {K L H L1 H1} {h1 : MH} {d v} {Q : VK} {E : XK} (x : Ext L H L1 H1 ∧ Rel K L1 H1 h1 ∧ Rep K L1 H1 d v) (a : Ans K (Rep K) L H (.ok d h1) Q E) : Q v H1 := a L1 H1 v x.1 x.2.1 x.2.2
theorem szl {n : Nat} (h : n ≤ 16777216) : n ≤ sizeLine := by rw [sizeLine_eq]; exact h
theorem pem_tup {x1} (hs : PAM X W es mas) : PEM X W (.Tuple es x1 pos) (mTup mas) :=
  PE.imp (pe_tup hs) fun σ H Q ⟨L, h, δ, r, s, a⟩ => ⟨L, h, δ, r, s, Ans.imp (Ans.bind (rp := RepL X.K) a) fun vs H1 ⟨L1, h1, ds, x1, r1, p1, a1⟩ => by
    by_cases z : ds.length ≤ 16777216
    · rw [if_pos z] at a1
      exact ⟨by rw [← p1.length]; exact szl z, fun p hp => ans_of (rep_tup r1 hp p1) a1⟩
    · rw [if_neg z] at a1; exact a1.elim⟩
/-- a list that nobody changes; one that may be changed -/
def mLst (ms : MA) : ME := fun δ h => (ms δ h).bnd fun ds h1 => if ds.length ≤ 16777216 then .ok (.rol ds) h1 else .stuck
def mLstN (ms : MA) : ME := fun δ h => (ms δ h).bnd fun ds h1 => if ds.length ≤ 16777216 then .ok (.ref h1.length) (h1 ++ [.lst ds]) else .stuck
theorem pem_lst (hs : PAM X W es mas) : PEM X W (.List es pos) (mLst mas) :=
  PE.imp (pe_lst hs) fun σ H Q ⟨L, h, δ, r, s, a⟩ => ⟨L, h, δ, r, s, Ans.imp (Ans.bind (rp := RepL X.K) a) fun vs H1 ⟨L1, h1, ds, x1, r1, p1, a1⟩ => by
    by_cases z : ds.length ≤ 16777216
    · rw [if_pos z] at a1
      exact ⟨by rw [← p1.length]; exact szl z, fun p hp => ans_of (rep_rol r1 hp p1) a1⟩
    · rw [if_neg z] at a1; exact a1.elim⟩
theorem pem_lstN (hs : PAM X W es mas) : PEM X W (.List es pos) (mLstN mas) :=
  PE.imp (pe_lst hs) fun σ H Q ⟨L, h, δ, r, s, a⟩ => ⟨L, h, δ, r, s, Ans.imp (Ans.bind (rp := RepL X.K) a) fun vs H1 ⟨L1, h1, ds, x1, r1, p1, a1⟩ => by
    by_cases z : ds.length ≤ 16777216
    · rw [if_pos z] at a1
      exact ⟨by rw [← p1.length]; exact szl z, fun p hp => ans_of (rep_new r1 hp p1) a1⟩
    · rw [if_neg z] at a1; exact a1.elim⟩
/-! ### subscripts -/
theorem pem_ix {r : R2} {f : D → D → MH → R D} (hr : IxR X r) (hm : OpM X.K r f) (ha : PEM X W a ma) (hb : PEM X W b mb) (hs : PlainIx b) : PEM X W (.Subscript a b pos) (mOp f ma mb) :=
  PE.imp (pe_ix hr ha hb hs) fun _ _ _ t => tOp_of hm t
def rpO : RP (Option Int) (Option Int) := fun _ _ a b => a = b
abbrev MOp := MS → MH → R (Option Int)
def tOm (K : PySem.W.Frag) (W : WX) (m : MOp) : TO := fun σ H Q => ∃ L h δ, Rel K L H h ∧ RepS K L H δ σ ∧ Ans K rpO L H (m δ h) Q (WE W σ)
def POM (X : Cx) (W : WX) (e : Option Expr) (m : MOp) : Prop := PO X e (tOm X.K W m)
theorem _root_.L2.PO.imp {X : Cx} {e : Option Expr} {t t' : TO} (p : PO X e t) (h : ∀ σ H Q, t' σ H Q → t σ H Q) : PO X e t' := ⟨fun pins s σ H Q I q => p.run pins s σ H Q I (h σ H Q q)⟩
def mNoP : MOp := fun _ h => .ok none h
def mPart (m : ME) : MOp := fun δ h => (m δ h).bnd fun d h1 => match d with
  | .int i => .ok (some i) h1
  | _ => .stuck
theorem pom_none : POM X W none mNoP := PO.imp po_none fun σ H Q ⟨L, h, δ, r, s, a⟩ => a L H none (Ext.refl _ _) r rfl
theorem pom_some (ha : PEM X W a ma) : POM X W (some a) (mPart ma) :=
  PO.imp (po_some ha) fun σ H Q ⟨L, h, δ, r, s, a⟩ => ⟨L, h, δ, r, s, Ans.imp (Ans.bind (rp := Rep X.K) a) fun v H1 ⟨L1, h1, d, x1, r1, p1, a1⟩ => by
    cases d with
    | int i =>
      unfold Rep at p1
      exact ⟨i, p1, a1 L1 H1 (some i) (Ext.refl _ _) r1 rfl⟩
    | _ => exact a1.elim⟩
def mSl (f : D → Option Int → Option Int → MH → R D) (m : ME) (lo hi : MOp) : ME := fun δ h => (m δ h).bnd fun d h1 => (lo δ h1).bnd fun l h2 => (hi δ h2).bnd fun u h3 => f d l u h3
def SlM (K : PySem.W.Frag) (r : V → Option Int → Option Int → Hp → VK → Prop) (f : D → Option Int → Option Int → MH → R D) : Prop := ∀ (L : TL) (H : Hp) (h : MH) (d : D) (x : V) (lo hi : Option Int) (Q : VK) (E : XK), Rel K L H h → Rep K L H d x → Ans K (Rep K) L H (f d lo hi h) Q E → r x lo hi H Q
theorem pem_slice {r : V → Option Int → Option Int → Hp → VK → Prop} {f : D → Option Int → Option Int → MH → R D} {lo hi : Option Expr} {ml mh : MOp} {p2 : Pos} (hr : SlR X r) (hm : SlM X.K r f) (ha : PEM X W a ma) (hl : POM X W lo ml) (hu : POM X W hi mh) :
    PEM X W (.Subscript a (.Slice lo hi none p2) pos) (mSl f ma ml mh) :=
  PE.imp (pe_slice hr ha hl hu) fun σ H Q ⟨L, h, δ, r0, s, a⟩ => ⟨L, h, δ, r0, s, Ans.imp (Ans.bind (rp := Rep X.K) a) fun v H1 ⟨L1, h1, d, x1, r1, p1, a1⟩ => ⟨L1, h1, δ, r1, s.mono x1,
    Ans.imp (Ans.bind (rp := rpO) a1) fun l H2 ⟨L2, h2, l', x2, r2, p2, a2⟩ => ⟨L2, h2, δ, r2, s.mono (x1.trans x2), Ans.imp (Ans.bind (rp := rpO) a2) fun u H3 ⟨L3, h3, u', x3, r3, p3, a3⟩ => by
      cases p2; cases p3
      exact hm L3 H3 h3 d v l u Q _ r3 (p1.mono (x2.trans x3)) a3⟩⟩⟩
/-! ### calls of what is built in -/
def CallM (K : PySem.W.Frag) (r : List V → Hp → VK → Prop) (f : List D → MH → R D) : Prop := ∀ (L : TL) (H : Hp) (h : MH) (ds : List D) (vs : List V) (Q : VK) (E : XK), Rel K L H h → RepL K L H ds vs → Ans K (Rep K) L H (f ds h) Q E → r vs H Q
def mCall (f : List D → MH → R D) (ms : MA) : ME := fun δ h => (ms δ h).bnd f
theorem pem_callB {x : Str} {id : String} {r : List V → Hp → VK → Prop} {f : List D → MH → R D} {p : Pos} (hc : CallR X (.builtin id) r) (hm : CallM X.K r f) (hg : Gl X x) (hmg : X.mg x = none) (hv : bootBuiltins x = some (.builtin id)) (ha : PAM X W (e :: es) mas)
    (hn : x ≠ "__name__" := by decide) (hdb : (x == ("__debug__" : Str)) = false := by decide) (he : starEach (e :: es) X.env = (false, eval e X.env) :: starEach es X.env := by rfl) (hpl : (backTo pos (starEach es X.env)).any (·.1) = false := by rfl) :
    PEM X W (.Call (.Name x p) (e :: es) [] pos) (mCall f mas) :=
  PE.imp (pe_callB hc hg hmg hv ha hn hdb he hpl) fun σ H Q ⟨L, h, δ, r0, s, a⟩ => ⟨L, h, δ, r0, s, Ans.imp (Ans.bind (rp := RepL X.K) a) fun vs H1 ⟨L1, h1, ds, x1, r1, p1, a1⟩ => hm L1 H1 h1 ds vs Q _ r1 p1 a1⟩
theorem pem_callTy {x : Str} {id : String} {r : List V → Hp → VK → Prop} {f : List D → MH → R D} {p : Pos} (hc : CallR X (.type id) r) (hm : CallM X.K r f) (hg : Gl X x) (hmg : X.mg x = none) (hv : bootBuiltins x = some (.type id)) (ha : PAM X W (e :: es) mas)
    (hn : x ≠ "__name__" := by decide) (hdb : (x == ("__debug__" : Str)) = false := by decide) (he : starEach (e :: es) X.env = (false, eval e X.env) :: starEach es X.env := by rfl) (hpl : (backTo pos (starEach es X.env)).any (·.1) = false := by rfl) :
    PEM X W (.Call (.Name x p) (e :: es) [] pos) (mCall f mas) :=
  PE.imp (pe_callTy hc hg hmg hv ha hn hdb he hpl) fun σ H Q ⟨L, h, δ, r0, s, a⟩ => ⟨L, h, δ, r0, s, Ans.imp (Ans.bind (rp := RepL X.K) a) fun vs H1 ⟨L1, h1, ds, x1, r1, p1, a1⟩ => hm L1 H1 h1 ds vs Q _ r1 p1 a1⟩
/-! ### methods of what is built in -/
def isTy (T : String) (d : D) (h : MH) : Bool := match d with
  | .str _ => T == "str"
  | .int _ => T == "int"
  | .rol _ => T == "list"
  | .ref n => match h[n]? with
    | some (.lst _) => T == "list"
    | some (.dic _) => T == "dict"
    | _ => false
  | _ => false
theorem tyV_of {K L H} {h : MH} {T : String} {d v} (r : Rel K L H h) (q : Rep K L H d v) (e : isTy T d h = true) : tyV K T v H := by
  cases d with
  | str s => unfold Rep at q; subst q; exact beq_iff_eq.mp e
  | int s => unfold Rep at q; subst q; exact beq_iff_eq.mp e
  | rol ds =>
    unfold Rep at q
    obtain ⟨p, xs, rfl, s, w⟩ := q
    exact .inl ⟨beq_iff_eq.mp e, xs, s.sq⟩
  | ref n =>
    unfold isTy at e
    simp only at e
    split at e
    · rename_i ds z
      obtain ⟨p, xs, e1, e2, w⟩ := r.lst z
      rw [q.ref e1]
      exact .inl ⟨beq_iff_eq.mp e, xs, SqL.of e2⟩
    · rename_i ds z
      obtain ⟨p, xs, e1, e2, w⟩ := r.dic z
      rw [q.ref e1]
      exact .inr (.inr (.inl ⟨beq_iff_eq.mp e, .inl ⟨xs, e2⟩⟩))
    · cases e
  | _ => cases e
def MtdM (K : PySem.W.Frag) (r : V → List V → Hp → VK → Prop) (f : D → List D → MH → R D) : Prop := ∀ (L : TL) (H : Hp) (h : MH) (d : D) (x : V) (ds : List D) (vs : List V) (Q : VK) (E : XK), Rel K L H h → Rep K L H d x → RepL K L H ds vs → Ans K (Rep K) L H (f d ds h) Q E → r x vs H Q
def mMtd (T : String) (f : D → List D → MH → R D) (m : ME) (ms : MA) : ME := fun δ h => (m δ h).bnd fun d h1 => if isTy T d h1 = true then (ms δ h1).bnd fun ds h2 => f d ds h2 else .stuck
theorem pem_bm {o : Expr} {mo : ME} {name : Str} {apos cpos : Pos} {T id : String} {r : V → List V → Hp → VK → Prop} {f : D → List D → MH → R D} (pa : PlainAttrs T) (slot : Slot T name id) (hty : typeOf (.builtin id) = pure (.type "method_descriptor")) (hmt : MtR X id r) (hm : MtdM X.K r f) (ho : PEM X W o mo) (ha : PAM X W (e :: es) mas)
    (hbase : attributeBase o name X.env (eval o X.env) = eval o X.env := by rfl)
    (hfew : ((backTo cpos (starEach (e :: es) X.env)).all (fun x => !x.1) && (backToKw cpos (keywordEach [] X.env)).all (fun x => x.1.isSome)
      && decide ((e :: es).length + ([] : List Keyword).length + (if ([] : List Keyword).isEmpty then 0 else 1) < 30)) = true := by rfl)
    (hline : (apos.endLine == cpos.line) = true := by rfl) (hs : starEach (e :: es) X.env = (false, eval e X.env) :: starEach es X.env := by rfl) (hplain : (backTo cpos (starEach es X.env)).any (·.1) = false := by rfl) :
    PEM X W (.Call (.Attribute o name apos) (e :: es) [] cpos) (mMtd T f mo mas) :=
  PE.imp (pe_bm pa slot hty hmt ho ha hbase hfew hline hs hplain) fun σ H Q ⟨L, h, δ, r0, s, a⟩ => ⟨L, h, δ, r0, s, Ans.imp (Ans.bind (rp := Rep X.K) a) fun v H1 ⟨L1, h1, d, x1, r1, p1, a1⟩ => by
    by_cases z : isTy T d h1 = true
    · rw [if_pos z] at a1
      exact ⟨tyV_of r1 p1 z, L1, h1, δ, r1, s.mono x1, Ans.imp (Ans.bind (rp := RepL X.K) a1) fun vs H2 ⟨L2, h2, ds, x2, r2, p2, a2⟩ => hm L2 H2 h2 d v ds vs Q _ r2 (p1.mono x2) p2 a2⟩
    · rw [if_neg z] at a1; exact a1.elim⟩
theorem pem_bm0 {o : Expr} {mo : ME} {name : Str} {apos cpos : Pos} {T id : String} {r : V → List V → Hp → VK → Prop} {f : D → List D → MH → R D} (pa : PlainAttrs T) (slot : Slot T name id) (hty : typeOf (.builtin id) = pure (.type "method_descriptor")) (hmt : MtR X id r) (hm : MtdM X.K r f) (ho : PEM X W o mo)
    (hbase : attributeBase o name X.env (eval o X.env) = eval o X.env := by rfl) (hline : (apos.endLine == cpos.line) = true := by rfl) :
    PEM X W (.Call (.Attribute o name apos) [] [] cpos) (mMtd T f mo mNil) :=
  PE.imp (pe_bm0 pa slot hty hmt ho hbase hline) fun σ H Q ⟨L, h, δ, r0, s, a⟩ => ⟨L, h, δ, r0, s, Ans.imp (Ans.bind (rp := Rep X.K) a) fun v H1 ⟨L1, h1, d, x1, r1, p1, a1⟩ => by
    by_cases z : isTy T d h1 = true
    · rw [if_pos z] at a1
      exact ⟨tyV_of r1 p1 z, hm L1 H1 h1 d v [] [] Q _ r1 p1 .nil a1⟩
    · rw [if_neg z] at a1; exact a1.elim⟩
end

/-! ### defs -/
def spOf (K : PySem.W.Frag) (m : List D → MH → R D) : Sp := fun vs H Q E => ∃ L h ds, Rel K L H h ∧ RepL K L H ds vs ∧ Ans K (Rep K) L H (m ds h) Q E
def FnM (P : Program) (w : World) (K : PySem.W.Frag) (mg : Str → Option Value) (base : Heap) (k : Nat) (f : Addr) (fd : FuncData) (ps : List Str) (m : List D → MH → R D) : Prop := FnOk P w K mg base (L2N.CX P w) k f fd ps (spOf K m)
/-- where a def of the text stands -/
structure DefAt (K : PySem.W.Frag) (mg : Str → Option Value) (x : Str) (st : Stmt) (f : Addr) (fd : FuncData) (ps : List Str) : Prop where
  fn : Fun K x x st f fd
  mg' : mg x = some (.ref f)
  bi : Binds K fd ps []
def mStart (N : Nat) (ds : List D) : MS := ds.map some ++ List.replicate (N - ds.length) none
open Classical in
noncomputable def leaveX (h : MH) (c : Str) (fs : List (Str × D)) (h' : MH) : R D := if LeftOf h h' ∧ (fs.all fun p => p.2.lows h.length) = true then .exc c fs (h'.take h.length) else .stuck
noncomputable def mEnd (h : MH) : SR → R D
  | .ok (.ret d) h' => leave h d h'
  | .ok (.next _) h' => leave h .non h'
  | .ok _ _ => .stuck
  | .exc c fs _ h' => leaveX h c fs h'
  | .stuck => .stuck
/-- .. of a def that hands a new thing back -/
def mEndN : SR → R D
  | .ok (.ret d) h' => .ok d h'
  | .ok (.next _) h' => .ok .non h'
  | .ok _ _ => .stuck
  | .exc c fs _ h' => .exc c fs h'
  | .stuck => .stuck
noncomputable def mFn (n N : Nat) (ms : MSt) : List D → MH → R D := fun ds h => if ds.length = n then mEnd h (ms (mStart N ds) h) else .stuck
def mFnN (n N : Nat) (ms : MSt) : List D → MH → R D := fun ds h => if ds.length = n then mEndN (ms (mStart N ds) h) else .stuck
theorem repS_start {K L H} {N : List Str} {ds : List D} {vs : List V} (w : RepL K L H ds vs) : RepS K L H (mStart N.length ds) (L2.start N vs) := by
  have hl := w.length
  refine ⟨by unfold mStart L2.start; simp [hl], fun i d e => ?_⟩
  unfold mStart at e
  by_cases hi : i < ds.length
  · rw [List.getElem?_append_left (by simpa using hi), List.getElem?_map] at e
    rw [List.getElem?_eq_getElem hi] at e
    simp only [Option.map_some, Option.some.injEq] at e
    obtain ⟨v, e1, q⟩ := w.get (List.getElem?_eq_getElem hi)
    refine ⟨v, ?_, by rw [← e]; exact q⟩
    unfold L2.start
    rw [List.getElem?_append_left (by simpa [← hl] using hi), List.getElem?_map, e1]; rfl
  · rw [List.getElem?_append_right (by simpa using hi)] at e
    have := List.getElem?_eq_some_iff.mp e
    obtain ⟨h1, h2⟩ := this
    rw [List.getElem_replicate] at h2
    cases h2
section
variable {P : Program} {w : World} {K : PySem.W.Frag} {mg : Str → Option Value} {base : Heap}
theorem FnM.mono {j k : Nat} {f fd ps m} (F : FnM P w K mg base j f fd ps m) (h : j ≤ k) : FnM P w K mg base k f fd ps m := FnOk.mono F h
theorem fnM_stuck {k : Nat} {f fd ps} : FnM P w K mg base k f fd ps (fun _ _ => .stuck) :=
  ⟨fun vs H Q E ⟨L, h, ds, r, q, a⟩ => a.elim, fun A outer s H args us vs Q E hr e0 hb hv ⟨L, h, ds, r, q, a⟩ => a.elim⟩
theorem okN {x qual : Str} {st : Stmt} {f : Addr} {fd : FuncData} {N ps : List Str} {k : Nat} {sp : Sp} (F : Fun K x qual st f fd) (S : FnScope N ps (defScope st)) (len : ∀ vs H Q E, sp vs H Q E → vs.length = ps.length)
    (hbody : ∀ (cdv : Value) (A : Around) (outer : List Env) (s : Shared) (H : Hp) (vs : List V) (Q : VK) (E : XK), Room k (A.deeper (envOfC qual (defScope st) s.heap.objs.size f cdv)) → sp vs H Q E →
      ∃ t, PSs (cxOf (L2N.CX P w) P w K mg base N qual (defScope st) f cdv A outer s H E) (defBody st) t ∧ t { nx := fun _ H' => Q .non H', rt := Q } (start N vs) H) : FnOk P w K mg base (L2N.CX P w) (k + 1) f fd ps sp := by
  obtain ⟨oc, od, kV, doc, pm, an, cdv, ct, osl, rfl, lk, hcd⟩ := F.ex
  exact fn_of lk hcd S len fun A outer s H vs Q E hr hsp => hbody cdv A outer s H vs Q E hr hsp
theorem fnM_body {x qn : Str} {st : Stmt} {f : Addr} {fd : FuncData} {N ps : List Str} {k : Nat} {m : MSt} {g : List D → MH → R D} (F : Fun K x qn st f fd) (S : FnScope N ps (defScope st))
    (hg : ∀ ds h, g ds h = .stuck ∨ (ds.length = ps.length ∧ (g ds h = mEnd h (m (mStart N.length ds) h) ∨ g ds h = mEndN (m (mStart N.length ds) h))))
    (body : ∀ (cdv : Value) (A : Around) (outer : List Env) (s : Shared) (H : Hp) (E : XK), Room k (A.deeper (envOfC qn (defScope st) s.heap.objs.size f cdv)) →
      L2N.Takes (cxOf (L2N.CX P w) P w K mg base N qn (defScope st) f cdv A outer s H E) (fun c d _ H => E c d H) →
      PassesOwn (model P w) (A.deeper (envOfC qn (defScope st) s.heap.objs.size f cdv)) (envOfC qn (defScope st) s.heap.objs.size f cdv) (cxOf (L2N.CX P w) P w K mg base N qn (defScope st) f cdv A outer s H E).xe →
      PSsM (cxOf (L2N.CX P w) P w K mg base N qn (defScope st) f cdv A outer s H E) (fun c d _ H => E c d H) (defBody st) m) :
    FnM P w K mg base (k + 1) f fd ps g := by
  refine okN F S (fun vs H Q E ⟨L, h, ds, r, q, a⟩ => ?_) (fun cdv A outer s H vs Q E hr ⟨L, h, ds, r, q, a⟩ => ?_)
  · rcases hg ds h with z | ⟨z, _⟩
    · rw [z] at a; exact a.elim
    · rw [← q.length]; exact z
  · refine ⟨_, body cdv A outer s H E hr (L2N.takes_of rfl rfl rfl rfl) (passes_of rfl), ?_⟩
    refine ⟨L, h, mStart N.length ds, r, repS_start q, ?_⟩
    have hx : ∀ (c : Str) (fs : List (Str × D)) (h' : MH) (δ : MS), Ans K (Rep K) L H (.exc c fs h') Q E → AnsS K { nx := fun _ H' => Q .non H', rt := Q } (fun c d _ H => E c d H) L H (.exc c fs δ h') := fun c fs h' δ a L' H' σ' dx xs e r _ q1 q2 => a L' H' dx xs e r q1 q2
    rcases hg ds h with z | ⟨_, z | z⟩
    · rw [z] at a; exact a.elim
    · rw [z] at a
      generalize m (mStart N.length ds) h = res at a ⊢
      cases res with
      | stuck => exact a.elim
      | exc c fs δ h' =>
        unfold mEnd leaveX at a
        simp only at a
        split at a
        case isFalse => exact a.elim
        rename_i zz
        intro L' H' σ' dx xs e r' _ q1 q2
        obtain ⟨x1, r1⟩ := r.leave r' e zz.1
        exact a _ H' dx xs x1 r1 q1 (q2.take zz.2)
      | ok fl h' =>
        cases fl with
        | next δ => exact fun L' H' σ' e r' s' => ans_leave r e r' rep_none a
        | ret d => exact fun L' H' v e r' s' => ans_leave r e r' s' a
        | brk _ => exact a.elim
        | cont _ => exact a.elim
    · rw [z] at a
      generalize m (mStart N.length ds) h = res at a ⊢
      cases res with
      | stuck => exact a.elim
      | exc c fs δ h' => exact hx c fs h' δ a
      | ok fl h' =>
        cases fl with
        | next δ => exact fun L' H' σ' e r' s' => a L' H' .non e r' rep_none
        | ret d => exact fun L' H' v e r' s' => a L' H' v e r' s'
        | brk _ => exact a.elim
        | cont _ => exact a.elim
theorem hg_fn {n N : Nat} {m : MSt} : ∀ ds h, mFn n N m ds h = .stuck ∨ (ds.length = n ∧ (mFn n N m ds h = mEnd h (m (mStart N ds) h) ∨ mFn n N m ds h = mEndN (m (mStart N ds) h))) := fun ds h => by
  by_cases z : ds.length = n
  · exact .inr ⟨z, .inl (if_pos z)⟩
  · exact .inl (if_neg z)
theorem hg_fnN {n N : Nat} {m : MSt} : ∀ ds h, mFnN n N m ds h = .stuck ∨ (ds.length = n ∧ (mFnN n N m ds h = mEnd h (m (mStart N ds) h) ∨ mFnN n N m ds h = mEndN (m (mStart N ds) h))) := fun ds h => by
  by_cases z : ds.length = n
  · exact .inr ⟨z, .inr (if_pos z)⟩
  · exact .inl (if_neg z)
end
section
variable {X : Cx} {W : WX} {pos : Pos} {e : Expr} {es : List Expr} {mas : MA}
theorem pem_call {x : Str} {st : Stmt} {f : Addr} {fd : FuncData} {ps : List Str} {k : Nat} {m : List D → MH → R D} {p : Pos} (F : FnM X.prog X.w X.K X.mg X.base k f fd ps m) (DA : DefAt X.K X.mg x st f fd ps) (hr : Room k X.A) (tk : L2N.Takes X W) (hg : Gl X x) (ha : PAM X W (e :: es) mas)
    (hdb : (x == ("__debug__" : Str)) = false := by decide) (he : starEach (e :: es) X.env = (false, eval e X.env) :: starEach es X.env := by rfl) (hpl : (backTo pos (starEach es X.env)).any (·.1) = false := by rfl) :
    PEM X W (.Call (.Name x p) (e :: es) [] pos) (mCall m mas) :=
  PE.imp (pe_callS (E := WE W) F hr hg DA.mg' DA.fn.kp DA.bi (fun σ => L2N.passAt tk σ) ha hdb he hpl) fun σ H Q ⟨L, h, δ, r0, s, a⟩ => ⟨L, h, δ, r0, s, Ans.imp (Ans.bind (rp := RepL X.K) a) fun vs H1 ⟨L1, h1, ds, x1, r1, p1, a1⟩ => ⟨L1, h1, ds, r1, p1, a1⟩⟩
end
/-! ### the words of a term -/
section
variable {X : Cx} {W : WX} {pos : Pos} {e : Expr} {me : ME}
theorem mv (i : Nat) {x : Str} (hN : X.N[i]? = some x := by rfl) (hv : Vis X.env.scope x := by first | exact Or.inl rfl | exact Or.inr (Or.inl rfl) | exact Or.inr (Or.inr rfl)) (hd : (x == ("__debug__" : Str)) = false := by decide)
    (hcd : (x == ("__classdict__" : Str)) = false := by decide) : PEM X W (.Name x pos) (mVar i) := pem_var (pe_var hN hv hd hcd)
theorem gn (i : Nat) {x : Str} (hN : X.N.Nodup) (hi : X.N[i]? = some x := by rfl) (hx : Loc X.env.scope x := by first | exact Or.inl rfl | exact Or.inr rfl) (hf : X.fn x = true ∨ X.env.scope.names.lookup x = some .local := by first | exact .inl rfl | exact .inr rfl) : PGM X (.Name x pos) [i] (mgName i) := pgm_name (pg_name hN hi hx hf)
theorem ss (i : Nat) {x : Str} {pos' : Pos} (hN : X.N.Nodup) (he : PEM X W e me) (hi : X.N[i]? = some x := by rfl) (hx : Loc X.env.scope x := by first | exact Or.inl rfl | exact Or.inr rfl) (hs : swapsWith e (some (.Name x pos')) pos.line X.env = pure false := by rfl)
    (hf : X.fn x = true ∨ X.env.scope.names.lookup x = some .local := by first | exact .inl rfl | exact .inr rfl) : PSM X W (.Assign [.Name x pos'] e pos) (mSet i me) := psm_set (ps_set hN hi hx he hs hf)
/-- a constant of the module -/
def CAt (K : PySem.W.Frag) (mg : Str → Option Value) (x : Str) (d : D) : Prop := ∃ u v, mg x = some u ∧ RelV v u ∧ ∀ L H, Rep K L H d v
theorem mk {x : Str} {d : D} (c : CAt X.K X.mg x d) (hg : Gl X x := by rfl) (hd : (x == ("__debug__" : Str)) = false := by decide) : PEM X W (.Name x pos) (mC d) := by
  obtain ⟨u, v, h1, h2, h3⟩ := c
  exact pem_c (pe_glob hg h1 h2 hd) h3
theorem mty (n : String) {x : Str} (hm : X.mg x = none) (hv : bootBuiltins x = some (.type n)) (hg : Gl X x := by rfl) (hn : x ≠ "__name__" := by decide) (hd : (x == ("__debug__" : Str)) = false := by decide) : PEM X W (.Name x pos) (mC (.ty n)) :=
  pem_c (pe_bltn hg hm hv (v := .ty n) rfl hn hd) fun _ _ => rep_ty
theorem takes0N {X : Cx} : L2N.Takes X (fun _ _ _ _ => False) := fun _ _ x => by
  obtain ⟨_, _, _, _, _, _, _, _, _, _, _, _, _, _, _, _, z⟩ := x
  exact z.elim
theorem takesW0 {X : Cx} : L2N.Takes X W0 := takes0N
end
section
theorem no_exc {P : Program} {w : World} {l : List Env} {H : Hp} {s s' : Shared} {e : Value} (q : L2N.CX P w l H s (fun _ _ _ => False) e s') : False := by
  obtain ⟨_, _, _, _, _, _, _, _, _, _, _, _, z⟩ := q
  exact z.elim
theorem repL_ints {K L H} : ∀ ns : List Int, RepL K L H (ns.map D.int) (ns.map V.int)
  | [] => .nil
  | n :: ns => .cons rep_int (repL_ints ns)
theorem rel_nil {K H} : Rel K [] H [] := ⟨rfl, fun n o e => by simp at e, fun n m a e => by simp at e⟩
theorem law_end {K : PySem.W.Frag} {m : List D → MH → R D} {H : Hp} {a : Addr} {ns : List Int} {E : XK} (hS : SqL K H a (ns.map V.int)) (h : ∃ h', m [.rol (ns.map D.int)] [] = .ok (.bl true) h') : spOf K m [.ref a] H (fun v _ => v = .bl true) E := by
  obtain ⟨h', e⟩ := h
  refine ⟨[], [], [.rol (ns.map D.int)], rel_nil, .cons ?_ .nil, ?_⟩
  · unfold Rep
    refine ⟨a, ns.map V.int, rfl, ?_, repL_ints ns⟩
    rcases hS with hS | hS
    · exact .inl ⟨hS, fun n z => by simp at z⟩
    · exact .inr hS
  · rw [e]
    intro L' H' v _ _ q
    unfold Rep at q
    exact q
end
end MM

namespace MM
open PySem PySem.Spec PyProof.Rows L2
section
variable {K : PySem.W.Frag}
theorem rep_int_inv {L H i v} (q : Rep K L H (.int i) v) : v = .int i := by unfold Rep at q; exact q
theorem rep_str_inv {L H i v} (q : Rep K L H (.str i) v) : v = .str i := by unfold Rep at q; exact q
theorem rep_non_inv {L H v} (q : Rep K L H .non v) : v = .non := by unfold Rep at q; exact q
theorem rep_ty_inv {L H i v} (q : Rep K L H (.ty i) v) : v = .ty i := by unfold Rep at q; exact q
theorem rep_obj_inv {L H i v} (q : Rep K L H (.obj i) v) : v = .ref i := by unfold Rep at q; exact q
/-! ### + - * // % -/
def rAdd3 (K : PySem.W.Frag) : R2 := fun x y H Q => (rI0 (fun i j => .int (i + j)) x y H Q ∨ (∃ i j, x = .str i ∧ y = .str j ∧ i.length + j.length ≤ sizeLine ∧ Q (.str (i ++ j)) H)) ∨ rCatA K x y H Q
theorem op_add3 {X : Cx} : OpR X (binaryOp .Add) (rAdd3 X.K) := (op_add.or op_add_str).or op_catA
def opAdd (x y : D) (h : MH) : R D := match x, y with
  | .int a, .int b => .ok (.int (a + b)) h
  | .str a, .str b => if a.length + b.length ≤ 16777216 then .ok (.str (a ++ b)) h else .stuck
  | .tup a, .tup b => if a.length + b.length ≤ 16777216 then .ok (.tup (a ++ b)) h else .stuck
  | _, _ => .stuck
theorem RepL.nil_iff {L H ds vs} (w : RepL K L H ds vs) : vs = [] ↔ ds = [] := by
  have := w.length
  cases ds <;> cases vs <;> simp_all
theorem opAdd_ok : OpM K (rAdd3 K) opAdd := by
  intro L H h dx dy x y Q E r px py a
  unfold opAdd at a
  split at a
  · rename_i i j
    exact .inl (.inl ⟨i, j, rep_int_inv px, rep_int_inv py, ans_okE r rep_int a⟩)
  · rename_i i j
    split at a
    · rename_i z
      exact .inl (.inr ⟨i, j, rep_str_inv px, rep_str_inv py, szl z, ans_okE r rep_str a⟩)
    · exact a.elim
  · rename_i ds es
    split at a
    · rename_i z
      obtain ⟨p, xs, rfl, s, w⟩ := tup_of px
      obtain ⟨q, ys, rfl, s', w'⟩ := tup_of py
      refine .inr ⟨p, q, xs, ys, rfl, rfl, s, s', by rw [← w.length, ← w'.length]; exact szl z, fun e => ?_, fun e e' => ?_, fun e e' p hp => ?_⟩
      · have : ds = [] := w.nil_iff.mp e
        subst this
        exact ans_okE r py a
      · have : es = [] := w'.nil_iff.mp e'
        subst this
        rw [List.append_nil] at a
        exact ans_okE r px a
      · exact ans_of (rep_tup r hp (w.append w')) a
    · exact a.elim
  · exact a.elim
def opSub (x y : D) (h : MH) : R D := match x, y with
  | .int a, .int b => .ok (.int (a - b)) h
  | _, _ => .stuck
theorem opSub_ok : OpM K (rI0 fun i j => .int (i - j)) opSub := by
  intro L H h dx dy x y Q E r px py a
  unfold opSub at a
  split at a
  · rename_i i j
    exact ⟨i, j, rep_int_inv px, rep_int_inv py, ans_okE r rep_int a⟩
  · exact a.elim
/-- a text times an int -/
def strRep (n : Int) (x : Str) : Str := if n < 1 then Str.empty else if (n == 1 || x.length == 0) = true then x else ⟨(List.replicate n.toNat x.cps).foldl (· ++ ·) #[]⟩
def rStrRep : R2 := fun x y H Q => ∃ z n, x = .str z ∧ y = .int n ∧ (-(2 ^ 63 : Int) ≤ n ∧ n < 2 ^ 63 ∧ (z.length : Int) * n ≤ 16777216) ∧ Q (.str (strRep n z)) H
theorem foldl_size (c : Array Nat) : ∀ (k : Nat) (acc : Array Nat), ((List.replicate k c).foldl (· ++ ·) acc).size = acc.size + k * c.size
  | 0, acc => by simp
  | k + 1, acc => by
    rw [List.replicate_succ, List.foldl_cons, foldl_size c k, Array.size_append, Nat.succ_mul]
    omega
theorem op_strRep {X : Cx} : OpR X (binaryOp .Mult) rStrRep := by
  intro pins s σ H x y v u Q I rx ry h
  obtain ⟨z, n, rfl, rfl, ⟨h0, h2, h1⟩, q⟩ := h
  obtain ⟨t, rfl⟩ := rx
  obtain ⟨t', rfl⟩ := ry
  refine PySem.P.mul_str (by rw [decide_eq_false (by omega), decide_eq_false (by omega)]; rfl) (fun a b => ?_) (fun a b => ?_) ?_
  · rw [Bool.or_eq_false_iff] at b
    have hn : 1 ≤ n := by omega
    have : (z.length : Int) ≤ (2 ^ 63 - 1) / n := by
      rw [Int.le_ediv_iff_mul_le (by omega)]
      omega
    omega
  · have hn : 1 ≤ n := by omega
    have : z.length * n.toNat ≤ 16777216 := by
      have h3 : (n.toNat : Int) = n := Int.toNat_of_nonneg (by omega)
      have : ((z.length * n.toNat : Nat) : Int) ≤ 16777216 := by rw [Int.natCast_mul, h3]; exact h1
      omega
    unfold Builtin.Str.tooLong
    rw [sizeLine_eq]
    exact decide_eq_false (by omega)
  · unfold strRep at q
    by_cases hn : n < 1
    · rw [if_pos hn] at q ⊢
      exact ⟨Nat.zero_le _, .str _, H, I.tok _, ⟨_, rfl⟩, q⟩
    · rw [if_neg hn] at q ⊢
      split at q
      · rename_i z1
        rw [if_pos z1]
        exact ⟨.str _, H, I, ⟨_, rfl⟩, q⟩
      · rename_i z1
        rw [if_neg z1]
        refine ⟨?_, .str _, H, I.tok _, ⟨_, rfl⟩, q⟩
        show ((List.replicate n.toNat z.cps).foldl (· ++ ·) #[]).size ≤ _
        rw [foldl_size, sizeLine_eq]
        have h3 : (n.toNat : Int) = n := Int.toNat_of_nonneg (by omega)
        have : ((z.length * n.toNat : Nat) : Int) ≤ 16777216 := by rw [Int.natCast_mul, h3]; exact h1
        show 0 + n.toNat * z.length ≤ _
        rw [Nat.mul_comm]
        omega
def rMul2 : R2 := fun x y H Q => rI CMulW (fun i j => .int (i * j)) x y H Q ∨ rStrRep x y H Q
theorem op_mul2 {X : Cx} : OpR X (binaryOp .Mult) rMul2 := op_mulW.or op_strRep
def opMul (x y : D) (h : MH) : R D := match x, y with
  | .int a, .int b => if a.natAbs.log2 + b.natAbs.log2 < 1000000 then .ok (.int (a * b)) h else .stuck
  | .str a, .int b => if -(2 ^ 63 : Int) ≤ b ∧ b < 2 ^ 63 ∧ (a.length : Int) * b ≤ 16777216 then .ok (.str (strRep b a)) h else .stuck
  | _, _ => .stuck
theorem opMul_ok : OpM K rMul2 opMul := by
  intro L H h dx dy x y Q E r px py a
  unfold opMul at a
  split at a
  · rename_i i j
    split at a
    · rename_i z
      exact .inl ⟨i, j, rep_int_inv px, rep_int_inv py, z, ans_okE r rep_int a⟩
    · exact a.elim
  · rename_i i j
    split at a
    · rename_i z
      exact .inr ⟨i, j, rep_str_inv px, rep_int_inv py, z, ans_okE r rep_str a⟩
    · exact a.elim
  · exact a.elim
def opDiv (x y : D) (h : MH) : R D := match x, y with
  | .int a, .int b => if 0 < b ∧ b < 2 ^ 2000 then .ok (.int (a / b)) h else .stuck
  | _, _ => .stuck
theorem opDiv_ok : OpM K (rI CDivW fun i j => .int (i / j)) opDiv := by
  intro L H h dx dy x y Q E r px py a
  unfold opDiv at a
  split at a
  · rename_i i j
    split at a
    · rename_i z
      exact ⟨i, j, rep_int_inv px, rep_int_inv py, wide_div (b := 2000) z.1 (by
        have := z.2
        have h2 : (j.natAbs : Int) < 2 ^ 2000 := by rw [Int.natAbs_of_nonneg (by omega)]; exact this
        exact_mod_cast h2) (by decide) (by decide), ans_okE r rep_int a⟩
    · exact a.elim
  · exact a.elim
def opMod (x y : D) (h : MH) : R D := match x, y with
  | .int a, .int b => if 0 < b then .ok (.int (a % b)) h else .stuck
  | _, _ => .stuck
theorem opMod_ok : OpM K (rI (fun _ j => 0 < j) fun i j => .int (i % j)) opMod := by
  intro L H h dx dy x y Q E r px py a
  unfold opMod at a
  split at a
  · rename_i i j
    split at a
    · rename_i z
      exact ⟨i, j, rep_int_inv px, rep_int_inv py, z, ans_okE r rep_int a⟩
    · exact a.elim
  · exact a.elim
def opNeg (x : D) (h : MH) : R D := match x with
  | .int a => .ok (.int (-a)) h
  | _ => .stuck
theorem opNeg_ok : UnM K (rU fun i => .int (-i)) opNeg := by
  intro L H h dx x Q E r px a
  unfold opNeg at a
  split at a
  · rename_i i
    exact ⟨i, rep_int_inv px, ans_okE r rep_int a⟩
  · exact a.elim

/-! ### comparisons -/
def opCmp (p : Int → Int → Bool) (q : Str → Str → Bool) (x y : D) (h : MH) : R D := match x, y with
  | .int a, .int b => .ok (.bl (p a b)) h
  | .str a, .str b => .ok (.bl (q a b)) h
  | _, _ => .stuck
def rCmp2 (p : Int → Int → Bool) (q : Str → Str → Bool) : R2 := fun x y H Q => rI0 (fun i j => .bl (p i j)) x y H Q ∨ ∃ i j, x = .str i ∧ y = .str j ∧ Q (.bl (q i j)) H
theorem opCmp_ok {p q} : OpM K (rCmp2 p q) (opCmp p q) := by
  intro L H h dx dy x y Q E r px py a
  unfold opCmp at a
  split at a
  · rename_i i j
    exact .inl ⟨i, j, rep_int_inv px, rep_int_inv py, ans_okE r rep_bl a⟩
  · rename_i i j
    exact .inr ⟨i, j, rep_str_inv px, rep_str_inv py, ans_okE r rep_bl a⟩
  · exact a.elim
abbrev opLt := opCmp (fun i j => decide (i < j)) (fun i j => decide (i.cps.toList < j.cps.toList))
theorem op_lt2 {X : Cx} : OpR X (compareOp .Lt) (rCmp2 (fun i j => decide (i < j)) (fun i j => decide (i.cps.toList < j.cps.toList))) := op_lt.or op_lt_str
abbrev opLe := opCmp (fun i j => decide (i ≤ j)) (fun i j => !decide (j.cps.toList < i.cps.toList))
theorem op_le2 {X : Cx} : OpR X (compareOp .LtE) (rCmp2 (fun i j => decide (i ≤ j)) (fun i j => !decide (j.cps.toList < i.cps.toList))) := op_le.or op_le_str
abbrev opGt := opCmp (fun i j => decide (j < i)) (fun i j => decide (j.cps.toList < i.cps.toList))
theorem op_gt2 {X : Cx} : OpR X (compareOp .Gt) (rCmp2 (fun i j => decide (j < i)) (fun i j => decide (j.cps.toList < i.cps.toList))) := op_gt.or op_gt_str
abbrev opGe := opCmp (fun i j => decide (j ≤ i)) (fun i j => !decide (i.cps.toList < j.cps.toList))
theorem op_ge2 {X : Cx} : OpR X (compareOp .GtE) (rCmp2 (fun i j => decide (j ≤ i)) (fun i j => !decide (i.cps.toList < j.cps.toList))) := op_ge.or op_ge_str
/-- += of ints, of texts -/
def opAddI (x y : D) (h : MH) : R D := match x, y with
  | .int a, .int b => .ok (.int (a + b)) h
  | .str a, .str b => if a.length + b.length ≤ 16777216 then .ok (.str (a ++ b)) h else .stuck
  | _, _ => .stuck
def rAddI : R2 := fun x y H Q => rI0 (fun i j => .int (i + j)) x y H Q ∨ (∃ i j, x = .str i ∧ y = .str j ∧ i.length + j.length ≤ sizeLine ∧ Q (.str (i ++ j)) H)
theorem iop_addI {X : Cx} : OpR X (inplaceOp .Add) rAddI := iop_add.or iop_add_str
theorem opAddI_ok : OpM K rAddI opAddI := by
  intro L H h dx dy x y Q E r px py a
  unfold opAddI at a
  split at a
  · rename_i i j
    exact .inl ⟨i, j, rep_int_inv px, rep_int_inv py, ans_okE r rep_int a⟩
  · rename_i i j
    split at a
    · rename_i z
      exact .inr ⟨i, j, rep_str_inv px, rep_str_inv py, szl z, ans_okE r rep_str a⟩
    · exact a.elim
  · exact a.elim
/-- == by values -/
def eqS : D → D → Option Bool
  | .non, .non => some true
  | .int a, .int b => some (decide (a = b))
  | .bl a, .bl b => some (decide (a = b))
  | .str a, .str b => some (decide (a = b))
  | .non, .int _ => some false
  | .int _, .non => some false
  | .non, .bl _ => some false
  | .bl _, .non => some false
  | .non, .str _ => some false
  | .str _, .non => some false
  | .int _, .str _ => some false
  | .str _, .int _ => some false
  | .bl _, .str _ => some false
  | .str _, .bl _ => some false
  | _, _ => none
theorem eqS_ok {L H dx dy x y b} (px : Rep K L H dx x) (py : Rep K L H dy y) (e : eqS dx dy = some b) : scal x y = true ∧ decide (x = y) = b := by
  cases dx <;> cases dy <;> first
    | (cases e; done)
    | (unfold Rep at px py; subst px; subst py; cases e; refine ⟨rfl, ?_⟩; simp)
mutual
def toPy : D → Option PyData
  | .non => some .none
  | .bl b => some (.bool b)
  | .int i => some (.int i)
  | .str s => some (.str s)
  | .tup ds => (toPyL ds).map .tuple
  | .rol ds => (toPyL ds).map .list
  | _ => none
def toPyL : List D → Option (List PyData)
  | [] => some []
  | d :: ds => (toPy d).bind fun x => (toPyL ds).map fun xs => x :: xs
end
mutual
theorem toPy_dp {L H} : ∀ {d : D} {v : V} {p : PyData}, Rep K L H d v → toPy d = some p → Dp K H v p
  | .non, _, _, q, e => by rw [rep_non_inv q]; cases e; exact .non
  | .bl _, _, _, q, e => by rw [rep_bl_inv q]; cases e; exact .bl _
  | .int _, _, _, q, e => by rw [rep_int_inv q]; cases e; exact .int _
  | .str _, _, _, q, e => by rw [rep_str_inv q]; cases e; exact .str _
  | .tup ds, _, _, q, e => by
    obtain ⟨p, xs, rfl, s, w⟩ := tup_of q
    unfold toPy at e
    obtain ⟨ps, e1, rfl⟩ := Option.map_eq_some_iff.mp e
    exact .tup s (toPyL_dp w e1)
  | .rol ds, _, _, q, e => by
    unfold Rep at q
    obtain ⟨p, xs, rfl, s, w⟩ := q
    unfold toPy at e
    obtain ⟨ps, e1, rfl⟩ := Option.map_eq_some_iff.mp e
    exact .lst s.sq (toPyL_dp w e1)
  | .ref _, _, _, _, e => by unfold toPy at e; cases e
  | .obj _, _, _, _, e => by unfold toPy at e; cases e
  | .ty _, _, _, _, e => by unfold toPy at e; cases e
  | .kon _, _, _, _, e => by unfold toPy at e; cases e
  | .rdc _ _, _, _, _, e => by unfold toPy at e; cases e
  | .xo _ _ _ _, _, _, _, e => by unfold toPy at e; cases e
theorem toPyL_dp {L H} : ∀ {ds : List D} {vs : List V} {ps : List PyData}, RepL K L H ds vs → toPyL ds = some ps → DpAll K H vs ps
  | [], _, _, w, e => by rw [w.nil_inv]; unfold toPyL at e; cases e; exact .nil
  | d :: ds, _, _, w, e => by
    obtain ⟨v, vs, rfl, q, w⟩ := w.cons_inv
    unfold toPyL at e
    obtain ⟨x, e1, e2⟩ := Option.bind_eq_some_iff.mp e
    obtain ⟨xs, e3, rfl⟩ := Option.map_eq_some_iff.mp e2
    exact .cons (toPy_dp q e1) (toPyL_dp w e3)
end
/-- the same, a list that changes too -/
def toPyH (d : D) (h : MH) : Option PyData := match d with
  | .ref n => (lst? h n).bind fun ds => (toPyL ds).map .list
  | d => toPy d
theorem toPyH_dp {L H} {h : MH} {d v p} (r : Rel K L H h) (q : Rep K L H d v) (e : toPyH d h = some p) : Dp K H v p := by
  cases d with
  | ref n =>
    obtain ⟨ds, e1, e2⟩ := Option.bind_eq_some_iff.mp e
    obtain ⟨ps, e3, rfl⟩ := Option.map_eq_some_iff.mp e2
    obtain ⟨a, xs, z1, z2, w⟩ := r.lst (lst?_at e1)
    rw [q.ref z1]
    exact .lst (SqL.of z2) (toPyL_dp w e3)
  | _ => exact toPy_dp q e
def eqG (x y : D) (h : MH) : Option Bool := match eqS x y with
  | some b => some b
  | none => (toPyH x h).bind fun p => (toPyH y h).bind fun q => if SeqAt.shaped p && SeqAt.shaped q then some (PyData.eqv p q) else none
def opEq (x y : D) (h : MH) : R D := match eqG x y h with
  | some b => .ok (.bl b) h
  | none => .stuck
def opNe (x y : D) (h : MH) : R D := match eqG x y h with
  | some b => .ok (.bl (!b)) h
  | none => .stuck
def rEq2 (K : PySem.W.Frag) : R2 := fun x y H Q => rEq x y H Q ∨ rEqD K x y H Q
def rNe2 (K : PySem.W.Frag) : R2 := fun x y H Q => rNe x y H Q ∨ rNeD K x y H Q
theorem op_eq2 {X : Cx} (hu : X.A.units + 64 < cLine) : OpR X (compareOp .Eq) (rEq2 X.K) := op_eq.or (op_eqD hu)
theorem op_ne2 {X : Cx} (hu : X.A.units + 64 < cLine) : OpR X (compareOp .NotEq) (rNe2 X.K) := op_ne.or (op_neD hu)
theorem eqG_ok {L H} {h : MH} {dx dy x y b} (r : Rel K L H h) (px : Rep K L H dx x) (py : Rep K L H dy y) (e : eqG dx dy h = some b) :
    (scal x y = true ∧ decide (x = y) = b) ∨ ∃ d e', Dp K H x d ∧ Dp K H y e' ∧ SeqAt.shaped d = true ∧ SeqAt.shaped e' = true ∧ PyData.eqv d e' = b := by
  unfold eqG at e
  split at e
  · rename_i c z
    cases e
    exact .inl (eqS_ok px py z)
  · obtain ⟨p, e1, e2⟩ := Option.bind_eq_some_iff.mp e
    obtain ⟨q, e3, e4⟩ := Option.bind_eq_some_iff.mp e2
    split at e4
    · rename_i z
      rw [Bool.and_eq_true] at z
      exact .inr ⟨p, q, toPyH_dp r px e1, toPyH_dp r py e3, z.1, z.2, Option.some.inj e4⟩
    · cases e4
theorem opEq_ok : OpM K (rEq2 K) opEq := by
  intro L H h dx dy x y Q E r px py a
  unfold opEq at a
  split at a
  · rename_i b z
    have q := ans_okE (K := K) (v := .bl b) r rep_bl a
    rcases eqG_ok r px py z with ⟨h1, h2⟩ | ⟨d, e, h1, h2, h3, h4, h5⟩
    · exact .inl ⟨h1, by rw [h2]; exact q⟩
    · exact .inr ⟨d, e, h1, h2, h3, h4, by rw [h5]; exact q⟩
  · exact a.elim
theorem opNe_ok : OpM K (rNe2 K) opNe := by
  intro L H h dx dy x y Q E r px py a
  unfold opNe at a
  split at a
  · rename_i b z
    have q := ans_okE (K := K) (v := .bl (!b)) r rep_bl a
    rcases eqG_ok r px py z with ⟨h1, h2⟩ | ⟨d, e, h1, h2, h3, h4, h5⟩
    · exact .inl ⟨h1, by rw [h2]; exact q⟩
    · exact .inr ⟨d, e, h1, h2, h3, h4, by rw [h5]; exact q⟩
  · exact a.elim
/-- is None -/
def isNon : D → Bool
  | .non => true
  | _ => false
def opIsN (x y : D) (h : MH) : R D := match y with
  | .non => .ok (.bl (isNon x)) h
  | _ => .stuck
def opNotN (x y : D) (h : MH) : R D := match y with
  | .non => .ok (.bl (!isNon x)) h
  | _ => .stuck
theorem isN_ok {L H d v} (q : Rep K L H d v) : decide (v = .non) = isNon d := by
  cases d <;> unfold Rep at q <;> first
    | (subst q; simp [isNon]; done)
    | (obtain ⟨a, xs, rfl, _⟩ := q; simp [isNon]; done)
    | (obtain ⟨a, rfl, _⟩ := q; simp [isNon]; done)
    | (rw [q.1]; simp [isNon]; done)
theorem opIsN_ok : OpM K (fun x y H Q => y = .non ∧ Q (.bl (decide (x = .non))) H) opIsN := by
  intro L H h dx dy x y Q E r px py a
  unfold opIsN at a
  split at a
  · exact ⟨rep_non_inv py, by rw [isN_ok px]; exact ans_okE r rep_bl a⟩
  · exact a.elim
theorem opNotN_ok : OpM K (fun x y H Q => y = .non ∧ Q (.bl (!decide (x = .non))) H) opNotN := by
  intro L H h dx dy x y Q E r px py a
  unfold opNotN at a
  split at a
  · exact ⟨rep_non_inv py, by rw [isN_ok px]; exact ans_okE r rep_bl a⟩
  · exact a.elim
/-- in -/
def flatD : D → Option V
  | .non => some .non
  | .bl b => some (.bl b)
  | .int i => some (.int i)
  | .str s => some (.str s)
  | _ => none
theorem flatD_ok {L H d v w} (q : Rep K L H d v) (e : flatD d = some w) : v = w ∧ flatV w = true := by
  cases d <;> first
    | (cases e; done)
    | (unfold Rep at q; cases e; exact ⟨q, rfl⟩)
def flatL : List D → Option (List V)
  | [] => some []
  | d :: ds => (flatD d).bind fun x => (flatL ds).map fun xs => x :: xs
theorem flatL_ok {L H} : ∀ {ds : List D} {vs ws}, RepL K L H ds vs → flatL ds = some ws → vs = ws ∧ ws.all flatV = true
  | [], _, _, w, e => by cases e; exact ⟨w.nil_inv, rfl⟩
  | d :: ds, _, _, w, e => by
    obtain ⟨v, vs, rfl, q, w⟩ := w.cons_inv
    unfold flatL at e
    obtain ⟨x, e1, e2⟩ := Option.bind_eq_some_iff.mp e
    obtain ⟨xs, e3, rfl⟩ := Option.map_eq_some_iff.mp e2
    obtain ⟨h1, h2⟩ := flatD_ok q e1
    obtain ⟨h3, h4⟩ := flatL_ok w e3
    refine ⟨by rw [h1, h3], ?_⟩
    rw [List.all_cons, h2, h4]; rfl
def subStr (a b : Str) : Bool := !(Builtin.Str.occurrences b a 0 b.length 1).isEmpty
def inG (x y : D) (h : MH) : Option Bool := match y with
  | .str b => (match x with | .str a => some (subStr a b) | _ => none)
  | .tup ds => (flatD x).bind fun v => (flatL ds).map fun vs => inV v vs
  | y => (lstD y h).bind fun ds => (flatD x).bind fun v => (flatL ds).map fun vs => inV v vs
def opIn (x y : D) (h : MH) : R D := match inG x y h with
  | some b => .ok (.bl b) h
  | none => .stuck
def opNin (x y : D) (h : MH) : R D := match inG x y h with
  | some b => .ok (.bl (!b)) h
  | none => .stuck
def rIn2 (K : PySem.W.Frag) : R2 := fun x y H Q => rIn K false x y H Q ∨ ∃ i j, x = .str i ∧ y = .str j ∧ Q (.bl (!(Builtin.Str.occurrences j i 0 j.length 1).isEmpty)) H
def rNin2 (K : PySem.W.Frag) : R2 := fun x y H Q => rIn K true x y H Q ∨ ∃ i j, x = .str i ∧ y = .str j ∧ Q (.bl (!(!(Builtin.Str.occurrences j i 0 j.length 1).isEmpty))) H
theorem op_in2 {X : Cx} : OpR X (compareOp .In) (rIn2 X.K) := op_in_seq.or op_in_str
theorem op_nin2 {X : Cx} : OpR X (compareOp .NotIn) (rNin2 X.K) := op_notIn_seq.or op_notin_str
theorem inG_ok {L H} {h : MH} {dx dy x y b} (r : Rel K L H h) (px : Rep K L H dx x) (py : Rep K L H dy y) (e : inG dx dy h = some b) :
    (∃ p xs, y = .ref p ∧ (SqL K H p xs ∨ SqT K H p xs) ∧ flatV x = true ∧ xs.all flatV = true ∧ inV x xs = b) ∨ ∃ i j, x = .str i ∧ y = .str j ∧ subStr i j = b := by
  have big : (lstD dy h).bind (fun ds => (flatD dx).bind fun v => (flatL ds).map fun vs => inV v vs) = some b → ∃ p xs, y = .ref p ∧ (SqL K H p xs ∨ SqT K H p xs) ∧ flatV x = true ∧ xs.all flatV = true ∧ inV x xs = b := fun e => by
    obtain ⟨ds, e1, e2⟩ := Option.bind_eq_some_iff.mp e
    obtain ⟨v, e3, e4⟩ := Option.bind_eq_some_iff.mp e2
    obtain ⟨vs, e5, rfl⟩ := Option.map_eq_some_iff.mp e4
    obtain ⟨p, xs, rfl, s, w⟩ := lstD_of r py e1
    obtain ⟨rfl, f1⟩ := flatD_ok px e3
    obtain ⟨rfl, f2⟩ := flatL_ok w e5
    exact ⟨p, xs, rfl, .inl s, f1, f2, rfl⟩
  cases dy with
  | str b =>
    unfold inG at e
    simp only at e
    split at e
    · rename_i a
      cases e
      exact .inr ⟨a, b, rep_str_inv px, rep_str_inv py, rfl⟩
    · cases e
  | tup ds =>
    obtain ⟨v, e3, e4⟩ := Option.bind_eq_some_iff.mp e
    obtain ⟨vs, e5, rfl⟩ := Option.map_eq_some_iff.mp e4
    obtain ⟨p, xs, rfl, s, w⟩ := tup_of py
    obtain ⟨rfl, f1⟩ := flatD_ok px e3
    obtain ⟨rfl, f2⟩ := flatL_ok w e5
    exact .inl ⟨p, xs, rfl, .inr s, f1, f2, rfl⟩
  | rol ds => exact .inl (big e)
  | ref n => exact .inl (big e)
  | non => exact .inl (big e)
  | bl _ => exact .inl (big e)
  | int _ => exact .inl (big e)
  | obj _ => exact .inl (big e)
  | ty _ => exact .inl (big e)
  | kon _ => exact .inl (big e)
  | rdc _ _ => exact .inl (big e)
  | xo _ _ _ _ => exact .inl (big e)
theorem opIn_ok : OpM K (rIn2 K) opIn := by
  intro L H h dx dy x y Q E r px py a
  unfold opIn at a
  split at a
  · rename_i b z
    have q := ans_okE (K := K) (v := .bl b) r rep_bl a
    rcases inG_ok r px py z with ⟨p, xs, h1, h2, h3, h4, h5⟩ | ⟨i, j, h1, h2, h3⟩
    · exact .inl ⟨p, xs, h1, h2, h3, h4, by rw [← h5] at q; exact q⟩
    · exact .inr ⟨i, j, h1, h2, by rw [← h3] at q; exact q⟩
  · exact a.elim
theorem opNin_ok : OpM K (rNin2 K) opNin := by
  intro L H h dx dy x y Q E r px py a
  unfold opNin at a
  split at a
  · rename_i b z
    have q := ans_okE (K := K) (v := .bl (!b)) r rep_bl a
    rcases inG_ok r px py z with ⟨p, xs, h1, h2, h3, h4, h5⟩ | ⟨i, j, h1, h2, h3⟩
    · exact .inl ⟨p, xs, h1, h2, h3, h4, by rw [← h5] at q; exact q⟩
    · exact .inr ⟨i, j, h1, h2, by rw [← h3] at q; exact q⟩
  · exact a.elim
end
end MM

namespace MM
open PySem PySem.Spec PyProof.Rows L2
section
variable {K : PySem.W.Frag}
/-! ### items -/
theorem RepL.atI {L H ds vs} {i : Int} {d : D} (w : RepL K L H ds vs) (e : L2.atI ds i = some d) : ∃ v, L2.atI vs i = some v ∧ Rep K L H d v := by
  unfold L2.atI at e ⊢
  obtain ⟨j, e1, e2⟩ := Option.bind_eq_some_iff.mp e
  rw [← w.length, e1]
  exact w.get e2
def ixG (x y : D) (h : MH) : Option D := match y with
  | .int i => (match x with
    | .tup ds => L2.atI ds i
    | .str s => if s.length ≤ 16777216 then (L2.atI s.cps.toList i).map fun c => .str ⟨#[c]⟩ else none
    | x => (lstD x h).bind fun ds => L2.atI ds i)
  | _ => none
def opIx0 (x y : D) (h : MH) : R D := match ixG x y h with
  | some d => .ok d h
  | none => .stuck
def rIx3 (K : PySem.W.Frag) : R2 := fun x y H Q => rIxL K x y H Q ∨ (rIxT K x y H Q ∨ rIxS x y H Q)
theorem ix_all {X : Cx} : IxR X (rIx3 X.K) := ix_list.or (ix_tup.or ix_str)
theorem opIx0_ok : OpM K (rIx3 K) opIx0 := by
  intro L H h dx dy x y Q E r px py a
  unfold opIx0 at a
  cases e : ixG dx dy h with
  | none => rw [e] at a; exact a.elim
  | some d =>
    rw [e] at a
    cases dy with
    | int i =>
      have big : (lstD dx h).bind (fun ds => L2.atI ds i) = some d → rIxL K x y H Q := fun e => by
        obtain ⟨ds, e1, e2⟩ := Option.bind_eq_some_iff.mp e
        obtain ⟨p, xs, rfl, s, w⟩ := lstD_of r px e1
        obtain ⟨v, e3, q⟩ := w.atI e2
        exact ⟨p, xs, i, v, rfl, rep_int_inv py, s, e3, ans_okE r q a⟩
      cases dx with
      | tup ds =>
        obtain ⟨p, xs, rfl, s, w⟩ := tup_of px
        obtain ⟨v, e3, q⟩ := w.atI (show L2.atI ds i = some d from e)
        exact .inr (.inl ⟨p, xs, i, v, rfl, rep_int_inv py, s, e3, ans_okE r q a⟩)
      | str s =>
        replace e : (if s.length ≤ 16777216 then (L2.atI s.cps.toList i).map fun c => D.str ⟨#[c]⟩ else none) = some d := e
        split at e
        · rename_i z
          obtain ⟨c, e1, rfl⟩ := Option.map_eq_some_iff.mp e
          exact .inr (.inr ⟨s, i, c, rep_str_inv px, rep_int_inv py, szl z, e1, ans_okE r rep_str a⟩)
        · cases e
      | rol _ => exact .inl (big e)
      | ref _ => exact .inl (big e)
      | non => cases e
      | bl _ => cases e
      | int _ => cases e
      | obj _ => cases e
      | ty _ => cases e
      | kon _ => cases e
      | rdc _ _ => cases e
      | xo _ _ _ _ => cases e
    | _ => cases e
/-! ### dicts by key -/
def keyD : D → Option Key
  | .int i => some (.inl i)
  | .str s => some (.inr s)
  | _ => none
theorem keyD_ok {L H} {d : D} {v : V} {k : Key} (q : Rep K L H d v) (e : keyD d = some k) : v = kV k := by
  unfold keyD at e
  split at e
  · cases e; rw [rep_int_inv q]; rfl
  · cases e; rw [rep_str_inv q]; rfl
  · cases e
def valD (kvs : List (Key × D)) (k : Key) : Option D := (kvs.find? fun p => decide (p.1 = k)).map (·.2)
def dG (x y : D) (h : MH) : Option (Option D) := match x with
  | .rdc ks ds => (keyD y).map fun k => valD (ks.zip ds) k
  | .ref n => (dic? h n).bind fun kvs => (keyD y).map fun k => valD kvs k
  | _ => none
def RepO (K : PySem.W.Frag) (L : TL) (H : Hp) (o : Option D) (w : Option V) : Prop := match o with
  | some d => ∃ v, w = some v ∧ Rep K L H d v
  | none => w = none
theorem repO_K {L H} {k : Key} : ∀ {kvs : List (Key × D)} {ws : List (Key × V)}, RepK K L H kvs ws → RepO K L H (valD kvs k) (valV ws k)
  | [], _, r => by cases r; rfl
  | p :: r, _, ⟨v, vs, e, q, w⟩ => by
    subst e
    unfold valD valV
    rw [List.find?_cons, List.find?_cons]
    by_cases hk : p.1 = k
    · rw [decide_eq_true hk]
      exact ⟨v, rfl, q⟩
    · rw [decide_eq_false hk]
      exact repO_K w
theorem repK_zip {L H} : ∀ {ks : List Key} {ds : List D} {xs : List V}, RepL K L H ds xs → RepK K L H (ks.zip ds) (ks.zip xs)
  | [], _, _, _ => by show RepK K L H [] _; exact rfl
  | _ :: _, [], _, w => by rw [w.nil_inv]; exact rfl
  | k :: ks, d :: ds, _, w => by
    obtain ⟨v, vs, rfl, q, w⟩ := w.cons_inv
    exact ⟨v, ks.zip vs, rfl, q, repK_zip w⟩
theorem dG_ok {L H} {h : MH} {dx dy : D} {x y : V} {o : Option D} (r : Rel K L H h) (px : Rep K L H dx x) (py : Rep K L H dy y) (e : dG dx dy h = some o) :
    ∃ a ov, x = .ref a ∧ IsD H a ∧ DGet H a y ov ∧ RepO K L H o ov := by
  unfold dG at e
  split at e
  · rename_i ks ds
    obtain ⟨k, e1, rfl⟩ := Option.map_eq_some_iff.mp e
    unfold Rep at px
    obtain ⟨a, xs, rfl, s, n, l, w⟩ := px
    exact ⟨a, _, rfl, .inl ⟨_, s⟩, .inl ⟨_, k, s, keyD_ok py e1, rfl⟩, repO_K (repK_zip w)⟩
  · rename_i n
    obtain ⟨kvs, e1, e2⟩ := Option.bind_eq_some_iff.mp e
    obtain ⟨k, e3, rfl⟩ := Option.map_eq_some_iff.mp e2
    obtain ⟨p, xs, z1, z2, w⟩ := r.dic (dic?_at e1)
    exact ⟨p, _, px.ref z1, .inl ⟨_, .inl z2⟩, .inl ⟨_, k, .inl z2, keyD_ok py e3, rfl⟩, repO_K w⟩
  · cases e
def rIxG : R2 := fun x y H Q => ∃ a v, x = .ref a ∧ DGet H a y (some v) ∧ Q v H
theorem ix_dict {X : Cx} (hu : X.A.units + 64 < cLine) : IxR X rIxG := by
  intro value slice pins s σ H x y v u Q I rx ry h hs
  obtain ⟨a, z, rfl, g, q⟩ := h
  obtain rfl : v = Value.ref a := rx
  exact tail_any (dict_typeIs I g) PySem.F.slot_dict_getitem.lookup (d_getItem (by omega) I g ry fun w' s' I' rw' => ⟨z, H, I', rw', q⟩) hs
def opIx (x y : D) (h : MH) : R D := match dG x y h with
  | some (some d) => .ok d h
  | _ => opIx0 x y h
def rIx4 (K : PySem.W.Frag) : R2 := fun x y H Q => rIxG x y H Q ∨ rIx3 K x y H Q
theorem ix_all2 {X : Cx} (hu : X.A.units + 64 < cLine) : IxR X (rIx4 X.K) := (ix_dict hu).or ix_all
theorem opIx_ok : OpM K (rIx4 K) opIx := by
  intro L H h dx dy x y Q E r px py a
  unfold opIx at a
  split at a
  · rename_i d e
    obtain ⟨p, ov, rfl, _, g, v, rfl, q⟩ := dG_ok r px py e
    exact .inl ⟨p, v, rfl, g, ans_okE r q a⟩
  · exact .inr (opIx0_ok L H h dx dy x y Q E r px py a)
/-! ### slices -/
def cutD (xs : List D) (lo hi : Option Int) : List D := (xs.drop (HT.sIx xs.length 0 lo)).take (HT.sIx xs.length xs.length hi - HT.sIx xs.length 0 lo)
theorem RepL.cut {L H ds vs} {lo hi : Option Int} (w : RepL K L H ds vs) : RepL K L H (cutD ds lo hi) (cutV vs lo hi) := by
  unfold cutD cutV
  rw [w.length]
  exact (w.drop _).take _
def slG (x : D) (lo hi : Option Int) (h : MH) : Option D := match x with
  | .str s => if s.length ≤ 16777216 then some (.str (cutS s lo hi)) else none
  | .tup ds => some (.tup (cutD ds lo hi))
  | x => (lstD x h).map fun ds => .rol (cutD ds lo hi)
def opSl (x : D) (lo hi : Option Int) (h : MH) : R D := match slG x lo hi h with
  | some d => .ok d h
  | none => .stuck
def rSl3 (K : PySem.W.Frag) : V → Option Int → Option Int → Hp → VK → Prop := fun x lo hi H Q => rSlL K x lo hi H Q ∨ (rSlA K x lo hi H Q ∨ rSlS x lo hi H Q)
theorem sl_all {X : Cx} : SlR X (rSl3 X.K) := sl_list.or (sl_tupA.or sl_str)
theorem opSl_ok : SlM K (rSl3 K) opSl := by
  intro L H h dx x lo hi Q E r px a
  unfold opSl at a
  cases e : slG dx lo hi h with
  | none => rw [e] at a; exact a.elim
  | some d =>
    rw [e] at a
    have big : (lstD dx h).map (fun ds => D.rol (cutD ds lo hi)) = some d → rSlL K x lo hi H Q := fun e => by
      obtain ⟨ds, e1, rfl⟩ := Option.map_eq_some_iff.mp e
      obtain ⟨p, xs, rfl, s, w⟩ := lstD_of r px e1
      exact ⟨p, xs, rfl, s, fun q hq => ans_of (rep_rol r hq w.cut) a⟩
    cases dx with
    | str s =>
      replace e : (if s.length ≤ 16777216 then some (D.str (cutS s lo hi)) else none) = some d := e
      split at e
      · rename_i z
        cases e
        exact .inr (.inr ⟨s, rep_str_inv px, szl z, ans_okE r rep_str a⟩)
      · cases e
    | tup ds =>
      cases e
      obtain ⟨p, xs, rfl, s, w⟩ := tup_of px
      refine .inr (.inl ⟨p, xs, rfl, s, fun z => ?_, fun z q hq => ans_of (rep_tup r hq w.cut) a⟩)
      have : cutD ds lo hi = ds := by
        unfold cutD
        rw [w.length, z.1, z.2, List.drop_zero, Nat.sub_zero, ← w.length, List.take_length]
      rw [this] at a
      exact ans_okE r px a
    | rol _ => exact .inl (big e)
    | ref _ => exact .inl (big e)
    | non => cases e
    | bl _ => cases e
    | int _ => cases e
    | obj _ => cases e
    | ty _ => cases e
    | kon _ => cases e
    | rdc _ _ => cases e
    | xo _ _ _ _ => cases e
/-! ### built-in calls -/
def lenG (d : D) (h : MH) : Option Nat := match d with
  | .str s => if s.length ≤ 16777216 then some s.length else none
  | .tup ds => some ds.length
  | d => (match lstD d h with
    | some ds => some ds.length
    | none => (dicD d h).map (·.length))
def fLen (ds : List D) (h : MH) : R D := match ds with
  | [d] => (match lenG d h with | some n => .ok (.int n) h | none => .stuck)
  | _ => .stuck
def rLen2 (K : PySem.W.Frag) : List V → Hp → VK → Prop := fun xs H Q => (∃ x n, xs = [x] ∧ LenV K x H n ∧ Q (.int n) H) ∨ ∃ a kvs, xs = [V.ref a] ∧ H a = some (.dK kvs) ∧ Q (.int kvs.length) H
theorem call_len2 {X : Cx} : CallR X (.builtin "len") (rLen2 X.K) := call_len.or call_lenD
theorem RepL.one {L H d vs} (w : RepL K L H [d] vs) : ∃ v, vs = [v] ∧ Rep K L H d v := by
  obtain ⟨v, ws, rfl, q, w⟩ := w.cons_inv
  rw [w.nil_inv]
  exact ⟨v, rfl, q⟩
theorem RepL.two {L H d e vs} (w : RepL K L H [d, e] vs) : ∃ v u, vs = [v, u] ∧ Rep K L H d v ∧ Rep K L H e u := by
  obtain ⟨v, ws, rfl, q, w⟩ := w.cons_inv
  obtain ⟨u, rfl, q2⟩ := w.one
  exact ⟨v, u, rfl, q, q2⟩
theorem RepK.length {L H} : ∀ {ds : List (Key × D)} {vs}, RepK K L H ds vs → ds.length = vs.length
  | [], _, r => by cases r; rfl
  | d :: ds, _, ⟨v, vs, e, _, w⟩ => by subst e; rw [List.length_cons, List.length_cons, RepK.length w]
theorem fLen_ok : CallM K (rLen2 K) fLen := by
  intro L H h ds vs Q E r w a
  unfold fLen at a
  split at a
  · rename_i d
    obtain ⟨v, rfl, q⟩ := w.one
    cases e : lenG d h with
    | none => rw [e] at a; exact a.elim
    | some n =>
      simp only [e] at a
      have big : (match lstD d h with
        | some ds => some ds.length
        | none => (dicD d h).map (·.length)) = some n → rLen2 K [v] H Q := fun e => by
        split at e
        · rename_i ds e1
          cases e
          obtain ⟨p, xs, rfl, s, w⟩ := lstD_of r q e1
          exact .inl ⟨_, xs.length, rfl, .inl ⟨xs, s, rfl⟩, by rw [← w.length]; exact ans_okE r rep_int a⟩
        · obtain ⟨ds, e1, rfl⟩ := Option.map_eq_some_iff.mp e
          obtain ⟨p, xs, rfl, s, w⟩ := dicD_of r q e1
          exact .inr ⟨p, xs, rfl, s, by rw [← w.length]; exact ans_okE r rep_int a⟩
      cases d with
      | str s =>
        replace e : (if s.length ≤ 16777216 then some s.length else none) = some n := e
        split at e
        · rename_i z
          cases e
          exact .inl ⟨_, _, rfl, by rw [rep_str_inv q]; exact ⟨szl z, rfl⟩, ans_okE r rep_int a⟩
        · cases e
      | tup ds =>
        cases e
        obtain ⟨p, xs, rfl, s, w⟩ := tup_of q
        exact .inl ⟨_, xs.length, rfl, .inr ⟨xs, s, rfl⟩, by rw [← w.length]; exact ans_okE r rep_int a⟩
      | rol _ => exact big e
      | ref _ => exact big e
      | non => cases e
      | bl _ => cases e
      | int _ => cases e
      | obj _ => cases e
      | ty _ => cases e
      | kon _ => cases e
      | rdc _ _ => cases e
      | xo _ _ _ _ => cases e
  · exact a.elim
def fAbs (ds : List D) (h : MH) : R D := match ds with
  | [.int i] => .ok (.int (if i < 0 then -i else i)) h
  | _ => .stuck
theorem fAbs_ok : CallM K (fun xs H Q => ∃ i, xs = [.int i] ∧ Q (.int (if i < 0 then -i else i)) H) fAbs := by
  intro L H h ds vs Q E r w a
  unfold fAbs at a
  split at a
  · rename_i i
    obtain ⟨v, rfl, q⟩ := w.one
    exact ⟨i, by rw [rep_int_inv q], ans_okE r rep_int a⟩
  · exact a.elim
def rInt2 : List V → Hp → VK → Prop := fun xs H Q => ((∃ i, xs = [.int i] ∧ Q (.int i) H) ∨ ∃ k, xs = [.bl k] ∧ Q (.int (if k then 1 else 0)) H) ∨ ∃ a n, xs = [.str a] ∧ PySem.intText? a = some n ∧ a.length ≤ 640 ∧ Q (.int n) H
theorem call_int2 {X : Cx} : CallR X (.type "int") rInt2 := call_int1.or call_int_str
def fInt (ds : List D) (h : MH) : R D := match ds with
  | [.int i] => .ok (.int i) h
  | [.bl k] => .ok (.int (if k then 1 else 0)) h
  | [.str s] => if s.length ≤ 640 then (match PySem.intText? s with | some n => .ok (.int n) h | none => .stuck) else .stuck
  | _ => .stuck
theorem fInt_ok : CallM K rInt2 fInt := by
  intro L H h ds vs Q E r w a
  unfold fInt at a
  split at a
  · rename_i i
    obtain ⟨v, rfl, q⟩ := w.one
    exact .inl (.inl ⟨i, by rw [rep_int_inv q], ans_okE r rep_int a⟩)
  · rename_i i
    obtain ⟨v, rfl, q⟩ := w.one
    exact .inl (.inr ⟨i, by rw [rep_bl_inv q], ans_okE r rep_int a⟩)
  · rename_i s
    obtain ⟨v, rfl, q⟩ := w.one
    split at a
    · rename_i z
      split at a
      · rename_i n e
        exact .inr ⟨s, n, by rw [rep_str_inv q], e, z, ans_okE r rep_int a⟩
      · exact a.elim
    · exact a.elim
  · exact a.elim
def fStr (ds : List D) (h : MH) : R D := match ds with
  | [.int i] => if i.natAbs.log2 < 1920 then .ok (.str (toString i)) h else .stuck
  | _ => .stuck
theorem fStr_ok : CallM K (fun xs H Q => ∃ i, xs = [.int i] ∧ i.natAbs.log2 < 1920 ∧ Q (.str (toString i)) H) fStr := by
  intro L H h ds vs Q E r w a
  unfold fStr at a
  split at a
  · rename_i i
    obtain ⟨v, rfl, q⟩ := w.one
    split at a
    · rename_i z
      exact ⟨i, by rw [rep_int_inv q], z, ans_okE r rep_str a⟩
    · exact a.elim
  · exact a.elim
/-- list(x), nobody changes it -/
def seqG (d : D) (h : MH) : Option (List D) := match d with
  | .tup ds => some ds
  | d => lstD d h
theorem seqG_of {L H} {h : MH} {d v ds} (r : Rel K L H h) (q : Rep K L H d v) (e : seqG d h = some ds) : ∃ p xs, v = .ref p ∧ (SqL K H p xs ∨ SqT K H p xs) ∧ RepL K L H ds xs := by
  cases d with
  | tup es =>
    cases e
    obtain ⟨p, xs, rfl, s, w⟩ := tup_of q
    exact ⟨p, xs, rfl, .inr s, w⟩
  | _ =>
    obtain ⟨p, xs, e1, s, w⟩ := lstD_of r q e
    exact ⟨p, xs, e1, .inl s, w⟩
def fList (ds : List D) (h : MH) : R D := match ds with
  | [d] => (match seqG d h with | some es => .ok (.rol es) h | none => .stuck)
  | _ => .stuck
def fListN (ds : List D) (h : MH) : R D := match ds with
  | [d] => (match seqG d h with | some es => .ok (.ref h.length) (h ++ [.lst es]) | none => .stuck)
  | _ => .stuck
def rListOf (K : PySem.W.Frag) : List V → Hp → VK → Prop := fun xs H Q => ∃ p ys, xs = [.ref p] ∧ (SqL K H p ys ∨ SqT K H p ys) ∧ ∀ l, H l = none → Q (.ref l) (upd H l (.lst ys))
theorem fList_ok : CallM K (rListOf K) fList := by
  intro L H h ds vs Q E r w a
  unfold fList at a
  split at a
  · rename_i d
    obtain ⟨v, rfl, q⟩ := w.one
    cases e : seqG d h with
    | none => rw [e] at a; exact a.elim
    | some es =>
      simp only [e] at a
      obtain ⟨p, xs, rfl, s, w2⟩ := seqG_of r q e
      exact ⟨p, xs, rfl, s, fun l hl => ans_of (rep_rol r hl w2) a⟩
  · exact a.elim
theorem fListN_ok : CallM K (rListOf K) fListN := by
  intro L H h ds vs Q E r w a
  unfold fListN at a
  split at a
  · rename_i d
    obtain ⟨v, rfl, q⟩ := w.one
    cases e : seqG d h with
    | none => rw [e] at a; exact a.elim
    | some es =>
      simp only [e] at a
      obtain ⟨p, xs, rfl, s, w2⟩ := seqG_of r q e
      exact ⟨p, xs, rfl, s, fun l hl => ans_of (rep_new r hl w2) a⟩
  · exact a.elim
def fTuple (ds : List D) (h : MH) : R D := match ds with
  | [d] => (match seqG d h with | some es => .ok (.tup es) h | none => .stuck)
  | _ => .stuck
def rTupOf (K : PySem.W.Frag) : List V → Hp → VK → Prop := fun xs H Q => ∃ p ys, xs = [.ref p] ∧ ((SqL K H p ys ∧ ∀ l, H l = none → Q (.ref l) (upd H l (.tup ys))) ∨ (SqT K H p ys ∧ Q (.ref p) H))
theorem fTuple_ok : CallM K (rTupOf K) fTuple := by
  intro L H h ds vs Q E r w a
  unfold fTuple at a
  split at a
  · rename_i d
    obtain ⟨v, rfl, q⟩ := w.one
    cases e : seqG d h with
    | none => rw [e] at a; exact a.elim
    | some es =>
      simp only [e] at a
      cases d with
      | tup fs =>
        cases e
        obtain ⟨p, xs, rfl, s, w2⟩ := tup_of q
        exact ⟨p, xs, rfl, .inr ⟨s, ans_okE r q a⟩⟩
      | _ =>
        obtain ⟨p, xs, rfl, s, w2⟩ := lstD_of r q e
        exact ⟨p, xs, rfl, .inl ⟨s, fun l hl => ans_of (rep_tup r hl w2) a⟩⟩
  · exact a.elim
def blsL : List D → Option (List Bool)
  | [] => some []
  | .bl b :: ds => (blsL ds).map fun bs => b :: bs
  | _ :: _ => none
theorem blsL_ok {L H} : ∀ {ds : List D} {vs bs}, RepL K L H ds vs → blsL ds = some bs → vs = bs.map V.bl
  | [], _, _, w, e => by cases e; rw [w.nil_inv]; rfl
  | d :: ds, _, _, w, e => by
    obtain ⟨v, vs, rfl, q, w2⟩ := w.cons_inv
    cases d with
    | bl b =>
      obtain ⟨bs, e1, rfl⟩ := Option.map_eq_some_iff.mp e
      rw [rep_bl_inv q, blsL_ok w2 e1]; rfl
    | _ => cases e
def fAll (ds : List D) (h : MH) : R D := match ds with
  | [d] => (match (lstD d h).bind blsL with | some bs => .ok (.bl (bs.all id)) h | none => .stuck)
  | _ => .stuck
def fAny (ds : List D) (h : MH) : R D := match ds with
  | [d] => (match (lstD d h).bind blsL with | some bs => .ok (.bl (bs.any id)) h | none => .stuck)
  | _ => .stuck
theorem fAll_ok : CallM K (rAll K) fAll := by
  intro L H h ds vs Q E r w a
  unfold fAll at a
  split at a
  · rename_i d
    obtain ⟨v, rfl, q⟩ := w.one
    cases e : (lstD d h).bind blsL with
    | none => rw [e] at a; exact a.elim
    | some bs =>
      simp only [e] at a
      obtain ⟨es, e1, e2⟩ := Option.bind_eq_some_iff.mp e
      obtain ⟨p, xs, rfl, s, w2⟩ := lstD_of r q e1
      rw [blsL_ok w2 e2] at s
      exact ⟨p, bs, rfl, s, ans_okE r rep_bl a⟩
  · exact a.elim
theorem fAny_ok : CallM K (rAny K) fAny := by
  intro L H h ds vs Q E r w a
  unfold fAny at a
  split at a
  · rename_i d
    obtain ⟨v, rfl, q⟩ := w.one
    cases e : (lstD d h).bind blsL with
    | none => rw [e] at a; exact a.elim
    | some bs =>
      simp only [e] at a
      obtain ⟨es, e1, e2⟩ := Option.bind_eq_some_iff.mp e
      obtain ⟨p, xs, rfl, s, w2⟩ := lstD_of r q e1
      rw [blsL_ok w2 e2] at s
      exact ⟨p, bs, rfl, s, ans_okE r rep_bl a⟩
  · exact a.elim
def intsL : List D → Option (List Int)
  | [] => some []
  | .int b :: ds => (intsL ds).map fun bs => b :: bs
  | _ :: _ => none
theorem intsL_ok {L H} : ∀ {ds : List D} {vs bs}, RepL K L H ds vs → intsL ds = some bs → vs = bs.map V.int
  | [], _, _, w, e => by cases e; rw [w.nil_inv]; rfl
  | d :: ds, _, _, w, e => by
    obtain ⟨v, vs, rfl, q, w2⟩ := w.cons_inv
    cases d with
    | int b =>
      obtain ⟨bs, e1, rfl⟩ := Option.map_eq_some_iff.mp e
      rw [rep_int_inv q, intsL_ok w2 e1]; rfl
    | _ => cases e
def fSum (ds : List D) (h : MH) : R D := match ds with
  | [d] => (match (lstD d h).bind intsL with | some bs => .ok (.int bs.sum) h | none => .stuck)
  | _ => .stuck
theorem fSum_ok : CallM K (rSum K) fSum := by
  intro L H h ds vs Q E r w a
  unfold fSum at a
  split at a
  · rename_i d
    obtain ⟨v, rfl, q⟩ := w.one
    cases e : (lstD d h).bind intsL with
    | none => rw [e] at a; exact a.elim
    | some bs =>
      simp only [e] at a
      obtain ⟨es, e1, e2⟩ := Option.bind_eq_some_iff.mp e
      obtain ⟨p, xs, rfl, s, w2⟩ := lstD_of r q e1
      rw [intsL_ok w2 e2] at s
      exact ⟨p, bs, rfl, s, ans_okE r rep_int a⟩
  · exact a.elim
/-! ### isinstance -/
def tyName (d : D) (h : MH) : Option String := match d with
  | .non => some "NoneType"
  | .bl _ => some "bool"
  | .int _ => some "int"
  | .str _ => some "str"
  | .tup _ => some "tuple"
  | .rol _ => some "list"
  | .ref n => (match h[n]? with
    | some (.lst _) => some "list"
    | some (.dic _) => some "dict"
    | _ => none)
  | _ => none
theorem tyName_of {L H} {h : MH} {d v n} (r : Rel K L H h) (q : Rep K L H d v) (e : tyName d h = some n) : TyX K H v (.type n) := by
  cases d with
  | non => cases e; rw [rep_non_inv q]; exact .base .non
  | bl _ => cases e; rw [rep_bl_inv q]; exact .base (.bl _)
  | int _ => cases e; rw [rep_int_inv q]; exact .base (.int _)
  | str _ => cases e; rw [rep_str_inv q]; exact .base (.str _)
  | tup ds =>
    cases e
    unfold Rep at q
    obtain ⟨p, xs, rfl, s, w⟩ := q
    rcases s with ⟨s | ⟨o, s⟩, _⟩ | ⟨o, its, k, h1, h2, _⟩
    · exact .base (.tup s)
    · exact .fTuple s
    · exact .kTuple h1 h2
  | rol ds =>
    cases e
    unfold Rep at q
    obtain ⟨p, xs, rfl, s, w⟩ := q
    rcases s with ⟨s | ⟨o, s⟩, _⟩ | ⟨o, its, k, h1, h2, _⟩
    · exact .base (.lst s)
    · exact .base (.frz s)
    · exact .kList h1 h2
  | ref k =>
    unfold tyName at e
    simp only at e
    split at e
    · rename_i ds z
      cases e
      obtain ⟨p, xs, e1, e2, w⟩ := r.lst z
      rw [q.ref e1]
      exact .base (.lst e2)
    · rename_i ds z
      cases e
      obtain ⟨p, xs, e1, e2, w⟩ := r.dic z
      rw [q.ref e1]
      exact .base (.dK e2)
    · cases e
  | obj _ => cases e
  | ty _ => cases e
  | kon _ => cases e
  | rdc _ _ => cases e
  | xo _ _ _ _ => cases e
def tyNames : List String := ["NoneType", "bool", "int", "str", "tuple", "list", "dict"]
def isTyB (a b : String) : Option Bool := if a ∈ tyNames ∧ b ∈ tyNames then some (a == b || (a == "bool" && b == "int")) else none
theorem kitB_tab : (tyNames.all fun a => tyNames.all fun b => b == "NoneType" || decide (kitB a b = some (a == b || (a == "bool" && b == "int")))) = true := by decide +kernel
theorem isTyB_ok {a b : String} {k : Bool} (e : isTyB a b = some k) (hb : b ≠ "NoneType") : kitB a b = some k := by
  unfold isTyB at e
  split at e
  · rename_i z
    have h1 := List.all_eq_true.mp kitB_tab a z.1
    have h2 := List.all_eq_true.mp h1 b z.2
    rw [Bool.or_eq_true] at h2
    rcases h2 with h2 | h2
    · exact absurd (beq_iff_eq.mp h2) hb
    · rw [← e]; exact of_decide_eq_true h2
  · cases e
def fIsi (ds : List D) (h : MH) : R D := match ds with
  | [d, .ty b] => if b = "NoneType" then .stuck else (match (tyName d h).bind fun a => isTyB a b with | some k => .ok (.bl k) h | none => .stuck)
  | _ => .stuck
theorem fIsi_ok : CallM K (rIsi K) fIsi := by
  intro L H h ds vs Q E r w a
  unfold fIsi at a
  split at a
  · rename_i d b
    obtain ⟨v, u, rfl, q1, q2⟩ := w.two
    split at a
    · exact a.elim
    rename_i hb
    cases e : (tyName d h).bind fun a => isTyB a b with
    | none => rw [e] at a; exact a.elim
    | some k =>
      simp only [e] at a
      obtain ⟨t, e1, e2⟩ := Option.bind_eq_some_iff.mp e
      rw [rep_ty_inv q2]
      exact ⟨v, .ty b, .type t, .type b, k, rfl, .ty b, tyName_of r q1 e1, kit_ty (isTyB_ok e2 hb), ans_okE r rep_bl a⟩
  · exact a.elim
end
end MM
namespace MM
open PySem PySem.Spec PyProof.Rows L2
/-! ### methods of lists -/
section
variable {K : PySem.W.Frag}
def Rel.wr {L H} {h : MH} {n : Nat} {a : Addr} {ds vs} (r : Rel K L H h) (e : L[n]? = some (some a)) {xs0 : List V} (e0 : H a = some (.lst xs0)) (w : RepL K L H ds vs) : Ext L H L (upd H a (.lst vs)) ∧ Rel K L (upd H a (.lst vs)) (h.set n (.lst ds)) := by
  have nf : ∀ o u, H a ≠ some (.frz o u) := fun o u z => by rw [e0] at z; cases z
  exact r.write e nf ⟨a, vs, rfl, upd_same, w.mono (ext_write e nf)⟩
def fAppend (d : D) (ds : List D) (h : MH) : R D := match d, ds with
  | .ref n, [x] => (match lst? h n with
    | some es => if es.length < 16777216 then .ok .non (h.set n (.lst (es ++ [x]))) else .stuck
    | none => .stuck)
  | _, _ => .stuck
theorem fAppend_ok : MtdM K rAppend fAppend := by
  intro L H h d x ds vs Q E r q w a
  unfold fAppend at a
  split at a
  · rename_i n e
    obtain ⟨v, rfl, qv⟩ := w.one
    cases z : lst? h n with
    | none => rw [z] at a; exact a.elim
    | some es =>
      simp only [z] at a
      by_cases hz : es.length < 16777216
      · rw [if_pos hz] at a
        obtain ⟨p, xs, e1, e2, w1⟩ := r.lst (lst?_at z)
        obtain ⟨x1, r1⟩ := r.wr e1 e2 (w1.append (.cons qv .nil))
        exact ⟨p, xs, v, q.ref e1, rfl, e2, by rw [sizeLine_eq, ← w1.length]; exact hz, ans_of ⟨x1, r1, rep_none⟩ a⟩
      · rw [if_neg hz] at a; exact a.elim
  · exact a.elim
def fPop (d : D) (ds : List D) (h : MH) : R D := match d, ds with
  | .ref n, [] => (match lst? h n with
    | some es => (match es[es.length - 1]? with
      | some x => .ok x (h.set n (.lst es.dropLast))
      | none => .stuck)
    | none => .stuck)
  | _, _ => .stuck
theorem RepL.dropLast {L H ds vs} (w : RepL K L H ds vs) : RepL K L H ds.dropLast vs.dropLast := by
  rw [List.dropLast_eq_take, List.dropLast_eq_take, w.length]
  exact w.take _
theorem fPop_ok : MtdM K rPop fPop := by
  intro L H h d x ds vs Q E r q w a
  unfold fPop at a
  split at a
  · rename_i n
    cases z : lst? h n with
    | none => rw [z] at a; exact a.elim
    | some es =>
      simp only [z] at a
      cases z2 : es[es.length - 1]? with
      | none => rw [z2] at a; exact a.elim
      | some y =>
        simp only [z2] at a
        obtain ⟨p, xs, e1, e2, w1⟩ := r.lst (lst?_at z)
        obtain ⟨x1, r1⟩ := r.wr e1 e2 w1.dropLast
        obtain ⟨v, e3, qv⟩ := w1.get z2
        exact ⟨p, xs, v, q.ref e1, w.nil_inv, e2, by rw [← w1.length]; exact e3, ans_of ⟨x1, r1, qv.mono x1⟩ a⟩
  · exact a.elim
/-- xs.extend(a list or a tuple) -/
def ExtPost (l b : Addr) (o2 : Obj) (items items2 : Array Value) (n : Nat) (R : Result → Shared → Prop) (s : Shared) : Prop :=
  s.heap.get? l = some { cls := .type "list", data := .seq items n } ∧ s.heap.get? b = some o2 ∧
    R (.ok (.ret Value.none)) { s with heap := s.heap.update l (Obj.mapSeq fun x => x ++ items2), toks := s.toks }
theorem ext_tup (l b : Addr) (items items2 : Array Value) (n n2 : Nat) (dd : Option Addr) (sl : Array (Option Value)) (z : Builtin.List.listTooLong (items.size + items2.size) = false) (hs1 : items.size ≤ sizeLine) (hs2 : items.size + items2.size ≤ sizeLine + 1) :
    Meets (Builtin.«list.extend» ⟨[.ref l, .ref b], []⟩) (fun _ R s => ExtPost l b { cls := .type "tuple", dict := dd, data := .seq items2 n2, slots := sl } items items2 n R s) := by
  have big : ¬ (!items.isEmpty && Builtin.List.listTooLong (items.size + items2.size)) = true := by rw [z, Bool.and_false]; exact Bool.false_ne_true
  refine .of_wp fun prog w A R s q => ?_
  obtain ⟨hp, g, d, tk, os⟩ := s
  obtain ⟨q1, q2, q3⟩ := q
  have k1 := PySem.AutoSeq1.idx_int
  have k2 := PySem.AutoSeq1.sub_tuple_tuple
  have k3 := PySem.AutoSeq1.sub_list_list
  have k4 := PySem.AutoSeq1.sub_tuple_list
  have k5 := PySem.AutoSeq1.sub_list_tuple
  have sz : (items ++ items2).size ≤ sizeLine + 1 := by rw [Array.size_append]; exact hs2
  wp_walk using (wpAny_updateSeq q1 rfl (hz := hs1) (_hz' := sz)), PySem.AutoSeq1.wpAny_loadPart' q1, PySem.AutoSeq1.wpAny_loadPart' q2
  exact ⟨_, rfl, q3⟩
theorem ext_lst (l b : Addr) (items items2 : Array Value) (n n2 : Nat) (dd : Option Addr) (sl : Array (Option Value)) (z : Builtin.List.listTooLong (items.size + items2.size) = false) (hs1 : items.size ≤ sizeLine) (hs2 : items.size + items2.size ≤ sizeLine + 1) :
    Meets (Builtin.«list.extend» ⟨[.ref l, .ref b], []⟩) (fun _ R s => ExtPost l b { cls := .type "list", dict := dd, data := .seq items2 n2, slots := sl } items items2 n R s) := by
  have big : ¬ (!items.isEmpty && Builtin.List.listTooLong (items.size + items2.size)) = true := by rw [z, Bool.and_false]; exact Bool.false_ne_true
  refine .of_wp fun prog w A R s q => ?_
  obtain ⟨hp, g, d, tk, os⟩ := s
  obtain ⟨q1, q2, q3⟩ := q
  have k1 := PySem.AutoSeq1.idx_int
  have k2 := PySem.AutoSeq1.sub_tuple_tuple
  have k3 := PySem.AutoSeq1.sub_list_list
  have k4 := PySem.AutoSeq1.sub_tuple_list
  have k5 := PySem.AutoSeq1.sub_list_tuple
  have sz : (items ++ items2).size ≤ sizeLine + 1 := by rw [Array.size_append]; exact hs2
  wp_walk using (wpAny_updateSeq q1 rfl (hz := hs1) (_hz' := sz)), PySem.AutoSeq1.wpAny_loadPart' q1, PySem.AutoSeq1.wpAny_loadPart' q2
  exact ⟨_, rfl, q3⟩
def rExtend2 (K : PySem.W.Frag) : V → List V → Hp → VK → Prop := fun x vs H Q => ∃ l b xs zs, x = .ref l ∧ vs = [.ref b] ∧ H l = some (.lst xs) ∧ (SqL K H b zs ∨ SqT K H b zs) ∧ xs.length + zs.length ≤ sizeLine ∧ Q .non (upd H l (.lst (xs ++ zs)))
theorem mt_extend2 {X : Cx} : MtR X "list.extend" (rExtend2 X.K) := by
  intro pins s σ H x vs v us Q I rx rv h
  obtain ⟨l, b, xs, zs, rfl, rfl, hH, hB, hz, q⟩ := h
  obtain rfl : v = .ref l := rx
  obtain ⟨u, rfl, ru⟩ := vals1 rv
  obtain rfl : u = .ref b := ru
  obtain ⟨z, its, n, r, hl, e⟩ := I.lstM hH
  have fin : ∀ its2 : List Value, Vals zs its2 → its.toArray.size + its2.toArray.size ≤ sizeLine ∧ EP X pins σ Q .none { s with heap := s.heap.update l (Obj.mapSeq fun x => x ++ its2.toArray) } := fun its2 r2 => by
    have h2 := r2.length
    refine ⟨by rw [List.size_toArray, List.size_toArray]; omega, .non, _, I.lset (its' := its ++ its2) (t' := s.toks) hH e (by simp) (r.append r2) ?_, rfl, q⟩
    rw [List.length_append]; omega
  rcases hB with hB | hB
  · obtain ⟨its2, r2, ⟨o2, n2, e2, c2, dn2, d2⟩, _⟩ := I.list hB
    obtain ⟨f1, f2⟩ := fin its2 r2
    obtain ⟨oc, od, odt, osl⟩ := o2
    simp only at c2 dn2 d2
    subst c2 d2
    exact call_meets F.slot_list_extend ⟨_, e, rfl⟩ F.entry_list_extend (F.args_list_extend_2 _ _) (ext_lst l b its.toArray its2.toArray n n2 od osl (notLongL f1) (by rw [List.size_toArray]; omega) (by omega)) ⟨e, e2, f2⟩
  · obtain ⟨its2, r2, ⟨o2, e2, c2, n2, d2⟩, _⟩ := I.tuple hB
    obtain ⟨f1, f2⟩ := fin its2 r2
    obtain ⟨oc, od, odt, osl⟩ := o2
    simp only at c2 d2
    subst c2 d2
    exact call_meets F.slot_list_extend ⟨_, e, rfl⟩ F.entry_list_extend (F.args_list_extend_2 _ _) (ext_tup l b its.toArray its2.toArray n n2 od osl (notLongL f1) (by rw [List.size_toArray]; omega) (by omega)) ⟨e, e2, f2⟩
def fExtend (d : D) (ds : List D) (h : MH) : R D := match d, ds with
  | .ref n, [x] => (match lst? h n, seqG x h with
    | some es, some fs => if es.length + fs.length ≤ 16777216 then .ok .non (h.set n (.lst (es ++ fs))) else .stuck
    | _, _ => .stuck)
  | _, _ => .stuck
theorem fExtend_ok : MtdM K (rExtend2 K) fExtend := by
  intro L H h d x ds vs Q E r q w a
  unfold fExtend at a
  split at a
  · rename_i n e
    obtain ⟨v, rfl, qv⟩ := w.one
    split at a
    · rename_i es fs z1 z2
      split at a
      · rename_i hz
        obtain ⟨p, xs, e1, e2, w1⟩ := r.lst (lst?_at z1)
        obtain ⟨p2, ys, rfl, s2, w2⟩ := seqG_of r qv z2
        obtain ⟨x1, r1⟩ := r.wr e1 e2 (w1.append w2)
        exact ⟨p, p2, xs, ys, q.ref e1, rfl, e2, s2, by rw [sizeLine_eq, ← w1.length, ← w2.length]; exact hz, ans_of ⟨x1, r1, rep_none⟩ a⟩
      · exact a.elim
    · exact a.elim
  · exact a.elim
end
end MM

namespace MM
open PySem PySem.Spec PyProof.Rows L2
/-- .. what is walked is a value -/
theorem Trod.lst {K L H} {h : MH} {d v ds p} (r : Rel K L H h) (q : Rep K L H d v) (e : lstD d h = some ds) (ev : v = .ref p) : Trod K L H (Itl K p) ds (fun h' => lstD d h' = some ds) := by
  have at' : ∀ L' H' h', Ext L H L' H' → Rel K L' H' h' → lstD d h' = some ds → ∃ ys, SqL K H' p ys ∧ RepL K L' H' ds ys := fun L' H' h' x r' e' => by
    obtain ⟨p', ys, e1, s, w⟩ := lstD_of r' (q.mono x) e'
    rw [ev] at e1; cases e1
    exact ⟨ys, s, w⟩
  refine ⟨fun L' H' h' i x r' e' hi => ?_, fun L' H' h' x r' e' => ?_, fun L' H' h' i x H'' y r' e' hi hy => ?_⟩
  · obtain ⟨ys, s, w⟩ := at' L' H' h' x r' e'
    obtain ⟨u, e1, _⟩ := w.get (List.getElem?_eq_getElem hi)
    exact ⟨ys, u, s, e1⟩
  · obtain ⟨ys, s, w⟩ := at' L' H' h' x r' e'
    exact ⟨ys, s, by rw [w.length]; exact Nat.le_refl _⟩
  · obtain ⟨ys, s, w⟩ := at' L' H' h' y r' e'
    obtain ⟨rfl, f⟩ := hy
    obtain ⟨c, e1, q1⟩ := w.get' (f ys s)
    exact ⟨Ext.refl _ _, r', c, e1, q1⟩
theorem Trod.tup {K L H} {h : MH} {v ds p} (q : Rep K L H (.tup ds) v) (ev : v = .ref p) (g : MH → Prop) : Trod K L H (Itt K p) ds g := by
  have at' : ∀ L' H', Ext L H L' H' → ∃ ys, SqT K H' p ys ∧ RepL K L' H' ds ys := fun L' H' x => by
    obtain ⟨p', ys, e1, s, w⟩ := tup_of (q.mono x)
    rw [ev] at e1; cases e1
    exact ⟨ys, s, w⟩
  refine ⟨fun L' H' h' i x r' e' hi => ?_, fun L' H' h' x r' e' => ?_, fun L' H' h' i x H'' y r' e' hi hy => ?_⟩
  · obtain ⟨ys, s, w⟩ := at' L' H' x
    obtain ⟨u, e1, _⟩ := w.get (List.getElem?_eq_getElem hi)
    exact ⟨ys, u, s, e1⟩
  · obtain ⟨ys, s, w⟩ := at' L' H' x
    exact ⟨ys, s, by rw [w.length]; exact Nat.le_refl _⟩
  · obtain ⟨ys, s, w⟩ := at' L' H' y
    obtain ⟨rfl, f⟩ := hy
    obtain ⟨c, e1, q1⟩ := w.get' (f ys s)
    exact ⟨Ext.refl _ _, r', c, e1, q1⟩
def charsD (s : Str) : List D := s.cps.toList.map fun c => .str ⟨#[c]⟩
theorem Trod.str {K L H} {s : Str} (g : MH → Prop) : Trod K L H (Its s) (charsD s) g := by
  refine ⟨fun L' H' h' i x r' e' hi => ?_, fun L' H' h' x r' e' => ?_, fun L' H' h' i x H'' y r' e' hi hy => ?_⟩
  · show i < s.cps.size
    simpa [charsD] using hi
  · show s.cps.size ≤ (charsD s).length
    simp [charsD]
  · obtain ⟨rfl, c, e1, rfl⟩ := hy
    refine ⟨Ext.refl _ _, r', .str ⟨#[c]⟩, ?_, rep_str⟩
    unfold charsD
    rw [List.getElem?_map, Array.getElem?_toList, e1]; rfl
def srcG (d : D) (h : MH) : Option Src := match d with
  | .str s => some ⟨charsD s, fun _ => True⟩
  | .tup ds => some ⟨ds, fun _ => True⟩
  | .rol ds => some ⟨ds, fun _ => True⟩
  | d => (lstD d h).map fun ds => ⟨ds, fun h' => lstD d h' = some ds⟩
def srcOf (d : D) (h : MH) : R Src := match srcG d h with
  | some S => .ok S h
  | none => .stuck
def mCallI (f : List D → MH → R Src) (m : MA) : MI := fun δ h => (m δ h).bnd f
def mSrc (m : ME) : MI := fun δ h => (m δ h).bnd srcOf
section
variable {X : Cx} {W : WX} {pos : Pos} {tg a e : Expr} {ma : ME} {es : List Expr} {mas : MA}
theorem Trod.weak {K L H J ds} {g g' : MH → Prop} (t : Trod K L H J ds g) (h : ∀ h, g' h → g h) : Trod K L H J ds g' :=
  ⟨fun L' H' h' i x r e => t.go L' H' h' i x r (h _ e), fun L' H' h' x r e => t.stop L' H' h' x r (h _ e), fun L' H' h' i x H'' y r e => t.yld L' H' h' i x H'' y r (h _ e)⟩
theorem pim_src (ha : PEM X W a ma) : PIM X W tg a (mSrc ma) := by
  refine PI.imp ((pi_list ha).or ((pi_tup ha).or (pi_str ha))) fun σ H R ⟨L, h, δ, r, s, q⟩ => ?_
  unfold mSrc at q
  have build : ∀ (G : VK), (match ma δ h with
      | .ok d h1 => ∀ L' H' v, Ext L H L' H' → Rel X.K L' H' h1 → Rep X.K L' H' d v → G v H'
      | .exc c fs h1 => ∀ L' H' dx xs, Ext L H L' H' → Rel X.K L' H' h1 → H' dx = some (.xd xs) → RepF X.K L' H' fs xs → ∀ ev, EV X.K c ev → W ev (some dx) σ H'
      | .stuck => False) → tE X.K W ma σ H G := fun G g => ⟨L, h, δ, r, s, by
    generalize ma δ h = m at g ⊢
    cases m <;> exact g⟩
  replace q : AnsI X.K W σ L H ((ma δ h).bnd srcOf) R := q
  generalize em : ma δ h = m at q build
  cases m with
  | stuck => exact q.elim
  | exc c fs h1 => exact .inl (build _ q)
  | ok d h1 =>
    have q' : ∀ S, srcOf d h1 = .ok S h1 → ∀ L1 H1 J, Ext L H L1 H1 → Rel X.K L1 H1 h1 → Trod X.K L1 H1 J S.ds S.g → R J H1 := fun S e => by
      rw [MM.R.bnd_ok, e] at q; exact q
    have no : srcOf d h1 = .stuck → False := fun e => by
      rw [MM.R.bnd_ok, e] at q; exact q
    have lst : ∀ ds (S : Src), lstD d h1 = some ds → srcOf d h1 = .ok S h1 → S.ds = ds → (∀ h, S.g h → lstD d h = some ds) → iList X.K (tE X.K W ma) σ H R := fun ds S e1 e2 e3 e4 => build _ fun L' H' v x r' p => by
      obtain ⟨ad, xs, ev, sq, w⟩ := lstD_of r' p e1
      exact ⟨ad, ev, ⟨xs, sq⟩, q' S e2 L' H' _ x r' (by rw [e3]; exact (Trod.lst r' p e1 ev).weak e4)⟩
    cases d with
    | str z => exact .inr (.inr (build _ fun L' H' v x r' p => ⟨z, rep_str_inv p, q' _ rfl L' H' _ x r' (Trod.str _)⟩))
    | tup ds =>
      exact .inr (.inl (build _ fun L' H' v x r' p => by
        obtain ⟨ad, xs, ev, sq, w⟩ := tup_of p
        exact ⟨ad, ev, ⟨xs, sq⟩, q' _ rfl L' H' _ x r' (Trod.tup (h := h1) p ev _)⟩))
    | rol ds => exact .inl (lst ds _ rfl rfl rfl fun _ _ => rfl)
    | ref n =>
      cases e1 : lstD (.ref n) h1 with
      | none => exact (no (by unfold srcOf srcG; simp only [e1]; rfl)).elim
      | some ds => exact .inl (lst ds ⟨ds, fun h' => lstD (.ref n) h' = some ds⟩ e1 (by unfold srcOf srcG; simp only [e1]; rfl) rfl fun _ z => z)
    | non => exact (no rfl).elim
    | bl _ => exact (no rfl).elim
    | int _ => exact (no rfl).elim
    | obj _ => exact (no rfl).elim
    | ty _ => exact (no rfl).elim
    | kon _ => exact (no rfl).elim
    | rdc _ _ => exact (no rfl).elim
    | xo _ _ _ _ => exact (no rfl).elim
theorem tI_args {K : PySem.W.Frag} {f : List D → MH → R Src} {G : List V → Hp → (It → Hp → Prop) → Prop} {mas : MA}
    (hG : ∀ L H h ds vs S (Q : It → Hp → Prop), Rel K L H h → RepL K L H ds vs → f ds h = .ok S h → (∀ J, Trod K L H J S.ds S.g → Q J H) → G vs H Q)
    (hf : ∀ ds h, (∃ S, f ds h = .ok S h) ∨ f ds h = .stuck) {σ : L2.St} {H : Hp} {Q : It → Hp → Prop} (t : tI K W (fun δ h => (mas δ h).bnd f) σ H Q) : tA K W mas σ H fun vs H1 => G vs H1 Q := by
  obtain ⟨L, h, δ, r, s, q⟩ := t
  refine ⟨L, h, δ, r, s, ?_⟩
  replace q : AnsI K W σ L H ((mas δ h).bnd f) Q := q
  generalize mas δ h = m at q ⊢
  cases m with
  | stuck => exact q
  | exc c fs h1 => exact q
  | ok ds h1 =>
    intro L' H' vs x r' w
    rcases hf ds h1 with ⟨S, e⟩ | e
    · rw [MM.R.bnd_ok, e] at q
      exact hG L' H' h1 ds vs S Q r' w e fun J t => q L' H' J x r' t
    · rw [MM.R.bnd_ok, e] at q
      exact q.elim
/-! ### range -/
def fRange1 (ds : List D) (h : MH) : R Src := match ds with
  | [.int n] => if -(2 ^ 62) ≤ n ∧ n < 2 ^ 62 then .ok ⟨(List.range n.toNat).map fun (i : Nat) => .int i, fun _ => True⟩ h else .stuck
  | _ => .stuck
theorem Trod.rng {K L H} {lo : Int} {n : Nat} (g : MH → Prop) : Trod K L H (Itr lo n) ((List.range n).map fun (i : Nat) => .int (lo + i)) g := by
  refine ⟨fun L' H' h' i x r' e' hi => ?_, fun L' H' h' x r' e' => ?_, fun L' H' h' i x H'' y r' e' hi hy => ?_⟩
  · show i < n
    simpa using hi
  · show n ≤ _
    simp
  · obtain ⟨rfl, rfl⟩ := hy
    have hi' : i < n := by simpa using hi
    exact ⟨Ext.refl _ _, r', .int (lo + i), by rw [List.getElem?_map, List.getElem?_range hi']; rfl, rep_int⟩
theorem pim_range1 {p pos : Pos} (hg : Gl X "range") (hm : X.mg "range" = none) (ha : PAM X W [a] mas) (hs : starEach [a] X.env = [(false, eval a X.env)] := by rfl) : PIM X W tg (.Call (.Name "range" p) [a] [] pos) (fun δ h => (mas δ h).bnd fRange1) := by
  refine PI.imp (pi_range1 hg hm ha hs) fun σ H R t => ?_
  refine tI_args (G := fun vs H1 R => ∃ j : Int, vs = [.int j] ∧ -(2 ^ 62) ≤ j ∧ j < 2 ^ 62 ∧ R (Itr 0 j.toNat) H1) (fun L H h ds vs S Q r w e k => ?_) (fun ds h => ?_) t
  · unfold fRange1 at e
    split at e
    · rename_i n
      split at e
      · rename_i z
        cases e
        obtain ⟨v, rfl, q⟩ := w.one
        refine ⟨n, by rw [rep_int_inv q], z.1, z.2, k _ ?_⟩
        have := Trod.rng (K := X.K) (L := L) (H := H) (lo := 0) (n := n.toNat) (fun _ => True)
        simpa using this
      · cases e
    · cases e
  · unfold fRange1
    split
    · split
      · exact .inl ⟨_, rfl⟩
      · exact .inr rfl
    · exact .inr rfl
def fRange2 (ds : List D) (h : MH) : R Src := match ds with
  | [.int i, .int n] => if (-(2 ^ 62) ≤ i ∧ i < 2 ^ 62) ∧ -(2 ^ 62) ≤ n ∧ n < 2 ^ 62 then .ok ⟨(List.range (n - i).toNat).map fun (k : Nat) => .int (i + k), fun _ => True⟩ h else .stuck
  | _ => .stuck
theorem pim_range2 {b : Expr} {p pos : Pos} (hg : Gl X "range") (hm : X.mg "range" = none) (ha : PAM X W [a, b] mas) (hs : starEach [a, b] X.env = [(false, eval a X.env), (false, eval b X.env)] := by rfl) (hs2 : starEach [b] X.env = [(false, eval b X.env)] := by rfl) :
    PIM X W tg (.Call (.Name "range" p) [a, b] [] pos) (fun δ h => (mas δ h).bnd fRange2) := by
  refine PI.imp (pi_range2 hg hm ha hs hs2) fun σ H R t => ?_
  refine tI_args (G := fun vs H1 R => ∃ i j : Int, vs = [.int i, .int j] ∧ (-(2 ^ 62) ≤ i ∧ i < 2 ^ 62 ∧ -(2 ^ 62) ≤ j ∧ j < 2 ^ 62) ∧ R (Itr i (j - i).toNat) H1) (fun L H h ds vs S Q r w e k => ?_) (fun ds h => ?_) t
  · unfold fRange2 at e
    split at e
    · rename_i i n
      split at e
      · rename_i z
        cases e
        obtain ⟨v, u, rfl, q1, q2⟩ := w.two
        exact ⟨i, n, by rw [rep_int_inv q1, rep_int_inv q2], ⟨z.1.1, z.1.2, z.2.1, z.2.2⟩, k _ (Trod.rng _)⟩
      · cases e
    · cases e
  · unfold fRange2
    split
    · split
      · exact .inl ⟨_, rfl⟩
      · exact .inr rfl
    · exact .inr rfl
/-! ### enumerate, zip -/
theorem Trod.pair {K : PySem.W.Frag} {L H} {J : It} {ds es : List D} {g : MH → Prop} {n : Nat} (h1 : ds.length = n) (h2 : es.length = n)
    (go : ∀ L' H' h' (i : Nat), Ext L H L' H' → Rel K L' H' h' → g h' → i < n → J.go i H') (stop : ∀ L' H' h', Ext L H L' H' → Rel K L' H' h' → g h' → J.stop n H')
    (yld : ∀ L' H' h' (i : Nat) v H'', Ext L H L' H' → Rel K L' H' h' → g h' → i < n → J.yld i H' v H'' → ∃ T x y, v = .ref T ∧ H' T = none ∧ H'' = upd H' T (.tup [x, y]) ∧ (∃ d, ds[i]? = some d ∧ Rep K L' H' d x) ∧ ∃ d, es[i]? = some d ∧ Rep K L' H' d y) :
    Trod K L H J (List.zipWith (fun x y => .tup [x, y]) ds es) g := by
  have hl : (List.zipWith (fun x y => D.tup [x, y]) ds es).length = n := by rw [List.length_zipWith, h1, h2, Nat.min_self]
  refine ⟨fun L' H' h' i x r' e' hi => go L' H' h' i x r' e' (by rw [← hl]; exact hi), fun L' H' h' x r' e' => by rw [hl]; exact stop L' H' h' x r' e', fun L' H' h' i x H'' y r' e' hi hy => ?_⟩
  obtain ⟨T, a, b, rfl, hT, rfl, ⟨d, e1, q1⟩, c, e2, q2⟩ := yld L' H' h' i x H'' y r' e' (by rw [← hl]; exact hi) hy
  obtain ⟨x1, r1, q⟩ := rep_tup r' hT (.cons q1 (.cons q2 .nil))
  exact ⟨x1, r1, .tup [d, c], by rw [List.getElem?_zipWith, e1, e2], q⟩
def fEnum (ds : List D) (h : MH) : R Src := match ds with
  | [d] => (match lstD d h with
    | some es => .ok ⟨List.zipWith (fun x y => .tup [x, y]) ((List.range es.length).map fun (i : Nat) => .int i) es, fun h' => lstD d h' = some es⟩ h
    | none => .stuck)
  | _ => .stuck
theorem pim_enum {tpos p pos : Pos} {elts : List Expr} {kk : Nat} (hg : Gl X "enumerate") (hm : X.mg "enumerate" = none) (ha : PAM X W [e] mas) (hs : starEach [e] X.env = [(false, eval e X.env)] := by rfl) :
    PIM X W (.Tuple elts kk tpos) (.Call (.Name "enumerate" p) [e] [] pos) (fun δ h => (mas δ h).bnd fEnum) := by
  refine PI.imp (pi_enum hg hm ha hs) fun σ H R t => ?_
  refine tI_args (G := fun vs H1 R => ∃ a xs, vs = [.ref a] ∧ SqL X.K H1 a xs ∧ R (Ite X.K a) H1) (fun L H h ds vs S Q r w e k => ?_) (fun ds h => ?_) t
  · unfold fEnum at e
    split at e
    · rename_i d
      obtain ⟨v, rfl, q⟩ := w.one
      cases e1 : lstD d h with
      | none => simp only [e1] at e; cases e
      | some es =>
        simp only [e1] at e
        cases e
        obtain ⟨p, xs, rfl, s, w2⟩ := lstD_of r q e1
        refine ⟨p, xs, rfl, s, k _ (Trod.pair (n := es.length) (by simp) rfl (fun L' H' h' i x r' e' hi => ?_) (fun L' H' h' x r' e' => ?_) fun L' H' h' i v H'' x r' e' hi hy => ?_)⟩ <;>
          obtain ⟨p', ys, ep, s', w3⟩ := lstD_of r' (q.mono x) e' <;> cases ep
        · obtain ⟨u, e5, _⟩ := w3.get (List.getElem?_eq_getElem hi)
          exact ⟨ys, u, s', e5⟩
        · exact ⟨ys, s', by rw [w3.length]; exact Nat.le_refl _⟩
        · obtain ⟨T, x, h1, h2, h3, h4⟩ := hy
          obtain ⟨c, e6, q6⟩ := w3.get' (h4 ys s')
          exact ⟨T, _, x, h1, h2, h3, ⟨.int i, by rw [List.getElem?_map, List.getElem?_range hi]; rfl, rep_int⟩, c, e6, q6⟩
    · cases e
  · unfold fEnum
    split
    · split
      · exact .inl ⟨_, rfl⟩
      · exact .inr rfl
    · exact .inr rfl
def fZip (ds : List D) (h : MH) : R Src := match ds with
  | [.tup es, .tup fs] => .ok ⟨List.zipWith (fun x y => .tup [x, y]) (es.take (min es.length fs.length)) (fs.take (min es.length fs.length)), fun _ => True⟩ h
  | [d, c] => (match lstD d h, lstD c h with
    | some es, some fs => .ok ⟨List.zipWith (fun x y => .tup [x, y]) (es.take (min es.length fs.length)) (fs.take (min es.length fs.length)), fun h' => lstD d h' = some es ∧ lstD c h' = some fs⟩ h
    | _, _ => .stuck)
  | _ => .stuck
theorem fZip_two {d c : D} {h : MH} {S : Src} (e : fZip [d, c] h = .ok S h) : (∃ es fs, d = .tup es ∧ c = .tup fs ∧ S = ⟨List.zipWith (fun x y => .tup [x, y]) (es.take (min es.length fs.length)) (fs.take (min es.length fs.length)), fun _ => True⟩) ∨
    ∃ es fs, lstD d h = some es ∧ lstD c h = some fs ∧ S = ⟨List.zipWith (fun x y => .tup [x, y]) (es.take (min es.length fs.length)) (fs.take (min es.length fs.length)), fun h' => lstD d h' = some es ∧ lstD c h' = some fs⟩ := by
  unfold fZip at e
  split at e
  · rename_i es fs z
    cases z; cases e
    exact .inl ⟨_, _, rfl, rfl, rfl⟩
  · rename_i z
    cases z
    split at e
    · rename_i es fs z1 z2
      cases e
      exact .inr ⟨es, fs, z1, z2, rfl⟩
    · cases e
  · cases e
theorem fZip_len {ds : List D} {h : MH} {S : Src} (e : fZip ds h = .ok S h) : ∃ d c, ds = [d, c] := by
  unfold fZip at e
  split at e
  · exact ⟨_, _, rfl⟩
  · exact ⟨_, _, rfl⟩
  · cases e
theorem pim_zip {e2 : Expr} {tpos p pos : Pos} {elts : List Expr} {kk : Nat} (hg : Gl X "zip") (hm : X.mg "zip" = none) (ha : PAM X W [e, e2] mas)
    (hs : starEach [e, e2] X.env = (false, eval e X.env) :: starEach [e2] X.env := by rfl) (hpl : (backTo pos (starEach [e2] X.env)).any (·.1) = false := by rfl) :
    PIM X W (.Tuple elts kk tpos) (.Call (.Name "zip" p) [e, e2] [] pos) (fun δ h => (mas δ h).bnd fZip) := by
  refine PI.imp (RZ.pi_zipA hg hm ha hs hpl) fun σ H R t => ?_
  refine tI_args (G := fun vs H1 R => ∃ a b xs ys, vs = [.ref a, .ref b] ∧ ((SqL X.K H1 a xs ∧ SqL X.K H1 b ys ∧ R (Itz X.K a b) H1) ∨ (SqT X.K H1 a xs ∧ SqT X.K H1 b ys ∧ R (RZ.ItzT X.K a b) H1))) (fun L H h ds vs S Q r w e k => ?_) (fun ds h => ?_) t
  · obtain ⟨d, c, rfl⟩ := fZip_len e
    · obtain ⟨v, u, rfl, q1, q2⟩ := w.two
      rcases fZip_two e with ⟨es, fs, rfl, rfl, rfl⟩ | ⟨es, fs, l1, l2, rfl⟩
      · obtain ⟨p, xs, rfl, s1, w1⟩ := tup_of q1
        obtain ⟨p2, ys, rfl, s2, w2⟩ := tup_of q2
        refine ⟨p, p2, xs, ys, rfl, .inr ⟨s1, s2, k _ (Trod.pair (n := min es.length fs.length) (by rw [List.length_take]; omega) (by rw [List.length_take]; omega) (fun L' H' h' i x r' e' hi => ?_) (fun L' H' h' x r' e' => ?_) fun L' H' h' i v H'' x r' e' hi hy => ?_)⟩⟩ <;>
          obtain ⟨p', xs', ep, t1, v1⟩ := tup_of (q1.mono x) <;> cases ep <;> obtain ⟨p', ys', ep, t2, v2⟩ := tup_of (q2.mono x) <;> cases ep
        · obtain ⟨u1, e5, _⟩ := v1.get (i := i) (List.getElem?_eq_getElem (by omega))
          obtain ⟨u2, e6, _⟩ := v2.get (i := i) (List.getElem?_eq_getElem (by omega))
          exact ⟨xs', ys', u1, u2, t1, t2, e5, e6⟩
        · refine ⟨xs', ys', t1, t2, ?_⟩
          rw [← v1.length, ← v2.length]; omega
        · obtain ⟨T, x, y, h1, h2, h3, h4, h5⟩ := hy
          obtain ⟨c1, f1, g1⟩ := v1.get' (h4 xs' t1)
          obtain ⟨c2, f2, g2⟩ := v2.get' (h5 ys' t2)
          exact ⟨T, x, y, h1, h2, h3, ⟨c1, by rw [List.getElem?_take_of_lt hi]; exact f1, g1⟩, c2, by rw [List.getElem?_take_of_lt hi]; exact f2, g2⟩
      · obtain ⟨p, xs, rfl, s1, w1⟩ := lstD_of r q1 l1
        obtain ⟨p2, ys, rfl, s2, w2⟩ := lstD_of r q2 l2
        refine ⟨p, p2, xs, ys, rfl, .inl ⟨s1, s2, k _ (Trod.pair (n := min es.length fs.length) (by rw [List.length_take]; omega) (by rw [List.length_take]; omega) (fun L' H' h' i x r' e' hi => ?_) (fun L' H' h' x r' e' => ?_) fun L' H' h' i v H'' x r' e' hi hy => ?_)⟩⟩ <;>
          obtain ⟨p', xs', ep, t1, v1⟩ := lstD_of r' (q1.mono x) e'.1 <;> cases ep <;> obtain ⟨p', ys', ep, t2, v2⟩ := lstD_of r' (q2.mono x) e'.2 <;> cases ep
        · obtain ⟨u1, e5, _⟩ := v1.get (i := i) (List.getElem?_eq_getElem (by omega))
          obtain ⟨u2, e6, _⟩ := v2.get (i := i) (List.getElem?_eq_getElem (by omega))
          exact ⟨xs', ys', u1, u2, t1, t2, e5, e6⟩
        · refine ⟨xs', ys', t1, t2, ?_⟩
          rw [← v1.length, ← v2.length]; omega
        · obtain ⟨T, x, y, h1, h2, h3, h4, h5⟩ := hy
          obtain ⟨c1, f1, g1⟩ := v1.get' (h4 xs' t1)
          obtain ⟨c2, f2, g2⟩ := v2.get' (h5 ys' t2)
          exact ⟨T, x, y, h1, h2, h3, ⟨c1, by rw [List.getElem?_take_of_lt hi]; exact f1, g1⟩, c2, by rw [List.getElem?_take_of_lt hi]; exact f2, g2⟩
  · unfold fZip
    split
    · exact .inl ⟨_, rfl⟩
    · split
      · exact .inl ⟨_, rfl⟩
      · exact .inr rfl
    · exact .inr rfl
end
end MM

namespace MM
open PySem PySem.Spec PyProof.Rows L2
/-! ### stores into lists -/
def setG (o i d : D) (h : MH) : Option MH := match o, i with
  | .ref n, .int j => (lst? h n).bind fun ds => (ixN ds.length j).map fun k => h.set n (.lst (ds.set k d))
  | _, _ => none
def mSetIx (m mo mi : ME) : MSt := fun δ h => (m δ h).st δ fun d h1 => (mo δ h1).st δ fun o h2 => (mi δ h2).st δ fun i h3 => match setG o i d h3 with
  | some h4 => .ok (.next δ) h4
  | none => .stuck
theorem setG_ok {K : PySem.W.Frag} {L H} {h h' : MH} {o i d : D} {vo vi v : V} {Q : Hp → Prop} (r : Rel K L H h) (po : Rep K L H o vo) (pi : Rep K L H i vi) (p : Rep K L H d v) (e : setG o i d h = some h')
    (k : ∀ H', Ext L H L H' → Rel K L H' h' → Q H') : rSetL vo vi v H Q := by
  unfold setG at e
  split at e
  · rename_i n j
    obtain ⟨ds, e1, e2⟩ := Option.bind_eq_some_iff.mp e
    obtain ⟨m, e3, rfl⟩ := Option.map_eq_some_iff.mp e2
    obtain ⟨a, xs, z1, z2, w⟩ := r.lst (lst?_at e1)
    obtain ⟨x1, r1⟩ := r.wr z1 z2 (RepL.set p m w)
    exact ⟨a, xs, j, m, po.ref z1, rep_int_inv pi, z2, by rw [← w.length]; exact e3, k _ x1 r1⟩
  · cases e
section
variable {X : Cx} {W : WX} {pos : Pos} {e o i : Expr} {me mo mi : ME}
theorem psm_setIx {tpos : Pos} (he : PEM X W e me) (ho : PEM X W o mo) (hi : PEM X W i mi)
    (ha : ∀ v, assign (.Subscript o i tpos) X.env v = (do
      let ov ← holding [v] (eval o X.env)
      let iv ← holding [v, ov] (eval i X.env)
      standAt tpos
      holding [v, ov, iv] (setItem ov iv v)
      release [v, ov, iv] []) := by intro _; rfl)
    (hs : swapsWithSole [.Subscript o i tpos] e pos.line X.env = pure false := by rfl) (hw : swappedStores [.Subscript o i tpos] e X.env = pure none := by rfl) (h1 : (assignEach [.Subscript o i tpos] X.env).map (·.2) = [assign (.Subscript o i tpos) X.env] := by rfl) :
    PSM X W (.Assign [.Subscript o i tpos] e pos) (mSetIx me mo mi) :=
  PS.imp (ps_asg he (pg_sub ho hi set_list ha) hs hw h1) fun D σ H ⟨L, h, δ, r, s, a⟩ => ⟨L, h, δ, r, s, Ans.imp (AnsS.bind (rp := Rep X.K) s a) fun v H1 ⟨L1, h1, d, x1, r1, p1, s1, a1⟩ =>
    ⟨L1, h1, δ, r1, s1, Ans.imp (AnsS.bind (rp := Rep X.K) s1 a1) fun vo H2 ⟨L2, h2, d2, x2, r2, p2, s2, a2⟩ => ⟨L2, h2, δ, r2, s2, Ans.imp (AnsS.bind (rp := Rep X.K) s2 a2) fun vi H3 ⟨L3, h3, d3, x3, r3, p3, s3, a3⟩ => by
      cases eg : setG d2 d3 d h3 with
      | none => rw [eg] at a3; exact a3.elim
      | some h4 =>
        simp only [eg] at a3
        exact setG_ok r3 (p2.mono x3) p3 (p1.mono (x2.trans x3)) eg fun H' x r' => (a3.mono x).nx r' (s3.mono x)⟩⟩⟩
/-- x op= e -/
def mAug (i : Nat) (f : D → D → MH → R D) (m : ME) : MSt := fun δ h => match δ[i]? with
  | some (some d) => (m δ h).st δ fun y h1 => (f d y h1).st δ fun z h2 => .ok (.next (δ.set i (some z))) h2
  | _ => .stuck
theorem psm_aug {k : Nat} {op : Operator} {r : R2} {f : D → D → MH → R D} {x : Str} {pos' : Pos} (hm : OpM X.K r f) (h : PS X (.AugAssign (.Name x pos') op e pos) (tAug k (tE X.K W me) r)) : PSM X W (.AugAssign (.Name x pos') op e pos) (mAug k f me) := by
  refine PS.imp h fun D σ H ⟨L, h, δ, r0, s, a⟩ => ?_
  unfold mAug at a
  split at a
  · rename_i d ed
    obtain ⟨v, ev, q⟩ := s.at' k d ed
    refine ⟨v, ev, L, h, δ, r0, s, Ans.imp (AnsS.bind (rp := Rep X.K) s a) fun y H1 ⟨L1, h1, d1, x1, r1, p1, s1, a1⟩ => ?_⟩
    refine hm L1 H1 h1 d d1 v y _ _ r1 (q.mono x1) p1 (Ans.imp (AnsS.bind (rp := Rep X.K) s1 a1) fun z H2 ⟨L2, h2, d2, x2, r2, p2, s2, a2⟩ => a2.nx r2 (s2.set p2))
  · exact a.elim
theorem sa (k : Nat) {op : Operator} {r : R2} {f : D → D → MH → R D} {x : Str} {pos' : Pos} (hN : X.N.Nodup) (hp : PIp X op r) (hm : OpM X.K r f) (he : PEM X W e me) (hi : X.N[k]? = some x := by rfl) (hx : Loc X.env.scope x := by first | exact Or.inl rfl | exact Or.inr rfl)
    (hf : X.fn x = true ∨ X.env.scope.names.lookup x = some .local := by first | exact .inl rfl | exact .inr rfl) : PSM X W (.AugAssign (.Name x pos') op e pos) (mAug k f me) := psm_aug hm (ps_aug hN hi hx he hp hf)
/-- xs[i] op= e -/
theorem get_list : PGet X (rIxL X.K) := by
  intro pins s σ H o i ov iv Q I ro ri q
  obtain ⟨p, xs, k, v, rfl, rfl, sq, hk, q⟩ := q
  obtain rfl : ov = .ref p := ro
  obtain ⟨t, rfl⟩ := ri
  obtain ⟨its, rv, pl, hz⟩ := I.list sq
  obtain ⟨j, e1, e2, e3, e4, e5⟩ := atI_get hk
  obtain ⟨u, eu, ru⟩ := rv.get e2
  have hl := rv.length
  have hn := line63
  have done : EP X pins σ Q u s := ⟨v, H, I, ru, q⟩
  by_cases h0 : 0 ≤ k
  · have hj : k.toNat = j := by
      rw [seqIndex_of h0 e5] at e1
      exact Option.some.inj e1
    exact wpAny_getItem_list pl.isList h0 (by omega) (by rw [hj]; simpa using eu) done
  · have hj : (k + (its.toArray.size : Int)).toNat = j := by
      rw [seqIndex_neg (by omega) e4] at e1
      rw [List.size_toArray, ← hl]
      exact Option.some.inj e1
    exact wpAny_getItem_list_neg pl.isList (by omega) (by rw [List.size_toArray]; omega) (by omega) (by rw [hj]; simpa using eu) done
def mAugIx (f : D → D → MH → R D) (mo mi m : ME) : MSt := fun δ h => (mo δ h).st δ fun o h1 => (mi δ h1).st δ fun i h2 => match (match i with | .int k => (lstD o h2).bind fun ds => L2.atI ds k | _ => none) with
  | some d => (m δ h2).st δ fun y h3 => (f d y h3).st δ fun z h4 => (match setG o i z h4 with
    | some h5 => .ok (.next δ) h5
    | none => .stuck)
  | none => .stuck
theorem psm_augIx {op : Operator} {r : R2} {f : D → D → MH → R D} {tpos : Pos} (hp : PIp X op r) (hm : OpM X.K r f) (ho : PEM X W o mo) (hi : PEM X W i mi) (he : PEM X W e me)
    (ha : ∀ ov iv new, augStore i ov iv new = (do holding [new, ov, iv] (setItem ov iv new); release [new, ov, iv] []; pure .next) := by intros; rfl) : PSM X W (.AugAssign (.Subscript o i tpos) op e pos) (mAugIx f mo mi me) := by
  refine PS.imp (ps_augS ho hi get_list he hp set_list ha) fun D σ H ⟨L, h, δ, r0, s, a⟩ => ?_
  refine ⟨L, h, δ, r0, s, Ans.imp (AnsS.bind (rp := Rep X.K) s a) fun vo H1 ⟨L1, h1, d1, x1, r1, p1, s1, a1⟩ => ⟨L1, h1, δ, r1, s1, Ans.imp (AnsS.bind (rp := Rep X.K) s1 a1) fun vi H2 ⟨M2, h2, d2, x2, r2, p2, s2, a2⟩ => ?_⟩⟩
  cases d2 with
  | int k =>
    cases e0 : (lstD d1 h2).bind fun ds => L2.atI ds k with
    | none => simp only [e0] at a2; exact a2.elim
    | some d =>
      simp only [e0] at a2
      obtain ⟨ds, e1, e2⟩ := Option.bind_eq_some_iff.mp e0
      obtain ⟨pa, xs, ev, sq, w⟩ := lstD_of r2 (p1.mono x2) e1
      obtain ⟨v, e3, q⟩ := w.atI e2
      refine ⟨pa, xs, k, v, ev, rep_int_inv p2, sq, e3, M2, h2, δ, r2, s2, Ans.imp (AnsS.bind (rp := Rep X.K) s2 a2) fun y H3 ⟨L3, h3, d3, x3, r3, p3, s3, a3⟩ => ?_⟩
      refine hm L3 H3 h3 d d3 v y _ _ r3 (q.mono x3) p3 (Ans.imp (AnsS.bind (rp := Rep X.K) s3 a3) fun z H4 ⟨L4, h4, d4, x4, r4, p4, s4, a4⟩ => ?_)
      cases eg : setG d1 (.int k) d4 h4 with
      | none => simp only [eg] at a4; exact a4.elim
      | some h5 =>
        simp only [eg] at a4
        exact setG_ok r4 (p1.mono (x2.trans (x3.trans x4))) (p2.mono (x3.trans x4)) p4 eg fun H' x r' => (a4.mono x).nx r' (s4.mono x)
  | _ => exact a2.elim
/-- a list that was made here is changed no more -/
def frz (d : D) (h : MH) : R D := match d with
  | .ref n => (match lst? h n with
    | some ds => .ok (.rol ds) (h.set n .dead)
    | none => .stuck)
  | _ => .stuck
theorem frz_ok {K L H} {h : MH} {d v} {Q : VK} {E : XK} (r : Rel K L H h) (q : Rep K L H d v) (a : Ans K (Rep K) L H (frz d h) Q E) : Q v H := by
  cases d with
  | ref n =>
    unfold frz at a
    cases e : lst? h n with
    | none => simp only [e] at a; exact a.elim
    | some ds =>
      simp only [e] at a
      obtain ⟨p, xs, e1, e2, w⟩ := r.lst (lst?_at e)
      obtain ⟨xk, rk⟩ := r.kill (n := n) (List.getElem?_eq_some_iff.mp (lst?_at e)).1
      rw [q.ref e1]
      refine ans_of ⟨xk, rk, ?_⟩ a
      unfold Rep
      exact ⟨p, xs, rfl, .inl ⟨.inl e2, NL.kill r e1⟩, w.mono xk⟩
  | _ => exact a.elim
def mFrz (m : ME) : ME := fun δ h => (m δ h).bnd frz
theorem pem_frz (he : PEM X W e me) : PEM X W e (mFrz me) :=
  PE.imp he fun σ H Q ⟨L, h, δ, r, s, a⟩ => ⟨L, h, δ, r, s, Ans.imp (Ans.bind (rp := Rep X.K) a) fun v H1 ⟨L1, h1, d, x1, r1, p1, a1⟩ => frz_ok r1 p1 a1⟩
end
/-! ### methods of texts -/
section
variable {K : PySem.W.Frag}
def strsL : List D → Option (List Str)
  | [] => some []
  | .str b :: ds => (strsL ds).map fun bs => b :: bs
  | _ :: _ => none
theorem strsL_ok {L H} : ∀ {ds : List D} {vs bs}, RepL K L H ds vs → strsL ds = some bs → vs = bs.map V.str
  | [], _, _, w, e => by cases e; rw [w.nil_inv]; rfl
  | d :: ds, _, _, w, e => by
    obtain ⟨v, vs, rfl, q, w2⟩ := w.cons_inv
    cases d with
    | str b =>
      obtain ⟨bs, e1, rfl⟩ := Option.map_eq_some_iff.mp e
      rw [rep_str_inv q, strsL_ok w2 e1]; rfl
    | _ => cases e
def fJoin (d : D) (ds : List D) (h : MH) : R D := match d, ds with
  | .str a, [x] => (match (seqG x h).bind strsL with
    | some ys => if (ys.map (·.length)).sum + ys.length * a.length ≤ 16777216 then .ok (.str (Txt.join a ys)) h else .stuck
    | none => .stuck)
  | _, _ => .stuck
def rJoin (K : PySem.W.Frag) : V → List V → Hp → VK → Prop := fun x xs H Q => ∃ a p, ∃ ys : List Str, x = .str a ∧ xs = [.ref p] ∧ (SqL K H p (ys.map V.str) ∨ SqT K H p (ys.map V.str)) ∧
    (ys.map (·.length)).sum + ys.length * a.length ≤ 16777216 ∧ Q (.str (Txt.join a ys)) H
theorem fJoin_ok : MtdM K (rJoin K) fJoin := by
  intro L H h d x ds vs Q E r q w a
  unfold fJoin at a
  split at a
  · rename_i s e
    obtain ⟨v, rfl, qv⟩ := w.one
    cases z : (seqG e h).bind strsL with
    | none => simp only [z] at a; exact a.elim
    | some ys =>
      simp only [z] at a
      split at a
      · rename_i hz
        obtain ⟨es, z1, z2⟩ := Option.bind_eq_some_iff.mp z
        obtain ⟨p, xs, rfl, sq, w2⟩ := seqG_of r qv z1
        rw [strsL_ok w2 z2] at sq
        exact ⟨s, p, ys, rep_str_inv q, rfl, sq, hz, ans_okE r rep_str a⟩
      · exact a.elim
  · exact a.elim
def fRemP (d : D) (ds : List D) (h : MH) : R D := match d, ds with
  | .str a, [.str b] => if a.length ≤ 16777216 then .ok (.str (Txt.removeprefix a b)) h else .stuck
  | _, _ => .stuck
theorem fRemP_ok : MtdM K (fun x xs H Q => ∃ a b, x = .str a ∧ xs = [.str b] ∧ a.length ≤ sizeLine ∧ Q (.str (Txt.removeprefix a b)) H) fRemP := by
  intro L H h d x ds vs Q E r q w a
  unfold fRemP at a
  split at a
  · rename_i s b
    obtain ⟨v, rfl, qv⟩ := w.one
    split at a
    · rename_i hz
      exact ⟨s, b, rep_str_inv q, by rw [rep_str_inv qv], szl hz, ans_okE r rep_str a⟩
    · exact a.elim
  · exact a.elim
end
end MM

/-! constants of the top; dicts that nobody changes -/
namespace MM
open PySem PySem.Spec PyProof.Rows L2
mutual
def kRep (K : PySem.W.Frag) : D → Value → Bool
  | .non, .none => true
  | .bl b, .bool c => b == c
  | .int i, .int j _ => decide (i = j)
  | .str s, .str t _ => decide (s = t)
  | .obj a, .ref b => decide (a = b)
  | .tup ds, .ref a => (match K.lookup a with
    | some ⟨.type c, _, .seq its _, _⟩ => decide (c = "tuple") && (decide (its.size ≤ sizeLine) && kRepL K ds its.toList)
    | _ => false)
  | .rol ds, .ref a => (match K.lookup a with
    | some ⟨.type c, none, .seq its _, _⟩ => decide (c = "list") && (decide (its.size ≤ sizeLine) && kRepL K ds its.toList)
    | _ => false)
  | .kon n, .ref a => (match PySem.W.nsIn K mainGlobals n with
    | some (some (.ref b)) => decide (a = b)
    | _ => false)
  | _, _ => false
def kRepL (K : PySem.W.Frag) : List D → List Value → Bool
  | [], [] => true
  | d :: ds, v :: vs => kRep K d v && kRepL K ds vs
  | _, _ => false
end
section
variable {K : PySem.W.Frag}
theorem andT {a b : Bool} (h : (a && b) = true) : a = true ∧ b = true := by rwa [Bool.and_eq_true] at h
mutual
theorem kRep_ok : ∀ {d : D} {u : Value}, kRep K d u = true → ∃ v, RelV v u ∧ ∀ L H, Rep K L H d v
  | .non, u, h => by
    cases u <;> first | exact ⟨.non, rfl, fun _ _ => by unfold Rep; rfl⟩ | (unfold kRep at h; cases h)
  | .bl b, u, h => by
    cases u with
    | bool c =>
      unfold kRep at h
      rw [beq_iff_eq] at h
      subst h
      exact ⟨.bl b, rfl, fun _ _ => by unfold Rep; rfl⟩
    | _ => unfold kRep at h; cases h
  | .int i, u, h => by
    cases u with
    | int j t =>
      unfold kRep at h
      have := of_decide_eq_true h
      subst this
      exact ⟨.int i, ⟨_, rfl⟩, fun _ _ => by unfold Rep; rfl⟩
    | _ => unfold kRep at h; cases h
  | .str i, u, h => by
    cases u with
    | str j t =>
      unfold kRep at h
      have := of_decide_eq_true h
      subst this
      exact ⟨.str i, ⟨_, rfl⟩, fun _ _ => by unfold Rep; rfl⟩
    | _ => unfold kRep at h; cases h
  | .obj i, u, h => by
    cases u with
    | ref j =>
      unfold kRep at h
      have := of_decide_eq_true h
      subst this
      exact ⟨.ref i, rfl, fun _ _ => by unfold Rep; rfl⟩
    | _ => unfold kRep at h; cases h
  | .kon n, u, h => by
    cases u with
    | ref j =>
      unfold kRep at h
      split at h
      · rename_i b e
        have := of_decide_eq_true h
        subst this
        exact ⟨.ref j, rfl, fun _ _ => by unfold Rep; exact ⟨_, rfl, e⟩⟩
      · cases h
    | _ => unfold kRep at h; cases h
  | .tup ds, u, h => by
    cases u with
    | ref a =>
      unfold kRep at h
      split at h
      · rename_i c dd its n sl e
        obtain ⟨h1, h2⟩ := andT h
        obtain ⟨h2, h3⟩ := andT h2
        have h1 := of_decide_eq_true h1
        subst h1
        obtain ⟨vs, w, r⟩ := kRepL_ok h3
        exact ⟨.ref a, rfl, fun L H => by
          unfold Rep
          exact ⟨a, vs, rfl, .inr ⟨_, its, n, e, rfl, rfl, of_decide_eq_true h2, w⟩, r L H⟩⟩
      · cases h
    | _ => unfold kRep at h; cases h
  | .rol ds, u, h => by
    cases u with
    | ref a =>
      unfold kRep at h
      split at h
      · rename_i c its n sl e
        obtain ⟨h1, h2⟩ := andT h
        obtain ⟨h2, h3⟩ := andT h2
        have h1 := of_decide_eq_true h1
        subst h1
        obtain ⟨vs, w, r⟩ := kRepL_ok h3
        exact ⟨.ref a, rfl, fun L H => by
          unfold Rep
          exact ⟨a, vs, rfl, .inr ⟨_, its, n, e, rfl, rfl, rfl, of_decide_eq_true h2, w⟩, r L H⟩⟩
      · cases h
    | _ => unfold kRep at h; cases h
  | .ref _, _, h => by unfold kRep at h; cases h
  | .ty _, _, h => by unfold kRep at h; cases h
  | .rdc _ _, _, h => by unfold kRep at h; cases h
theorem kRepL_ok : ∀ {ds : List D} {us : List Value}, kRepL K ds us = true → ∃ vs, Vals vs us ∧ ∀ L H, RepL K L H ds vs
  | [], [], _ => ⟨[], .nil, fun _ _ => .nil⟩
  | [], _ :: _, h => by unfold kRepL at h; cases h
  | _ :: _, [], h => by unfold kRepL at h; cases h
  | d :: ds, u :: us, h => by
    unfold kRepL at h
    obtain ⟨h1, h2⟩ := andT h
    obtain ⟨v, r1, q1⟩ := kRep_ok h1
    obtain ⟨vs, r2, q2⟩ := kRepL_ok h2
    exact ⟨v :: vs, .cons r1 r2, fun L H => .cons (q1 L H) (q2 L H)⟩
end
theorem cAt_of {mg : Str → Option Value} {x : Str} {d : D} {u : Value} (e : mg x = some u) (h : kRep K d u = true) : CAt K mg x d := let ⟨v, r, q⟩ := kRep_ok h; ⟨u, v, e, r, q⟩
end
/-! ### a dict of the top, its keys texts -/
def kDic (K : PySem.W.Frag) : List (Str × D) → List DictEntry → Bool
  | [], [] => true
  | p :: r, e :: es => (match e.key with | .str y _ => decide (p.1 = y) | _ => false) && (kRep K p.2 e.val && kDic K r es)
  | _, _ => false
def kvD (kvs : List (Str × D)) (x : Str) : Option D := (kvs.find? fun p => decide (p.1 = x)).map (·.2)
def KAt (K : PySem.W.Frag) (w : World) (mg : Str → Option Value) (c : Str) (kvs : List (Str × D)) : Prop := ∃ a es n, mg c = some (.ref a) ∧ KDict K w a es n ∧ kDic K kvs es.toList = true
theorem kDic_get {K : PySem.W.Frag} {x : Str} : ∀ {kvs : List (Str × D)} {es : List DictEntry}, kDic K kvs es = true → es.any (·.refKey) = false ∧
    match kvD kvs x with
    | some d => ∃ e v, es.find? (·.key.isStr x) = some e ∧ RelV v e.val ∧ ∀ L H, Rep K L H d v
    | none => es.find? (·.key.isStr x) = none
  | [], [], _ => ⟨rfl, rfl⟩
  | [], _ :: _, h => by unfold kDic at h; cases h
  | _ :: _, [], h => by unfold kDic at h; cases h
  | p :: r, e :: es, h => by
    unfold kDic at h
    obtain ⟨h1, h2⟩ := andT h
    obtain ⟨h2, h3⟩ := andT h2
    split at h1
    · rename_i y t ek
      have h1 := of_decide_eq_true h1
      obtain ⟨f1, f2⟩ := kDic_get (x := x) h3
      have rk : e.refKey = false := by unfold DictEntry.refKey; rw [ek]
      refine ⟨by rw [List.any_cons, rk, f1]; rfl, ?_⟩
      have ks : e.key.isStr x = decide (p.1 = x) := by
        rw [ek, h1]
        show decide _ = _
        exact decide_eq_decide.mpr ⟨fun z => z.symm ▸ rfl, fun z => z.symm ▸ rfl⟩
      unfold kvD
      rw [List.find?_cons, List.find?_cons, ks]
      by_cases hx : p.1 = x
      · rw [decide_eq_true hx]
        obtain ⟨v, r1, q1⟩ := kRep_ok h2
        exact ⟨e, v, rfl, r1, q1⟩
      · rw [decide_eq_false hx]
        exact f2
    · cases h1
theorem kat_get {K : PySem.W.Frag} {w : World} {a : Addr} {es : Array DictEntry} {n : Nat} {kvs : List (Str × D)} (D0 : KDict K w a es n) (h : kDic K kvs es.toList = true) (x : Str) :
    match kvD kvs x with
    | some d => ∃ u v, PySem.W.nsIn K a x = some (some u) ∧ RelV v u ∧ ∀ L H, Rep K L H d v
    | none => PySem.W.nsIn K a x = some none := by
  obtain ⟨f1, f2⟩ := kDic_get (x := x) h
  have e : PySem.W.nsIn K a x = match es.toList.find? (·.key.isStr x) with
      | some e => some (some e.val)
      | none => if es.toList.any (·.refKey) then none else some none := by
    unfold PySem.W.nsIn
    rw [D0.at_]; rfl
  cases hk : kvD kvs x with
  | some d =>
    rw [hk] at f2
    obtain ⟨en, v, g1, g2, g3⟩ := f2
    exact ⟨en.val, v, by rw [e, g1], g2, g3⟩
  | none =>
    rw [hk] at f2
    show PySem.W.nsIn K a x = some none
    rw [e, show es.toList.find? (·.key.isStr x) = none from f2, f1]; rfl
section
variable {X : Cx} {W : WX} {pos : Pos} {e f : Expr} {me mf : ME} {c : Str} {kvs : List (Str × D)}
def mKIx (kvs : List (Str × D)) (m : ME) : ME := fun δ h => (m δ h).bnd fun d h1 => match d with
  | .str x => (match kvD kvs x with | some r => .ok r h1 | none => .stuck)
  | _ => .stuck
def mKGet (kvs : List (Str × D)) (m : ME) : ME := fun δ h => (m δ h).bnd fun d h1 => match d with
  | .str x => .ok ((kvD kvs x).getD .non) h1
  | _ => .stuck
def mKGet2 (kvs : List (Str × D)) (m n : ME) : ME := fun δ h => (m δ h).bnd fun d h1 => (n δ h1).bnd fun y h2 => match d with
  | .str x => .ok ((kvD kvs x).getD y) h2
  | _ => .stuck
def mKIn (no : Bool) (kvs : List (Str × D)) (m : ME) : ME := fun δ h => (m δ h).bnd fun d h1 => match d with
  | .str x => .ok (.bl (no != (kvD kvs x).isSome)) h1
  | _ => .stuck
theorem pem_kix {p : Pos} (k : KAt X.K X.w X.mg c kvs) (hg : Gl X c) (ha : PEM X W e me) (hs : PlainIx e) (hd : (c == ("__debug__" : Str)) = false := by decide) : PEM X W (.Subscript (.Name c p) e pos) (mKIx kvs me) := by
  obtain ⟨a, es, n, k1, k2, k3⟩ := k
  refine PE.imp (pe_ix ix_kdict (pe_glob (v := .ref a) hg k1 rfl hd) ha hs) fun σ H Q ⟨L, h, δ, r0, s, t⟩ => ?_
  refine ⟨L, h, δ, r0, s, Ans.imp (Ans.bind (rp := Rep X.K) t) fun v H1 ⟨L1, h1, d, x1, r1, p1, a1⟩ => ?_⟩
  split at a1
  · rename_i x
    have g := kat_get k2 k3 x
    split at a1
    · rename_i r er
      rw [er] at g
      obtain ⟨u, y, g1, g2, g3⟩ := g
      exact ⟨a, x, y, rfl, rep_str_inv p1, ⟨es, n, u, k2.at_, k2.lit, g1, g2⟩, ans_okE r1 (g3 _ _) a1⟩
    · exact a1.elim
  · exact a1.elim
theorem kd_there {pins : List (Addr × Obj)} {σ : L2.St} {H : Hp} {s : Shared} {a : Addr} {es : Array DictEntry} {n : Nat} (D0 : KDict X.K X.w a es n) (I : Inv X pins σ H s) : ∀ b, Value.ref a = .ref b → ∃ ob, s.heap.get? b = some ob ∧ ob.dict = none := fun b q => by
  cases q
  exact ⟨_, I.kIn _ _ D0.at_, rfl⟩
theorem pem_kget {p apos cpos : Pos} (k : KAt X.K X.w X.mg c kvs) (hg : Gl X c) (ha : PEM X W e me) (m : M1 X (.Name c p) "get" apos e cpos) (hd : (c == ("__debug__" : Str)) = false := by decide) :
    PEM X W (.Call (.Attribute (.Name c p) "get" apos) [e] [] cpos) (mKGet kvs me) := by
  obtain ⟨a, es, n, k1, k2, k3⟩ := k
  refine ⟨fun pins s σ H Q I ⟨L, h, δ, r0, sl, t⟩ => ?_⟩
  refine wpAny_Call_method m.base m.few m.line PySem.F.plainAttrs_dict PySem.F.slot_dict_get PySem.F.type_dict_get (thn ((pe_glob (v := .ref a) hg k1 rfl hd).run pins s σ H (fun x H1 => x = .ref a ∧ H1 = H) I ⟨rfl, rfl⟩) fun u s1 ⟨x, H1, I1, rx, ex, eH⟩ => ?_)
  subst ex eH
  obtain rfl : u = Value.ref a := rx
  refine ⟨kd_type k2 I1, kd_there k2 I1, ?_⟩
  rw [m.trees]
  refine Calls.callWith_builtin rfl (Calls.evalArgs_plain (Calls.spliced_cons (thn (ha.run pins s1 σ H1 _ I1 ⟨L, h, δ, r0, sl, Ans.bind (rp := Rep X.K) t⟩) fun iv s2 ⟨y, H2, I2, ry, L1, h1, d, x1, r1, p1, a1⟩ => Calls.spliced_nil ?_)))
  split at a1
  · rename_i x
    have g := kat_get k2 k3 x
    rw [rep_str_inv p1] at ry
    obtain ⟨tk, rfl⟩ := ry
    refine call_meetsIn PySem.F.slot_dict_get (kd_type k2 I2) PySem.F.entry_dict_get (PySem.F.args_dict_get_2 _ _) (meets_dict_get (strKind X.prog X.w) a (strKind_is X.prog X.w x tk) k2.low) ⟨_, PySem.W.mapOf_K (prog := X.prog) I2.kIn k2.at_ k2.lit, ?_⟩
    cases hk : kvD kvs x with
    | some r =>
      rw [hk] at g a1
      obtain ⟨u, y, g1, g2, g3⟩ := g
      rw [PySem.W.find_K k2.at_ g1]
      exact ⟨y, H2, I2.tok _, g2, ans_okE r1 (g3 _ _) a1⟩
    | none =>
      rw [hk] at g a1
      rw [PySem.W.find_K k2.at_ g]
      exact ⟨.non, H2, I2.tok _, rfl, ans_okE r1 (by unfold Rep; rfl) a1⟩
  · exact a1.elim
theorem pem_kget2 {p apos cpos : Pos} (k : KAt X.K X.w X.mg c kvs) (hg : Gl X c) (ha : PEM X W e me) (hf : PEM X W f mf) (m : M2 X (.Name c p) "get" apos e f cpos) (hd : (c == ("__debug__" : Str)) = false := by decide) :
    PEM X W (.Call (.Attribute (.Name c p) "get" apos) [e, f] [] cpos) (mKGet2 kvs me mf) := by
  obtain ⟨a, es, n, k1, k2, k3⟩ := k
  refine ⟨fun pins s σ H Q I ⟨L, h, δ, r0, sl, t⟩ => ?_⟩
  refine wpAny_Call_method m.base m.few m.line PySem.F.plainAttrs_dict PySem.F.slot_dict_get PySem.F.type_dict_get (thn ((pe_glob (v := .ref a) hg k1 rfl hd).run pins s σ H (fun x H1 => x = .ref a ∧ H1 = H) I ⟨rfl, rfl⟩) fun u s1 ⟨x, H1, I1, rx, ex, eH⟩ => ?_)
  subst ex eH
  obtain rfl : u = Value.ref a := rx
  refine ⟨kd_type k2 I1, kd_there k2 I1, ?_⟩
  rw [m.trees]
  refine Calls.callWith_builtin rfl (Calls.evalArgs_plain (Calls.spliced_cons (thn (ha.run pins s1 σ H1 _ I1 ⟨L, h, δ, r0, sl, Ans.bind (rp := Rep X.K) t⟩) fun iv s2 ⟨y, H2, I2, ry, L1, h1, d, x1, r1, p1, a1⟩ =>
    Calls.spliced_cons (thn (hf.run pins s2 σ H2 _ I2 ⟨L1, h1, δ, r1, sl.mono x1, Ans.bind (rp := Rep X.K) a1⟩) fun fv s3 ⟨z, H3, I3, rz, L2, h2, d2, x2, r2, p2, a2⟩ => Calls.spliced_nil ?_))))
  cases d with
  | str x =>
    replace a2 : Ans X.K (Rep X.K) L2 H3 (.ok ((kvD kvs x).getD d2) h2) Q (WE W σ) := a2
    have g := kat_get k2 k3 x
    rw [rep_str_inv p1] at ry
    obtain ⟨tk, rfl⟩ := ry
    refine call_meetsIn PySem.F.slot_dict_get (kd_type k2 I3) PySem.F.entry_dict_get (PySem.F.args_dict_get_3 _ _ _) (meets_dict_get_default (strKind X.prog X.w) a (strKind_is X.prog X.w x tk) k2.low fv) ⟨_, PySem.W.mapOf_K (prog := X.prog) I3.kIn k2.at_ k2.lit, ?_⟩
    cases hk : kvD kvs x with
    | some r =>
      rw [hk] at g a2
      obtain ⟨u, y, g1, g2, g3⟩ := g
      rw [PySem.W.find_K k2.at_ g1]
      exact ⟨y, H3, I3.tok _, g2, ans_okE r2 (g3 _ _) a2⟩
    | none =>
      rw [hk] at g a2
      rw [PySem.W.find_K k2.at_ g]
      exact ⟨z, H3, I3.tok _, rz, ans_okE r2 p2 a2⟩
  | _ => exact a2.elim
theorem op_kin {p : Pos} {a : Addr} {es : Array DictEntry} {n : Nat} {Q : VK} {H : Hp} {σ : L2.St} (k2 : KDict X.K X.w a es n) (k3 : kDic X.K kvs es.toList = true) (no : Bool)
    (t : tE X.K W (mKIn no kvs me) σ H Q) : tOp (fun x y H Q => ∃ (z : Str) (r : Option Value), x = .str z ∧ y = .ref a ∧ PySem.W.nsIn X.K a z = some r ∧ Q (.bl (no != r.isSome)) H) (tE X.K W me) (tC (.ref a)) σ H Q := by
  obtain ⟨L, h, δ, r0, s, t⟩ := t
  refine ⟨L, h, δ, r0, s, Ans.imp (Ans.bind (rp := Rep X.K) t) fun v H1 ⟨L1, h1, d, x1, r1, p1, a1⟩ => ?_⟩
  cases d with
  | str x =>
    replace a1 : Ans X.K (Rep X.K) L1 H1 (.ok (.bl (no != (kvD kvs x).isSome)) h1) Q (WE W σ) := a1
    have g := kat_get k2 k3 x
    cases hk : kvD kvs x with
    | some r =>
      rw [hk] at g a1
      obtain ⟨u, y, g1, g2, g3⟩ := g
      exact ⟨x, _, rep_str_inv p1, rfl, g1, ans_okE r1 rep_bl a1⟩
    | none =>
      rw [hk] at g a1
      exact ⟨x, _, rep_str_inv p1, rfl, g, ans_okE r1 rep_bl a1⟩
  | _ => exact a1.elim
theorem pem_kin {p : Pos} (k : KAt X.K X.w X.mg c kvs) (hg : Gl X c) (ha : PEM X W e me) (hn : behindInMarks .In (.Name c p) = false := by rfl) (hd : (c == ("__debug__" : Str)) = false := by decide) : PEM X W (.Compare e [.In] [.Name c p] pos) (mKIn false kvs me) := by
  obtain ⟨a, es, n, k1, k2, k3⟩ := k
  refine PE.imp (pe_cmpR (op_in_kd k2) ha (pe_glob (v := .ref a) hg k1 rfl hd) hn) fun σ H Q t => ?_
  have := op_kin (p := p) k2 k3 false t
  simp only [Bool.false_bne] at this
  exact this
theorem ptm_kin {p : Pos} (k : KAt X.K X.w X.mg c kvs) (hg : Gl X c) (ha : PEM X W e me) (hn : behindInMarks .In (.Name c p) = false := by rfl) (hd : (c == ("__debug__" : Str)) = false := by decide) : PTM X W (.Compare e [.In] [.Name c p] pos) (mB (mKIn false kvs me)) := by
  obtain ⟨a, es, n, k1, k2, k3⟩ := k
  refine PT.imp (pt_cmpR (op_in_kd k2) ha (pe_glob (v := .ref a) hg k1 rfl hd) hn) fun σ H Q ⟨L, h, δ, r0, s, a⟩ => ?_
  have := op_kin (p := p) (Q := fun x H' => ∃ k, x = .bl k ∧ Q k H') k2 k3 false ⟨L, h, δ, r0, s, Ans.imp (Ans.bind (rp := Rep X.K) a) fun v H1 ⟨L1, h1, d, x1, r1, p1, a1⟩ => ans_isB r1 p1 a1⟩
  simp only [Bool.false_bne] at this
  exact this
theorem pem_knin {p : Pos} (k : KAt X.K X.w X.mg c kvs) (hg : Gl X c) (ha : PEM X W e me) (hn : behindInMarks .NotIn (.Name c p) = false := by rfl) (hd : (c == ("__debug__" : Str)) = false := by decide) : PEM X W (.Compare e [.NotIn] [.Name c p] pos) (mKIn true kvs me) := by
  obtain ⟨a, es, n, k1, k2, k3⟩ := k
  refine PE.imp (pe_cmpR (op_notIn_kd k2) ha (pe_glob (v := .ref a) hg k1 rfl hd) hn) fun σ H Q t => ?_
  have := op_kin (p := p) k2 k3 true t
  simp only [Bool.true_bne] at this
  exact this
theorem ptm_knin {p : Pos} (k : KAt X.K X.w X.mg c kvs) (hg : Gl X c) (ha : PEM X W e me) (hn : behindInMarks .NotIn (.Name c p) = false := by rfl) (hd : (c == ("__debug__" : Str)) = false := by decide) : PTM X W (.Compare e [.NotIn] [.Name c p] pos) (mB (mKIn true kvs me)) := by
  obtain ⟨a, es, n, k1, k2, k3⟩ := k
  refine PT.imp (pt_cmpR (op_notIn_kd k2) ha (pe_glob (v := .ref a) hg k1 rfl hd) hn) fun σ H Q ⟨L, h, δ, r0, s, a⟩ => ?_
  have := op_kin (p := p) (Q := fun x H' => ∃ k, x = .bl k ∧ Q k H') k2 k3 true ⟨L, h, δ, r0, s, Ans.imp (Ans.bind (rp := Rep X.K) a) fun v H1 ⟨L1, h1, d, x1, r1, p1, a1⟩ => ans_isB r1 p1 a1⟩
  simp only [Bool.true_bne] at this
  exact this
end
/-! ### a dict that is at hand: get -/
section
variable {X : Cx} {W : WX} {pos : Pos} {o e f : Expr} {mo me mf : ME}
def mDGet (mo me : ME) : ME := fun δ h => (mo δ h).bnd fun d h1 => if isTy "dict" d h1 = true then (me δ h1).bnd fun y h2 => match dG d y h2 with
  | some r => .ok (r.getD .non) h2
  | none => .stuck else .stuck
end
/-! ### displays -/
abbrev MPr := MS → MH → R (List (D × D))
def RepP (K : PySem.W.Frag) (L : TL) (H : Hp) (ps : List (D × D)) (qs : List (V × V)) : Prop := RepL K L H (ps.map (·.1)) (qs.map (·.1)) ∧ RepL K L H (ps.map (·.2)) (qs.map (·.2))
def mPrNil : MPr := fun _ h => .ok [] h
def mPrCons (mk mv : ME) (mr : MPr) : MPr := fun δ h => (mk δ h).bnd fun k h1 => (mv δ h1).bnd fun v h2 => (mr δ h2).bnd fun ps h3 => .ok ((k, v) :: ps) h3
def PPM (X : Cx) (W : WX) (pos : Pos) (keys : List (Option Expr)) (values : List Expr) (m : MPr) : Prop := ∃ trs, PPs X pos keys values trs ∧ ∀ (σ : L2.St) (H : Hp) (Q : List (V × V) → Hp → Prop),
  (∃ L h δ, Rel X.K L H h ∧ RepS X.K L H δ σ ∧ Ans X.K (RepP X.K) L H (m δ h) Q (WE W σ)) → tPairs trs σ H Q
section
variable {X : Cx} {W : WX} {pos : Pos} {k v : Expr} {ks : List (Option Expr)} {vs : List Expr} {mk' mv' : ME} {mr : MPr}
theorem ppm_nil : PPM X W pos [] [] mPrNil := ⟨[], pps_nil, fun σ H Q ⟨L, h, δ, r, s, a⟩ => a L H [] (Ext.refl _ _) r ⟨.nil, .nil⟩⟩
theorem ppm_cons (hk : PEM X W k mk') (hv : PEM X W v mv') (hr : PPM X W pos ks vs mr) : PPM X W pos (some k :: ks) (v :: vs) (mPrCons mk' mv' mr) := by
  obtain ⟨trs, p, f⟩ := hr
  refine ⟨_, pps_cons hk hv p, fun σ H Q ⟨L, h, δ, r, s, a⟩ => ?_⟩
  refine ⟨L, h, δ, r, s, Ans.imp (Ans.bind (rp := Rep X.K) a) fun x H1 ⟨L1, h1, d, x1, r1, p1, a1⟩ => ⟨L1, h1, δ, r1, s.mono x1, Ans.imp (Ans.bind (rp := Rep X.K) a1) fun y H2 ⟨L2, h2, d2, x2, r2, p2, a2⟩ =>
    f σ H2 _ ⟨L2, h2, δ, r2, (s.mono x1).mono x2, Ans.imp (Ans.bind (rp := RepP X.K) a2) fun ps H3 ⟨L3, h3, ds, x3, r3, p3, a3⟩ => ?_⟩⟩⟩
  exact a3 L3 H3 ((x, y) :: ps) (Ext.refl _ _) r3 ⟨.cons ((p1.mono x2).mono x3) p3.1, .cons (p2.mono x3) p3.2⟩
end
section
variable {K : PySem.W.Frag} {L : TL} {H : Hp} {p : Addr} {u : HO}
theorem ne_cell {a : Addr} {v w : HO} (e : H p = some w) (r : Rd H a v) (h : w ≠ v) (h2 : ∀ o, w ≠ .frz o v) : a ≠ p := fun z => by
  subst z
  rcases r with r | ⟨o, r⟩
  · rw [e] at r; exact h (Option.some.inj r)
  · rw [e] at r; exact h2 o (Option.some.inj r)
theorem rd_ne {a : Addr} {v : HO} (r : Rd H a v) (n : a ≠ p) : Rd (upd H p u) a v := by
  rcases r with r | ⟨o, r⟩
  · exact .inl (by rw [upd_ne n]; exact r)
  · exact .inr ⟨o, by rw [upd_ne n]; exact r⟩
mutual
theorem Rep.fill (e : H p = some (.dK [])) : ∀ {d : D} {v : V}, Rep K L H d v → Rep K L (upd H p u) d v
  | .non, _, r => by unfold Rep at r ⊢; exact r
  | .bl _, _, r => by unfold Rep at r ⊢; exact r
  | .int _, _, r => by unfold Rep at r ⊢; exact r
  | .str _, _, r => by unfold Rep at r ⊢; exact r
  | .obj _, _, r => by unfold Rep at r ⊢; exact r
  | .ty _, _, r => by unfold Rep at r ⊢; exact r
  | .kon _, _, r => by unfold Rep at r ⊢; exact r
  | .ref _, _, r => by unfold Rep at r ⊢; exact r
  | .rdc ks ds, _, r => by
    unfold Rep at r ⊢
    obtain ⟨a, xs, e1, s, n, l, q⟩ := r
    have na : a ≠ p := ne_cell e s (fun z => by
      have z : ([] : List (Key × V)) = ks.zip xs := by injection z
      have := congrArg List.length z
      rw [List.length_zip, ← q.length, ← l.1] at this
      exact l.2 (List.eq_nil_of_length_eq_zero (by simpa using this.symm))) (fun o z => by cases z)
    exact ⟨a, xs, e1, rd_ne s na, n, l, RepL.fill e q⟩
  | .xo a d fl ds, _, r => by
    unfold Rep at r ⊢
    obtain ⟨e1, xs, s, n, l, q⟩ := r
    have na : d ≠ p := ne_cell e s (fun z => by cases z) (fun o z => by cases z)
    exact ⟨e1, xs, rd_ne s na, n, l, RepL.fill e q⟩
  | .tup ds, _, r => by
    unfold Rep at r ⊢
    obtain ⟨a, xs, e1, s, q⟩ := r
    refine ⟨a, xs, e1, ?_, RepL.fill e q⟩
    rcases s with ⟨s, n⟩ | s
    · exact .inl ⟨rd_ne s (ne_cell e s (fun z => by cases z) (fun o z => by cases z)), n⟩
    · exact .inr s
  | .rol ds, _, r => by
    unfold Rep at r ⊢
    obtain ⟨a, xs, e1, s, q⟩ := r
    refine ⟨a, xs, e1, ?_, RepL.fill e q⟩
    rcases s with ⟨s, n⟩ | s
    · exact .inl ⟨rd_ne s (ne_cell e s (fun z => by cases z) (fun o z => by cases z)), n⟩
    · exact .inr s
theorem RepL.fill (e : H p = some (.dK [])) : ∀ {ds : List D} {vs : List V}, RepL K L H ds vs → RepL K L (upd H p u) ds vs
  | [], _, r => by rw [r.nil_inv]; exact .nil
  | d :: ds, _, r => by
    obtain ⟨v, vs, rfl, q, w⟩ := r.cons_inv
    exact .cons (Rep.fill e q) (RepL.fill e w)
end
theorem RepK.fill (e : H p = some (.dK [])) : ∀ {ds : List (Key × D)} {vs}, RepK K L H ds vs → RepK K L (upd H p u) ds vs
  | [], _, r => r
  | d :: ds, _, ⟨v, vs, e1, q, w⟩ => ⟨v, vs, e1, q.fill e, RepK.fill e w⟩
theorem RepF.fill (e : H p = some (.dK [])) : ∀ {ds : List (Str × D)} {vs}, RepF K L H ds vs → RepF K L (upd H p u) ds vs
  | [], _, r => r
  | d :: ds, _, ⟨v, vs, e1, q, w⟩ => ⟨v, vs, e1, q.fill e, RepF.fill e w⟩
/-- an empty dict that nobody here knows is filled -/
theorem Rel.fill {h : MH} (r : Rel K L H h) (e : H p = some (.dK [])) (n : NL L p) : Rel K L (upd H p u) h := by
  refine ⟨r.len, fun i o ei => ?_, r.inj⟩
  have q := r.at' i o ei
  have ne : ∀ b, L[i]? = some (some b) → upd H p u b = H b := fun b eb => upd_ne fun z => n i (by rw [← z]; exact eb)
  cases o with
  | dead => exact q
  | lst ds => obtain ⟨b, xs, e1, e2, w⟩ := q; exact ⟨b, xs, e1, (ne b e1).trans e2, w.fill e⟩
  | dic ds => obtain ⟨b, xs, e1, e2, w⟩ := q; exact ⟨b, xs, e1, (ne b e1).trans e2, w.fill e⟩
  | ldc ds => obtain ⟨b, o, xs, e1, e2, w⟩ := q; exact ⟨b, o, xs, e1, (ne b e1).trans e2, w.fill e⟩
  | ins C ds => obtain ⟨b, dx, Ca, xs, e1, e2, w, hC⟩ := q; exact ⟨b, dx, Ca, xs, e1, (ne b e1).trans e2, w.fill e, hC⟩
end
def keysD : List D → Option (List Key)
  | [] => some []
  | d :: ds => (keyD d).bind fun k => (keysD ds).map fun ks => k :: ks
theorem keysD_ok {K : PySem.W.Frag} {L H} : ∀ {ds : List D} {vs : List V} {ks : List Key}, RepL K L H ds vs → keysD ds = some ks → vs = ks.map kV
  | [], _, _, w, e => by cases e; rw [w.nil_inv]; rfl
  | d :: ds, _, _, w, e => by
    obtain ⟨v, vs, rfl, q, w⟩ := w.cons_inv
    obtain ⟨k, e1, e2⟩ := Option.bind_eq_some_iff.mp e
    obtain ⟨ks, e3, rfl⟩ := Option.map_eq_some_iff.mp e2
    rw [keyD_ok q e1, keysD_ok w e3]; rfl
theorem mergeK_nd : ∀ (more acc : List (Key × V)), ((acc ++ more).map (·.1)).Nodup → mergeK acc more = acc ++ more
  | [], acc, _ => (List.append_nil acc).symm
  | p :: r, acc, h => by
    have hn : valV acc p.1 = none := by
      unfold valV
      rw [List.find?_eq_none.mpr fun q hq => ?_]
      · rfl
      · intro z
        have z := of_decide_eq_true z
        rw [List.map_append, List.nodup_append] at h
        exact h.2.2 q.1 (List.mem_map.mpr ⟨q, hq, rfl⟩) p.1 (List.mem_map.mpr ⟨p, by simp, rfl⟩) z
    show mergeK (putK acc p.1 p.2) r = _
    rw [putK_new p.2 hn, mergeK_nd r (acc ++ [p]) (by simpa using h)]
    simp
/-- {k: v, ..}: nobody changes it -/
def mDisp (m : MPr) : ME := fun δ h => (m δ h).bnd fun ps h1 => match keysD (ps.map (·.1)) with
  | some ks => if ks.Nodup ∧ ks ≠ [] ∧ ks.length ≤ 15 then .ok (.rdc ks (ps.map (·.2))) h1 else .stuck
  | none => .stuck
theorem zip_fst_snd : ∀ (qs : List (V × V)) (ks : List Key), qs.map (·.1) = ks.map kV → qs = (ks.zip (qs.map (·.2))).map fun kv => (kV kv.1, kv.2)
  | [], [], _ => rfl
  | [], _ :: _, e => by simp at e
  | _ :: _, [], e => by simp at e
  | q :: qs, k :: ks, e => by
    have e1 : q.1 = kV k := (List.cons.inj e).1
    have e2 := zip_fst_snd qs ks (List.cons.inj e).2
    show q :: qs = (kV k, q.2) :: (ks.zip (qs.map (·.2))).map fun kv => (kV kv.1, kv.2)
    rw [← e1, ← e2]
theorem pem_disp {X : Cx} {W : WX} {pos : Pos} {keys : List (Option Expr)} {values : List Expr} {m : MPr} (h : PPM X W pos keys values m) (hall : keys.all (·.isSome) = true) (hl : keys.length = values.length) (h0 : keys ≠ [])
    (h15 : keys.length ≤ 15) : PEM X W (.Dict keys values pos) (mDisp m) := by
  obtain ⟨trs, pp, f⟩ := h
  refine PE.imp (pe_disp pp hall hl h0 h15) fun σ H Q ⟨L, h, δ, r, s, a⟩ p hp => ?_
  obtain ⟨x0, r0⟩ := r.fresh (o := .dK []) hp
  have n0 : NL L p := r.nl_new hp
  refine f σ (upd H p (.dK [])) _ ⟨L, h, δ, r0, s.mono x0, ?_⟩
  have key : ∀ L2 H2 h2 ds (qs : List (V × V)), Ext L (upd H p (.dK [])) L2 H2 → Rel X.K L2 H2 h2 → RepP X.K L2 H2 ds qs → Ans X.K (Rep X.K) L H (match keysD (ds.map (·.1)) with
      | some ks => if ks.Nodup ∧ ks ≠ [] ∧ ks.length ≤ 15 then R.ok (.rdc ks (ds.map (·.2))) h2 else .stuck
      | none => .stuck) Q (WE W σ) → H2 p = some (.dK []) ∧ ∃ kvs : List (Key × V), qs = kvs.map (fun kv => (kV kv.1, kv.2)) ∧ kvs.length ≤ 15 ∧ Q (.ref p) (upd H2 p (.dK (mergeK [] kvs))) := by
    intro L2 H2 h2 ds qs x2 r2 p2 a2
    obtain ⟨e2, n2⟩ := x2.kept p _ upd_same n0
    split at a2
    · rename_i ks ek
      split at a2
      · rename_i z
        have e3 := keysD_ok p2.1 ek
        have e4 := zip_fst_snd qs ks e3
        have lk : ks.length = qs.length := by
          have := congrArg List.length e3
          simpa using this.symm
        have kz : (ks.zip (qs.map (·.2))).map (·.1) = ks := by
          rw [List.map_fst_zip]
          rw [List.length_map]; omega
        refine ⟨e2, ks.zip (qs.map (·.2)), e4, by rw [List.length_zip, List.length_map]; omega, ?_⟩
        rw [mergeK_nd _ [] (by rw [List.nil_append, kz]; exact z.1), List.nil_append]
        refine a2 L2 _ _ ⟨fun n o e => x2.live n o e, fun b o e nb => ?_, fun b o u e => by rw [upd_ne (ne_of_none e hp)]; exact x2.lkd b o u (by rw [upd_ne (ne_of_none e hp)]; exact e)⟩ (r2.fill e2 n2) ?_
        · have nbp : b ≠ p := ne_of_none e hp
          obtain ⟨g1, g2⟩ := x2.kept b o (by rw [upd_ne nbp]; exact e) nb
          exact ⟨by rw [upd_ne nbp]; exact g1, g2⟩
        · unfold Rep
          refine ⟨p, qs.map (·.2), rfl, .inl upd_same, n2, ⟨?_, z.2.1⟩, RepL.fill e2 p2.2⟩
          have := p2.2.length
          rw [List.length_map, List.length_map] at this
          rw [List.length_map]; omega
      · exact a2.elim
    · exact a2.elim
  cases hm : m δ h with
  | ok ps h1 =>
    have a' := a
    unfold mDisp at a'
    rw [hm, R.bnd_ok] at a'
    exact fun L2 H2 qs x2 r2 p2 => key L2 H2 h1 ps qs x2 r2 p2 a'
  | exc c fs h1 =>
    have a' := a
    unfold mDisp at a'
    rw [hm] at a'
    exact fun L2 H2 dx xs x2 => a' L2 H2 dx xs (x0.trans x2)
  | stuck =>
    unfold mDisp at a
    rw [hm] at a
    exact a.elim
/-! ### isinstance(e, (A, B)) -/
def mIsi2 (a b : String) (m : ME) : ME := fun δ h => (m δ h).bnd fun d h1 => match (tyName d h1).bind fun t => (isTyB t a).bind fun x => (isTyB t b).map fun y => x || y with
  | some k => .ok (.bl k) h1
  | none => .stuck
theorem kit_any2 {K : PySem.W.Frag} {t a b : String} {x y : Bool} (h1 : isTyB t a = some x) (h2 : isTyB t b = some y) (na : a ≠ "NoneType") (nb : b ≠ "NoneType") : PySem.W.kitAny K (.type t) [.type a, .type b] = some (x || y) := by
  refine kitAny_cons (kit_ty (isTyB_ok h1 na)) (fun z => ?_) (fun z => by rw [z]; rfl)
  rw [z, Bool.false_or]
  exact kitAny_cons (kit_ty (isTyB_ok h2 nb)) (fun z => by rw [z]; exact kitAny_nil) (fun z => z)
theorem pem_isi2 {X : Cx} {W : WX} {pos p p1 p2 tp : Pos} {k : Nat} {e : Expr} {me : ME} (a b : String) {xa xb : Str} (he : PEM X W e me) (hg : Gl X "isinstance") (hm : X.mg "isinstance" = none) (ga : Gl X xa) (ma : X.mg xa = none) (va : bootBuiltins xa = some (.type a)) (gb : Gl X xb) (mb : X.mg xb = none) (vb : bootBuiltins xb = some (.type b))
    (na : a ≠ "NoneType" := by decide) (nb : b ≠ "NoneType" := by decide) (hv : bootBuiltins "isinstance" = some (.builtin "isinstance") := by decide +kernel) (n1 : xa ≠ "__name__" := by decide) (n2 : xb ≠ "__name__" := by decide) (d1 : (xa == ("__debug__" : Str)) = false := by decide) (d2 : (xb == ("__debug__" : Str)) = false := by decide)
    (hs : starEach (e :: [.Tuple [.Name xa p1, .Name xb p2] k tp]) X.env = (false, eval e X.env) :: starEach [.Tuple [.Name xa p1, .Name xb p2] k tp] X.env := by rfl)
    (hpl : (backTo pos (starEach [.Tuple [.Name xa p1, .Name xb p2] k tp] X.env)).any (·.1) = false := by rfl) : PEM X W (.Call (.Name "isinstance" p) [e, .Tuple [.Name xa p1, .Name xb p2] k tp] [] pos) (mIsi2 a b me) := by
  have tu : PE X (.Tuple [.Name xa p1, .Name xb p2] k tp) _ := pe_tup (pa_cons (pe_bltn ga ma va (v := .ty a) rfl n1 d1) (pa_cons (pe_bltn gb mb vb (v := .ty b) rfl n2 d2) pa_nil))
  refine PE.imp (pe_callB call_isiT hg hm hv (pa_cons he (pa_cons tu pa_nil) hs) (by decide) (by decide) hs hpl) fun σ H Q ⟨L, h, δ, r0, s, t⟩ => ?_
  refine ⟨L, h, δ, r0, s, Ans.imp (Ans.bind (rp := Rep X.K) t) fun v H1 ⟨L1, h1, d, x1, r1, q1, a1⟩ => ⟨by rw [sizeLine_eq]; show 2 ≤ 16777216; decide, fun tp hp => ?_⟩⟩
  obtain ⟨xx, rr⟩ := r1.fresh (o := .tup [.ty a, .ty b]) hp
  split at a1
  · rename_i kk ek
    obtain ⟨tn, e1, e2⟩ := Option.bind_eq_some_iff.mp ek
    obtain ⟨x, e3, e4⟩ := Option.bind_eq_some_iff.mp e2
    obtain ⟨y, e5, rfl⟩ := Option.map_eq_some_iff.mp e4
    exact ⟨v, tp, [.ty a, .ty b], .type tn, [.type a, .type b], _, rfl, upd_same, .cons (.ty a) (.cons (.ty b) .nil), tyName_of rr (q1.mono xx) e1, kit_any2 e3 e5 na nb, a1 L1 _ _ xx rr rep_bl⟩
  · exact a1.elim
/-! ### methods of texts -/
section
variable {K : PySem.W.Frag}
def fUpper (d : D) (ds : List D) (h : MH) : R D := match d, ds with
  | .str a, [] => if a.length ≤ 5592405 then .ok (.str (Txt.upper a)) h else .stuck
  | _, _ => .stuck
theorem fUpper_ok : MtdM K (fun x xs H Q => ∃ a, x = .str a ∧ xs = [] ∧ a.length ≤ 5592405 ∧ Q (.str (Txt.upper a)) H) fUpper := by
  intro L H h d x ds vs Q E r q w a
  unfold fUpper at a
  split at a
  · rename_i s
    split at a
    · rename_i hz
      exact ⟨s, rep_str_inv q, w.nil_inv, hz, ans_okE r rep_str a⟩
    · exact a.elim
  · exact a.elim
theorem repL_strs {L H} : ∀ ys : List Str, RepL K L H (ys.map D.str) (ys.map V.str)
  | [] => .nil
  | y :: ys => .cons rep_str (repL_strs ys)
def fSplit (d : D) (ds : List D) (h : MH) : R D := match d, ds with
  | .str a, [.str b] => if (b.length == 0) = false ∧ a.length + 2 ≤ 16777216 then .ok (.rol ((Txt.split a b).map D.str)) h else .stuck
  | _, _ => .stuck
theorem fSplit_ok : MtdM K (fun x xs H Q => ∃ a b, x = .str a ∧ xs = [.str b] ∧ (b.length == 0) = false ∧ a.length + 2 ≤ sizeLine ∧ rNewStrs (Txt.split a b) H Q) fSplit := by
  intro L H h d x ds vs Q E r q w a
  unfold fSplit at a
  split at a
  · rename_i s b
    obtain ⟨v, rfl, qv⟩ := w.one
    split at a
    · rename_i hz
      exact ⟨s, b, rep_str_inv q, by rw [rep_str_inv qv], hz.1, szl hz.2, fun p hp => ans_of (rep_rol r hp (repL_strs _)) a⟩
    · exact a.elim
  · exact a.elim
end
end MM

/-! what the plain functions give, step by step -/
namespace MM
open PySem PySem.Spec PyProof.Rows L2
section
variable {δ : MS} {h h' : MH} {m a b c : ME} {ms : MA} {t u : MT} {f g : D → D → MH → R D}
@[simp] theorem mVar_eq {i : Nat} {d : D} (e : δ[i]? = some (some d)) : mVar i δ h = .ok d h := by unfold mVar; rw [e]
@[simp] theorem mC_eq {d : D} : mC d δ h = .ok d h := rfl
@[simp] theorem mOp_eq : mOp f a b δ h = (a δ h).bnd fun x h1 => (b δ h1).bnd fun y h2 => f x y h2 := rfl
@[simp] theorem mUn_eq {f : D → MH → R D} : mUn f a δ h = (a δ h).bnd fun x h1 => f x h1 := rfl
@[simp] theorem mNil_eq : mNil δ h = .ok [] h := rfl
@[simp] theorem mCons_eq : mCons m ms δ h = (m δ h).bnd fun d h1 => (ms δ h1).bnd fun ds h2 => .ok (d :: ds) h2 := rfl
@[simp] theorem mCall_eq {f : List D → MH → R D} : mCall f ms δ h = (ms δ h).bnd f := rfl
@[simp] theorem mTup_eq : mTup ms δ h = (ms δ h).bnd fun ds h1 => if ds.length ≤ 16777216 then .ok (.tup ds) h1 else .stuck := rfl
@[simp] theorem mLst_eq : mLst ms δ h = (ms δ h).bnd fun ds h1 => if ds.length ≤ 16777216 then .ok (.rol ds) h1 else .stuck := rfl
@[simp] theorem mLstN_eq : mLstN ms δ h = (ms δ h).bnd fun ds h1 => if ds.length ≤ 16777216 then .ok (.ref h1.length) (h1 ++ [.lst ds]) else .stuck := rfl
@[simp] theorem mIf_eq : mIf t a b δ h = (t δ h).bnd fun c h1 => if c then a δ h1 else b δ h1 := rfl
@[simp] theorem mB_eq : mB m δ h = (m δ h).bnd isB := rfl
@[simp] theorem isB_eq {k : Bool} : isB (.bl k) h = .ok k h := rfl
@[simp] theorem mTru_eq : mTru m δ h = (m δ h).bnd truD := rfl
@[simp] theorem mNot_eq : mNot t δ h = (t δ h).bnd fun b h1 => .ok (!b) h1 := rfl
@[simp] theorem mAnd_eq : mAnd t u δ h = (t δ h).bnd fun b h1 => if b then u δ h1 else .ok false h1 := rfl
@[simp] theorem mOr_eq : mOr t u δ h = (t δ h).bnd fun b h1 => if b then .ok true h1 else u δ h1 := rfl
@[simp] theorem mAndV_eq : mAndV a b δ h = (a δ h).bnd fun x h1 => (isB x h1).bnd fun k h2 => if k then b δ h2 else .ok (.bl false) h2 := rfl
@[simp] theorem mOrV_eq : mOrV a b δ h = (a δ h).bnd fun x h1 => (isB x h1).bnd fun k h2 => if k then .ok (.bl true) h2 else b δ h2 := rfl
@[simp] theorem mNotV_eq : mNotV a δ h = (a δ h).bnd fun x h1 => (isB x h1).bnd fun k h2 => .ok (.bl (!k)) h2 := rfl
@[simp] theorem mChain_eq : mChain f g a b c δ h = (a δ h).bnd fun x h1 => (b δ h1).bnd fun y h2 => (f x y h2).bnd fun z h3 => (isB z h3).bnd fun k h4 => if k then (c δ h4).bnd fun w h5 => g y w h5 else .ok (.bl false) h4 := rfl
@[simp] theorem mNoP_eq : mNoP δ h = .ok none h := rfl
@[simp] theorem mPart_eq {i : Int} (e : m δ h = .ok (.int i) h') : mPart m δ h = .ok (some i) h' := by unfold mPart; rw [e]; rfl
@[simp] theorem mPart_C {i : Int} : mPart (mC (.int i)) δ h = .ok (some i) h := rfl
@[simp] theorem mPart_V {k : Nat} {i : Int} (e : δ[k]? = some (some (.int i))) : mPart (mVar k) δ h = .ok (some i) h := by
  unfold mPart
  rw [mVar_eq e]; rfl
@[simp] theorem mSl_eq {f : D → Option Int → Option Int → MH → R D} {lo hi : MOp} : mSl f m lo hi δ h = (m δ h).bnd fun d h1 => (lo δ h1).bnd fun l h2 => (hi δ h2).bnd fun u h3 => f d l u h3 := rfl
@[simp] theorem mMtd_eq {T : String} {f : D → List D → MH → R D} : mMtd T f m ms δ h = (m δ h).bnd fun d h1 => if isTy T d h1 = true then (ms δ h1).bnd fun ds h2 => f d ds h2 else .stuck := rfl
@[simp] theorem mFrz_eq : mFrz m δ h = (m δ h).bnd frz := rfl
/-! statements -/
variable {A B : MSt}
@[simp] theorem mSet_eq {i : Nat} : mSet i m δ h = (m δ h).st δ fun d h1 => .ok (.next (δ.set i (some d))) h1 := rfl
@[simp] theorem mAsg_eq {g : MG} : mAsg m g δ h = (m δ h).st δ fun d h1 => match g d δ with | some δ' => .ok (.next δ') h1 | none => .stuck := rfl
@[simp] theorem mRet_eq : mRet m δ h = (m δ h).st δ fun d h1 => .ok (.ret d) h1 := rfl
@[simp] theorem mDrop_eq : mDrop m δ h = (m δ h).st δ fun _ h1 => .ok (.next δ) h1 := rfl
@[simp] theorem mIfS_eq : mIfS t A B δ h = (t δ h).st δ fun c h1 => if c then A δ h1 else B δ h1 := rfl
@[simp] theorem mSeq_eq : mSeq A B δ h = (A δ h).seq B := rfl
@[simp] theorem mNext_eq : mNext δ h = .ok (.next δ) h := rfl
@[simp] theorem mBrk_eq : mBrk δ h = .ok (.brk δ) h := rfl
@[simp] theorem mCont_eq : mCont δ h = .ok (.cont δ) h := rfl
@[simp] theorem mSetIx_eq {mo mi : ME} : mSetIx m mo mi δ h = (m δ h).st δ fun d h1 => (mo δ h1).st δ fun o h2 => (mi δ h2).st δ fun i h3 => match setG o i d h3 with | some h4 => .ok (.next δ) h4 | none => .stuck := rfl
@[simp] theorem mAug_eq {i : Nat} {d : D} (e : δ[i]? = some (some d)) : mAug i f m δ h = (m δ h).st δ fun y h1 => (f d y h1).st δ fun z h2 => .ok (.next (δ.set i (some z))) h2 := by unfold mAug; rw [e]
@[simp] theorem mFor_eq {src : MI} {tgt : MG} : mFor src tgt A δ h = (src δ h).st δ fun S h1 => forM S.g tgt A S.ds δ h1 := rfl
@[simp] theorem mCallI_eq {f : List D → MH → R Src} : mCallI f ms δ h = (ms δ h).bnd f := rfl
@[simp] theorem mSrc_eq : mSrc m δ h = (m δ h).bnd srcOf := rfl
@[simp] theorem srcOf_rol {ds : List D} : srcOf (.rol ds) h = .ok ⟨ds, fun _ => True⟩ h := rfl
@[simp] theorem srcOf_tup {ds : List D} : srcOf (.tup ds) h = .ok ⟨ds, fun _ => True⟩ h := rfl
@[simp] theorem srcOf_str {s : Str} : srcOf (.str s) h = .ok ⟨charsD s, fun _ => True⟩ h := rfl
@[simp] theorem mgName_eq {i : Nat} {d : D} : mgName i d δ = some (δ.set i (some d)) := rfl
@[simp] theorem SR.seq_stuck {k} : (SR.stuck).seq k = .stuck := rfl
/-! values -/
@[simp] theorem opAdd_int {i j : Int} : opAdd (.int i) (.int j) h = .ok (.int (i + j)) h := rfl
@[simp] theorem opAddI_int {i j : Int} : opAddI (.int i) (.int j) h = .ok (.int (i + j)) h := rfl
@[simp] theorem opAdd_str {x y : Str} (e : x.length + y.length ≤ 16777216) : opAdd (.str x) (.str y) h = .ok (.str (x ++ y)) h := if_pos e
@[simp] theorem opAdd_tup {x y : List D} (e : x.length + y.length ≤ 16777216) : opAdd (.tup x) (.tup y) h = .ok (.tup (x ++ y)) h := if_pos e
@[simp] theorem opSub_int {i j : Int} : opSub (.int i) (.int j) h = .ok (.int (i - j)) h := rfl
@[simp] theorem opNeg_int {i : Int} : opNeg (.int i) h = .ok (.int (-i)) h := rfl
@[simp] theorem opMul_int {i j : Int} (e : i.natAbs.log2 + j.natAbs.log2 < 1000000) : opMul (.int i) (.int j) h = .ok (.int (i * j)) h := if_pos e
@[simp] theorem opMod_int {i j : Int} (e : 0 < j) : opMod (.int i) (.int j) h = .ok (.int (i % j)) h := if_pos e
theorem opDiv_int {i j : Int} (e : 0 < j) (e2 : j < 2 ^ 64) : opDiv (.int i) (.int j) h = .ok (.int (i / j)) h := by
  have nb : (2 : Nat) ^ 64 ≤ 2 ^ 2000 := Nat.pow_le_pow_right (by decide) (by decide)
  have big : (2 : Int) ^ 64 ≤ 2 ^ 2000 := by exact_mod_cast nb
  exact if_pos ⟨e, Int.lt_of_lt_of_le e2 big⟩
@[simp] theorem opLt_int {i j : Int} : opLt (.int i) (.int j) h = .ok (.bl (decide (i < j))) h := rfl
@[simp] theorem opLe_int {i j : Int} : opLe (.int i) (.int j) h = .ok (.bl (decide (i ≤ j))) h := rfl
@[simp] theorem opGt_int {i j : Int} : opGt (.int i) (.int j) h = .ok (.bl (decide (j < i))) h := rfl
@[simp] theorem opGe_int {i j : Int} : opGe (.int i) (.int j) h = .ok (.bl (decide (j ≤ i))) h := rfl
theorem opEq_S {x y : D} {k : Bool} (e : eqS x y = some k) : opEq x y h = .ok (.bl k) h := by unfold opEq eqG; rw [e]
theorem opNe_S {x y : D} {k : Bool} (e : eqS x y = some k) : opNe x y h = .ok (.bl (!k)) h := by unfold opNe eqG; rw [e]
@[simp] theorem opEq_int {i j : Int} : opEq (.int i) (.int j) h = .ok (.bl (decide (i = j))) h := opEq_S rfl
@[simp] theorem opEq_str {i j : Str} : opEq (.str i) (.str j) h = .ok (.bl (decide (i = j))) h := opEq_S rfl
@[simp] theorem opEq_bl {i j : Bool} : opEq (.bl i) (.bl j) h = .ok (.bl (decide (i = j))) h := opEq_S rfl
@[simp] theorem opNe_int {i j : Int} : opNe (.int i) (.int j) h = .ok (.bl (!decide (i = j))) h := opNe_S rfl
@[simp] theorem opNe_str {i j : Str} : opNe (.str i) (.str j) h = .ok (.bl (!decide (i = j))) h := opNe_S rfl
@[simp] theorem opNe_bl {i j : Bool} : opNe (.bl i) (.bl j) h = .ok (.bl (!decide (i = j))) h := opNe_S rfl
@[simp] theorem opIsN_eq {x : D} : opIsN x .non h = .ok (.bl (isNon x)) h := rfl
@[simp] theorem opNotN_eq {x : D} : opNotN x .non h = .ok (.bl (!isNon x)) h := rfl
@[simp] theorem isNon_non : isNon .non = true := rfl
@[simp] theorem isNon_int {i} : isNon (.int i) = false := rfl
@[simp] theorem isNon_str {i} : isNon (.str i) = false := rfl
@[simp] theorem isNon_bl {i} : isNon (.bl i) = false := rfl
@[simp] theorem isNon_tup {i} : isNon (.tup i) = false := rfl
@[simp] theorem isNon_rol {i} : isNon (.rol i) = false := rfl
@[simp] theorem truD_bl {k : Bool} : truD (.bl k) h = .ok k h := rfl
@[simp] theorem truD_non : truD .non h = .ok false h := rfl
@[simp] theorem truD_int {i : Int} : truD (.int i) h = .ok (i != 0) h := rfl
@[simp] theorem truD_tup {ds} : truD (.tup ds) h = .ok (!ds.isEmpty) h := rfl
@[simp] theorem truD_rol {ds} : truD (.rol ds) h = .ok (!ds.isEmpty) h := rfl
@[simp] theorem truD_ref {n ds} (e : lst? h n = some ds) : truD (.ref n) h = .ok (!ds.isEmpty) h := by
  show (match lst? h n with | some ds => _ | none => _) = _
  rw [e]
@[simp] theorem lstD_rol {ds} : lstD (.rol ds) h = some ds := rfl
@[simp] theorem lstD_ref {n} : lstD (.ref n) h = lst? h n := rfl
@[simp] theorem seqG_rol {ds} : seqG (.rol ds) h = some ds := rfl
@[simp] theorem seqG_tup {ds} : seqG (.tup ds) h = some ds := rfl
@[simp] theorem seqG_ref {n} : seqG (.ref n) h = lst? h n := rfl
theorem lst?_of {n : Nat} {ds} (e : h[n]? = some (.lst ds)) : lst? h n = some ds := by unfold lst?; rw [e]
theorem atI_ok {α : Type} {xs : List α} {i : Int} {x : α} (h0 : 0 ≤ i) (e : xs[i.toNat]? = some x) : L2.atI xs i = some x := by
  have := atI_nat e
  rw [Int.toNat_of_nonneg h0] at this
  exact this
theorem ixG_dG {x y : D} {d : D} (e : ixG x y h = some d) : dG x y h = none := by
  unfold ixG at e
  split at e
  · rename_i i
    cases x with
    | rdc ks ds => cases e
    | xo _ _ _ _ => cases e
    | ref n =>
      obtain ⟨ds, e1, e2⟩ := Option.bind_eq_some_iff.mp e
      have := lst?_at (show lst? h n = some ds from e1)
      show (dic? h n).bind _ = none
      unfold dic?
      rw [this]; rfl
    | _ => rfl
  · cases e
theorem opIx_of {x y : D} {d : D} (e : ixG x y h = some d) : opIx x y h = .ok d h := by
  unfold opIx
  rw [ixG_dG e]
  show opIx0 x y h = _
  unfold opIx0
  rw [e]
theorem opIx_dic {x y : D} {d : D} (e : dG x y h = some (some d)) : opIx x y h = .ok d h := by
  unfold opIx
  rw [e]
@[simp] theorem ixG_tup {ds} {i : Int} : ixG (.tup ds) (.int i) h = L2.atI ds i := rfl
@[simp] theorem ixG_rol {ds} {i : Int} : ixG (.rol ds) (.int i) h = L2.atI ds i := rfl
@[simp] theorem ixG_ref {n} {i : Int} : ixG (.ref n) (.int i) h = (lst? h n).bind fun ds => L2.atI ds i := rfl
@[simp] theorem isTy_str {T : String} {s : Str} : isTy T (.str s) h = (T == "str") := rfl
@[simp] theorem isTy_rol {T : String} {ds} : isTy T (.rol ds) h = (T == "list") := rfl
@[simp] theorem isTy_ref {T : String} {n ds} (e : lst? h n = some ds) : isTy T (.ref n) h = (T == "list") := by
  unfold isTy
  simp only [lst?_at e]
@[simp] theorem fInt_int {i : Int} : fInt [.int i] h = .ok (.int i) h := rfl
@[simp] theorem fAbs_int {i : Int} : fAbs [.int i] h = .ok (.int (if i < 0 then -i else i)) h := rfl
@[simp] theorem fIsi_int_int : fIsi [.int 0, .ty "int"] h = fIsi [.int 0, .ty "int"] h := rfl
theorem fIsi_of {d : D} {b : String} {n : String} {k : Bool} (e : tyName d h = some n) (e2 : isTyB n b = some k) (e3 : b ≠ "NoneType") : fIsi [d, .ty b] h = .ok (.bl k) h := by
  unfold fIsi
  simp only [if_neg e3, e, Option.bind_some, e2]
@[simp] theorem fList_eq {d : D} {es} (e : seqG d h = some es) : fList [d] h = .ok (.rol es) h := by unfold fList; simp only [e]
@[simp] theorem fListN_eq {d : D} {es} (e : seqG d h = some es) : fListN [d] h = .ok (.ref h.length) (h ++ [.lst es]) := by unfold fListN; simp only [e]
@[simp] theorem fTuple_eq {d : D} {es} (e : seqG d h = some es) : fTuple [d] h = .ok (.tup es) h := by unfold fTuple; simp only [e]
@[simp] theorem fLen_rol {ds} : fLen [.rol ds] h = .ok (.int ds.length) h := rfl
@[simp] theorem fLen_tup {ds} : fLen [.tup ds] h = .ok (.int ds.length) h := rfl
@[simp] theorem fLen_str {s : Str} (e : s.length ≤ 16777216) : fLen [.str s] h = .ok (.int s.length) h := by
  unfold fLen lenG
  simp only [if_pos e]
@[simp] theorem fLen_ref {n : Nat} {ds} (e : lst? h n = some ds) : fLen [.ref n] h = .ok (.int ds.length) h := by
  unfold fLen lenG
  simp only [lstD_ref, e]
end
/-! ### what is behind a call -/
theorem LeftOf.refl (h : MH) : LeftOf h h := ⟨Nat.le_refl _, fun _ _ _ e => .inl e⟩
theorem LeftOf.app {h k g : MH} (l : LeftOf h k) : LeftOf h (k ++ g) := by
  refine ⟨by rw [List.length_append]; exact Nat.le_add_right_of_le l.1, fun n o hn e => ?_⟩
  rw [List.getElem?_append_left (by have := l.1; omega)] at e
  exact l.2 n o hn e
theorem LeftOf.set {h k : MH} {n : Nat} {o : MO} (l : LeftOf h k) (q : o.lows h.length = true ∨ h.length ≤ n) : LeftOf h (k.set n o) := by
  refine ⟨by rw [List.length_set]; exact l.1, fun m u hm e => ?_⟩
  by_cases z : n = m
  · subst z
    rw [List.getElem?_set_self (by have := l.1; omega)] at e
    cases e
    rcases q with q | q
    · exact .inr q
    · omega
  · rw [List.getElem?_set_ne z] at e
    exact l.2 m u hm e
theorem leave_eq {h h' : MH} {d : D} (l : LeftOf h h') (q : d.lows h.length = true) : leave h d h' = .ok d (h'.take h.length) := if_pos ⟨l, q⟩
theorem take_app {h k g : MH} (e : k.length = h.length) : (k ++ g).take h.length = k := by rw [← e, List.take_left']; rfl
theorem mFn_eq {n N : Nat} {ms : MSt} {ds : List D} {h : MH} (e : ds.length = n) : mFn n N ms ds h = mEnd h (ms (mStart N ds) h) := if_pos e
theorem mFnN_eq {n N : Nat} {ms : MSt} {ds : List D} {h : MH} (e : ds.length = n) : mFnN n N ms ds h = mEndN (ms (mStart N ds) h) := if_pos e
/-- a def that gives a value and changes nothing of its caller's but what k says -/
theorem mFn_ret {n N : Nat} {ms : MSt} {ds : List D} {h h' k g : MH} {d : D} (e : ds.length = n) (r : ms (mStart N ds) h = .ok (.ret d) h') (eg : h' = k ++ g) (el : k.length = h.length) (l : LeftOf h k) (q : d.lows h.length = true) : mFn n N ms ds h = .ok d k := by
  rw [mFn_eq e, r, eg]
  show leave h d (k ++ g) = _
  rw [leave_eq l.app q, take_app el]
theorem mFn_pure {n N : Nat} {ms : MSt} {ds : List D} {h g : MH} {d : D} (e : ds.length = n) (r : ms (mStart N ds) h = .ok (.ret d) (h ++ g)) (q : d.lows h.length = true) : mFn n N ms ds h = .ok d h := mFn_ret e r rfl rfl (LeftOf.refl h) q
theorem mFn_pure0 {n N : Nat} {ms : MSt} {ds : List D} {h : MH} {d : D} (e : ds.length = n) (r : ms (mStart N ds) h = .ok (.ret d) h) (q : d.lows h.length = true) : mFn n N ms ds h = .ok d h := mFn_pure (g := []) e (by rw [List.append_nil]; exact r) q
/-! ### loops -/
theorem forM_ind {g : MH → Prop} {tgt : MG} {body : MSt} {Post : SR → Prop} (I : List D → MS → MH → Prop)
    (hnil : ∀ δ h, I [] δ h → g h ∧ Post (.ok (.next δ) h))
    (hcons : ∀ x r δ h, I (x :: r) δ h → g h ∧ ∃ δ1, tgt x δ = some δ1 ∧ ((∃ δ2 h2, body δ1 h = .ok (.next δ2) h2 ∧ I r δ2 h2) ∨ (∃ δ2 h2, body δ1 h = .ok (.cont δ2) h2 ∧ I r δ2 h2) ∨ (∃ δ2 h2, body δ1 h = .ok (.brk δ2) h2 ∧ Post (.ok (.next δ2) h2)) ∨ (∃ d h2, body δ1 h = .ok (.ret d) h2 ∧ Post (.ok (.ret d) h2)) ∨ ∃ c fs δ2 h2, body δ1 h = .exc c fs δ2 h2 ∧ Post (.exc c fs δ2 h2))) :
    ∀ {ds : List D} {δ : MS} {h : MH}, I ds δ h → Post (forM g tgt body ds δ h)
  | [], δ, h, i => by
    obtain ⟨h1, h2⟩ := hnil δ h i
    unfold forM
    rw [if_pos h1]; exact h2
  | x :: r, δ, h, i => by
    obtain ⟨h1, δ1, e1, z⟩ := hcons x r δ h i
    unfold forM
    rw [if_pos h1, e1]
    rcases z with ⟨δ2, h2, e2, i2⟩ | ⟨δ2, h2, e2, i2⟩ | ⟨δ2, h2, e2, i2⟩ | ⟨d, h2, e2, i2⟩ | ⟨c, fs, δ2, h2, e2, i2⟩
    · simp only [e2]; exact forM_ind I hnil hcons i2
    · simp only [e2]; exact forM_ind I hnil hcons i2
    · simp only [e2]; exact i2
    · simp only [e2]; exact i2
    · simp only [e2]; exact i2
/-- a comprehension without a test, turn by turn: what is left, what is made, the heap but the list -/
theorem compM_ind {g : MH → Prop} {tgt : MG} {elt : ME} {n : Nat} {δ0 : MS} (I : List D → List D → MH → Prop) (hI : ∀ r acc k, I r acc k → k.length = n ∧ acc.length + r.length < 16777216)
    (hg : ∀ r acc k, I r acc k → g (k ++ [.lst acc]))
    (hcons : ∀ x r acc k, I (x :: r) acc k → ∃ δ1 y k', tgt x δ0 = some δ1 ∧ elt δ1 (k ++ [.lst acc]) = .ok y (k' ++ [.lst acc]) ∧ I r (acc ++ [y]) k') :
    ∀ {ds acc : List D} {k : MH}, I ds acc k → ∃ acc' k', I [] acc' k' ∧ compM g tgt mYes elt n δ0 ds (k ++ [.lst acc]) = .ok () (k' ++ [.lst acc'])
  | [], acc, k, i => ⟨acc, k, i, by unfold compM; rw [if_pos (hg _ _ _ i)]⟩
  | x :: r, acc, k, i => by
    obtain ⟨δ1, y, k', e1, e2, i2⟩ := hcons x r acc k i
    obtain ⟨acc', k'', i3, e3⟩ := compM_ind I hI hg hcons i2
    refine ⟨acc', k'', i3, ?_⟩
    have hk := (hI _ _ _ i2).1
    have hz := (hI _ _ _ i).2
    have el : lst? (k' ++ [.lst acc]) n = some acc := lst?_of (by rw [← hk]; simp)
    have es : (k' ++ [MO.lst acc]).set n (.lst (acc ++ [y])) = k' ++ [.lst (acc ++ [y])] := by rw [← hk]; simp
    unfold compM
    rw [if_pos (hg _ _ _ i), e1]
    show ((R.ok true (k ++ [.lst acc])).nx.bnd _) = _
    simp only [R.nx_ok, R.bnd_ok, if_true, e2, el, es]
    rw [if_pos (by simp at hz; omega)]
    exact e3
theorem mLc_ind {src : MI} {tgt : MG} {elt : ME} {vs : List Nat} {δ : MS} {h h1 : MH} {S : Src} (es : src δ h = .ok S h1) (I : List D → List D → MH → Prop) (h0 : I S.ds [] h1) (hI : ∀ r acc k, I r acc k → k.length = h1.length ∧ acc.length + r.length < 16777216)
    (hg : ∀ r acc k, I r acc k → S.g (k ++ [.lst acc]))
    (hcons : ∀ x r acc k, I (x :: r) acc k → ∃ δ1 y k', tgt x (wipeM δ vs) = some δ1 ∧ elt δ1 (k ++ [.lst acc]) = .ok y (k' ++ [.lst acc]) ∧ I r (acc ++ [y]) k')
    (hend : ∀ acc k, I [] acc k → LeftOf h1 k ∧ lowsL h1.length acc = true) : ∃ acc k, I [] acc k ∧ mLc src tgt mYes elt vs δ h = .ok (.rol acc) k := by
  obtain ⟨acc, k, i, e⟩ := compM_ind (n := h1.length) I hI hg hcons h0
  refine ⟨acc, k, i, ?_⟩
  have hk := (hI _ _ _ i).1
  obtain ⟨l, q⟩ := hend acc k i
  unfold mLc
  rw [es, R.bnd_ok, e, R.bnd_ok]
  have el : lst? (k ++ [.lst acc]) h1.length = some acc := lst?_of (by rw [← hk]; simp)
  simp only [el]
  have es : (k ++ [MO.lst acc]).set h1.length .dead = k ++ [.dead] := by rw [← hk]; simp
  rw [es, leave_eq l.app (by unfold D.lows; exact q), take_app hk]
/-- .. whose elements are values of the items alone -/
theorem mLc_map {src : MI} {tgt : MG} {elt : ME} {vs : List Nat} {δ : MS} {h h1 : MH} {S : Src} (f : D → D) (es : src δ h = .ok S h1) (hg : ∀ k, S.g (h1 ++ k)) (hz : S.ds.length < 16777216)
    (he : ∀ x ∈ S.ds, ∃ δ1, tgt x (wipeM δ vs) = some δ1 ∧ ∀ k, elt δ1 (h1 ++ k) = .ok (f x) (h1 ++ k)) (hl : ∀ x ∈ S.ds, (f x).lows h1.length = true) : mLc src tgt mYes elt vs δ h = .ok (.rol (S.ds.map f)) h1 := by
  have lowsM : ∀ l : List D, (∀ x ∈ l, (f x).lows h1.length = true) → lowsL h1.length (l.map f) = true := fun l => by
    induction l with
    | nil => intro _; rfl
    | cons x r ih =>
      intro q
      show ((f x).lows h1.length && lowsL h1.length (r.map f)) = true
      rw [q x (by simp), ih fun y hy => q y (by simp [hy])]; rfl
  obtain ⟨acc, k, ⟨i1, i2, i3⟩, e⟩ := mLc_ind (vs := vs) (elt := elt) (tgt := tgt) es (fun r acc k => k = h1 ∧ acc ++ r.map f = S.ds.map f ∧ ∀ x ∈ r, x ∈ S.ds) ⟨rfl, rfl, fun x hx => hx⟩
    (fun r acc k ⟨a, b, _⟩ => ⟨by rw [a], by
      have := congrArg List.length b
      rw [List.length_append, List.length_map, List.length_map] at this; omega⟩)
    (fun r acc k ⟨a, _, _⟩ => by rw [a]; exact hg _)
    (fun x r acc k ⟨a, b, c⟩ => by
      obtain ⟨δ1, e1, e2⟩ := he x (c x (by simp))
      exact ⟨δ1, f x, h1, e1, by rw [a]; exact e2 _, rfl, by rw [← b]; simp, fun y hy => c y (by simp [hy])⟩)
    (fun acc k ⟨a, b, c⟩ => ⟨by rw [a]; exact LeftOf.refl _, by
      have : acc = S.ds.map f := by simpa using b
      rw [this]; exact lowsM _ hl⟩)
  have : acc = S.ds.map f := by simpa using i2
  rw [e, this, i1]
/-! ### draws -/
structure DS where
  cells : List Int
  rest : Int
  at' : Int
  seed : Int
def DS.enc (s : DS) : MO := .lst [.rol (s.cells.map .int), .int s.rest, .int s.at', .int s.seed]
structure DS.Ok (s : DS) : Prop where
  a0 : 0 ≤ s.at'
  s0 : 0 ≤ s.seed
  s1 : s.seed ≤ 2147483630
theorem DS.enc_lows (s : DS) (n : Nat) : s.enc.lows n = true := by
  have : ∀ l : List Int, lowsL n (l.map D.int) = true := fun l => by
    induction l with
    | nil => rfl
    | cons x r ih => show (true && lowsL n (r.map D.int)) = true; rw [ih]; rfl
  show ((D.rol (s.cells.map .int)).lows n && _) = true
  rw [show (D.rol (s.cells.map .int)).lows n = lowsL n (s.cells.map .int) from rfl, this]; rfl
end MM

namespace MM
open PySem PySem.Spec PyProof.Rows L2
noncomputable def bDraw : MSt :=
  mSeq (mIfS (mAnd (mB (mOp opEq (mOp opIx (mVar 0) (mC (.int 1))) (mC (.int 0)))) (mB (mOp opGe (mOp opIx (mVar 0) (mC (.int 2))) (mCall fLen (mCons (mOp opIx (mVar 0) (mC (.int 0))) (mNil)))))) (mSeq (mSetIx (mOp opMod (mCall fInt (mCons (mOp opAdd (mOp opMul (mOp opIx (mVar 0) (mC (.int 3))) (mC (.int 48271))) (mC (.int 69621))) (mNil))) (mC (.int 2147483629))) (mVar 0) (mC (.int 3))) (mRet (mOp opMod (mCall fInt (mCons (mOp opDiv (mOp opIx (mVar 0) (mC (.int 3))) (mC (.int 13))) (mNil))) (mVar 1)))) (mNext)) (mSeq (mIfS (mB (mOp opEq (mOp opIx (mVar 0) (mC (.int 1))) (mC (.int 0)))) (mSeq (mSetIx (mCall fAbs (mCons (mOp opIx (mOp opIx (mVar 0) (mC (.int 0))) (mOp opIx (mVar 0) (mC (.int 2)))) (mNil))) (mVar 0) (mC (.int 1))) (mAugIx opAddI (mVar 0) (mC (.int 2)) (mC (.int 1)))) (mNext)) (mSeq (mSet 2 (mOp opMod (mCall fInt (mCons (mOp opIx (mVar 0) (mC (.int 1))) (mNil))) (mVar 1))) (mSeq (mSetIx (mOp opDiv (mOp opIx (mVar 0) (mC (.int 1))) (mVar 1)) (mVar 0) (mC (.int 1))) (mRet (mVar 2)))))
noncomputable def bStart : MSt :=
  mSeq (mSet 1 (mC (.int 7))) (mSeq (mFor (mSrc (mVar 0)) (mgName 2) (mSet 1 (mOp opAdd (mOp opMod (mCall fInt (mCons (mOp opAdd (mOp opMul (mVar 1) (mC (.int 48271))) (mVar 2)) (mNil))) (mC (.int 2147483629))) (mC (.int 1))))) (mRet (mLstN (mCons (mCall fList (mCons (mVar 0) (mNil))) (mCons (mC (.int 0)) (mCons (mC (.int 0)) (mCons (mVar 1) (mNil))))))))
section
variable {h : MH} {n : Nat} {s : DS} {many : Int}
theorem DS.lst (e : h[n]? = some s.enc) : lst? h n = some [.rol (s.cells.map .int), .int s.rest, .int s.at', .int s.seed] := lst?_of e
theorem DS.ix0 (e : h[n]? = some s.enc) : opIx (.ref n) (.int 0) h = .ok (.rol (s.cells.map .int)) h := opIx_of (by rw [ixG_ref, DS.lst e]; rfl)
theorem DS.ix1 (e : h[n]? = some s.enc) : opIx (.ref n) (.int 1) h = .ok (.int s.rest) h := opIx_of (by rw [ixG_ref, DS.lst e]; rfl)
theorem DS.ix2 (e : h[n]? = some s.enc) : opIx (.ref n) (.int 2) h = .ok (.int s.at') h := opIx_of (by rw [ixG_ref, DS.lst e]; rfl)
theorem DS.ix3 (e : h[n]? = some s.enc) : opIx (.ref n) (.int 3) h = .ok (.int s.seed) h := opIx_of (by rw [ixG_ref, DS.lst e]; rfl)
theorem DS.set1 {v : Int} (e : h[n]? = some s.enc) : setG (.ref n) (.int 1) (.int v) h = some (h.set n { s with rest := v }.enc) := by
  show (lst? h n).bind _ = _
  rw [DS.lst e]; rfl
theorem DS.set2 {v : Int} (e : h[n]? = some s.enc) : setG (.ref n) (.int 2) (.int v) h = some (h.set n { s with at' := v }.enc) := by
  show (lst? h n).bind _ = _
  rw [DS.lst e]; rfl
theorem DS.set3 {v : Int} (e : h[n]? = some s.enc) : setG (.ref n) (.int 3) (.int v) h = some (h.set n { s with seed := v }.enc) := by
  show (lst? h n).bind _ = _
  rw [DS.lst e]; rfl
theorem DS.aug2 {δ : MS} {a b c : ME} (ea : a δ h = .ok (.ref n) h) (eb : b δ h = .ok (.int 2) h) (ec : c δ h = .ok (.int 1) h) (e : h[n]? = some s.enc) : mAugIx opAddI a b c δ h = .ok (.next δ) (h.set n { s with at' := s.at' + 1 }.enc) := by
  unfold mAugIx
  rw [ea, R.st_ok, eb, R.st_ok]
  simp only [lstD_ref, DS.lst e, Option.bind_some]
  rw [show L2.atI [D.rol (s.cells.map .int), .int s.rest, .int s.at', .int s.seed] 2 = some (.int s.at') from rfl]
  simp only [ec, R.st_ok, opAddI_int, DS.set2 e]
theorem at_set {h : MH} {n : Nat} {o : MO} (e : h[n]? = some o) (o' : MO) : (h.set n o')[n]? = some o' := List.getElem?_set_self (List.getElem?_eq_some_iff.mp e).1
theorem log_le {i : Int} (h0 : 0 ≤ i) (h1 : i ≤ 2147483630) : i.natAbs.log2 < 32 := by
  by_cases z : i.natAbs = 0
  · rw [z]; decide
  · rw [Nat.log2_lt z]; omega
theorem draw_ok (e : h[n]? = some s.enc) (ok : s.Ok) (h0 : 0 < many) (h1 : many < 2 ^ 64) :
    ∃ (v : Int) (s' : DS), 0 ≤ v ∧ v < many ∧ s'.Ok ∧ s'.cells = s.cells ∧ mFn 2 3 bDraw [.ref n, .int many] h = .ok (.int v) (h.set n s'.enc) := by
  have fin : ∀ (v : Int) (s' : DS), bDraw [some (.ref n), some (.int many), none] h = .ok (.ret (.int v)) (h.set n s'.enc) → mFn 2 3 bDraw [.ref n, .int many] h = .ok (.int v) (h.set n s'.enc) := fun v s' e2 =>
    mFn_ret (g := []) rfl e2 (by rw [List.append_nil]) (List.length_set ..) ((LeftOf.refl h).set (.inl (s'.enc_lows _))) rfl
  have dv : ∀ i : Int, ∀ k : MH, opDiv (.int i) (.int many) k = .ok (.int (i / many)) k := fun i k => opDiv_int h0 h1
  have dm : ∀ i : Int, ∀ k : MH, opMod (.int i) (.int many) k = .ok (.int (i % many)) k := fun i k => if_pos h0
  have em : ∀ i : Int, 0 ≤ i % many ∧ i % many < many := fun i => ⟨Int.emod_nonneg _ (by omega), Int.emod_lt_of_pos _ h0⟩
  have hl := log_le ok.s0 ok.s1
  have go : ∀ (v : Int) (s' : DS), s'.Ok → s'.cells = s.cells → bDraw [some (.ref n), some (.int many), none] h = .ok (.ret (.int (v % many))) (h.set n s'.enc) →
      ∃ (v : Int) (s' : DS), 0 ≤ v ∧ v < many ∧ s'.Ok ∧ s'.cells = s.cells ∧ mFn 2 3 bDraw [.ref n, .int many] h = .ok (.int v) (h.set n s'.enc) := fun v s' h1 h2 h3 => ⟨_, s', (em v).1, (em v).2, h1, h2, fin _ _ h3⟩
  by_cases c1 : s.rest = 0
  · by_cases c2 : (s.cells.length : Int) ≤ s.at'
    · have so : ({ s with seed := (s.seed * 48271 + 69621) % 2147483629 } : DS).Ok := ⟨ok.a0, Int.emod_nonneg _ (by omega), by have := Int.emod_lt_of_pos (s.seed * 48271 + 69621) (show (0 : Int) < 2147483629 by omega); show _ % _ ≤ _; omega⟩
      have q3 := DS.set3 (v := (s.seed * 48271 + 69621) % 2147483629) e
      have x3 := DS.ix3 (at_set e { s with seed := (s.seed * 48271 + 69621) % 2147483629 }.enc)
      have sc : ({ s with seed := (s.seed * 48271 + 69621) % 2147483629 } : DS).cells = s.cells := rfl
      generalize hs' : ({ s with seed := (s.seed * 48271 + 69621) % 2147483629 } : DS) = s' at so q3 x3 sc
      rw [← hs'] at x3
      simp only at x3
      refine go ((s.seed * 48271 + 69621) % 2147483629 / 13) s' so sc ?_
      have d13 : ∀ i : Int, ∀ k : MH, opDiv (.int i) (.int 13) k = .ok (.int (i / 13)) k := fun i k => opDiv_int (by omega) (by decide)
      have lg : s.seed.natAbs.log2 + (48271 : Int).natAbs.log2 < 1000000 := by
        have : (48271 : Int).natAbs.log2 = 15 := by decide
        omega
      rw [hs'] at x3
      unfold bDraw
      simp [DS.ix1 e, DS.ix2 e, DS.ix0 e, DS.ix3 e, c1, c2, q3, x3, opMul_int lg, d13, dm]
    · have hlt : s.at'.toNat < s.cells.length := by have := ok.a0; omega
      have ei : opIx (.rol (s.cells.map .int)) (.int s.at') h = .ok (.int s.cells[s.at'.toNat]) h := opIx_of (by
        rw [ixG_rol]
        exact atI_ok ok.a0 (by rw [List.getElem?_map, List.getElem?_eq_getElem hlt]; rfl))
      generalize s.cells[s.at'.toNat] = c at ei
      let s1 : DS := { s with rest := if c < 0 then -c else c }
      let s2 : DS := { s1 with at' := s.at' + 1 }
      let s3 : DS := { s2 with rest := s2.rest / many }
      have e1 := at_set e s1.enc
      have e2 := at_set e1 s2.enc
      have e3 := at_set e2 s3.enc
      refine go s2.rest s3 ⟨by show 0 ≤ s.at' + 1; have := ok.a0; omega, ok.s0, ok.s1⟩ rfl ?_
      have a2 : mAugIx opAddI (mVar 0) (mC (.int 2)) (mC (.int 1)) [some (.ref n), some (.int many), none] (h.set n s1.enc) = .ok (.next [some (.ref n), some (.int many), none]) ((h.set n s1.enc).set n s2.enc) := DS.aug2 (s := s1) rfl rfl rfl e1
      have q1 : setG (.ref n) (.int 1) (.int (if c < 0 then -c else c)) h = some (h.set n s1.enc) := DS.set1 e
      have q3 : setG (.ref n) (.int 1) (.int (s2.rest / many)) ((h.set n s1.enc).set n s2.enc) = some (((h.set n s1.enc).set n s2.enc).set n s3.enc) := DS.set1 e2
      have x2 := DS.ix1 e2
      simp only [List.set_set] at x2 q3 a2
      have y1 := DS.ix1 e
      have y2 := DS.ix2 e
      have y0 := DS.ix0 e
      generalize s3 = s3' at q3 ⊢
      generalize s2.rest = r2 at x2 q3 ⊢
      generalize s2 = s2' at x2 q3 a2
      generalize s1 = s1' at q1 a2
      unfold bDraw
      simp [y1, y2, y0, c1, c2, ei, q1, a2, x2, dm, dv, q3]
  · let s3 : DS := { s with rest := s.rest / many }
    refine go s.rest s3 ⟨ok.a0, ok.s0, ok.s1⟩ rfl ?_
    have q3 : setG (.ref n) (.int 1) (.int (s.rest / many)) h = some (h.set n s3.enc) := DS.set1 e
    have y1 := DS.ix1 e
    generalize s3 = s3' at q3 ⊢
    unfold bDraw
    simp [y1, c1, dm, dv, q3]
/-- the script's state -/
theorem start_ok {ns : List Int} {h : MH} : ∃ s : DS, s.Ok ∧ s.cells = ns ∧ mFnN 1 3 bStart [.rol (ns.map D.int)] h = .ok (.ref h.length) (h ++ [s.enc]) := by
  have lp : ∃ v : Int, (0 ≤ v ∧ v ≤ 2147483630) ∧ ∃ x, forM (fun _ => True) (mgName 2) (mSet 1 (mOp opAdd (mOp opMod (mCall fInt (mCons (mOp opAdd (mOp opMul (mVar 1) (mC (.int 48271))) (mVar 2)) (mNil))) (mC (.int 2147483629))) (mC (.int 1)))) (ns.map D.int) [some (.rol (ns.map D.int)), some (.int 7), none] h =
      .ok (.next [some (.rol (ns.map D.int)), some (.int v), x]) h := by
    refine forM_ind (Post := fun r => ∃ v : Int, (0 ≤ v ∧ v ≤ 2147483630) ∧ ∃ x, r = .ok (.next [some (.rol (ns.map D.int)), some (.int v), x]) h)
      (fun ds δ h' => h' = h ∧ (∃ ms : List Int, ds = ms.map D.int) ∧ ∃ v : Int, (0 ≤ v ∧ v ≤ 2147483630) ∧ ∃ x, δ = [some (.rol (ns.map D.int)), some (.int v), x]) ?_ ?_ ⟨rfl, ⟨ns, rfl⟩, 7, by omega, none, rfl⟩
    · rintro δ h' ⟨rfl, _, v, hv, x, rfl⟩
      exact ⟨trivial, v, hv, x, rfl⟩
    · rintro y r δ h' ⟨rfl, ⟨ms, em⟩, v, hv, x, rfl⟩
      cases ms with
      | nil => cases em
      | cons c ms =>
        obtain ⟨rfl, rfl⟩ := List.cons.inj em
        have lg : v.natAbs.log2 + (48271 : Int).natAbs.log2 < 1000000 := by
          have : (48271 : Int).natAbs.log2 = 15 := by decide
          have := log_le hv.1 hv.2
          omega
        have b1 := Int.emod_nonneg (v * 48271 + c) (show (2147483629 : Int) ≠ 0 by omega)
        have b2 := Int.emod_lt_of_pos (v * 48271 + c) (show (0 : Int) < 2147483629 by omega)
        refine ⟨trivial, _, rfl, .inl ⟨[some (.rol (ns.map D.int)), some (.int ((v * 48271 + c) % 2147483629 + 1)), some (.int c)], h', ?_, rfl, ⟨ms, rfl⟩, (v * 48271 + c) % 2147483629 + 1, by omega, _, rfl⟩⟩
        simp [opMul_int lg]
  obtain ⟨v, hv, x, e⟩ := lp
  refine ⟨⟨ns, 0, 0, v⟩, ⟨Int.le_refl _, hv.1, hv.2⟩, rfl, ?_⟩
  rw [mFnN_eq (show [D.rol (ns.map D.int)].length = 1 from rfl)]
  unfold bStart
  have st : mStart 3 [D.rol (ns.map D.int)] = [some (.rol (ns.map D.int)), none, none] := rfl
  rw [st]
  simp [e]
  rfl
end
end MM

/-! texts as lists of signs -/
namespace MM
open PySem PySem.Spec PyProof.Rows L2
abbrev tx (l : List Nat) : Str := ⟨l.toArray⟩
theorem tx_of (w : Str) : w = tx w.cps.toList := by cases w; rfl
theorem tx_len (l : List Nat) : (tx l).length = l.length := by simp [tx, Str.length]
theorem tx_inj {a b : List Nat} (h : tx a = tx b) : a = b := congrArg (fun x : Str => x.cps.toList) h
theorem tx_eq {a b : List Nat} : (tx a = tx b) ↔ a = b := ⟨tx_inj, fun e => by rw [e]⟩
theorem tl_tx (l : List Nat) : (tx l).cps.toList = l := rfl
theorem tx_app (a b : List Nat) : tx a ++ tx b = tx (a ++ b) := TL.ext_tl (TL.tl_append (tx a) (tx b))
theorem sgn_of (s : String) : (Str.ofString s).cps.toList = s.toList.map Char.toNat := by
  show (cpsOfBytes 0 0 s.toByteArray.data.toList).toArray.toList = _
  rw [cpsOfBytes_string]
theorem sgn_int (i : Int) : (Str.ofString (toString i)).cps.toList = if i < 0 then 45 :: TL.numL i.natAbs else TL.numL i.natAbs := by
  cases i with
  | ofNat n =>
    rw [if_neg (by simp)]
    exact TL.tl_num n
  | negSucc m =>
    rw [if_pos (Int.negSucc_lt_zero m), sgn_of]
    have e : toString (Int.negSucc m) = "-" ++ Nat.repr (m + 1) := rfl
    have e2 := TL.tl_num (m + 1)
    have e3 : TL.tl (Str.ofString (toString (((m + 1 : Nat)) : Int))) = (Nat.repr (m + 1)).toList.map Char.toNat := sgn_of _
    rw [e, String.toList_append, List.map_append, ← e3, e2]
    rfl
theorem str_int (i : Int) : (Str.ofString (toString i) : Str) = tx (if i < 0 then 45 :: TL.numL i.natAbs else TL.numL i.natAbs) := by
  rw [← sgn_int]
/-! ### the heap with the script's state in it -/
/-- k is h, but for the state that stands at n -/
def At (n : Nat) (h k : MH) : Prop := n < h.length ∧ ∃ s : DS, s.Ok ∧ k = h.set n s.enc
section
variable {n : Nat} {h k k' g : MH} {many : Int}
theorem At.of {s : DS} (e : h[n]? = some s.enc) (ok : s.Ok) : At n h h := by
  obtain ⟨hn, e2⟩ := List.getElem?_eq_some_iff.mp e
  exact ⟨hn, s, ok, by rw [← e2, List.set_getElem_self]⟩
theorem At.len (a : At n h k) : k.length = h.length := by
  obtain ⟨_, s, _, rfl⟩ := a
  exact List.length_set ..
theorem At.lt (a : At n h k) : n < k.length := by rw [a.len]; exact a.1
theorem At.trans (a : At n h k) (b : At n k k') : At n h k' := by
  obtain ⟨l, s, _, rfl⟩ := a
  obtain ⟨_, s', ok, rfl⟩ := b
  exact ⟨l, s', ok, List.set_set ..⟩
theorem At.refl_of (a : At n h k) : At n k k := by
  obtain ⟨l, s, ok, rfl⟩ := a
  exact At.of (List.getElem?_set_self l) ok
theorem At.app (a : At n h k) (g : MH) : At n (h ++ g) (k ++ g) := by
  obtain ⟨l, s, ok, rfl⟩ := a
  exact ⟨by rw [List.length_append]; omega, s, ok, by rw [List.set_append_left _ _ l]⟩
theorem At.app_inv (a : At n (h ++ g) k) (l : n < h.length) : ∃ k', k = k' ++ g ∧ At n h k' := by
  obtain ⟨_, s, ok, rfl⟩ := a
  exact ⟨_, by rw [List.set_append_left _ _ l], l, s, ok, rfl⟩
theorem At.left (a : At n h k) : LeftOf h k := by
  obtain ⟨l, s, ok, rfl⟩ := a
  exact (LeftOf.refl h).set (.inl (s.enc_lows _))
/-- a draw -/
theorem At.draw (a : At n h k) (h0 : 0 < many) (h1 : many < 2 ^ 64) : ∃ (v : Int) (k' : MH), (0 ≤ v ∧ v < many) ∧ At n h k' ∧ mFn 2 3 bDraw [.ref n, .int many] k = .ok (.int v) k' := by
  have b := a.refl_of
  obtain ⟨l, s, ok, rfl⟩ := a
  obtain ⟨v, s', v0, v1, ok', _, e⟩ := draw_ok (h := h.set n s.enc) (n := n) (s := s) (List.getElem?_set_self l) ok h0 h1
  exact ⟨v, _, ⟨v0, v1⟩, ⟨l, s', ok', List.set_set ..⟩, e⟩
/-- in a def that ends well -/
theorem At.fn {a0 N : Nat} {ms : MSt} {ds : List D} {d : D} (e : ds.length = a0) (a : At n h k) (r : ms (mStart N ds) h = .ok (.ret d) k) (q : d.lows h.length = true) : mFn a0 N ms ds h = .ok d k :=
  mFn_ret (g := []) e r (by rw [List.append_nil]) a.len a.left q
end
/-! ### pieces of texts -/
theorem ix_tx {l : List Nat} {i : Int} {c : Nat} {h : MH} (hl : l.length ≤ 600) (h0 : 0 ≤ i) (e : l[i.toNat]? = some c) : opIx (.str (tx l)) (.int i) h = .ok (.str (tx [c])) h := opIx_of (by
  show (if (tx l).length ≤ 16777216 then _ else none) = _
  rw [if_pos (by rw [tx_len]; omega)]
  show Option.map _ (L2.atI l i) = _
  rw [atI_ok h0 e]
  rfl)
theorem cut_take (l : List Nat) (i : Nat) : cutS (tx l) none (some (i : Int)) = tx (l.take i) := by
  unfold cutS
  rw [HT.sIx_none, tx_len, HT.sIx_nat]
  simp
theorem cut_drop (l : List Nat) (i : Nat) : cutS (tx l) (some (i : Int)) none = tx (l.drop i) := by
  unfold cutS
  rw [HT.sIx_none, tx_len, HT.sIx_nat]
  simp
  rcases Nat.le_total i l.length with q | q
  · rw [Nat.min_eq_left q, List.take_of_length_le (by simp)]
  · rw [Nat.min_eq_right q, List.drop_eq_nil_of_le q]; simp
theorem sl_take {l : List Nat} {i : Int} {h : MH} (hl : l.length ≤ 600) (h0 : 0 ≤ i) : opSl (.str (tx l)) none (some i) h = .ok (.str (tx (l.take i.toNat))) h := by
  obtain ⟨j, rfl⟩ := Int.eq_ofNat_of_zero_le h0
  unfold opSl slG
  simp only []
  rw [if_pos (by rw [tx_len]; omega), cut_take]; rfl
theorem sl_drop {l : List Nat} {i : Int} {h : MH} (hl : l.length ≤ 600) (h0 : 0 ≤ i) : opSl (.str (tx l)) (some i) none h = .ok (.str (tx (l.drop i.toNat))) h := by
  obtain ⟨j, rfl⟩ := Int.eq_ofNat_of_zero_le h0
  unfold opSl slG
  simp only []
  rw [if_pos (by rw [tx_len]; omega), cut_drop]; rfl
theorem str_num {i : Int} {h : MH} (b : i.natAbs < 10 ^ 20) : ∃ l : List Nat, l ≠ [] ∧ l.length ≤ 21 ∧ fStr [.int i] h = .ok (.str (tx l)) h := by
  refine ⟨if i < 0 then 45 :: TL.numL i.natAbs else TL.numL i.natAbs, ?_, ?_, ?_⟩
  · split
    · exact List.cons_ne_nil _ _
    · exact TL.numL_ne _
  · have := TL.numL_len (n := i.natAbs) (k := 20) (by decide) b
    split
    · simp; omega
    · omega
  · have : i.natAbs.log2 < 1920 := by
      by_cases z : i.natAbs = 0
      · rw [z]; decide
      · rw [Nat.log2_lt z]
        exact Nat.lt_of_lt_of_le b (by decide +kernel)
    rw [show fStr [.int i] h = if i.natAbs.log2 < 1920 then .ok (.str (toString i)) h else .stuck from rfl, if_pos this, ← str_int]
theorem fRange1_eq {i : Int} {h : MH} (a : -(2 ^ 62) ≤ i) (b : i < 2 ^ 62) : fRange1 [.int i] h = .ok ⟨(List.range i.toNat).map fun (i : Nat) => .int i, fun _ => True⟩ h := if_pos ⟨a, b⟩
/-! ### joins -/
def jl (s : List Nat) : List (List Nat) → List Nat
  | [] => []
  | [a] => a
  | a :: b :: r => a ++ s ++ jl s (b :: r)
theorem join_jl (s : List Nat) : ∀ ls : List (List Nat), Txt.join (tx s) (ls.map fun l => tx l) = tx (jl s ls) := fun ls => by
  show Builtin.Str.glued (tx s) (ls.map fun l => tx l) = _
  rw [StrLaws.glued_eq_join]
  have go : ∀ (r : List (List Nat)) (a : List Nat), Str.join (tx s) (tx a :: r.map fun l => tx l) = tx (jl s (a :: r)) := fun r => by
    induction r with
    | nil => intro a; rfl
    | cons b r ih =>
      intro a
      show tx a ++ tx s ++ Str.join (tx s) (tx b :: r.map fun l => tx l) = _
      rw [ih, tx_app, tx_app]; rfl
  cases ls with
  | nil => rfl
  | cons a r => exact go r a
theorem strs_txs (ls : List (List Nat)) : strsL (ls.map fun l => D.str (tx l)) = some (ls.map fun l => tx l) := by
  induction ls with
  | nil => rfl
  | cons c r ih => show (strsL (r.map _)).map _ = _; rw [ih]; rfl
theorem lens_txs (ls : List (List Nat)) : ((ls.map fun l => tx l).map (·.length)).sum = (ls.map (·.length)).sum := by
  rw [List.map_map]
  congr 1
theorem join_ok {s : List Nat} {ls : List (List Nat)} {d : D} {h : MH} (e : seqG d h = some (ls.map fun l => D.str (tx l))) (hz : (ls.map (·.length)).sum + ls.length * s.length ≤ 16777216) : fJoin (.str (tx s)) [d] h = .ok (.str (tx (jl s ls))) h := by
  show (match (seqG d h).bind strsL with | some ys => _ | none => _) = _
  simp only [e, Option.bind_some, strs_txs]
  rw [if_pos (by rw [lens_txs, List.length_map, tx_len]; exact hz), join_jl]
theorem jl_ones (l : List Nat) : jl [] (l.map fun c => [c]) = l := by
  cases l with
  | nil => rfl
  | cons a r =>
    induction r generalizing a with
    | nil => rfl
    | cons b r ih => show [a] ++ [] ++ jl [] ([b] :: r.map fun c => [c]) = _; rw [show ([b] :: r.map fun c => [c]) = (b :: r).map fun c => [c] from rfl, ih]; rfl
theorem sum_ones (l : List Nat) : ((l.map fun c => [c]).map (·.length)).sum = l.length := by
  induction l with
  | nil => rfl
  | cons a r ih => simp only [List.map_cons, List.sum_cons, ih]; simp; omega
theorem join_ones {l : List Nat} {d : D} {h : MH} (e : seqG d h = some (l.map fun c => D.str (tx [c]))) (hl : l.length ≤ 16777216) : fJoin (.str "") [d] h = .ok (.str (tx l)) h := by
  have := join_ok (s := []) (ls := l.map fun c => [c]) (d := d) (h := h) (by rw [e, List.map_map]; rfl) (by rw [sum_ones]; simp; exact hl)
  rw [jl_ones] at this
  exact this
/-! ### comprehensions that draw -/
mutual
theorem lows_mono {a b : Nat} (le : a ≤ b) : ∀ {d : D}, d.lows a = true → d.lows b = true
  | .non, _ | .bl _, _ | .int _, _ | .str _, _ | .obj .., _ | .ty _, _ | .kon _, _ => rfl
  | .rdc _ ds, q => lowsL_mono le (ds := ds) q
  | .xo _ _ _ ds, q => lowsL_mono le (ds := ds) q
  | .tup ds, q => lowsL_mono le (ds := ds) q
  | .rol ds, q => lowsL_mono le (ds := ds) q
  | .ref n, q => decide_eq_true (Nat.lt_of_lt_of_le (of_decide_eq_true q) le)
theorem lowsL_mono {a b : Nat} (le : a ≤ b) : ∀ {ds : List D}, lowsL a ds = true → lowsL b ds = true
  | [], _ => rfl
  | x :: r, q => by
    have q' : (x.lows a && lowsL a r) = true := q
    rw [Bool.and_eq_true] at q'
    show (x.lows b && lowsL b r) = true
    rw [lows_mono le q'.1, lowsL_mono le q'.2]; rfl
end
theorem lows_mono0 {P : D → Prop} (hp : ∀ y, P y → y.lows 0 = true) {m : Nat} : ∀ {acc : List D}, (∀ y ∈ acc, P y) → lowsL m acc = true
  | [], _ => rfl
  | x :: r, q => by
    show (x.lows m && lowsL m r) = true
    rw [lows_mono (Nat.zero_le m) (hp x (q x (by simp))), lows_mono0 hp fun y hy => q y (by simp [hy])]; rfl
theorem At.comp {n : Nat} {h k k1 : MH} {src : MI} {tgt : MG} {elt : ME} {vs : List Nat} {δ : MS} {S : Src} {P : D → Prop} (es : src δ k = .ok S k1) (a : At n h k1) (hz : S.ds.length < 16777216) (hg : ∀ k, S.g k)
    (step : ∀ x ∈ S.ds, ∀ k', At n k' k' → (∀ m : Nat, m < h.length → m ≠ n → k'[m]? = h[m]?) → ∃ δ1 y k'', tgt x (wipeM δ vs) = some δ1 ∧ elt δ1 k' = .ok y k'' ∧ At n k' k'' ∧ P y) (hp : ∀ y, P y → y.lows 0 = true) :
    ∃ acc k2, At n h k2 ∧ acc.length = S.ds.length ∧ (∀ y ∈ acc, P y) ∧ mLc src tgt mYes elt vs δ k = .ok (.rol acc) k2 := by
  obtain ⟨acc, k2, ⟨a2, ll, hP, _⟩, e2⟩ := mLc_ind (S := S) (δ := δ) (vs := vs) (tgt := tgt) (elt := elt) es
    (fun r acc k2 => At n h k2 ∧ acc.length + r.length = S.ds.length ∧ (∀ y ∈ acc, P y) ∧ ∀ x ∈ r, x ∈ S.ds) ⟨a, by simp, by simp, fun x hx => hx⟩
    (fun r acc k2 ⟨a2, ll, _, _⟩ => ⟨by rw [a2.len, a.len], by omega⟩)
    (fun r acc k2 _ => hg _)
    (fun x r acc k2 ⟨a2, ll, hP, hr⟩ => by
      obtain ⟨δ1, y, k'', e1, e2, a3, py⟩ := step x (hr x (by simp)) (k2 ++ [MO.lst acc]) (a2.refl_of.app _) (fun m hm hn => by
        obtain ⟨l2, s2, o2, rfl⟩ := a2
        rw [List.getElem?_append_left (by rw [List.length_set]; exact hm), List.getElem?_set_ne (fun z => hn z.symm)])
      obtain ⟨k4, rfl, a4⟩ := a3.app_inv a2.lt
      exact ⟨δ1, y, k4, e1, e2, a2.trans a4, by simp at ll ⊢; omega, fun z hz => by
        rcases List.mem_append.mp hz with q | q
        · exact hP z q
        · rw [List.mem_singleton.mp q]; exact py, fun z hz => hr z (by simp [hz])⟩)
    (fun acc k2 ⟨a2, ll, hP, _⟩ => ⟨by
      have l0 := a.refl_of.1
      obtain ⟨l1, s1, o1, rfl⟩ := a
      obtain ⟨_, s2, o2, rfl⟩ := a2
      exact (show At n (h.set n s1.enc) (h.set n s2.enc) from ⟨l0, s2, o2, (List.set_set ..).symm⟩).left, lows_mono0 hp hP⟩)
  exact ⟨acc, k2, a2, by simpa using ll, hP, e2⟩
end MM

/-! more of what the plain functions give -/
namespace MM
open PySem PySem.Spec PyProof.Rows L2
section
variable {h h1 h2 : MH} {δ δ2 : MS} {t : MT} {b : MSt} {r : SR}
@[simp] theorem isi_non_tuple : fIsi [.non, .ty "tuple"] h = .ok (.bl false) h := fIsi_of (n := "NoneType") rfl (by decide) (by decide)
@[simp] theorem isi_bl_tuple {k : Bool} : fIsi [(.bl k), .ty "tuple"] h = .ok (.bl false) h := fIsi_of (n := "bool") rfl (by decide) (by decide)
@[simp] theorem isi_int_tuple {i : Int} : fIsi [(.int i), .ty "tuple"] h = .ok (.bl false) h := fIsi_of (n := "int") rfl (by decide) (by decide)
@[simp] theorem isi_str_tuple {s : Str} : fIsi [(.str s), .ty "tuple"] h = .ok (.bl false) h := fIsi_of (n := "str") rfl (by decide) (by decide)
@[simp] theorem isi_tup_tuple {ds : List D} : fIsi [(.tup ds), .ty "tuple"] h = .ok (.bl true) h := fIsi_of (n := "tuple") rfl (by decide) (by decide)
@[simp] theorem isi_rol_tuple {ds : List D} : fIsi [(.rol ds), .ty "tuple"] h = .ok (.bl false) h := fIsi_of (n := "list") rfl (by decide) (by decide)
theorem isi_ref_tuple {n : Nat} {ds : List D} (e : h[n]? = some (.lst ds)) : fIsi [.ref n, .ty "tuple"] h = .ok (.bl false) h := fIsi_of (n := "list") (by unfold tyName; simp only [e]) (by decide) (by decide)
@[simp] theorem isi_non_str : fIsi [.non, .ty "str"] h = .ok (.bl false) h := fIsi_of (n := "NoneType") rfl (by decide) (by decide)
@[simp] theorem isi_bl_str {k : Bool} : fIsi [(.bl k), .ty "str"] h = .ok (.bl false) h := fIsi_of (n := "bool") rfl (by decide) (by decide)
@[simp] theorem isi_int_str {i : Int} : fIsi [(.int i), .ty "str"] h = .ok (.bl false) h := fIsi_of (n := "int") rfl (by decide) (by decide)
@[simp] theorem isi_str_str {s : Str} : fIsi [(.str s), .ty "str"] h = .ok (.bl true) h := fIsi_of (n := "str") rfl (by decide) (by decide)
@[simp] theorem isi_tup_str {ds : List D} : fIsi [(.tup ds), .ty "str"] h = .ok (.bl false) h := fIsi_of (n := "tuple") rfl (by decide) (by decide)
@[simp] theorem isi_rol_str {ds : List D} : fIsi [(.rol ds), .ty "str"] h = .ok (.bl false) h := fIsi_of (n := "list") rfl (by decide) (by decide)
theorem isi_ref_str {n : Nat} {ds : List D} (e : h[n]? = some (.lst ds)) : fIsi [.ref n, .ty "str"] h = .ok (.bl false) h := fIsi_of (n := "list") (by unfold tyName; simp only [e]) (by decide) (by decide)
@[simp] theorem isi_non_int : fIsi [.non, .ty "int"] h = .ok (.bl false) h := fIsi_of (n := "NoneType") rfl (by decide) (by decide)
@[simp] theorem isi_bl_int {k : Bool} : fIsi [(.bl k), .ty "int"] h = .ok (.bl true) h := fIsi_of (n := "bool") rfl (by decide) (by decide)
@[simp] theorem isi_int_int {i : Int} : fIsi [(.int i), .ty "int"] h = .ok (.bl true) h := fIsi_of (n := "int") rfl (by decide) (by decide)
@[simp] theorem isi_str_int {s : Str} : fIsi [(.str s), .ty "int"] h = .ok (.bl false) h := fIsi_of (n := "str") rfl (by decide) (by decide)
@[simp] theorem isi_tup_int {ds : List D} : fIsi [(.tup ds), .ty "int"] h = .ok (.bl false) h := fIsi_of (n := "tuple") rfl (by decide) (by decide)
@[simp] theorem isi_rol_int {ds : List D} : fIsi [(.rol ds), .ty "int"] h = .ok (.bl false) h := fIsi_of (n := "list") rfl (by decide) (by decide)
theorem isi_ref_int {n : Nat} {ds : List D} (e : h[n]? = some (.lst ds)) : fIsi [.ref n, .ty "int"] h = .ok (.bl false) h := fIsi_of (n := "list") (by unfold tyName; simp only [e]) (by decide) (by decide)
@[simp] theorem isi_non_bool : fIsi [.non, .ty "bool"] h = .ok (.bl false) h := fIsi_of (n := "NoneType") rfl (by decide) (by decide)
@[simp] theorem isi_bl_bool {k : Bool} : fIsi [(.bl k), .ty "bool"] h = .ok (.bl true) h := fIsi_of (n := "bool") rfl (by decide) (by decide)
@[simp] theorem isi_int_bool {i : Int} : fIsi [(.int i), .ty "bool"] h = .ok (.bl false) h := fIsi_of (n := "int") rfl (by decide) (by decide)
@[simp] theorem isi_str_bool {s : Str} : fIsi [(.str s), .ty "bool"] h = .ok (.bl false) h := fIsi_of (n := "str") rfl (by decide) (by decide)
@[simp] theorem isi_tup_bool {ds : List D} : fIsi [(.tup ds), .ty "bool"] h = .ok (.bl false) h := fIsi_of (n := "tuple") rfl (by decide) (by decide)
@[simp] theorem isi_rol_bool {ds : List D} : fIsi [(.rol ds), .ty "bool"] h = .ok (.bl false) h := fIsi_of (n := "list") rfl (by decide) (by decide)
theorem isi_ref_bool {n : Nat} {ds : List D} (e : h[n]? = some (.lst ds)) : fIsi [.ref n, .ty "bool"] h = .ok (.bl false) h := fIsi_of (n := "list") (by unfold tyName; simp only [e]) (by decide) (by decide)
@[simp] theorem isi_non_list : fIsi [.non, .ty "list"] h = .ok (.bl false) h := fIsi_of (n := "NoneType") rfl (by decide) (by decide)
@[simp] theorem isi_bl_list {k : Bool} : fIsi [(.bl k), .ty "list"] h = .ok (.bl false) h := fIsi_of (n := "bool") rfl (by decide) (by decide)
@[simp] theorem isi_int_list {i : Int} : fIsi [(.int i), .ty "list"] h = .ok (.bl false) h := fIsi_of (n := "int") rfl (by decide) (by decide)
@[simp] theorem isi_str_list {s : Str} : fIsi [(.str s), .ty "list"] h = .ok (.bl false) h := fIsi_of (n := "str") rfl (by decide) (by decide)
@[simp] theorem isi_tup_list {ds : List D} : fIsi [(.tup ds), .ty "list"] h = .ok (.bl false) h := fIsi_of (n := "tuple") rfl (by decide) (by decide)
@[simp] theorem isi_rol_list {ds : List D} : fIsi [(.rol ds), .ty "list"] h = .ok (.bl true) h := fIsi_of (n := "list") rfl (by decide) (by decide)
theorem isi_ref_list {n : Nat} {ds : List D} (e : h[n]? = some (.lst ds)) : fIsi [.ref n, .ty "list"] h = .ok (.bl true) h := fIsi_of (n := "list") (by unfold tyName; simp only [e]) (by decide) (by decide)
@[simp] theorem isi_non_dict : fIsi [.non, .ty "dict"] h = .ok (.bl false) h := fIsi_of (n := "NoneType") rfl (by decide) (by decide)
@[simp] theorem isi_bl_dict {k : Bool} : fIsi [(.bl k), .ty "dict"] h = .ok (.bl false) h := fIsi_of (n := "bool") rfl (by decide) (by decide)
@[simp] theorem isi_int_dict {i : Int} : fIsi [(.int i), .ty "dict"] h = .ok (.bl false) h := fIsi_of (n := "int") rfl (by decide) (by decide)
@[simp] theorem isi_str_dict {s : Str} : fIsi [(.str s), .ty "dict"] h = .ok (.bl false) h := fIsi_of (n := "str") rfl (by decide) (by decide)
@[simp] theorem isi_tup_dict {ds : List D} : fIsi [(.tup ds), .ty "dict"] h = .ok (.bl false) h := fIsi_of (n := "tuple") rfl (by decide) (by decide)
@[simp] theorem isi_rol_dict {ds : List D} : fIsi [(.rol ds), .ty "dict"] h = .ok (.bl false) h := fIsi_of (n := "list") rfl (by decide) (by decide)
theorem isi_ref_dict {n : Nat} {ds : List D} (e : h[n]? = some (.lst ds)) : fIsi [.ref n, .ty "dict"] h = .ok (.bl false) h := fIsi_of (n := "list") (by unfold tyName; simp only [e]) (by decide) (by decide)
theorem isi2_of {m : ME} {d : D} {t a b : String} {x y : Bool} (e : m δ h = .ok d h1) (e1 : tyName d h1 = some t) (e2 : isTyB t a = some x) (e3 : isTyB t b = some y) : mIsi2 a b m δ h = .ok (.bl (x || y)) h1 := by
  unfold mIsi2
  rw [e, R.bnd_ok]
  simp only [e1, Option.bind_some, e2, e3, Option.map_some]
/-! while, step by step -/
theorem mWhile_inv (e : mWhile t b δ h = r) (ne : r ≠ .stuck) : ∃ n, whileM t b n δ h = r := by
  unfold mWhile at e
  split at e
  · exact ⟨_, e⟩
  · exact absurd e.symm ne
theorem mWhile_end (et : t δ h = .ok false h1) : mWhile t b δ h = .ok (.next δ) h1 := mWhile_eq 1 (by unfold whileM; rw [et]; rfl) (by intro z; cases z)
theorem mWhile_next (et : t δ h = .ok true h1) (eb : b δ h1 = .ok (.next δ2) h2) (e : mWhile t b δ2 h2 = r) (ne : r ≠ .stuck) : mWhile t b δ h = r := by
  obtain ⟨n, e⟩ := mWhile_inv e ne
  refine mWhile_eq (n + 1) ?_ ne
  unfold whileM
  rw [et, R.st_ok, if_pos rfl, eb]
  exact e
theorem mWhile_cont (et : t δ h = .ok true h1) (eb : b δ h1 = .ok (.cont δ2) h2) (e : mWhile t b δ2 h2 = r) (ne : r ≠ .stuck) : mWhile t b δ h = r := by
  obtain ⟨n, e⟩ := mWhile_inv e ne
  refine mWhile_eq (n + 1) ?_ ne
  unfold whileM
  rw [et, R.st_ok, if_pos rfl, eb]
  exact e
theorem mWhile_brk (et : t δ h = .ok true h1) (eb : b δ h1 = .ok (.brk δ2) h2) : mWhile t b δ h = .ok (.next δ2) h2 := by
  refine mWhile_eq 1 ?_ (by intro z; cases z)
  unfold whileM
  rw [et, R.st_ok, if_pos rfl, eb]
theorem mWhile_ret {d : D} (et : t δ h = .ok true h1) (eb : b δ h1 = .ok (.ret d) h2) : mWhile t b δ h = .ok (.ret d) h2 := by
  refine mWhile_eq 1 ?_ (by intro z; cases z)
  unfold whileM
  rw [et, R.st_ok, if_pos rfl, eb]
/-! members -/
theorem flatL_strs (l : List Str) : flatL (l.map D.str) = some (l.map V.str) := by
  induction l with
  | nil => rfl
  | cons x r ih => show (flatD (.str x)).bind _ = _; rw [show flatL (r.map D.str) = some (r.map V.str) from ih]; rfl
theorem inV_strs (x : Str) (l : List Str) : inV (.str x) (l.map V.str) = decide (x ∈ l) := by
  induction l with
  | nil => rfl
  | cons y r ih =>
    show (eqV (.str y) (.str x) || inV (.str x) (r.map V.str)) = _
    rw [ih]
    by_cases e : x = y
    · subst e
      simp [eqV]
    · have : eqV (.str y) (.str x) = false := by
        show decide (y = x) = false
        exact decide_eq_false fun z => e z.symm
      rw [this]
      simp [e]
theorem opIn_strs {x : Str} {l : List Str} : opIn (.str x) (.tup (l.map D.str)) h = .ok (.bl (decide (x ∈ l))) h := by
  unfold opIn inG
  simp only [flatL_strs, show flatD (.str x) = some (.str x) from rfl, Option.bind_some, Option.map_some, inV_strs]
theorem opNin_strs {x : Str} {l : List Str} : opNin (.str x) (.tup (l.map D.str)) h = .ok (.bl (!decide (x ∈ l))) h := by
  unfold opNin inG
  simp only [flatL_strs, show flatD (.str x) = some (.str x) from rfl, Option.bind_some, Option.map_some, inV_strs]
theorem opEq_none_int {i : Int} : opEq .non (.int i) h = .ok (.bl false) h := opEq_S rfl
/-! lists that change -/
theorem pop_ok {n : Nat} {es : List D} {x : D} (e : h[n]? = some (.lst (es ++ [x]))) : fPop (.ref n) [] h = .ok x (h.set n (.lst es)) := by
  unfold fPop
  simp only [lst?_of e]
  rw [show (es ++ [x])[(es ++ [x]).length - 1]? = some x by simp]
  simp
theorem ext_ok {n : Nat} {es fs : List D} {x : D} (e : h[n]? = some (.lst es)) (ex : seqG x h = some fs) (hz : es.length + fs.length ≤ 16777216) : fExtend (.ref n) [x] h = .ok .non (h.set n (.lst (es ++ fs))) := by
  unfold fExtend
  simp only [lst?_of e, ex, if_pos hz]
theorem app_ok {n : Nat} {es : List D} {x : D} (e : h[n]? = some (.lst es)) (hz : es.length < 16777216) : fAppend (.ref n) [x] h = .ok .non (h.set n (.lst (es ++ [x]))) := by
  unfold fAppend
  simp only [lst?_of e, if_pos hz]
theorem isTy_list {n : Nat} {es : List D} (e : h[n]? = some (.lst es)) : isTy "list" (.ref n) h = true := by rw [isTy_ref (lst?_of e)]; rfl
theorem tru_ref {n : Nat} {es : List D} (e : h[n]? = some (.lst es)) : truD (.ref n) h = .ok (!es.isEmpty) h := truD_ref (lst?_of e)
theorem ints_map (l : List Int) : intsL (l.map D.int) = some l := by
  induction l with
  | nil => rfl
  | cons x r ih => show (intsL (r.map _)).map _ = _; rw [ih]; rfl
theorem sum_ok {l : List Int} : fSum [.rol (l.map D.int)] h = .ok (.int l.sum) h := by
  unfold fSum
  simp only [lstD_rol, Option.bind_some, ints_map]
@[simp] theorem mgTup_tup {n : Nat} {gs : MGs} {ds : List D} : mgTup n gs (.tup ds) δ = if ds.length = n then gs ds δ else none := rfl
@[simp] theorem mgCons_cons {g : MG} {gs : MGs} {d : D} {ds : List D} : mgCons g gs (d :: ds) δ = (g d δ).bind fun δ' => gs ds δ' := rfl
@[simp] theorem mgNil_nil : mgNil [] δ = some δ := rfl
end
end MM

/-! sorted texts -/
namespace MM
open PySem PySem.Spec PyProof.Rows L2
def leS (a b : Str) : Bool := !ltCps b.cps.toList a.cps.toList
theorem leS_iff {a b : Str} : leS a b = true ↔ a.cps.toList ≤ b.cps.toList := by
  unfold leS
  rw [ltCps_eq]
  simp
theorem leS_trans (a b c : Str) (h1 : leS a b = true) (h2 : leS b c = true) : leS a c = true := leS_iff.mpr (List.le_trans (leS_iff.mp h1) (leS_iff.mp h2))
theorem leS_total (a b : Str) : (leS a b || leS b a) = true := by
  rw [Bool.or_eq_true]
  rcases List.le_total a.cps.toList b.cps.toList with h | h
  · exact .inl (leS_iff.mpr h)
  · exact .inr (leS_iff.mpr h)
theorem leS_anti {a b : Str} (h1 : leS a b = true) (h2 : leS b a = true) : a = b := by
  have := List.le_antisymm (leS_iff.mp h1) (leS_iff.mp h2)
  rw [tx_of a, tx_of b, this]
theorem rising_pw : ∀ (l : List Str) (p : Str), risingS p l = true → (p :: l).Pairwise (fun a b => leS a b = true)
  | [], p, _ => by simp
  | x :: r, p, h => by
    obtain ⟨h1, h2⟩ := andT (show (leS p x && risingS x r) = true from h)
    have ih := rising_pw r x h2
    rw [List.pairwise_cons]
    refine ⟨fun y hy => ?_, ih⟩
    rcases List.mem_cons.mp hy with rfl | hy
    · exact h1
    · exact leS_trans _ _ _ h1 ((List.pairwise_cons.mp ih).1 y hy)
theorem sorted_pw : ∀ {l : List Str}, sortedS l = true → l.Pairwise (fun a b => leS a b = true)
  | [], _ => .nil
  | x :: r, h => rising_pw r x h
theorem sorted_is {ks ys : List Str} (hp : ys.Perm ks) (hs : sortedS ys = true) : ys = ks.mergeSort leS :=
  List.Perm.eq_of_pairwise (fun a b _ _ h1 h2 => leS_anti h1 h2) (sorted_pw hs) (List.pairwise_mergeSort leS_trans leS_total ks) (hp.trans (List.mergeSort_perm ks leS).symm)
def strKeys : List Key → Option (List Str)
  | [] => some []
  | .inr s :: r => (strKeys r).map fun l => s :: l
  | .inl _ :: _ => none
theorem strKeys_ok : ∀ {ks : List Key} {l : List Str}, strKeys ks = some l → ks = l.map Sum.inr
  | [], _, e => by cases e; rfl
  | .inr s :: r, _, e => by
    obtain ⟨l, e1, rfl⟩ := Option.map_eq_some_iff.mp (show (strKeys r).map (fun l => s :: l) = some _ from e)
    rw [strKeys_ok e1]; rfl
  | .inl _ :: _, _, e => by cases e
def fSorted (ds : List D) (h : MH) : R D := match ds with
  | [.rdc ks _] => (match strKeys ks with
    | some l => if l.length < 64 then .ok (.rol ((l.mergeSort leS).map D.str)) h else .stuck
    | none => .stuck)
  | _ => .stuck
theorem fSorted_ok {K : PySem.W.Frag} : CallM K (fun xs H Q => ∃ (a : Addr) (kvs : List (Key × V)) (ks : List Str), xs = [.ref a] ∧ Rd H a (.dK kvs) ∧ kvs.map (·.1) = ks.map Sum.inr ∧ ks.length < 64 ∧
    ∀ ys p, ys.Perm ks → sortedS ys = true → H p = none → Q (.ref p) (upd H p (.lst (ys.map V.str)))) fSorted := by
  intro L H h ds vs Q E r w a
  unfold fSorted at a
  split at a
  · rename_i ks ds'
    obtain ⟨v, rfl, q⟩ := w.one
    split at a
    · rename_i l el
      split at a
      · rename_i hz
        unfold Rep at q
        obtain ⟨p, xs, rfl, s, n, z, w⟩ := q
        refine ⟨p, ks.zip xs, l, rfl, s, ?_, hz, fun ys p' hp hs hn => ?_⟩
        · rw [← strKeys_ok el]
          exact List.map_fst_zip (by rw [← w.length, z.1]; exact Nat.le_refl _)
        · rw [sorted_is hp hs]
          exact ans_of (rep_rol r hn (repL_strs _)) a
      · exact a.elim
    · exact a.elim
  · exact a.elim
/-! ### [a, *b] -/
def mStar (m : ME) (ms : MA) : MA := fun δ h => (m δ h).bnd fun d h1 => match seqG d h1 with
  | some ds => (ms δ h1).bnd fun es h2 => .ok (ds ++ es) h2
  | none => .stuck
theorem pam_star {X : Cx} {W : WX} {e : Expr} {es : List Expr} {me : ME} {mas : MA} {p : Pos} (ha : PEM X W e me) (hr : PAM X W es mas) : PAM X W (.Starred e p :: es) (mStar me mas) :=
  PA.imp (StX.pa_star ha hr) fun σ H Q ⟨L, h, δ, r, s, a⟩ => ⟨L, h, δ, r, s, Ans.imp (Ans.bind (rp := Rep X.K) a) fun v H1 ⟨L1, h1, d, x1, r1, p1, a1⟩ => by
    split at a1
    · rename_i ds e1
      obtain ⟨q, xs, rfl, sq, w⟩ := seqG_of r1 p1 e1
      exact ⟨q, xs, rfl, sq.symm, L1, h1, δ, r1, s.mono x1, Ans.imp (Ans.bind (rp := RepL X.K) a1) fun vs H2 ⟨L2, h2, es, x2, r2, p2, a2⟩ => a2 L2 H2 (xs ++ vs) (Ext.refl _ _) r2 ((w.mono x2).append p2)⟩
    · exact a1.elim⟩
/-! ### i ^ j -/
def opXor (x y : D) (h : MH) : R D := match x, y with
  | .int i, .int j => .ok (.int (Builtin.bitXor i j)) h
  | _, _ => .stuck
theorem opXor_ok {K : PySem.W.Frag} : OpM K (rI0 fun i j => .int (Builtin.bitXor i j)) opXor := by
  intro L H h dx dy x y Q E r px py a
  unfold opXor at a
  split at a
  · rename_i i j
    exact ⟨i, j, rep_int_inv px, rep_int_inv py, ans_okE r rep_int a⟩
  · exact a.elim
end MM

/-! dicts that change: made, read, written, walked under a lock -/
namespace MM
open PySem PySem.Spec PyProof.Rows L2
theorem _root_.L2.PS.or {X : Cx} {e : Stmt} {t t' : TS} (p : PS X e t) (p' : PS X e t') : PS X e (fun D σ H => t D σ H ∨ t' D σ H) := ⟨fun pins s σ H Q I q => q.elim (p.run pins s σ H Q I) (p'.run pins s σ H Q I)⟩
theorem _root_.L2.PE.or {X : Cx} {e : Expr} {t t' : TE} (p : PE X e t) (p' : PE X e t') : PE X e (fun σ H Q => t σ H Q ∨ t' σ H Q) := ⟨fun pins s σ H Q I q => q.elim (p.run pins s σ H Q I) (p'.run pins s σ H Q I)⟩
section
variable {K : PySem.W.Frag} {L L' : TL} {H H' H2 : Hp} {h h' : MH} {a p : Addr}
/-! ### reading as before -/
def RdM (H H2 : Hp) : Prop := ∀ b w, (∀ o u, w ≠ .frz o u) → Rd H b w → Rd H2 b w
mutual
theorem Rep.rdm (m : RdM H H2) : ∀ {d : D} {v : V}, Rep K L H d v → Rep K L H2 d v
  | .non, _, r => by unfold Rep at r ⊢; exact r
  | .bl _, _, r => by unfold Rep at r ⊢; exact r
  | .int _, _, r => by unfold Rep at r ⊢; exact r
  | .str _, _, r => by unfold Rep at r ⊢; exact r
  | .obj _, _, r => by unfold Rep at r ⊢; exact r
  | .ty _, _, r => by unfold Rep at r ⊢; exact r
  | .kon _, _, r => by unfold Rep at r ⊢; exact r
  | .ref _, _, r => by unfold Rep at r ⊢; exact r
  | .rdc ks ds, _, r => by
    unfold Rep at r ⊢
    obtain ⟨a, xs, e1, s, n, l, q⟩ := r
    exact ⟨a, xs, e1, m _ _ (by intro _ _ z; cases z) s, n, l, RepL.rdm m q⟩
  | .xo a d fl ds, _, r => by
    unfold Rep at r ⊢
    obtain ⟨e1, xs, s, n, l, q⟩ := r
    exact ⟨e1, xs, m _ _ (by intro _ _ z; cases z) s, n, l, RepL.rdm m q⟩
  | .tup ds, _, r => by
    unfold Rep at r ⊢
    obtain ⟨a, xs, e1, s, q⟩ := r
    refine ⟨a, xs, e1, ?_, RepL.rdm m q⟩
    rcases s with ⟨s, n⟩ | s
    · exact .inl ⟨m _ _ (by intro _ _ z; cases z) s, n⟩
    · exact .inr s
  | .rol ds, _, r => by
    unfold Rep at r ⊢
    obtain ⟨a, xs, e1, s, q⟩ := r
    refine ⟨a, xs, e1, ?_, RepL.rdm m q⟩
    rcases s with ⟨s, n⟩ | s
    · exact .inl ⟨m _ _ (by intro _ _ z; cases z) s, n⟩
    · exact .inr s
theorem RepL.rdm (m : RdM H H2) : ∀ {ds : List D} {vs : List V}, RepL K L H ds vs → RepL K L H2 ds vs
  | [], _, r => by rw [r.nil_inv]; exact .nil
  | d :: ds, _, r => by
    obtain ⟨v, vs, rfl, q, w⟩ := r.cons_inv
    exact .cons (Rep.rdm m q) (RepL.rdm m w)
end
theorem RepK.rdm (m : RdM H H2) : ∀ {ds : List (Key × D)} {vs}, RepK K L H ds vs → RepK K L H2 ds vs
  | [], _, r => r
  | d :: ds, _, ⟨v, vs, e1, q, w⟩ => ⟨v, vs, e1, q.rdm m, RepK.rdm m w⟩
theorem RepF.rdm (m : RdM H H2) : ∀ {ds : List (Str × D)} {vs}, RepF K L H ds vs → RepF K L H2 ds vs
  | [], _, r => r
  | d :: ds, _, ⟨v, vs, e1, q, w⟩ => ⟨v, vs, e1, q.rdm m, RepF.rdm m w⟩
theorem RepS.rdm {δ : MS} {σ : L2.St} (m : RdM H H2) (r : RepS K L H δ σ) : RepS K L H2 δ σ := ⟨r.len, fun i d e => let ⟨v, e1, q⟩ := r.at' i d e; ⟨v, e1, q.rdm m⟩⟩
theorem rdm_lock {u : HO} {o : Obj} (e : H a = some u) (nf : ∀ o w, u ≠ .frz o w) : RdM H (upd H a (.frz o u)) := fun b w nw r => by
  by_cases hb : b = a
  · subst hb
    rcases r with r | ⟨o', r⟩
    · rw [e] at r; cases r
      exact .inr ⟨o, upd_same⟩
    · rw [e] at r; exact absurd (Option.some.inj r) (nf _ _)
  · exact rd_ne r hb
theorem rdm_unlock {u : HO} {o : Obj} (e : H a = some (.frz o u)) : RdM H (upd H a u) := fun b w nw r => by
  by_cases hb : b = a
  · subst hb
    rcases r with r | ⟨o', r⟩
    · rw [e] at r; cases r
      exact absurd rfl (nw _ _)
    · rw [e] at r
      have : u = w := by injection r with r; injection r
      subst this
      exact .inl upd_same
  · exact rd_ne r hb
theorem OAt.rdm (m : RdM H H2) {l : Option (Option Addr)} {o : MO} (same : ∀ a, l = some (some a) → H2 a = H a) (q : OAt K L H l o) : OAt K L H2 l o := by
  cases o with
  | dead => exact q
  | lst ds => obtain ⟨b, xs, e1, e2, w⟩ := q; exact ⟨b, xs, e1, (same b e1).trans e2, w.rdm m⟩
  | dic ds => obtain ⟨b, xs, e1, e2, w⟩ := q; exact ⟨b, xs, e1, (same b e1).trans e2, w.rdm m⟩
  | ldc ds => obtain ⟨b, o, xs, e1, e2, w⟩ := q; exact ⟨b, o, xs, e1, (same b e1).trans e2, w.rdm m⟩
  | ins C ds => obtain ⟨b, dx, Ca, xs, e1, e2, w, hC⟩ := q; exact ⟨b, dx, Ca, xs, e1, (same b e1).trans e2, w.rdm m, hC⟩
theorem Rel.put (r : Rel K L H h) {n : Nat} {o : HO} {mo : MO} (en : L[n]? = some (some a)) (m : RdM H (upd H a o)) (q : OAt K L (upd H a o) (some (some a)) mo) : Rel K L (upd H a o) (h.set n mo) := by
  refine ⟨by rw [List.length_set]; exact r.len, fun k u e => ?_, r.inj⟩
  by_cases hk : n = k
  · subst hk
    rw [List.getElem?_set_self (r.ltL en)] at e
    cases e
    rw [en]; exact q
  · rw [List.getElem?_set_ne hk] at e
    exact (r.at' k u e).rdm m fun b eb => upd_ne fun z => hk (r.inj n k a en (by rw [← z]; exact eb))
theorem Rel.ldc {n : Nat} {ds} (r : Rel K L H h) (e : h[n]? = some (.ldc ds)) : ∃ a o xs, L[n]? = some (some a) ∧ H a = some (.frz o (.dK xs)) ∧ RepK K L H ds xs := r.at' n _ e
theorem Rel.lock (r : Rel K L H h) {n : Nat} {kvs} {ws : List (Key × V)} (en : L[n]? = some (some a)) (eH : H a = some (.dK ws)) (w : RepK K L H kvs ws) (od : Obj) :
    Ext L H L (upd H a (.frz od (.dK ws))) ∧ Rel K L (upd H a (.frz od (.dK ws))) (h.set n (.ldc kvs)) := by
  have m : RdM H (upd H a (.frz od (.dK ws))) := rdm_lock eH fun _ _ z => by cases z
  have nf : ∀ o u, H a ≠ some (.frz o u) := fun o u z => by rw [eH] at z; cases z
  exact ⟨ext_write en nf, r.put en m ⟨a, od, ws, rfl, upd_same, w.rdm m⟩⟩
theorem Rel.unlock (r : Rel K L' H' h') {n : Nat} {kvs' : List (Key × D)} {ws : List (Key × V)} {od : Obj} (en : L[n]? = some (some a)) (eH : H a = some (.dK ws)) (x : Ext L (upd H a (.frz od (.dK ws))) L' H') (e : h'[n]? = some (.ldc kvs')) :
    H' a = some (.frz od (.dK ws)) ∧ Ext L H L' (upd H' a (.dK ws)) ∧ Rel K L' (upd H' a (.dK ws)) (h'.set n (.dic kvs')) ∧ RdM H' (upd H' a (.dK ws)) := by
  have f := x.lkd a od (.dK ws) upd_same
  obtain ⟨a', o', ws', z1, z2, w⟩ := r.ldc e
  have ea : a' = a := by
    rcases x.live n _ en with z | z
    · rw [z1] at z; cases z; rfl
    · rw [z1] at z; cases z
  subst ea
  rw [f] at z2; cases z2
  have m : RdM H' (upd H' a' (.dK ws)) := rdm_unlock f
  refine ⟨f, ⟨x.live, fun b o e nb => ?_, fun b o u e => ?_⟩, r.put z1 m ⟨a', ws, rfl, upd_same, w.rdm m⟩, m⟩
  · have nba : b ≠ a' := fun z => nb n (by rw [z]; exact en)
    obtain ⟨g1, g2⟩ := x.kept b o (by rw [upd_ne nba]; exact e) nb
    exact ⟨by rw [upd_ne nba]; exact g1, g2⟩
  · have nba : b ≠ a' := fun z => by rw [z, eH] at e; cases e
    rw [upd_ne nba]
    exact x.lkd b o u (by rw [upd_ne nba]; exact e)
end
/-! ### a statement while a dict is walked -/
def unlk (n : Nat) (r : SR) : SR := match r with
  | .ok f h' => (match h'[n]? with
    | some (.ldc kvs) => .ok f (h'.set n (.dic kvs))
    | _ => .stuck)
  | r => r
def mLock (i : Nat) (m : MSt) : MSt := fun δ h => match δ[i]? with
  | some (some (.ref n)) => (match h[n]? with
    | some (.dic kvs) => unlk n (m δ (h.set n (.ldc kvs)))
    | _ => m δ h)
  | _ => m δ h
theorem psm_lock {X : Cx} {W : WX} {st : Stmt} {m : MSt} (i : Nat) (hb : PSM X W st m) : PSM X W st (mLock i m) := by
  refine PS.imp ((ps_lock hb).or hb) fun D σ H ⟨L, h, δ, r, s, q⟩ => ?_
  unfold mLock at q
  split at q
  · rename_i n ei
    split at q
    · rename_i kvs en
      obtain ⟨a, ws, e1, e2, w⟩ := r.dic en
      refine .inl ⟨a, .dK ws, e2, trivial, fun od => ?_⟩
      obtain ⟨x2, r2⟩ := r.lock e1 e2 w od
      refine ⟨L, _, δ, r2, s.mono x2, ?_⟩
      generalize m δ (h.set n (.ldc kvs)) = res at q
      cases res with
      | stuck => exact q
      | exc c fs δ' h' => exact fun L' H' σ' dx xs x' r' s' => q L' H' σ' dx xs (x2.trans x') r' s'
      | ok f h' =>
        unfold unlk at q
        simp only at q
        split at q
        · rename_i kvs' en'
          cases f with
          | next δ' => exact fun L' H' σ' x' r' s' => let ⟨f1, x3, r3, m3⟩ := r'.unlock e1 e2 x' en'; ⟨f1, q L' _ σ' x3 r3 (s'.rdm m3)⟩
          | ret d => exact fun L' H' σ' x' r' s' => let ⟨f1, x3, r3, m3⟩ := r'.unlock e1 e2 x' en'; ⟨f1, q L' _ σ' x3 r3 (s'.rdm m3)⟩
          | brk δ' => exact fun L' H' σ' x' r' s' => let ⟨f1, x3, r3, m3⟩ := r'.unlock e1 e2 x' en'; ⟨f1, q L' _ σ' x3 r3 (s'.rdm m3)⟩
          | cont δ' => exact fun L' H' σ' x' r' s' => let ⟨f1, x3, r3, m3⟩ := r'.unlock e1 e2 x' en'; ⟨f1, q L' _ σ' x3 r3 (s'.rdm m3)⟩
        · exact q.elim
    · exact .inr ⟨L, h, δ, r, s, q⟩
  · exact .inr ⟨L, h, δ, r, s, q⟩
/-! ### what is walked -/
def keyAt : Key → D
  | .inl i => .int i
  | .inr s => .str s
theorem rep_key {K L H} {k : Key} : Rep K L H (keyAt k) (kV k) := by
  cases k with
  | inl i => exact rep_int
  | inr s => exact rep_str
def ldc? (d : D) (h : MH) : Option (Nat × List (Key × D)) := match d with
  | .ref n => (match h[n]? with
    | some (.ldc kvs) => some (n, kvs)
    | _ => none)
  | _ => none
theorem ldc?_at {d : D} {h : MH} {n kvs} (e : ldc? d h = some (n, kvs)) : d = .ref n ∧ h[n]? = some (.ldc kvs) := by
  unfold ldc? at e
  split at e
  · split at e
    · rename_i z; cases e; exact ⟨rfl, z⟩
    · cases e
  · cases e
theorem RepK.get {K L H} : ∀ {ds : List (Key × D)} {vs} {i : Nat} {p : Key × V}, RepK K L H ds vs → vs[i]? = some p → ∃ d, ds[i]? = some (p.1, d) ∧ Rep K L H d p.2
  | [], _, _, _, r, e => by cases r; simp at e
  | d :: ds, _, 0, _, ⟨v, vs, ev, q, w⟩, e => by
    subst ev
    cases e
    exact ⟨d.2, rfl, q⟩
  | d :: ds, _, i + 1, _, ⟨v, vs, ev, q, w⟩, e => by
    subst ev
    exact RepK.get (i := i) w (by simpa using e)
def srcKeys (d : D) (h : MH) : R Src := match ldc? d h with
  | some (n, kvs) => .ok ⟨kvs.map fun p => keyAt p.1, fun h' => h'[n]? = some (.ldc kvs)⟩ h
  | none => .stuck
def mKeys (m : ME) : MI := fun δ h => (m δ h).bnd srcKeys
def srcVals (d : D) (h : MH) : R Src := match ldc? d h with
  | some (n, kvs) => .ok ⟨kvs.map fun p => p.2, fun h' => h'[n]? = some (.ldc kvs)⟩ h
  | none => .stuck
def mVals (m : ME) : MI := fun δ h => (m δ h).bnd srcVals
def srcItems (d : D) (h : MH) : R Src := match ldc? d h with
  | some (n, kvs) => .ok ⟨kvs.map fun p => .tup [keyAt p.1, p.2], fun h' => h'[n]? = some (.ldc kvs)⟩ h
  | none => .stuck
def mItems (m : ME) : MI := fun δ h => (m δ h).bnd srcItems
section
variable {X : Cx} {W : WX} {tg a : Expr} {ma : ME} {apos cpos : Pos}
theorem ldc_in {K : PySem.W.Frag} {L L' : TL} {H H' : Hp} {h h' : MH} {n : Nat} {kvs : List (Key × D)} {b : Addr} {o : Obj} {ws : List (Key × V)} (r' : Rel K L' H' h') (x : Ext L H L' H') (e1 : L[n]? = some (some b)) (e2 : H b = some (.frz o (.dK ws))) (e : h'[n]? = some (.ldc kvs)) :
    H' b = some (.frz o (.dK ws)) ∧ RepK K L' H' kvs ws := by
  have f := x.lkd b o _ e2
  obtain ⟨a', o', ws', z1, z2, w⟩ := r'.ldc e
  have ea : a' = b := by
    rcases x.live n _ e1 with z | z
    · rw [z1] at z; cases z; rfl
    · rw [z1] at z; cases z
  subst ea
  rw [f] at z2; cases z2
  exact ⟨f, w⟩
theorem tI_src {K : PySem.W.Frag} {W : WX} {ma : ME} {f : D → MH → R Src} {σ : L2.St} {H : Hp} {R : It → Hp → Prop} {G : VK} (hf : ∀ d h, (∃ S, f d h = .ok S h) ∨ f d h = .stuck) (q : tI K W (fun δ h => (ma δ h).bnd f) σ H R)
    (g : ∀ L' H' h' d v S, Rel K L' H' h' → Rep K L' H' d v → f d h' = .ok S h' → (∀ J, Trod K L' H' J S.ds S.g → R J H') → G v H') : tE K W ma σ H G := by
  obtain ⟨L, h, δ, r, s, q⟩ := q
  refine ⟨L, h, δ, r, s, ?_⟩
  replace q : AnsI K W σ L H ((ma δ h).bnd f) R := q
  generalize ma δ h = m at q
  cases m with
  | stuck => exact q.elim
  | exc c fs h1 => exact q
  | ok d h1 =>
    intro L' H' v x r' p
    rcases hf d h1 with ⟨S, e⟩ | e
    · rw [MM.R.bnd_ok, e] at q
      exact g L' H' h1 d v S r' p e fun J t => q L' H' J x r' t
    · rw [MM.R.bnd_ok, e] at q
      exact q.elim
theorem src_ldc {f : List (Key × D) → List D} {F : D → MH → R Src} (hF : ∀ d h, F d h = match ldc? d h with
  | some (n, kvs) => .ok ⟨f kvs, fun h' => h'[n]? = some (.ldc kvs)⟩ h
  | none => .stuck) : (∀ d h, (∃ S, F d h = .ok S h) ∨ F d h = .stuck) ∧ ∀ d h S, F d h = .ok S h → ∃ n kvs, d = .ref n ∧ h[n]? = some (.ldc kvs) ∧ S = ⟨f kvs, fun h' => h'[n]? = some (.ldc kvs)⟩ := by
  refine ⟨fun d h => ?_, fun d h S e => ?_⟩
  · rw [hF]
    cases ldc? d h with
    | some p => exact .inl ⟨_, rfl⟩
    | none => exact .inr rfl
  · rw [hF] at e
    cases z : ldc? d h with
    | some p =>
      obtain ⟨n, kvs⟩ := p
      rw [z] at e
      obtain ⟨e1, e2⟩ := ldc?_at z
      cases e
      exact ⟨n, kvs, e1, e2, rfl⟩
    | none => rw [z] at e; cases e
theorem pim_keys (ha : PEM X W a ma) : PIM X W tg a (mKeys ma) := by
  obtain ⟨h1, h2⟩ := src_ldc (f := fun kvs => kvs.map fun p => keyAt p.1) (F := srcKeys) (fun d h => rfl)
  refine PI.imp (pi_keys ha) fun σ H R q => tI_src h1 q fun L' H' h' d v S r' p e k => ?_
  obtain ⟨n, kvs, rfl, en, rfl⟩ := h2 _ _ _ e
  obtain ⟨b, o, ws, e1, e2, w⟩ := r'.ldc en
  refine ⟨b, o, p.ref e1, .inl ⟨ws, e2, k _ ⟨fun L2 H2 h2 i x2 r2 g2 hi => ?_, fun L2 H2 h2 x2 r2 g2 => ?_, fun L2 H2 h2 i x H3 x2 r2 g2 hi hy => ?_⟩⟩⟩
  · obtain ⟨f1, w1⟩ := ldc_in (h := h') r2 x2 e1 e2 g2
    exact ⟨f1, by rw [← w1.length]; simpa using hi⟩
  · obtain ⟨f1, w1⟩ := ldc_in (h := h') r2 x2 e1 e2 g2
    exact ⟨f1, by rw [← w1.length]; simp⟩
  · obtain ⟨f1, w1⟩ := ldc_in (h := h') r2 x2 e1 e2 g2
    obtain ⟨rfl, y, v, e5, rfl⟩ := hy
    obtain ⟨d, e6, _⟩ := w1.get e5
    exact ⟨Ext.refl _ _, r2, keyAt y, by rw [List.getElem?_map, e6]; rfl, rep_key⟩
theorem pim_vals (ha : PEM X W a ma) (hbase : attributeBase a "values" X.env (eval a X.env) = eval a X.env := by rfl) (hline : (apos.endLine == cpos.line) = true := by rfl) : PIM X W tg (.Call (.Attribute a "values" apos) [] [] cpos) (mVals ma) := by
  obtain ⟨h1, h2⟩ := src_ldc (f := fun kvs => kvs.map fun p => p.2) (F := srcVals) (fun d h => rfl)
  refine PI.imp (pi_values ha hbase hline) fun σ H R q => tI_src h1 q fun L' H' h' d v S r' p e k => ?_
  obtain ⟨n, kvs, rfl, en, rfl⟩ := h2 _ _ _ e
  obtain ⟨b, o, ws, e1, e2, w⟩ := r'.ldc en
  refine ⟨b, o, ws, p.ref e1, e2, k _ ⟨fun L2 H2 h2 i x2 r2 g2 hi => ?_, fun L2 H2 h2 x2 r2 g2 => ?_, fun L2 H2 h2 i x H3 x2 r2 g2 hi hy => ?_⟩⟩
  · obtain ⟨f1, w1⟩ := ldc_in (h := h') r2 x2 e1 e2 g2
    exact ⟨f1, by rw [← w1.length]; simpa using hi⟩
  · obtain ⟨f1, w1⟩ := ldc_in (h := h') r2 x2 e1 e2 g2
    exact ⟨f1, by rw [← w1.length]; simp⟩
  · obtain ⟨f1, w1⟩ := ldc_in (h := h') r2 x2 e1 e2 g2
    obtain ⟨rfl, y, e5⟩ := hy
    obtain ⟨d, e6, q6⟩ := w1.get e5
    exact ⟨Ext.refl _ _, r2, d, by rw [List.getElem?_map, e6]; rfl, q6⟩
theorem pim_items {elts : List Expr} {kk : Nat} {tpos : Pos} (ha : PEM X W a ma) (hbase : attributeBase a "items" X.env (eval a X.env) = eval a X.env := by rfl) (hline : (apos.endLine == cpos.line) = true := by rfl) : PIM X W (.Tuple elts kk tpos) (.Call (.Attribute a "items" apos) [] [] cpos) (mItems ma) := by
  obtain ⟨h1, h2⟩ := src_ldc (f := fun kvs => kvs.map fun p => .tup [keyAt p.1, p.2]) (F := srcItems) (fun d h => rfl)
  refine PI.imp (pi_items ha hbase hline) fun σ H R q => tI_src h1 q fun L' H' h' d v S r' p e k => ?_
  obtain ⟨n, kvs, rfl, en, rfl⟩ := h2 _ _ _ e
  obtain ⟨b, o, ws, e1, e2, w⟩ := r'.ldc en
  refine ⟨b, o, ws, p.ref e1, e2, k _ ⟨fun L2 H2 h2 i x2 r2 g2 hi => ?_, fun L2 H2 h2 x2 r2 g2 => ?_, fun L2 H2 h2 i x H3 x2 r2 g2 hi hy => ?_⟩⟩
  · obtain ⟨f1, w1⟩ := ldc_in (h := h') r2 x2 e1 e2 g2
    exact ⟨f1, by rw [← w1.length]; simpa using hi⟩
  · obtain ⟨f1, w1⟩ := ldc_in (h := h') r2 x2 e1 e2 g2
    exact ⟨f1, by rw [← w1.length]; simp⟩
  · obtain ⟨f1, w1⟩ := ldc_in (h := h') r2 x2 e1 e2 g2
    obtain ⟨T, y, z, e5, rfl, hT, rfl⟩ := hy
    obtain ⟨d, e6, q6⟩ := w1.get e5
    obtain ⟨x1, r1, q⟩ := rep_tup r2 hT (.cons rep_key (.cons q6 .nil))
    exact ⟨x1, r1, _, by rw [List.getElem?_map, e6]; rfl, q⟩
end
/-! ### new dicts -/
theorem rep_newD {K L H} {h : MH} {kvs} {ws : List (Key × V)} {p} (r : Rel K L H h) (hp : H p = none) (w : RepK K L H kvs ws) : Ext L H (L ++ [some p]) (upd H p (.dK ws)) ∧ Rel K (L ++ [some p]) (upd H p (.dK ws)) (h ++ [.dic kvs]) ∧ Rep K (L ++ [some p]) (upd H p (.dK ws)) (.ref h.length) (.ref p) := by
  obtain ⟨x, r'⟩ := r.alloc (m := .dic kvs) (o := .dK ws) hp ⟨p, ws, rfl, upd_same, w.mono (ext_alloc hp)⟩
  refine ⟨x, r', ?_⟩
  unfold Rep
  exact ⟨p, rfl, .inl (by rw [getElem?_snoc, if_pos r.len.symm])⟩
def mDicN : ME := fun _ h => .ok (.ref h.length) (h ++ [.dic []])
theorem pem_dicN {X : Cx} {W : WX} {pos : Pos} : PEM X W (.Dict [] [] pos) mDicN :=
  PE.imp pe_dnewK fun σ H Q ⟨L, h, δ, r, s, a⟩ p hp => ans_of (rep_newD r hp (show RepK X.K L H [] [] from rfl)) a
/-- {k: v, ..}, to be changed -/
def mDispN (m : MPr) : ME := fun δ h => (m δ (h ++ [.dic []])).bnd fun ps h1 => match keysD (ps.map (·.1)), dic? h1 h.length with
  | some ks, some [] => if ks.Nodup ∧ ks.length ≤ 15 then .ok (.ref h.length) (h1.set h.length (.dic (ks.zip (ps.map (·.2))))) else .stuck
  | _, _ => .stuck
theorem pem_dispN {X : Cx} {W : WX} {pos : Pos} {keys : List (Option Expr)} {values : List Expr} {m : MPr} (h : PPM X W pos keys values m) (hall : keys.all (·.isSome) = true) (hl : keys.length = values.length) (h0 : keys ≠ [])
    (h15 : keys.length ≤ 15) : PEM X W (.Dict keys values pos) (mDispN m) := by
  obtain ⟨trs, pp, f⟩ := h
  refine PE.imp (pe_disp pp hall hl h0 h15) fun σ H Q ⟨L, h, δ, r, s, a⟩ p hp => ?_
  obtain ⟨x0, r0, q0⟩ := rep_newD (kvs := []) (ws := []) r hp (show RepK X.K L H [] [] from rfl)
  have at0 : (L ++ [some p])[h.length]? = some (some p) := by rw [getElem?_snoc, if_pos r.len.symm]
  refine f σ (upd H p (.dK [])) _ ⟨_, _, δ, r0, s.mono x0, ?_⟩
  have a' := a
  unfold mDispN at a'
  generalize m δ (h ++ [.dic []]) = res at a'
  cases res with
  | stuck => exact a'.elim
  | exc c fs h1 => exact fun L2 H2 dx xs x2 => a' L2 H2 dx xs (x0.trans x2)
  | ok ds h2 =>
    intro L2 H2 qs x2 r2 p2
    rw [R.bnd_ok] at a'
    split at a'
    · rename_i ks ek ed
      split at a'
      · rename_i z
        obtain ⟨p', ws', z1, z2, w⟩ := r2.dic (dic?_at ed)
        have ep : p' = p := by
          rcases x2.live _ _ at0 with y | y
          · rw [z1] at y; cases y; rfl
          · rw [z1] at y; cases y
        subst ep
        cases w
        have e3 := keysD_ok p2.1 ek
        have e4 := zip_fst_snd qs ks e3
        have lk : ks.length = qs.length := by
          have := congrArg List.length e3
          simpa using this.symm
        have kz : (ks.zip (qs.map (·.2))).map (·.1) = ks := by
          rw [List.map_fst_zip]
          rw [List.length_map]; omega
        refine ⟨z2, ks.zip (qs.map (·.2)), e4, by rw [List.length_zip, List.length_map]; omega, ?_⟩
        rw [mergeK_nd _ [] (by rw [List.nil_append, kz]; exact z.1), List.nil_append]
        have nf : ∀ o u, H2 p' ≠ some (.frz o u) := fun o u y => by rw [z2] at y; cases y
        obtain ⟨x3, r3⟩ := r2.write (o := .dK (ks.zip (qs.map (·.2)))) (m := .dic (ks.zip (ds.map (·.2)))) z1 nf ⟨p', _, rfl, upd_same, (repK_zip p2.2).mono (ext_write z1 nf)⟩
        refine a' L2 _ _ (x0.trans (x2.trans x3)) r3 ?_
        unfold Rep
        exact ⟨p', rfl, .inl z1⟩
      · exact a'.elim
    · exact a'.elim
/-! ### stores -/
def putD (kvs : List (Key × D)) (k : Key) (d : D) : List (Key × D) := if (kvs.any fun p => decide (p.1 = k)) = true then kvs.map fun p => if p.1 = k then (p.1, d) else p else kvs ++ [(k, d)]
theorem repK_put {K L H} {k : Key} {d : D} {v : V} (q : Rep K L H d v) {kvs : List (Key × D)} {ws : List (Key × V)} (w : RepK K L H kvs ws) : RepK K L H (putD kvs k d) (putK ws k v) := by
  have any : ∀ {kvs : List (Key × D)} {ws : List (Key × V)}, RepK K L H kvs ws → (kvs.any fun p => decide (p.1 = k)) = ws.any fun p => decide (p.1 = k) := fun {kvs} => by
    induction kvs with
    | nil => intro ws w; cases w; rfl
    | cons p r ih => intro ws ⟨u, us, e, q, w⟩; subst e; rw [List.any_cons, List.any_cons, ih w]
  have mp : ∀ {kvs : List (Key × D)} {ws : List (Key × V)}, RepK K L H kvs ws → RepK K L H (kvs.map fun p => if p.1 = k then (p.1, d) else p) (ws.map fun p => if p.1 = k then (p.1, v) else p) := fun {kvs} => by
    induction kvs with
    | nil => intro ws w; cases w; exact rfl
    | cons p r ih =>
      intro ws ⟨u, us, e, q', w⟩; subst e
      by_cases hk : p.1 = k
      · refine ⟨v, _, ?_, ?_, ih w⟩
        · simp [hk]
        · simp [hk]; exact q
      · refine ⟨u, _, ?_, ?_, ih w⟩
        · simp [hk]
        · simp [hk]; exact q'
  have app : ∀ {kvs : List (Key × D)} {ws : List (Key × V)}, RepK K L H kvs ws → RepK K L H (kvs ++ [(k, d)]) (ws ++ [(k, v)]) := fun {kvs} => by
    induction kvs with
    | nil => intro ws w; cases w; exact ⟨v, [], rfl, q, rfl⟩
    | cons p r ih => intro ws ⟨u, us, e, q', w⟩; subst e; exact ⟨u, _, rfl, q', ih w⟩
  unfold putD putK
  rw [any w]
  split
  · exact mp w
  · exact app w
def setG2 (o i d : D) (h : MH) : Option MH := match o with
  | .ref n => (match h[n]? with
    | some (.dic kvs) => (keyD i).bind fun k => if kvs.length < 16777216 then some (h.set n (.dic (putD kvs k d))) else none
    | _ => setG o i d h)
  | _ => none
def mSetIx2 (m mo mi : ME) : MSt := fun δ h => (m δ h).st δ fun d h1 => (mo δ h1).st δ fun o h2 => (mi δ h2).st δ fun i h3 => match setG2 o i d h3 with
  | some h4 => .ok (.next δ) h4
  | none => .stuck
theorem _root_.L2.PSet.or {X : Cx} {t t' : TSet} (p : PSet X t) (p' : PSet X t') : PSet X (fun o i v H Q => t o i v H Q ∨ t' o i v H Q) :=
  fun pins s σ H o i v ov iv u Q I ro ri rv q => q.elim (p pins s σ H o i v ov iv u Q I ro ri rv) (p' pins s σ H o i v ov iv u Q I ro ri rv)
theorem setG2_ok {K : PySem.W.Frag} {L H} {h h' : MH} {o i d : D} {vo vi v : V} {Q : Hp → Prop} (r : Rel K L H h) (po : Rep K L H o vo) (pi : Rep K L H i vi) (p : Rep K L H d v) (e : setG2 o i d h = some h')
    (k : ∀ H', Ext L H L H' → Rel K L H' h' → Q H') : rSetL vo vi v H Q ∨ rSetD vo vi v H Q := by
  unfold setG2 at e
  split at e
  · rename_i n
    split at e
    · rename_i kvs en
      obtain ⟨y, e1, e2⟩ := Option.bind_eq_some_iff.mp e
      split at e2
      · rename_i hz
        cases e2
        obtain ⟨a, ws, z1, z2, w⟩ := r.dic en
        have nf : ∀ o u, H a ≠ some (.frz o u) := fun o u z => by rw [z2] at z; cases z
        obtain ⟨x1, r1⟩ := r.write (o := .dK (putK ws y v)) (m := .dic (putD kvs y d)) z1 nf ⟨a, _, rfl, upd_same, (repK_put p w).mono (ext_write z1 nf)⟩
        exact .inr ⟨a, _, po.ref z1, .inl ⟨ws, y, z2, keyD_ok pi e1, by rw [sizeLine_eq, ← w.length]; exact hz, rfl⟩, k _ x1 r1⟩
      · cases e2
    · exact .inl (setG_ok r po pi p e k)
  · cases e
section
variable {X : Cx} {W : WX} {pos : Pos} {e o i : Expr} {me mo mi : ME}
theorem psm_setIx2 {tpos : Pos} (hu : X.A.units + 64 < cLine) (he : PEM X W e me) (ho : PEM X W o mo) (hi : PEM X W i mi)
    (ha : ∀ v, assign (.Subscript o i tpos) X.env v = (do
      let ov ← holding [v] (eval o X.env)
      let iv ← holding [v, ov] (eval i X.env)
      standAt tpos
      holding [v, ov, iv] (setItem ov iv v)
      release [v, ov, iv] []) := by intro _; rfl)
    (hs : swapsWithSole [.Subscript o i tpos] e pos.line X.env = pure false := by rfl) (hw : swappedStores [.Subscript o i tpos] e X.env = pure none := by rfl) (h1 : (assignEach [.Subscript o i tpos] X.env).map (·.2) = [assign (.Subscript o i tpos) X.env] := by rfl) :
    PSM X W (.Assign [.Subscript o i tpos] e pos) (mSetIx2 me mo mi) :=
  PS.imp (ps_asg he (pg_sub ho hi (set_list.or (set_dict (by omega))) ha) hs hw h1) fun D σ H ⟨L, h, δ, r, s, a⟩ => ⟨L, h, δ, r, s, Ans.imp (AnsS.bind (rp := Rep X.K) s a) fun v H1 ⟨L1, h1, d, x1, r1, p1, s1, a1⟩ =>
    ⟨L1, h1, δ, r1, s1, Ans.imp (AnsS.bind (rp := Rep X.K) s1 a1) fun vo H2 ⟨L2, h2, d2, x2, r2, p2, s2, a2⟩ => ⟨L2, h2, δ, r2, s2, Ans.imp (AnsS.bind (rp := Rep X.K) s2 a2) fun vi H3 ⟨L3, h3, d3, x3, r3, p3, s3, a3⟩ => by
      cases eg : setG2 d2 d3 d h3 with
      | none => rw [eg] at a3; exact a3.elim
      | some h4 =>
        simp only [eg] at a3
        exact setG2_ok r3 (p2.mono x3) p3 (p1.mono (x2.trans x3)) eg fun H' x r' => (a3.mono x).nx r' (s3.mono x)⟩⟩⟩
end
/-! ### k in d -/
def dicR (d : D) (h : MH) : Option (List (Key × D)) := match d with
  | .rdc ks ds => some (ks.zip ds)
  | .ref n => (match h[n]? with
    | some (.dic kvs) => some kvs
    | some (.ldc kvs) => some kvs
    | _ => none)
  | _ => none
theorem dicR_ok {K : PySem.W.Frag} {L H} {h : MH} {d : D} {x : V} {kvs} (r : Rel K L H h) (p : Rep K L H d x) (e : dicR d h = some kvs) : ∃ a ws, x = .ref a ∧ Rd H a (.dK ws) ∧ RepK K L H kvs ws := by
  unfold dicR at e
  split at e
  · cases e
    unfold Rep at p
    obtain ⟨a, xs, rfl, s, n, l, w⟩ := p
    exact ⟨a, _, rfl, s, repK_zip w⟩
  · split at e
    · rename_i z
      cases e
      obtain ⟨a, ws, z1, z2, w⟩ := r.dic z
      exact ⟨a, ws, p.ref z1, .inl z2, w⟩
    · rename_i z
      cases e
      obtain ⟨a, o, ws, z1, z2, w⟩ := r.ldc z
      exact ⟨a, ws, p.ref z1, .inr ⟨o, z2⟩, w⟩
    · cases e
  · cases e
def hasD (kvs : List (Key × D)) (k : Key) : Bool := (valD kvs k).isSome
theorem repO_some {K L H o w} (r : RepO K L H o w) : o.isSome = w.isSome := by
  cases o with
  | some d => obtain ⟨v, rfl, _⟩ := r; rfl
  | none => cases r; rfl
def inG2 (x y : D) (h : MH) : Option Bool := match dicR y h with
  | some kvs => (keyD x).map fun k => hasD kvs k
  | none => inG x y h
def opIn2 (x y : D) (h : MH) : R D := match inG2 x y h with
  | some b => .ok (.bl b) h
  | none => .stuck
def opNin2 (x y : D) (h : MH) : R D := match inG2 x y h with
  | some b => .ok (.bl (!b)) h
  | none => .stuck
def rInD (no : Bool) : R2 := fun x y H Q => ∃ a o, y = .ref a ∧ DGet H a x o ∧ Q (.bl (no != o.isSome)) H
theorem op_inD {X : Cx} (hu : X.A.units + 64 < cLine) : OpR X (compareOp .In) (rInD false) := by
  intro pins s σ H x y v u Q I rx ry h
  obtain ⟨a, o, rfl, g, q⟩ := h
  cases (show u = Value.ref a from ry)
  exact d_in (by omega) I g rx fun s' I' => ⟨.bl o.isSome, H, I', rfl, by simpa using q⟩
theorem op_ninD {X : Cx} (hu : X.A.units + 64 < cLine) : OpR X (compareOp .NotIn) (rInD true) := by
  intro pins s σ H x y v u Q I rx ry h
  obtain ⟨a, o, rfl, g, q⟩ := h
  cases (show u = Value.ref a from ry)
  exact d_notIn (by omega) I g rx fun s' I' => ⟨.bl (!o.isSome), H, I', rfl, by simpa using q⟩
def rIn3 (K : PySem.W.Frag) : R2 := fun x y H Q => rInD false x y H Q ∨ rIn2 K x y H Q
def rNin3 (K : PySem.W.Frag) : R2 := fun x y H Q => rInD true x y H Q ∨ rNin2 K x y H Q
theorem op_in3 {X : Cx} (hu : X.A.units + 64 < cLine) : OpR X (compareOp .In) (rIn3 X.K) := (op_inD hu).or op_in2
theorem op_nin3 {X : Cx} (hu : X.A.units + 64 < cLine) : OpR X (compareOp .NotIn) (rNin3 X.K) := (op_ninD hu).or op_nin2
theorem inG2_ok {K : PySem.W.Frag} {L H} {h : MH} {dx dy x y b} (r : Rel K L H h) (px : Rep K L H dx x) (py : Rep K L H dy y) (e : inG2 dx dy h = some b) : (∃ a o, y = .ref a ∧ DGet H a x o ∧ o.isSome = b) ∨ inG dx dy h = some b := by
  unfold inG2 at e
  split at e
  · rename_i kvs ed
    obtain ⟨k, e1, rfl⟩ := Option.map_eq_some_iff.mp e
    obtain ⟨a, ws, rfl, rd, w⟩ := dicR_ok r py ed
    exact .inl ⟨a, _, rfl, .inl ⟨ws, k, rd, keyD_ok px e1, rfl⟩, (repO_some (repO_K w)).symm⟩
  · exact .inr e
theorem opIn2_ok {K : PySem.W.Frag} : OpM K (rIn3 K) opIn2 := by
  intro L H h dx dy x y Q E r px py a
  unfold opIn2 at a
  split at a
  · rename_i b e
    rcases inG2_ok r px py e with ⟨p, o, rfl, g, eb⟩ | e
    · exact .inl ⟨p, o, rfl, g, by rw [eb]; simpa using ans_okE r rep_bl a⟩
    · exact .inr (opIn_ok L H h dx dy x y Q E r px py (by unfold opIn; rw [e]; exact a))
  · exact a.elim
theorem opNin2_ok {K : PySem.W.Frag} : OpM K (rNin3 K) opNin2 := by
  intro L H h dx dy x y Q E r px py a
  unfold opNin2 at a
  split at a
  · rename_i b e
    rcases inG2_ok r px py e with ⟨p, o, rfl, g, eb⟩ | e
    · exact .inl ⟨p, o, rfl, g, by rw [eb]; simpa using ans_okE r rep_bl a⟩
    · exact .inr (opNin_ok L H h dx dy x y Q E r px py (by unfold opNin; rw [e]; exact a))
  · exact a.elim
/-! ### sorted, max, min, int -/
def leI (a b : Int) : Bool := decide (a ≤ b)
theorem leI_trans (a b c : Int) (h1 : leI a b = true) (h2 : leI b c = true) : leI a c = true := decide_eq_true (Int.le_trans (of_decide_eq_true h1) (of_decide_eq_true h2))
theorem leI_total (a b : Int) : (leI a b || leI b a) = true := by
  have := Int.le_total a b
  simp only [leI, Bool.or_eq_true, decide_eq_true_eq]; exact this
theorem sortedI_is {ks ys : List Int} (hp : ys.Perm ks) (hs : ys.Pairwise (· ≤ ·)) : ys = ks.mergeSort leI :=
  List.Perm.eq_of_pairwise (le := fun a b => leI a b = true) (fun a b _ _ h1 h2 => Int.le_antisymm (of_decide_eq_true h1) (of_decide_eq_true h2)) (hs.imp fun h => decide_eq_true h)
    (List.pairwise_mergeSort leI_trans leI_total ks) (hp.trans (List.mergeSort_perm ks leI).symm)
def fSorted2 (ds : List D) (h : MH) : R D := match ds with
  | [.rdc ks es] => fSorted [.rdc ks es] h
  | [d] => (match (lstD d h).bind intsL with | some bs => .ok (.rol ((bs.mergeSort leI).map D.int)) h | none => .stuck)
  | _ => .stuck
def rSort2 (K : PySem.W.Frag) : List V → Hp → VK → Prop := fun xs H Q => (∃ (a : Addr) (kvs : List (Key × V)) (ks : List Str), xs = [.ref a] ∧ Rd H a (.dK kvs) ∧ kvs.map (·.1) = ks.map Sum.inr ∧ ks.length < 64 ∧
    ∀ ys p, ys.Perm ks → sortedS ys = true → H p = none → Q (.ref p) (upd H p (.lst (ys.map V.str)))) ∨ rSortedI K xs H Q
theorem call_sorted2 {X : Cx} (hc : X.calm = true) : CallR X (.builtin "sorted") (rSort2 X.K) := (call_sortedD hc).or cr_sortedI
theorem fSorted2_ok {K : PySem.W.Frag} : CallM K (rSort2 K) fSorted2 := by
  intro L H h ds vs Q E r w a
  unfold fSorted2 at a
  split at a
  · exact .inl (fSorted_ok L H h _ vs Q E r w a)
  · rename_i d nd
    obtain ⟨v, rfl, q⟩ := w.one
    cases e : (lstD d h).bind intsL with
    | none => rw [e] at a; exact a.elim
    | some bs =>
      simp only [e] at a
      obtain ⟨es, e1, e2⟩ := Option.bind_eq_some_iff.mp e
      obtain ⟨p, xs, rfl, s, w2⟩ := lstD_of r q e1
      rw [intsL_ok w2 e2] at s
      refine .inr ⟨p, bs, rfl, s, fun ys p' hp hs hn => ?_⟩
      rw [sortedI_is hp hs]
      exact ans_of (rep_rol r hn (repL_ints _)) a
  · exact a.elim
def fMax2 (ds : List D) (h : MH) : R D := match ds with
  | [.int i, .int j] => .ok (.int (if j > i then j else i)) h
  | _ => .stuck
theorem fMax2_ok {K : PySem.W.Frag} : CallM K (fun xs H Q => ∃ i j, xs = [.int i, .int j] ∧ Q (.int (if j > i then j else i)) H) fMax2 := by
  intro L H h ds vs Q E r w a
  unfold fMax2 at a
  split at a
  · obtain ⟨v, u, rfl, q1, q2⟩ := w.two
    exact ⟨_, _, by rw [rep_int_inv q1, rep_int_inv q2], ans_okE r rep_int a⟩
  · exact a.elim
def fMin2 (ds : List D) (h : MH) : R D := match ds with
  | [.int i, .int j] => .ok (.int (if j < i then j else i)) h
  | _ => .stuck
theorem fMin2_ok {K : PySem.W.Frag} : CallM K (fun xs H Q => ∃ i j, xs = [.int i, .int j] ∧ Q (.int (if j < i then j else i)) H) fMin2 := by
  intro L H h ds vs Q E r w a
  unfold fMin2 at a
  split at a
  · obtain ⟨v, u, rfl, q1, q2⟩ := w.two
    exact ⟨_, _, by rw [rep_int_inv q1, rep_int_inv q2], ans_okE r rep_int a⟩
  · exact a.elim
end MM

/-! what a plain function gives, told from its end: a calculus of ends -/
namespace MM
open PySem PySem.Spec PyProof.Rows L2
abbrev XP := Str → List (Str × D) → MH → Prop
abbrev XPS := Str → List (Str × D) → MS → MH → Prop
def NoX : XP := fun _ _ _ => False
def XP.s (E : XP) : XPS := fun c fs _ h => E c fs h
/-- that what is wanted is not looked into while what is run is reckoned -/
structure Tg {α : Type} (P : α → MH → Prop) (E : XP) : Type where
structure TgS (P : Fl → MH → Prop) (E : XPS) : Type where
def Tm {α : Type} (r : R α) (P : α → MH → Prop) (E : XP) (_u : Tg P E := ⟨⟩) : Prop := match r with
  | .ok a h => P a h
  | .exc c fs h => E c fs h
  | .stuck => False
def TmS (r : SR) (P : Fl → MH → Prop) (E : XPS) (_u : TgS P E := ⟨⟩) : Prop := match r with
  | .ok a h => P a h
  | .exc c fs δ h => E c fs δ h
  | .stuck => False
section
variable {α β : Type} {r : R α} {f : α → MH → R β} {P : α → MH → Prop} {Q : β → MH → Prop} {E : XP} {PS' : Fl → MH → Prop} {ES : XPS} {δ : MS} {h : MH}
@[simp] theorem Tm_ok {a : α} : Tm (.ok a h) P E ↔ P a h := Iff.rfl
@[simp] theorem Tm_exc {c fs} : Tm (.exc c fs h : R α) P E ↔ E c fs h := Iff.rfl
@[simp] theorem Tm_stuck : Tm (.stuck : R α) P E ↔ False := Iff.rfl
@[simp] theorem Tm_bnd : Tm (r.bnd f) Q E ↔ Tm r (fun a h => Tm (f a h) Q E) E := by cases r <;> rfl
@[simp] theorem TmS_ok {a : Fl} : TmS (.ok a h) PS' ES ↔ PS' a h := Iff.rfl
@[simp] theorem TmS_exc {c fs} : TmS (.exc c fs δ h) PS' ES ↔ ES c fs δ h := Iff.rfl
@[simp] theorem TmS_stuck : TmS (.stuck) PS' ES ↔ False := Iff.rfl
@[simp] theorem TmS_st {k : α → MH → SR} : TmS (r.st δ k) PS' ES ↔ Tm r (fun a h => TmS (k a h) PS' ES) (fun c fs h => ES c fs δ h) := by cases r <;> rfl
def SeqP (k : MSt) (P : Fl → MH → Prop) (E : XPS) : Fl → MH → Prop := fun f h => match f with
  | .next δ => TmS (k δ h) P E
  | f => P f h
@[simp] theorem SeqP_next {k : MSt} : SeqP k PS' ES (.next δ) h ↔ TmS (k δ h) PS' ES := Iff.rfl
@[simp] theorem SeqP_ret {k : MSt} {d : D} : SeqP k PS' ES (.ret d) h ↔ PS' (.ret d) h := Iff.rfl
@[simp] theorem SeqP_brk {k : MSt} : SeqP k PS' ES (.brk δ) h ↔ PS' (.brk δ) h := Iff.rfl
@[simp] theorem SeqP_cont {k : MSt} : SeqP k PS' ES (.cont δ) h ↔ PS' (.cont δ) h := Iff.rfl
@[simp] theorem TmS_seq {s : SR} {k : MSt} : TmS (s.seq k) PS' ES ↔ TmS s (SeqP k PS' ES) ES := by
  cases s with
  | ok f h => cases f <;> rfl
  | exc _ _ _ _ => rfl
  | stuck => rfl
theorem Tm.imp {P' : α → MH → Prop} (t : Tm r P E) (g : ∀ a h, P a h → P' a h) : Tm r P' E := by
  cases r with
  | ok a h => exact g _ _ t
  | exc _ _ _ => exact t
  | stuck => exact t
theorem Tm.impX {P' : α → MH → Prop} {E' : XP} (t : Tm r P E) (g : ∀ a h, P a h → P' a h) (gx : ∀ c fs h, E c fs h → E' c fs h) : Tm r P' E' := by
  cases r with
  | ok a h => exact g _ _ t
  | exc _ _ _ => exact gx _ _ _ t
  | stuck => exact t
/-- what raises nothing, where what is raised is looked at -/
theorem Tm.use {P' : α → MH → Prop} {E' : XP} (t : Tm r P NoX) (g : ∀ a h, P a h → P' a h) : Tm r P' E' := t.impX g fun _ _ _ z => z.elim
theorem TmS.imp {s : SR} {P' : Fl → MH → Prop} (t : TmS s PS' ES) (g : ∀ a h, PS' a h → P' a h) : TmS s P' ES := by
  cases s with
  | ok a h => exact g _ _ t
  | exc _ _ _ _ => exact t
  | stuck => exact t
theorem Tm.ex (t : Tm r P NoX) : ∃ a h, r = .ok a h ∧ P a h := by
  cases r with
  | ok a h => exact ⟨a, h, rfl, t⟩
  | exc _ _ _ => exact t.elim
  | stuck => exact t.elim
theorem Tm.of {a : α} {h' : MH} (e : r = .ok a h') (p : P a h') : Tm r P E := by rw [e]; exact p
@[simp] theorem Tm_ite {c : Prop} [Decidable c] {a b : R α} : Tm (if c then a else b) P E ↔ if c then Tm a P E else Tm b P E := by split <;> rfl
@[simp] theorem TmS_ite {c : Prop} [Decidable c] {a b : SR} : TmS (if c then a else b) PS' ES ↔ if c then TmS a PS' ES else TmS b PS' ES := by split <;> rfl
/-! ### defs -/
def EndP (h : MH) (P : D → MH → Prop) : Fl → MH → Prop := fun f h' => match f with
  | .ret d => (LeftOf h h' ∧ d.lows h.length = true) ∧ P d (h'.take h.length)
  | .next _ => LeftOf h h' ∧ P .non (h'.take h.length)
  | _ => False
def EndX (h : MH) (E : XP) : XPS := fun c fs _ h' => (LeftOf h h' ∧ (fs.all fun p => p.2.lows h.length) = true) ∧ E c fs (h'.take h.length)
theorem Tm_fn {n N : Nat} {ms : MSt} {ds : List D} {P : D → MH → Prop} (e : ds.length = n) (t : TmS (ms (mStart N ds) h) (EndP h P) (EndX h E)) : Tm (mFn n N ms ds h) P E := by
  rw [mFn_eq e]
  generalize ms (mStart N ds) h = s at t
  cases s with
  | stuck => exact t
  | exc c fs δ' h' =>
    show Tm (leaveX h c fs h') P E
    unfold leaveX
    rw [if_pos t.1]
    exact t.2
  | ok f h' =>
    cases f with
    | ret d =>
      show Tm (leave h d h') P E
      rw [leave_eq t.1.1 t.1.2]
      exact t.2
    | next _ =>
      show Tm (leave h .non h') P E
      rw [leave_eq t.1 rfl]
      exact t.2
    | brk _ => exact t
    | cont _ => exact t
/-- .. that hands a new thing back -/
def EndPN (P : D → MH → Prop) : Fl → MH → Prop := fun f h' => match f with
  | .ret d => P d h'
  | .next _ => P .non h'
  | _ => False
theorem Tm_fnN {n N : Nat} {ms : MSt} {ds : List D} {P : D → MH → Prop} (e : ds.length = n) (t : TmS (ms (mStart N ds) h) (EndPN P) (fun c fs _ h => E c fs h)) : Tm (mFnN n N ms ds h) P E := by
  rw [mFnN_eq e]
  generalize ms (mStart N ds) h = s at t
  cases s with
  | stuck => exact t
  | exc c fs δ' h' => exact t
  | ok f h' => cases f <;> exact t
/-! ### loops -/
theorem TmS_for {g : MH → Prop} {tgt : MG} {body : MSt} (I : List D → MS → MH → Prop) (hg : ∀ ds δ h, I ds δ h → g h)
    (step : ∀ x r δ h, I (x :: r) δ h → ∃ δ1, tgt x δ = some δ1 ∧ TmS (body δ1 h) (fun f h2 => match f with | .next δ2 => I r δ2 h2 | .cont δ2 => I r δ2 h2 | .brk δ2 => PS' (.next δ2) h2 | .ret d => PS' (.ret d) h2) ES)
    (fin : ∀ δ h, I [] δ h → PS' (.next δ) h) {ds : List D} {δ : MS} {h : MH} (i : I ds δ h) : TmS (forM g tgt body ds δ h) PS' ES := by
  refine forM_ind (Post := fun r => TmS r PS' ES) I (fun δ h i => ⟨hg _ _ _ i, fin _ _ i⟩) (fun x r δ h i => ⟨hg _ _ _ i, ?_⟩) i
  obtain ⟨δ1, e1, t⟩ := step x r δ h i
  refine ⟨δ1, e1, ?_⟩
  generalize body δ1 h = s at t
  cases s with
  | stuck => exact t.elim
  | exc c fs δ' h' => exact .inr (.inr (.inr (.inr ⟨c, fs, δ', h', rfl, t⟩)))
  | ok f h' =>
    cases f with
    | next δ2 => exact .inl ⟨δ2, h', rfl, t⟩
    | cont δ2 => exact .inr (.inl ⟨δ2, h', rfl, t⟩)
    | brk δ2 => exact .inr (.inr (.inl ⟨δ2, h', rfl, t⟩))
    | ret d => exact .inr (.inr (.inr (.inl ⟨d, h', rfl, t⟩)))
/-- a body that always goes on -/
def Nx (I : MS → MH → Prop) : Fl → MH → Prop := fun f h => ∃ δ, f = .next δ ∧ I δ h
@[simp] theorem Nx_next {I : MS → MH → Prop} : Nx I (.next δ) h ↔ I δ h := ⟨fun ⟨_, e, i⟩ => by cases e; exact i, fun i => ⟨_, rfl, i⟩⟩
theorem TmS_forN {g : MH → Prop} {tgt : MG} {body : MSt} (I : List D → MS → MH → Prop) (hg : ∀ ds δ h, I ds δ h → g h)
    (step : ∀ x r δ h, I (x :: r) δ h → ∃ δ1, tgt x δ = some δ1 ∧ TmS (body δ1 h) (Nx (I r)) ES)
    (fin : ∀ δ h, I [] δ h → PS' (.next δ) h) {ds : List D} {δ : MS} {h : MH} (i : I ds δ h) : TmS (forM g tgt body ds δ h) PS' ES :=
  TmS_for I hg (fun x r δ h i => let ⟨δ1, e1, t⟩ := step x r δ h i; ⟨δ1, e1, t.imp fun f h2 ⟨δ2, e, q⟩ => by subst e; exact q⟩) fin i
theorem TmS_while {t : MT} {b : MSt} (I : Nat → MS → MH → Prop)
    (step : ∀ n δ h, I n δ h → Tm (t δ h) (fun c h1 => if c then TmS (b δ h1) (fun f h2 => match f with | .next δ2 => ∃ m, m < n ∧ I m δ2 h2 | .cont δ2 => ∃ m, m < n ∧ I m δ2 h2 | .brk δ2 => PS' (.next δ2) h2 | .ret d => PS' (.ret d) h2) ES else PS' (.next δ) h1) NoX) :
    ∀ {n : Nat} {δ : MS} {h : MH}, I n δ h → TmS (mWhile t b δ h) PS' ES := by
  intro n
  induction n using Nat.strongRecOn with
  | ind n ih =>
    intro δ h i
    obtain ⟨c, h1, et, q⟩ := (step n δ h i).ex
    cases c with
    | false =>
      rw [mWhile_end et]
      simpa using q
    | true =>
      replace q : TmS (b δ h1) (fun f h2 => match f with | .next δ2 => ∃ m, m < n ∧ I m δ2 h2 | .cont δ2 => ∃ m, m < n ∧ I m δ2 h2 | .brk δ2 => PS' (.next δ2) h2 | .ret d => PS' (.ret d) h2) ES := by simpa using q
      generalize eb : b δ h1 = s at q
      cases s with
      | stuck => exact q.elim
      | exc c fs δ' h' =>
        have : mWhile t b δ h = .exc c fs δ' h' := mWhile_eq 1 (by unfold whileM; rw [et]; simp [eb]) (by intro z; cases z)
        rw [this]; exact q
      | ok f h2 =>
        cases f with
        | next δ2 =>
          obtain ⟨m, hm, im⟩ := q
          have := ih m hm im
          rw [mWhile_next et eb rfl (fun z => by rw [z] at this; exact this)]
          exact this
        | cont δ2 =>
          obtain ⟨m, hm, im⟩ := q
          have := ih m hm im
          rw [mWhile_cont et eb rfl (fun z => by rw [z] at this; exact this)]
          exact this
        | brk δ2 => rw [mWhile_brk et eb]; exact q
        | ret d => rw [mWhile_ret et eb]; exact q
/-! ### comprehensions -/
theorem Tm_nx {r : R α} (t : Tm r P NoX) : Tm r.nx P E := by
  cases r with
  | ok _ _ => exact t
  | exc _ _ _ => exact t.elim
  | stuck => exact t.elim
theorem comp_t {g : MH → Prop} {tgt : MG} {cond : MT} {elt : ME} {n : Nat} {δ0 : MS} {P : Unit → MH → Prop} (I : List D → List D → MH → Prop) (hI : ∀ r acc k, I r acc k → k.length = n ∧ acc.length + r.length < 16777216)
    (hg : ∀ r acc k, I r acc k → g (k ++ [.lst acc]))
    (step : ∀ x r acc k, I (x :: r) acc k → ∃ δ1, tgt x δ0 = some δ1 ∧ Tm (cond δ1 (k ++ [.lst acc])) (fun b h2 => if b then Tm (elt δ1 h2) (fun y h3 => ∃ k', h3 = k' ++ [.lst acc] ∧ I r (acc ++ [y]) k') NoX else ∃ k', h2 = k' ++ [.lst acc] ∧ I r acc k') NoX)
    (fin : ∀ acc k, I [] acc k → P () (k ++ [.lst acc])) : ∀ {ds acc : List D} {k : MH}, I ds acc k → Tm (compM g tgt cond elt n δ0 ds (k ++ [.lst acc])) P E
  | [], acc, k, i => by unfold compM; rw [if_pos (hg _ _ _ i)]; exact fin _ _ i
  | x :: r, acc, k, i => by
    obtain ⟨δ1, e1, t⟩ := step x r acc k i
    unfold compM
    rw [if_pos (hg _ _ _ i), e1]
    simp only [Tm_bnd]
    refine Tm_nx (t.imp fun b h2 q => ?_)
    cases b with
    | false =>
      obtain ⟨k', rfl, i'⟩ := (by simpa using q : ∃ k', h2 = k' ++ [.lst acc] ∧ I r acc k')
      simp only [Bool.false_eq_true, if_false]
      exact (comp_t I hI hg step fin i' : Tm _ P E).impX (fun _ _ z => z) (fun _ _ _ z => z)
    | true =>
      replace q : Tm (elt δ1 h2) (fun y h3 => ∃ k', h3 = k' ++ [.lst acc] ∧ I r (acc ++ [y]) k') NoX := by simpa using q
      simp only [if_true, Tm_bnd]
      refine Tm_nx (q.imp fun y h3 ⟨k', e3, i'⟩ => ?_)
      subst e3
      have hk := (hI _ _ _ i').1
      have hz := (hI _ _ _ i).2
      have el : lst? (k' ++ [.lst acc]) n = some acc := lst?_of (by rw [← hk]; simp)
      have es : (k' ++ [MO.lst acc]).set n (.lst (acc ++ [y])) = k' ++ [.lst (acc ++ [y])] := by rw [← hk]; simp
      simp only [el, es]
      rw [if_pos (by simp at hz; omega)]
      exact comp_t I hI hg step fin i'
theorem Tm_lcF {src : MI} {tgt : MG} {cond : MT} {elt : ME} {vs : List Nat} {δ : MS} {h : MH} {P : D → MH → Prop}
    (ts : Tm (src δ h) (fun S h1 => ∃ I : List D → List D → MH → Prop, I S.ds [] h1 ∧ (∀ r acc k, I r acc k → (k.length = h1.length ∧ acc.length + r.length < 16777216) ∧ S.g (k ++ [.lst acc])) ∧
      (∀ x r acc k, I (x :: r) acc k → ∃ δ1, tgt x (wipeM δ vs) = some δ1 ∧ Tm (cond δ1 (k ++ [.lst acc])) (fun b h2 => if b then Tm (elt δ1 h2) (fun y h3 => ∃ k', h3 = k' ++ [.lst acc] ∧ I r (acc ++ [y]) k') NoX else ∃ k', h2 = k' ++ [.lst acc] ∧ I r acc k') NoX) ∧
      (∀ acc k, I [] acc k → (LeftOf h1 k ∧ lowsL h1.length acc = true) ∧ P (.rol acc) k)) E) : Tm (mLc src tgt cond elt vs δ h) P E := by
  unfold mLc
  rw [Tm_bnd]
  refine ts.imp fun S h1 ⟨I, i0, hI, step, fin⟩ => ?_
  rw [Tm_bnd]
  refine comp_t I (fun r acc k i => (hI r acc k i).1) (fun r acc k i => (hI r acc k i).2) step (fun acc k i => ?_) i0
  obtain ⟨⟨l, q⟩, p⟩ := fin acc k i
  have hk := (hI _ _ _ i).1.1
  have el : lst? (k ++ [.lst acc]) h1.length = some acc := lst?_of (by rw [← hk]; simp)
  simp only [el]
  have es : (k ++ [MO.lst acc]).set h1.length .dead = k ++ [.dead] := by rw [← hk]; simp
  rw [es, leave_eq l.app (by unfold D.lows; exact q), take_app hk]
  exact p
/-- without a test -/
theorem Tm_lc {src : MI} {tgt : MG} {elt : ME} {vs : List Nat} {δ : MS} {h : MH} {P : D → MH → Prop}
    (ts : Tm (src δ h) (fun S h1 => ∃ I : List D → List D → MH → Prop, I S.ds [] h1 ∧ (∀ r acc k, I r acc k → (k.length = h1.length ∧ acc.length + r.length < 16777216) ∧ S.g (k ++ [.lst acc])) ∧
      (∀ x r acc k, I (x :: r) acc k → ∃ δ1, tgt x (wipeM δ vs) = some δ1 ∧ Tm (elt δ1 (k ++ [.lst acc])) (fun y h3 => ∃ k', h3 = k' ++ [.lst acc] ∧ I r (acc ++ [y]) k') NoX) ∧
      (∀ acc k, I [] acc k → (LeftOf h1 k ∧ lowsL h1.length acc = true) ∧ P (.rol acc) k)) E) : Tm (mLc src tgt mYes elt vs δ h) P E :=
  Tm_lcF (ts.imp fun S h1 ⟨I, i0, hI, step, fin⟩ => ⟨I, i0, hI, fun x r acc k i => let ⟨δ1, e1, t⟩ := step x r acc k i; ⟨δ1, e1, by
    show Tm (R.ok true _) _ NoX
    simpa using t⟩, fin⟩)
theorem Tm_lcI {src : MI} {tgt : MG} {elt : ME} {vs : List Nat} {δ : MS} {h : MH} {P : D → MH → Prop} (Q : Src → MH → Prop) (ts : Tm (src δ h) Q E)
    (k : ∀ S h1, Q S h1 → ∃ I : List D → List D → MH → Prop, I S.ds [] h1 ∧ (∀ r acc k, I r acc k → (k.length = h1.length ∧ acc.length + r.length < 16777216) ∧ S.g (k ++ [.lst acc])) ∧
      (∀ x r acc k, I (x :: r) acc k → ∃ δ1, tgt x (wipeM δ vs) = some δ1 ∧ Tm (elt δ1 (k ++ [.lst acc])) (fun y h3 => ∃ k', h3 = k' ++ [.lst acc] ∧ I r (acc ++ [y]) k') NoX) ∧
      (∀ acc k, I [] acc k → (LeftOf h1 k ∧ lowsL h1.length acc = true) ∧ P (.rol acc) k)) : Tm (mLc src tgt mYes elt vs δ h) P E := Tm_lc (ts.imp k)
theorem Tm_lcFI {src : MI} {tgt : MG} {cond : MT} {elt : ME} {vs : List Nat} {δ : MS} {h : MH} {P : D → MH → Prop} (Q : Src → MH → Prop) (ts : Tm (src δ h) Q E)
    (k : ∀ S h1, Q S h1 → ∃ I : List D → List D → MH → Prop, I S.ds [] h1 ∧ (∀ r acc k, I r acc k → (k.length = h1.length ∧ acc.length + r.length < 16777216) ∧ S.g (k ++ [.lst acc])) ∧
      (∀ x r acc k, I (x :: r) acc k → ∃ δ1, tgt x (wipeM δ vs) = some δ1 ∧ Tm (cond δ1 (k ++ [.lst acc])) (fun b h2 => if b then Tm (elt δ1 h2) (fun y h3 => ∃ k', h3 = k' ++ [.lst acc] ∧ I r (acc ++ [y]) k') NoX else ∃ k', h2 = k' ++ [.lst acc] ∧ I r acc k') NoX) ∧
      (∀ acc k, I [] acc k → (LeftOf h1 k ∧ lowsL h1.length acc = true) ∧ P (.rol acc) k)) : Tm (mLc src tgt cond elt vs δ h) P E := Tm_lcF (ts.imp k)
/-- a comprehension with a test, both values of the items alone -/
theorem lc_filter {src : MI} {tgt : MG} {cond : MT} {elt : ME} {vs : List Nat} {δ : MS} {h h1 : MH} {S : Src} (f : D → D) (p : D → Bool) (es : src δ h = .ok S h1) (hg : ∀ k, S.g (h1 ++ k)) (hz : S.ds.length < 16777216)
    (he : ∀ x ∈ S.ds, ∃ δ1, tgt x (wipeM δ vs) = some δ1 ∧ (∀ k, cond δ1 (h1 ++ k) = .ok (p x) (h1 ++ k)) ∧ (p x = true → ∀ k, elt δ1 (h1 ++ k) = .ok (f x) (h1 ++ k))) (hl : ∀ x ∈ S.ds, p x = true → (f x).lows h1.length = true) : mLc src tgt cond elt vs δ h = .ok (.rol ((S.ds.filter p).map f)) h1 := by
  have t : Tm (mLc src tgt cond elt vs δ h) (fun d h' => d = .rol ((S.ds.filter p).map f) ∧ h' = h1) NoX := by
    refine Tm_lcFI (fun S' h' => S' = S ∧ h' = h1) (.of es ⟨rfl, rfl⟩) ?_
    rintro S' h' ⟨rfl, rfl⟩
    refine ⟨fun r acc k => k = h' ∧ acc ++ (r.filter p).map f = (S'.ds.filter p).map f ∧ acc.length + r.length ≤ S'.ds.length ∧ (∀ x ∈ r, x ∈ S'.ds) ∧ lowsL h'.length acc = true, ⟨rfl, rfl, by simp, fun x hx => hx, rfl⟩, ?_, ?_, ?_⟩
    · rintro r acc k ⟨rfl, _, hl, _⟩
      exact ⟨⟨rfl, by omega⟩, hg _⟩
    · rintro x r acc k ⟨rfl, e, hl', hm, lo⟩
      obtain ⟨δ1, e1, e2, e3⟩ := he x (hm x (by simp))
      refine ⟨δ1, e1, .of (e2 _) ?_⟩
      cases hp : p x with
      | false =>
        rw [if_neg (by decide)]
        refine ⟨k, rfl, rfl, ?_, by simp at hl'; omega, fun y hy => hm y (by simp [hy]), lo⟩
        rw [← e, List.filter_cons_of_neg (by simp [hp])]
      | true =>
        rw [if_pos rfl]
        refine .of (e3 hp _) ⟨k, rfl, rfl, ?_, by simp at hl' ⊢; omega, fun y hy => hm y (by simp [hy]), ?_⟩
        · rw [← e, List.filter_cons_of_pos hp]
          simp
        · have la : ∀ (a : List D), lowsL k.length a = true → lowsL k.length (a ++ [f x]) = true := fun a => by
            induction a with
            | nil => intro _; show ((f x).lows _ && true) = true; rw [hl x (hm x (by simp)) hp]; rfl
            | cons y r ih =>
              intro q
              obtain ⟨q1, q2⟩ := Bool.and_eq_true_iff.mp (show (y.lows _ && lowsL _ r) = true from q)
              show (y.lows _ && lowsL _ (r ++ [f x])) = true
              rw [q1, ih q2]; rfl
          exact la acc lo
    · rintro acc k ⟨rfl, e, hl, hm, lo⟩
      exact ⟨⟨LeftOf.refl _, lo⟩, by rw [← e]; simp, rfl⟩
  obtain ⟨d, h', e, rfl, rfl⟩ := t.ex
  exact e
end
end MM

/-! == of values with depth, told by their structure -/
namespace MM
open PySem PySem.Spec PyProof.Rows L2
mutual
/-- a value that == reads: no thing that changes, not deeper than n -/
def D.eok : Nat → D → Bool
  | _, .non => true
  | _, .bl _ => true
  | _, .int _ => true
  | _, .str s => PyData.strOk s
  | 0, .tup _ => false
  | n + 1, .tup ds => eokL n ds
  | 0, .rol _ => false
  | n + 1, .rol ds => eokL n ds
  | _, _ => false
def eokL : Nat → List D → Bool
  | _, [] => true
  | n, d :: ds => d.eok n && eokL n ds
end
mutual
theorem toPy_ok : ∀ {d : D} {n : Nat}, d.eok n = true → ∃ p, toPy d = some p ∧ p.canLay0 = true ∧ p.depth ≤ n
  | .non, _, _ => ⟨_, rfl, rfl, Nat.zero_le _⟩
  | .bl _, _, _ => ⟨_, rfl, rfl, Nat.zero_le _⟩
  | .int _, _, _ => ⟨_, rfl, rfl, Nat.zero_le _⟩
  | .str s, n, h => ⟨_, rfl, by unfold D.eok at h; simpa [PyData.canLay0] using h, Nat.zero_le _⟩
  | .tup ds, 0, h => by unfold D.eok at h; cases h
  | .tup ds, n + 1, h => by
    unfold D.eok at h
    obtain ⟨ps, e1, e2, e3⟩ := toPyL_ok h
    refine ⟨.tuple ps, by unfold toPy; rw [e1]; rfl, by simpa [PyData.canLay0] using e2, ?_⟩
    show PyData.depthAll ps + 1 ≤ _
    omega
  | .rol ds, 0, h => by unfold D.eok at h; cases h
  | .rol ds, n + 1, h => by
    unfold D.eok at h
    obtain ⟨ps, e1, e2, e3⟩ := toPyL_ok h
    refine ⟨.list ps, by unfold toPy; rw [e1]; rfl, by simpa [PyData.canLay0] using e2, ?_⟩
    show PyData.depthAll ps + 1 ≤ _
    omega
  | .ref _, _, h => by unfold D.eok at h; cases h
  | .obj _, _, h => by unfold D.eok at h; cases h
  | .ty _, _, h => by unfold D.eok at h; cases h
  | .kon _, _, h => by unfold D.eok at h; cases h
  | .rdc _ _, _, h => by unfold D.eok at h; cases h
  | .xo _ _ _ _, _, h => by unfold D.eok at h; cases h
theorem toPyL_ok : ∀ {ds : List D} {n : Nat}, eokL n ds = true → ∃ ps, toPyL ds = some ps ∧ PyData.canLayAll0 ps = true ∧ PyData.depthAll ps ≤ n
  | [], _, _ => ⟨[], rfl, rfl, Nat.zero_le _⟩
  | d :: ds, n, h => by
    unfold eokL at h
    obtain ⟨h1, h2⟩ := Bool.and_eq_true_iff.mp h
    obtain ⟨p, e1, e2, e3⟩ := toPy_ok h1
    obtain ⟨ps, f1, f2, f3⟩ := toPyL_ok h2
    refine ⟨p :: ps, by unfold toPyL; rw [e1, Option.bind_some, f1]; rfl, by rw [PyData.canLayAll0, e2, f2]; rfl, ?_⟩
    show max (PyData.depth p) (PyData.depthAll ps) ≤ n
    omega
end
mutual
/-- Python's == -/
def eqD : D → D → Bool
  | .non, .non => true
  | .bl a, .bl b => a == b
  | .int a, .int b => a == b
  | .bl a, .int b => b == (if a then 1 else 0)
  | .int a, .bl b => a == (if b then 1 else 0)
  | .str a, .str b => a == b
  | .tup a, .tup b => eqDs a b
  | .rol a, .rol b => eqDs a b
  | _, _ => false
def eqDs : List D → List D → Bool
  | [], [] => true
  | a :: as, b :: bs => eqD a b && eqDs as bs
  | _, _ => false
end
theorem toPy_tup {ds : List D} {p : PyData} (h : toPy (.tup ds) = some p) : ∃ ps, toPyL ds = some ps ∧ p = .tuple ps := by
  unfold toPy at h
  obtain ⟨ps, e1, e2⟩ := Option.map_eq_some_iff.mp h
  exact ⟨ps, e1, e2.symm⟩
theorem toPy_rol {ds : List D} {p : PyData} (h : toPy (.rol ds) = some p) : ∃ ps, toPyL ds = some ps ∧ p = .list ps := by
  unfold toPy at h
  obtain ⟨ps, e1, e2⟩ := Option.map_eq_some_iff.mp h
  exact ⟨ps, e1, e2.symm⟩
theorem eqv_flat (d e : D) {p q : PyData} (nt : ∀ a b, d = .tup a → e = .tup b → False) (nr : ∀ a b, d = .rol a → e = .rol b → False) (h1 : toPy d = some p) (h2 : toPy e = some q) : PyData.eqv p q = eqD d e := by
  have sc : ∀ {d : D} {p}, toPy d = some p → (d = .non ∧ p = .none) ∨ (∃ b, d = .bl b ∧ p = .bool b) ∨ (∃ b, d = .int b ∧ p = .int b) ∨ (∃ b, d = .str b ∧ p = .str b) ∨ (∃ a ps, d = .tup a ∧ p = .tuple ps) ∨ ∃ a ps, d = .rol a ∧ p = .list ps := by
    intro d p h
    cases d with
    | tup a => obtain ⟨ps, _, e⟩ := toPy_tup h; exact .inr (.inr (.inr (.inr (.inl ⟨a, ps, rfl, e⟩))))
    | rol a => obtain ⟨ps, _, e⟩ := toPy_rol h; exact .inr (.inr (.inr (.inr (.inr ⟨a, ps, rfl, e⟩))))
    | non => unfold toPy at h; cases h; exact .inl ⟨rfl, rfl⟩
    | bl b => unfold toPy at h; cases h; exact .inr (.inl ⟨b, rfl, rfl⟩)
    | int b => unfold toPy at h; cases h; exact .inr (.inr (.inl ⟨b, rfl, rfl⟩))
    | str b => unfold toPy at h; cases h; exact .inr (.inr (.inr (.inl ⟨b, rfl, rfl⟩)))
    | _ => unfold toPy at h; cases h
  rcases sc h1 with ⟨rfl, rfl⟩ | ⟨a, rfl, rfl⟩ | ⟨a, rfl, rfl⟩ | ⟨a, rfl, rfl⟩ | ⟨a, ps, rfl, rfl⟩ | ⟨a, ps, rfl, rfl⟩ <;>
  rcases sc h2 with ⟨rfl, rfl⟩ | ⟨b, rfl, rfl⟩ | ⟨b, rfl, rfl⟩ | ⟨b, rfl, rfl⟩ | ⟨b, qs, rfl, rfl⟩ | ⟨b, qs, rfl, rfl⟩ <;> first
    | (exact (nt _ _ rfl rfl).elim)
    | (exact (nr _ _ rfl rfl).elim)
    | (unfold PyData.eqv eqD; rfl)
    | (unfold PyData.eqv eqD; exact Bool.beq_comm ..)
    | (unfold PyData.eqv eqD; cases a <;> exact (decide_eq_decide.mpr ⟨fun z => z.symm, fun z => z.symm⟩))
mutual
theorem eqv_is : ∀ (d e : D) {p q : PyData}, toPy d = some p → toPy e = some q → PyData.eqv p q = eqD d e
  | .tup as, .tup bs, p, q, h1, h2 => by
    obtain ⟨ps, e1, rfl⟩ := toPy_tup h1
    obtain ⟨qs, e2, rfl⟩ := toPy_tup h2
    unfold PyData.eqv eqD
    exact eqvs_is as bs e1 e2
  | .rol as, .rol bs, p, q, h1, h2 => by
    obtain ⟨ps, e1, rfl⟩ := toPy_rol h1
    obtain ⟨qs, e2, rfl⟩ := toPy_rol h2
    unfold PyData.eqv eqD
    exact eqvs_is as bs e1 e2
  | .tup as, .non, _, _, h1, h2 => eqv_flat _ _ (fun _ _ _ z => by cases z) (fun _ _ z _ => by cases z) h1 h2
  | .tup as, .bl _, _, _, h1, h2 => eqv_flat _ _ (fun _ _ _ z => by cases z) (fun _ _ z _ => by cases z) h1 h2
  | .tup as, .int _, _, _, h1, h2 => eqv_flat _ _ (fun _ _ _ z => by cases z) (fun _ _ z _ => by cases z) h1 h2
  | .tup as, .str _, _, _, h1, h2 => eqv_flat _ _ (fun _ _ _ z => by cases z) (fun _ _ z _ => by cases z) h1 h2
  | .tup as, .rol _, _, _, h1, h2 => eqv_flat _ _ (fun _ _ _ z => by cases z) (fun _ _ z _ => by cases z) h1 h2
  | .tup as, .ref _, _, _, h1, h2 => eqv_flat _ _ (fun _ _ _ z => by cases z) (fun _ _ z _ => by cases z) h1 h2
  | .tup as, .obj _, _, _, h1, h2 => eqv_flat _ _ (fun _ _ _ z => by cases z) (fun _ _ z _ => by cases z) h1 h2
  | .tup as, .ty _, _, _, h1, h2 => eqv_flat _ _ (fun _ _ _ z => by cases z) (fun _ _ z _ => by cases z) h1 h2
  | .tup as, .kon _, _, _, h1, h2 => eqv_flat _ _ (fun _ _ _ z => by cases z) (fun _ _ z _ => by cases z) h1 h2
  | .tup as, .rdc _ _, _, _, h1, h2 => eqv_flat _ _ (fun _ _ _ z => by cases z) (fun _ _ z _ => by cases z) h1 h2
  | .tup as, .xo _ _ _ _, _, _, h1, h2 => eqv_flat _ _ (fun _ _ _ z => by cases z) (fun _ _ z _ => by cases z) h1 h2
  | .rol as, .non, _, _, h1, h2 => eqv_flat _ _ (fun _ _ z _ => by cases z) (fun _ _ _ z => by cases z) h1 h2
  | .rol as, .bl _, _, _, h1, h2 => eqv_flat _ _ (fun _ _ z _ => by cases z) (fun _ _ _ z => by cases z) h1 h2
  | .rol as, .int _, _, _, h1, h2 => eqv_flat _ _ (fun _ _ z _ => by cases z) (fun _ _ _ z => by cases z) h1 h2
  | .rol as, .str _, _, _, h1, h2 => eqv_flat _ _ (fun _ _ z _ => by cases z) (fun _ _ _ z => by cases z) h1 h2
  | .rol as, .tup _, _, _, h1, h2 => eqv_flat _ _ (fun _ _ z _ => by cases z) (fun _ _ _ z => by cases z) h1 h2
  | .rol as, .ref _, _, _, h1, h2 => eqv_flat _ _ (fun _ _ z _ => by cases z) (fun _ _ _ z => by cases z) h1 h2
  | .rol as, .obj _, _, _, h1, h2 => eqv_flat _ _ (fun _ _ z _ => by cases z) (fun _ _ _ z => by cases z) h1 h2
  | .rol as, .ty _, _, _, h1, h2 => eqv_flat _ _ (fun _ _ z _ => by cases z) (fun _ _ _ z => by cases z) h1 h2
  | .rol as, .kon _, _, _, h1, h2 => eqv_flat _ _ (fun _ _ z _ => by cases z) (fun _ _ _ z => by cases z) h1 h2
  | .rol as, .rdc _ _, _, _, h1, h2 => eqv_flat _ _ (fun _ _ z _ => by cases z) (fun _ _ _ z => by cases z) h1 h2
  | .rol as, .xo _ _ _ _, _, _, h1, h2 => eqv_flat _ _ (fun _ _ z _ => by cases z) (fun _ _ _ z => by cases z) h1 h2
  | .non, _, _, _, h1, h2 => eqv_flat _ _ (fun _ _ z _ => by cases z) (fun _ _ z _ => by cases z) h1 h2
  | .bl _, _, _, _, h1, h2 => eqv_flat _ _ (fun _ _ z _ => by cases z) (fun _ _ z _ => by cases z) h1 h2
  | .int _, _, _, _, h1, h2 => eqv_flat _ _ (fun _ _ z _ => by cases z) (fun _ _ z _ => by cases z) h1 h2
  | .str _, _, _, _, h1, h2 => eqv_flat _ _ (fun _ _ z _ => by cases z) (fun _ _ z _ => by cases z) h1 h2
  | .ref _, _, _, _, h1, h2 => eqv_flat _ _ (fun _ _ z _ => by cases z) (fun _ _ z _ => by cases z) h1 h2
  | .obj _, _, _, _, h1, h2 => eqv_flat _ _ (fun _ _ z _ => by cases z) (fun _ _ z _ => by cases z) h1 h2
  | .ty _, _, _, _, h1, h2 => eqv_flat _ _ (fun _ _ z _ => by cases z) (fun _ _ z _ => by cases z) h1 h2
  | .kon _, _, _, _, h1, h2 => eqv_flat _ _ (fun _ _ z _ => by cases z) (fun _ _ z _ => by cases z) h1 h2
  | .rdc _ _, _, _, _, h1, h2 => eqv_flat _ _ (fun _ _ z _ => by cases z) (fun _ _ z _ => by cases z) h1 h2
  | .xo _ _ _ _, _, _, _, h1, h2 => eqv_flat _ _ (fun _ _ z _ => by cases z) (fun _ _ z _ => by cases z) h1 h2
theorem eqvs_is : ∀ (d e : List D) {p q : List PyData}, toPyL d = some p → toPyL e = some q → PyData.eqvAll p q = eqDs d e
  | [], [], _, _, h1, h2 => by cases h1; cases h2; rfl
  | [], b :: bs, _, _, h1, h2 => by
    cases h1
    unfold toPyL at h2
    obtain ⟨x, e1, e2⟩ := Option.bind_eq_some_iff.mp h2
    obtain ⟨xs, e3, rfl⟩ := Option.map_eq_some_iff.mp e2
    rfl
  | b :: bs, [], _, _, h2, h1 => by
    cases h1
    unfold toPyL at h2
    obtain ⟨x, e1, e2⟩ := Option.bind_eq_some_iff.mp h2
    obtain ⟨xs, e3, rfl⟩ := Option.map_eq_some_iff.mp e2
    rfl
  | a :: as, b :: bs, _, _, h1, h2 => by
    unfold toPyL at h1 h2
    obtain ⟨x, e1, e2⟩ := Option.bind_eq_some_iff.mp h1
    obtain ⟨xs, e3, rfl⟩ := Option.map_eq_some_iff.mp e2
    obtain ⟨y, f1, f2⟩ := Option.bind_eq_some_iff.mp h2
    obtain ⟨ys, f3, rfl⟩ := Option.map_eq_some_iff.mp f2
    unfold PyData.eqvAll eqDs
    rw [eqv_is a b e1 f1, eqvs_is as bs e3 f3]
end
/-- what a value looks like to == -/
def seeD (d : D) (h : MH) : D := match d with
  | .ref n => (match lst? h n with
    | some ds => .rol ds
    | none => .ref n)
  | d => d
theorem toPyH_see {d : D} {h : MH} (n : Nat) (hn : n ≤ 64) (e : (seeD d h).eok n = true) : ∃ p, toPyH d h = some p ∧ SeqAt.shaped p = true ∧ toPy (seeD d h) = some p := by
  have fin : ∀ {p : PyData}, p.canLay0 = true → p.depth ≤ n → SeqAt.shaped p = true := fun h1 h2 => by
    unfold SeqAt.shaped
    rw [h1, decide_eq_true (by omega)]; rfl
  cases d with
  | ref k =>
    unfold seeD at e ⊢
    cases el : lst? h k with
    | none => simp only [el] at e; unfold D.eok at e; cases e
    | some ds =>
      simp only [el] at e ⊢
      obtain ⟨p, e1, e2, e3⟩ := toPy_ok e
      refine ⟨p, ?_, fin e2 e3, e1⟩
      show (lst? h k).bind _ = _
      rw [el]
      exact e1
  | _ =>
    obtain ⟨p, e1, e2, e3⟩ := toPy_ok e
    exact ⟨p, e1, fin e2 e3, e1⟩
theorem eqS_is {d e : D} {b : Bool} (h : eqS d e = some b) : b = eqD d e := by
  cases d <;> cases e <;> first
    | (cases h; done)
    | (cases h; unfold eqD; rfl)
    | (cases h; unfold eqD; simp)
theorem eqG_is {d e : D} {h : MH} {n m : Nat} (hn : n ≤ 64) (hm : m ≤ 64) (o1 : (seeD d h).eok n = true) (o2 : (seeD e h).eok m = true) : eqG d e h = some (eqD (seeD d h) (seeD e h)) := by
  unfold eqG
  split
  · rename_i b z
    have sd : seeD d h = d := by cases d <;> first | rfl | (cases e <;> cases z)
    have se : seeD e h = e := by cases e <;> first | rfl | (cases d <;> cases z)
    rw [sd, se, eqS_is z]
  · obtain ⟨p, e1, e2, e3⟩ := toPyH_see n hn o1
    obtain ⟨q, f1, f2, f3⟩ := toPyH_see m hm o2
    rw [e1, f1, Option.bind_some, Option.bind_some, e2, f2]
    rw [eqv_is _ _ e3 f3]
    rfl
theorem opEq_is {d e : D} {h : MH} {n m : Nat} (hn : n ≤ 64) (hm : m ≤ 64) (o1 : (seeD d h).eok n = true) (o2 : (seeD e h).eok m = true) : opEq d e h = .ok (.bl (eqD (seeD d h) (seeD e h))) h := by
  unfold opEq
  rw [eqG_is hn hm o1 o2]
theorem opNe_is {d e : D} {h : MH} {n m : Nat} (hn : n ≤ 64) (hm : m ≤ 64) (o1 : (seeD d h).eok n = true) (o2 : (seeD e h).eok m = true) : opNe d e h = .ok (.bl (!eqD (seeD d h) (seeD e h))) h := by
  unfold opNe
  rw [eqG_is hn hm o1 o2]
mutual
theorem eqD_refl : ∀ {d : D} {n : Nat}, d.eok n = true → eqD d d = true
  | .non, _, _ => rfl
  | .bl _, _, _ => by unfold eqD; simp
  | .int _, _, _ => by unfold eqD; simp
  | .str s, n, h => by unfold eqD; simp
  | .tup ds, 0, h => by unfold D.eok at h; cases h
  | .tup ds, n + 1, h => by unfold D.eok at h; unfold eqD; exact eqDs_refl h
  | .rol ds, 0, h => by unfold D.eok at h; cases h
  | .rol ds, n + 1, h => by unfold D.eok at h; unfold eqD; exact eqDs_refl h
  | .ref _, _, h => by unfold D.eok at h; cases h
  | .obj _, _, h => by unfold D.eok at h; cases h
  | .ty _, _, h => by unfold D.eok at h; cases h
  | .kon _, _, h => by unfold D.eok at h; cases h
  | .rdc _ _, _, h => by unfold D.eok at h; cases h
  | .xo _ _ _ _, _, h => by unfold D.eok at h; cases h
theorem eqDs_refl : ∀ {ds : List D} {n : Nat}, eokL n ds = true → eqDs ds ds = true
  | [], _, _ => rfl
  | d :: ds, n, h => by
    unfold eokL at h
    obtain ⟨h1, h2⟩ := Bool.and_eq_true_iff.mp h
    unfold eqDs
    rw [eqD_refl h1, eqDs_refl h2]; rfl
end
theorem eok_ints (n : Nat) : ∀ l : List Int, eokL n (l.map D.int) = true
  | [] => rfl
  | x :: r => by
    show ((D.int x).eok n && eokL n (r.map D.int)) = true
    rw [eok_ints n r, show (D.int x).eok n = true by unfold D.eok; rfl]; rfl
theorem flatL_ints (l : List Int) : flatL (l.map D.int) = some (l.map V.int) := by
  induction l with
  | nil => rfl
  | cons x r ih => show (flatD (.int x)).bind _ = _; rw [show flatL (r.map D.int) = some (r.map V.int) from ih]; rfl
theorem inV_ints (x : Int) (l : List Int) : inV (.int x) (l.map V.int) = decide (x ∈ l) := by
  induction l with
  | nil => rfl
  | cons y r ih =>
    show (eqV (.int y) (.int x) || inV (.int x) (r.map V.int)) = _
    rw [ih]
    by_cases e : x = y
    · subst e
      simp [eqV]
    · have : eqV (.int y) (.int x) = false := by
        show decide (y = x) = false
        exact decide_eq_false fun z => e z.symm
      rw [this]
      simp [e]
theorem inG2_ints {h : MH} {n : Nat} {l : List Int} {v : Int} (e : h[n]? = some (.lst (l.map .int))) : inG2 (.int v) (.ref n) h = some (decide (v ∈ l)) := by
  have d0 : dicR (.ref n) h = none := by unfold dicR; simp only [e]
  unfold inG2
  simp only [d0]
  unfold inG
  simp only [lstD_ref, lst?_of e, Option.bind_some, flatL_ints, show flatD (.int v) = some (.int v) from rfl, Option.map_some, inV_ints]
theorem opIn2_ints {h : MH} {n : Nat} {l : List Int} {v : Int} (e : h[n]? = some (.lst (l.map .int))) : opIn2 (.int v) (.ref n) h = .ok (.bl (decide (v ∈ l))) h := by
  unfold opIn2; rw [inG2_ints e]
theorem opNin2_ints {h : MH} {n : Nat} {l : List Int} {v : Int} (e : h[n]? = some (.lst (l.map .int))) : opNin2 (.int v) (.ref n) h = .ok (.bl (!decide (v ∈ l))) h := by
  unfold opNin2; rw [inG2_ints e]
end MM

/-! a dict display of more than seventeen constant pairs: seventeen put in one by one, the others in a second dict that is put into the first -/
namespace MM
open PySem PySem.Spec PyProof.Rows L2
section
variable {prog : Program} {w : World} {K : Type} [DecidableEq K] {knd : KeyKind prog w K} {A : Around} {E : Value → Shared → Prop} {s : Shared}
/-- a new key goes to the end -/
theorem put_end {d : Addr} {kvs : List (K × Value)} {k : K} {key v : Value} {Q : Unit → Shared → Prop} (hk : knd.is k key = true) (hm : s.heap.DictOf knd d kvs) (hno : k ∉ kvs.map (·.1)) (hz : kvs.length ≤ 1000)
    (q : ∀ h', h'.DictOf knd d (kvs ++ [(k, v)]) → Heap.SameBut d s.heap h' → Q () { s with heap := h' }) : wpAny (model prog w) A (dictPut d (knd.hash k) key v) Q E s := by
  obtain ⟨o, es, ep, ho, hc, hd, hks, hp, hn⟩ := hm
  have sz : es.size ≤ sizeLine := by
    have e1 := hp.length
    rw [Array.length_toList] at e1
    rw [sizeLine_eq]; omega
  have miss : (es.findIdx? fun e => knd.is k e.key) = none := by
    rw [show (es.findIdx? fun e => knd.is k e.key) = es.toList.findIdx? fun e => knd.is k e.key by cases es; simp, hp.findIdx k]
    exact List.findIdx?_eq_none_iff.mpr fun p hp' => decide_eq_false fun z => hno (z ▸ List.mem_map.mpr ⟨p, hp', rfl⟩)
  unfold dictPut
  refine wpAny_bind (wpAny_dictFind_of hk ho hd hks ?_)
  rw [miss]
  refine wpAny_updateDictKeys (hz := sz) ho hd (q _ ⟨_, _, ep + 1, Heap.get?_update_self _ ho (Obj.isFreed_of_dict (Obj.data_mapDictKeys hd _)), hc.mapDictKeys _, Obj.data_mapDictKeys hd _, hks.push hk _, ?_, ?_⟩ (Heap.SameBut.update ..))
  · have := hp.append hk (knd.hash k) v
    cases es
    simpa using this
  · rw [List.map_append]
    exact List.nodup_append.mpr ⟨hn, by simp, fun x hx y hy e => hno (by have hy : y = k := List.mem_singleton.mp hy; rw [← hy, ← e]; exact hx)⟩
/-- one plain dict put into another, no key in both -/
theorem merge_plain {d o : Addr} {kvs more : List (K × Value)} {Q : Unit → Shared → Prop} (hne : d ≠ o) (ho : (o == sysModules) = false) (h0 : kvs ≠ []) (hd : s.heap.DictOf knd d kvs) (hm : s.heap.DictOf knd o more) (nd : ((kvs ++ more).map (·.1)).Nodup) (hz : kvs.length + more.length ≤ 1000)
    (q : ∀ h', h'.DictOf knd d (kvs ++ more) → h'.DictOf knd o more → Heap.SameBut d s.heap h' → Q () { s with heap := h' }) : wpAny (model prog w) A (mergeMapping d (.ref o) false) Q E s := by
  obtain ⟨od, esd, epd, god, cod, dod, _, pod, _⟩ := id hd
  obtain ⟨oo, eso, epo, goo, coo, doo, koo, poo, noo⟩ := id hm
  have len : more.length = eso.size := by
    have := poo.length
    rw [Array.length_toList] at this
    exact this.symm
  unfold mergeMapping
  refine wpAny_bind (wpAny_isInstance hm.typeIs isSubtype_dict_dict ?_)
  simp only [if_true]
  refine wpAny_bind (wpAny_specialOf hm.typeIs F.slot_dict_iter.lookup ?_)
  refine wpAny_bind (wpAny_pure ?_)
  simp only [beq_self_eq_true]
  rw [if_neg (by rw [ho]; exact Bool.false_ne_true)]
  refine wpAny_bind (wpAny_dictEntries god dod ?_)
  have e0 : esd.isEmpty = false := by
    cases hx : esd.isEmpty with
    | false => rfl
    | true =>
      have : esd = #[] := Array.isEmpty_iff.mp hx
      have := pod.length
      rw [‹esd = #[]›] at this
      exact absurd (List.eq_nil_of_length_eq_zero (by simpa using this.symm)) h0
  rw [if_neg (by rw [e0]; exact Bool.false_ne_true)]
  refine wpAny_bind (wpAny_dictEntries goo doo ?_)
  refine wpAny_bind (wpAny_dictEpoch goo doo ?_)
  refine wpAny_bind ?_
  refine wpAny_forIn_list _ (fun rest _ s' => ∃ h' i, s' = { s with heap := h' } ∧ rest = (List.range eso.size).drop i ∧ i ≤ eso.size ∧ h'.DictOf knd d (kvs ++ more.take i) ∧ h'.get? o = some oo ∧ Heap.SameBut d s.heap h') _ ?_ ?_ _ _ ⟨s.heap, 0, rfl, rfl, Nat.zero_le _, by simpa using hd, goo, Heap.SameBut.refl _ _⟩
  · rintro x rest b s' ⟨h', i, rfl, hr, hi, hd', go', sb⟩
    by_cases hlt : i < eso.size
    · rw [List.drop_eq_getElem_cons (by simpa using hlt)] at hr
      obtain ⟨rfl, rfl⟩ := List.cons.inj hr
      have ei : (List.range eso.size)[i]'(by simpa using hlt) = i := by simp
      rw [ei]
      refine wpAny_bind (wpAny_dictEntries go' doo ?_)
      rw [Array.getElem?_eq_getElem hlt]
      have lt2 : i < more.length := by omega
      obtain ⟨is1, is2⟩ := poo.get? (e := eso[i]) (by simp [hlt]) (List.getElem?_eq_getElem lt2)
      obtain ⟨k', is3, hh⟩ := koo eso[i] (Array.getElem_mem hlt)
      have ek : k' = more[i].1 := knd.inj _ _ _ is3 is1
      subst ek
      simp only [Bool.false_eq_true, if_false]
      have nk : more[i].1 ∉ (kvs ++ more.take i).map (·.1) := fun z => by
        have e : kvs ++ more = (kvs ++ more.take i) ++ more[i] :: more.drop (i + 1) := by
          rw [List.append_assoc, ← List.drop_eq_getElem_cons lt2, List.take_append_drop]
        rw [e, List.map_append] at nd
        exact (List.nodup_append.mp nd).2.2 _ z _ (List.mem_map.mpr ⟨_, List.mem_cons_self, rfl⟩) rfl
      rw [hh, is2]
      refine wpAny_bind (wpAny_holding (put_end is1 hd' nk (by rw [List.length_append, List.length_take]; omega) fun h2 hd2 sb2 => ?_))
      have go2 : h2.get? o = some oo := (sb2.2 o (Ne.symm hne)).trans go'
      refine wpAny_bind (wpAny_dictEpoch go2 doo ?_)
      rw [if_neg (by simp)]
      refine wpAny_pure ⟨h2, i + 1, rfl, rfl, hlt, ?_, go2, sb.trans sb2⟩
      rw [List.append_assoc] at hd2
      rw [List.take_succ_eq_append_getElem lt2]
      exact hd2
    · rw [List.drop_of_length_le (by simp; omega)] at hr
      cases hr
  · rintro b s' ⟨h', i, rfl, hr, hi, hd', go', sb⟩
    have : i = eso.size := by
      have := congrArg List.length hr
      simp at this
      omega
    subst this
    rw [← len, List.take_length] at hd'
    exact wpAny_pure (q h' hd' ⟨oo, eso, epo, go', coo, doo, koo, poo, noo⟩ sb)
end
/-! ### how the display goes -/
abbrev SP2 := Sem Value × Sem Value
abbrev Gat := Option Addr × List SP2
theorem gather {f : (Option (Sem Value) × Sem Value) → Gat → Sem (ForInStep Gat)} {m : Option Addr} (hf : ∀ (p : SP2) (run : List SP2), run.length + 1 < 17 → f (some p.1, p.2) (m, run) = pure (.yield (m, run ++ [p]))) (rest : List (Option (Sem Value) × Sem Value)) :
    ∀ (items run : List SP2), run.length + items.length < 17 → forIn (items.map (fun p => (some p.1, p.2)) ++ rest) (m, run) f = forIn rest (m, run ++ items) f
  | [], run, _ => by simp
  | p :: r, run, h => by
    have h' : run.length + 1 + r.length < 17 := by simp at h; omega
    rw [List.map_cons, List.cons_append, List.forIn_cons, hf p run (by omega), pure_bind]
    show forIn _ (m, run ++ [p]) f = _
    rw [gather hf rest r (run ++ [p]) (by simp; omega)]
    simp
theorem gather0 {f : (Option (Sem Value) × Sem Value) → Gat → Sem (ForInStep Gat)} {m : Option Addr} (hf : ∀ (p : SP2) (run : List SP2), run.length + 1 < 17 → f (some p.1, p.2) (m, run) = pure (.yield (m, run ++ [p])))
    (items run : List SP2) (h : run.length + items.length < 17) : forIn (items.map (fun p => (some p.1, p.2))) (m, run) f = pure (m, run ++ items) := by
  have g := gather hf [] items run h
  rwa [List.append_nil, List.forIn_nil] at g
theorem display_two (a : List SP2) (x : SP2) (b : List SP2) (ha : a.length = 16) (hb : b.length ≤ 16) (h0 : b ≠ []) :
    dictDisplay ((a ++ x :: b).map fun p => (some p.1, p.2)) = (do
      let d ← subDict (a ++ [x])
      let sub ← holding [.ref d] (subDict b)
      (holding [.ref d, .ref sub] (mergeMapping d (.ref sub) false)).onRaise fun e => do let _ ← holding [.ref d, e] (runValue (.builtin "proto.let_go" {}))
      pure (.ref d)) := by
  unfold dictDisplay
  dsimp only
  rw [List.map_append, List.map_cons]
  rw [gather (fun p run h => by
    have hne : ((run ++ [(p.1, p.2)]).length == 17) = false := by simp; omega
    simp only [hne, Bool.false_eq_true, if_false]) _ a [] (by simp; omega)]
  rw [List.forIn_cons]
  have h17 : (([] ++ a ++ [(x.1, x.2)]).length == 17) = true := by simp [ha]
  simp only [h17, if_true]
  have e17 : (([] ++ a ++ [(x.1, x.2)]).isEmpty) = false := by simp
  simp only [e17, Bool.false_eq_true, if_false]
  simp only [bind_assoc, pure_bind, List.nil_append]
  refine congrArg (fun k => subDict (a ++ [(x.1, x.2)]) >>= k) (funext fun d => ?_)
  rw [gather0 (fun p run h => by
    have hne : ((run ++ [(p.1, p.2)]).length == 17) = false := by simp; omega
    simp only [hne, Bool.false_eq_true, if_false]) b [] (by simp; omega)]
  have hb0 : ([] ++ b).isEmpty = false := by cases b with | nil => exact absurd rfl h0 | cons _ _ => rfl
  simp only [pure_bind, hb0, Bool.false_eq_true, if_false]
  simp only [bind_assoc, pure_bind, List.nil_append]

/-! ### as a rule -/
abbrev It := Expr × Expr × Key × V
def ItOk (X : Cx) (it : It) : Prop := PE X it.1 (tC (kV it.2.2.1)) ∧ PE X it.2.1 (tC it.2.2.2)
def itP (X : Cx) (pos : Pos) (it : It) : SP2 := (eval it.1 X.env, do let x ← eval it.2.1 X.env; standAt pos; pure x)
abbrev itK (it : It) : Key × V := it.2.2
theorem trees_it {X : Cx} {pos : Pos} : ∀ its : List It, pairTrees (its.map fun it => some it.1) (its.map fun it => it.2.1) X.env pos = its.map (itP X pos)
  | [] => rfl
  | it :: r => by
    rw [List.map_cons, List.map_cons, List.map_cons, ← trees_it r]
    rfl
theorem paired_app {α β : Type} {F : α → β → Prop} {l₁ r₁ : List α} {l₂ r₂ : List β} (h : Paired F l₁ l₂) (h' : Paired F r₁ r₂) : Paired F (l₁ ++ r₁) (l₂ ++ r₂) := by
  induction h with
  | nil => exact h'
  | cons a _ ih => exact .cons a ih
section
variable {X : Cx} {pos : Pos} {pins : List (Addr × Obj)} {σ : L2.St}
/-- one pair after the other -/
theorem long_walk {p : Addr} {f : SP2 → PUnit → Sem (ForInStep PUnit)} (hf : ∀ it : It, f (itP X pos it) ⟨⟩ = (do
      let kv ← eval it.1 X.env
      let vv ← holding [kv] (do let x ← eval it.2.1 X.env; standAt pos; pure x)
      holding [kv, vv] (dictSet p kv vv)
      pure (.yield ⟨⟩))) : ∀ (its : List It) (acc : List (Key × V)) (s : Shared) (H : Hp) (Q : PUnit → Shared → Prop), (∀ it ∈ its, ItOk X it) → Inv X pins σ H s → H p = some (.dK acc) → ((acc ++ its.map itK).map (·.1)).Nodup → acc.length + its.length ≤ 1000 →
    (∀ s', Inv X pins σ (upd H p (.dK (acc ++ its.map itK))) s' → Q ⟨⟩ s') → wpAny (model X.prog X.w) X.A (forIn (its.map (itP X pos)) (PUnit.unit) f) Q X.xe s
  | [], acc, s, H, Q, _, I, e, _, _, q => by
    have : upd H p (.dK (acc ++ ([] : List It).map itK)) = H := by
      funext b
      by_cases hb : b = p
      · subst hb; rw [upd_same, e]; simp
      · rw [upd_ne hb]
    rw [this] at q
    exact wpAny_pure (q s I)
  | it :: r, acc, s, H, Q, ok, I, e, nd, hz, q => by
    obtain ⟨ok1, ok2⟩ := ok it List.mem_cons_self
    rw [List.map_cons, List.forIn_cons, hf]
    simp only [bind_assoc]
    refine wpAny_bind (thn (ok1.run pins s σ H (fun x H' => x = kV it.2.2.1 ∧ H' = H) I ⟨rfl, rfl⟩) fun kv s1 ⟨x, H1, I1, r1, e1, e2⟩ => ?_)
    subst e1 e2
    refine wpAny_bind (wpAny_holding (wpAny_bind (thn (ok2.run pins s1 σ H1 (fun x H' => x = it.2.2.2 ∧ H' = H1) I1 ⟨rfl, rfl⟩) fun vv s2 ⟨y, H2, I2, r2, e3, e4⟩ => ?_)))
    subst e3 e4
    refine wpAny_bind (wpAny_standAt (wpAny_pure ?_))
    obtain ⟨z, hd, vs, rel, dd⟩ := dk_of I2.hok e
    have hz' : vs.length ≤ sizeLine := by rw [← rel.length]; exact z
    have hl : (putK acc it.2.2.1 it.2.2.2).length ≤ sizeLine := by
      have := length_putK acc it.2.2.1 it.2.2.2
      have := hz
      simp only [List.length_cons] at this
      rw [sizeLine_eq]; omega
    refine wpAny_bind (wpAny_holding (wpAny_dictSet_pairs (hsz := hz') (kV_is r1) dd fun h' dd' hs => ?_))
    refine wpAny_bind (wpAny_pure ?_)
    have he : ∃ q, h'.get? p = some q := let ⟨q, _, _, hq, _⟩ := dd'; ⟨q, hq⟩
    have I3 := d_write (t' := s2.toks + 1) I2 (by rw [e]; exact True.intro) hs he (dk_new hl hd (rel.put it.2.2.1 r2) dd')
    have hn : putK acc it.2.2.1 it.2.2.2 = acc ++ [itK it] := by
      refine putK_new _ ?_
      rw [List.map_append, List.map_cons, List.map_cons, List.nodup_append] at nd
      cases hv : valV acc it.2.2.1 with
      | none => rfl
      | some u =>
        obtain ⟨w1, hw⟩ := Option.map_eq_some_iff.mp hv
        have m1 := List.mem_of_find?_eq_some hw.1
        have m2 := List.find?_some hw.1
        exact absurd (of_decide_eq_true m2) (nd.2.2 _ (List.mem_map.mpr ⟨_, m1, rfl⟩) _ List.mem_cons_self)
    rw [hn] at I3
    refine long_walk hf r (acc ++ [itK it]) _ _ Q (fun i hi => ok i (List.mem_cons_of_mem _ hi)) I3 upd_same (by simpa using nd) (by simp at hz ⊢; omega) fun s' I' => q s' ?_
    rw [upd_upd] at I'
    simpa using I'
theorem sub_long {its : List It} {s : Shared} {H : Hp} {Q : Addr → Shared → Prop} (ok : ∀ it ∈ its, ItOk X it) (I : Inv X pins σ H s) (nd : ((its.map itK).map (·.1)).Nodup) (h15 : 15 < its.length) (hz : its.length ≤ 1000)
    (q : ∀ p s', H p = none → Inv X pins σ (upd H p (.dK (its.map itK))) s' → Q p s') : wpAny (model X.prog X.w) X.A (subDict (its.map (itP X pos))) Q X.xe s := by
  unfold subDict
  have hn := I.hok.fresh (Nat.le_refl s.heap.objs.size)
  have I1 := I.laid (a := s.heap.objs.size) (o := .dK []) (h' := s.heap.push { cls := .type "dict", data := .dict #[] }) (t' := s.toks) (fun _ _ q => Heap.get?_push_of_some _ q) (Nat.le_refl _) (dk_empty s.heap I.big)
  refine wpAny_bind (wpAny_alloc ?_)
  refine wpAny_bind (wpAny_holding ?_)
  rw [if_neg (by rw [List.length_map]; omega)]
  refine wpAny_bind (wpAny_rule ?_)
  refine wpAny_bind (long_walk (fun it => ?_) its [] _ _ _ ok I1 upd_same (by simpa using nd) (by simpa using hz) fun s' I' => ?_)
  · rfl
  · rw [upd_upd] at I'
    exact wpAny_pure (wpAny_pure (q _ _ hn (by simpa using I')))
theorem pps_its : ∀ its : List It, (∀ it ∈ its, ItOk X it) → PPs X pos (its.map fun it => some it.1) (its.map fun it => it.2.1) (its.map fun it => (tC (kV it.2.2.1), tC it.2.2.2))
  | [], _ => pps_nil
  | it :: r, ok => pps_cons (ok it List.mem_cons_self).1 (ok it List.mem_cons_self).2 (pps_its r fun i hi => ok i (List.mem_cons_of_mem _ hi))
theorem tPairs_its {H : Hp} : ∀ (its : List It) (Q : List (V × V) → Hp → Prop), Q (its.map fun it => (kV it.2.2.1, it.2.2.2)) H → tPairs (its.map fun it => (tC (kV it.2.2.1), tC it.2.2.2)) σ H Q
  | [], _, q => q
  | it :: r, Q, q => tPairs_its r (fun ps H3 => Q ((kV it.2.2.1, it.2.2.2) :: ps) H3) q
theorem sub_short {its : List It} {s : Shared} {H : Hp} {Q : Addr → Shared → Prop} (ok : ∀ it ∈ its, ItOk X it) (I : Inv X pins σ H s) (nd : ((its.map itK).map (·.1)).Nodup) (h15 : its.length ≤ 15)
    (q : ∀ p s', H p = none → Inv X pins σ (upd H p (.dK (its.map itK))) s' → Q p s') : wpAny (model X.prog X.w) X.A (subDict (its.map (itP X pos))) Q X.xe s := by
  have hn := I.hok.fresh (Nat.le_refl s.heap.objs.size)
  have I1 := I.laid (a := s.heap.objs.size) (o := .dK []) (h' := s.heap.push { cls := .type "dict", data := .dict #[] }) (t' := s.toks) (fun _ _ q => Heap.get?_push_of_some _ q) (Nat.le_refl _) (dk_empty s.heap I.big)
  refine wpAny_subDict (knd := mixKind X.prog X.w) (by rw [List.length_map]; exact h15) ?_
  rw [← trees_it]
  refine thn ((pps_its its ok).run pins _ σ _ (fun ps H' => ps = its.map (fun it => (kV it.2.2.1, it.2.2.2)) ∧ H' = upd H s.heap.objs.size (.dK [])) I1 (tPairs_its its _ ⟨rfl, rfl⟩)) fun ws s2 ⟨ps, H2, I2, rel, e1, e2⟩ => ?_
  subst e1 e2
  have e3 : (its.map fun it => (kV it.2.2.1, it.2.2.2)) = (its.map itK).map fun kv => (kV kv.1, kv.2) := by rw [List.map_map]; rfl
  rw [e3] at rel
  obtain ⟨rs, c, rk⟩ := carries_of (P := X.prog) (w := X.w) rel
  obtain ⟨z, hd, vs0, r0, dd⟩ := dk_of I2.hok upd_same
  cases r0
  refine ⟨rs, c, dd, fun h' dd' hs => q _ _ hn ?_⟩
  have hm : mergeK [] (its.map itK) = its.map itK := by rw [mergeK_nd _ [] (by simpa using nd)]; rfl
  have hz : (mergeK [] (its.map itK)).length ≤ sizeLine := by rw [hm, List.length_map, sizeLine_eq]; omega
  have he : ∃ q, h'.get? s.heap.objs.size = some q := let ⟨q, _, _, hq, _⟩ := dd'; ⟨q, hq⟩
  have I3 := d_write (t' := s2.toks + ws.length) I2 (by rw [upd_same]; exact True.intro) hs he (dk_new hz hd (rk.merge .nil) dd')
  rw [upd_upd, hm] at I3
  exact I3
/-- a display of more than seventeen constants and less than thirty-three -/
def tBig (kvs : List (Key × V)) : TE := fun σ H Q => ∀ p q ob, H p = none → q ≠ p → H q = none → Q (.ref p) (upd (upd H q ob) p (.dK kvs))
theorem pe_big {a b : List It} {x : It} (oka : ∀ it ∈ a, ItOk X it) (okx : ItOk X x) (okb : ∀ it ∈ b, ItOk X it) (ha : a.length = 16) (hb : b.length ≤ 15) (h0 : b ≠ []) (nd : (((a ++ x :: b).map itK).map (·.1)).Nodup) :
    PE X (.Dict ((a ++ x :: b).map fun it => some it.1) ((a ++ x :: b).map fun it => it.2.1) pos) (tBig ((a ++ x :: b).map itK)) := by
  refine ⟨fun pins s σ H Q I h => ?_⟩
  have e0 : a ++ x :: b = (a ++ [x]) ++ b := by simp
  have nd' : (((a ++ [x]).map itK).map (·.1) ++ (b.map itK).map (·.1)).Nodup := by rw [← List.map_append, ← List.map_append, ← e0]; exact nd
  rw [arm_eval_Dict, zip_pairTrees _ _ _ _ (by simp) (by simp), trees_it, List.map_append, List.map_cons,
    display_two _ _ _ (by rw [List.length_map]; exact ha) (by rw [List.length_map]; omega) (by simpa using h0)]
  refine wpAny_bind (wpAny_standAt ?_)
  have e1 : a.map (itP X pos) ++ [itP X pos x] = (a ++ [x]).map (itP X pos) := by rw [List.map_append]; rfl
  rw [e1]
  refine wpAny_bind (sub_long (fun it hi => by rcases List.mem_append.mp hi with z | z; exact oka it z; rw [List.mem_singleton.mp z]; exact okx) I (List.nodup_append.mp nd').1 (by simp [ha]) (by simp [ha]) fun p s1 hp I1 => ?_)
  refine wpAny_bind (wpAny_holding (sub_short okb I1 (List.nodup_append.mp nd').2.1 hb fun q s2 hq I2 => ?_))
  have qp : q ≠ p := fun z => by rw [z, upd_same] at hq; cases hq
  have hq0 : H q = none := by rw [upd_ne qp] at hq; exact hq
  obtain ⟨z1, d1, vs1, r1, dd1⟩ := dk_of I2.hok (show upd (upd H p (.dK ((a ++ [x]).map itK))) q (.dK (b.map itK)) p = _ by rw [upd_ne (Ne.symm qp), upd_same])
  obtain ⟨z2, d2, vs2, r2, dd2⟩ := dk_of I2.hok (show upd (upd H p (.dK ((a ++ [x]).map itK))) q (.dK (b.map itK)) q = _ from upd_same)
  have k1 := r1.keys
  have k2 := r2.keys
  refine wpAny_bind (wpAny_onRaise (wpAny_holding (merge_plain (knd := mixKind X.prog X.w) (Ne.symm qp) d2 (fun z => ?_) dd1 dd2 (by rw [List.map_append, ← k1, ← k2]; exact nd') (by rw [← r1.length, ← r2.length]; simp [ha]; omega) fun h' dd' _ hs => wpAny_pure ?_)))
  · have := r1.length
    rw [z] at this
    simp at this
  · have he : ∃ o, h'.get? p = some o := let ⟨o, _, _, hq, _⟩ := dd'; ⟨o, hq⟩
    have hl : ((a ++ x :: b).map itK).length ≤ sizeLine := by rw [sizeLine_eq]; simp [ha]; omega
    have rel : KV ((a ++ x :: b).map itK) (vs1 ++ vs2) := by
      rw [e0, List.map_append]
      exact paired_app r1 r2
    have I3 := d_write (t' := s2.toks) I2 (by rw [upd_ne (Ne.symm qp), upd_same]; exact True.intro) hs he (dk_new hl d1 rel dd')
    have hH : upd (upd (upd H p (.dK ((a ++ [x]).map itK))) q (.dK (b.map itK))) p (.dK ((a ++ x :: b).map itK)) = upd (upd H q (.dK (b.map itK))) p (.dK ((a ++ x :: b).map itK)) := by
      funext c
      unfold upd
      split
      · rfl
      · split <;> rfl
    rw [hH] at I3
    exact ⟨.ref p, _, I3, rfl, h p q _ hp qp hq0⟩
end

/-- what stands in the text of a great display -/
def Bigs (X : Cx) (keys : List (Option Expr)) (values : List Expr) (kis : List (Str × Int)) : Prop :=
  ∃ its : List It, keys = its.map (fun it => some it.1) ∧ values = its.map (fun it => it.2.1) ∧ (∀ it ∈ its, ItOk X it) ∧ its.map itK = kis.map fun p => (Sum.inr p.1, V.int p.2)
theorem bigs_nil {X : Cx} : Bigs X [] [] [] := ⟨[], rfl, rfl, (fun _ h => nomatch h), rfl⟩
theorem bigs_cons {X : Cx} {keys : List (Option Expr)} {values : List Expr} {kis : List (Str × Int)} {k : Str} {i : Int} {j j' : Nat} {p p' : Pos} (h : Bigs X keys values kis) :
    Bigs X (some (.Constant (.str k) j p) :: keys) (.Constant (.int i) j' p' :: values) ((k, i) :: kis) := by
  obtain ⟨its, e1, e2, ok, e3⟩ := h
  refine ⟨(.Constant (.str k) j p, .Constant (.int i) j' p', Sum.inr k, .int i) :: its, by rw [e1]; rfl, by rw [e2]; rfl, fun it hi => ?_, by rw [List.map_cons, e3]; rfl⟩
  rcases List.mem_cons.mp hi with z | z
  · subst z; exact ⟨pe_str, pe_int⟩
  · exact ok it z
theorem pem_big {X : Cx} {W : WX} {keys : List (Option Expr)} {values : List Expr} {kis : List (Str × Int)} {pos : Pos} (h : Bigs X keys values kis) (hz : 17 < kis.length ∧ kis.length ≤ 32) (nd : (kis.map (·.1)).Nodup) :
    PEM X W (.Dict keys values pos) (mC (.rdc (kis.map fun p => Sum.inr p.1) (kis.map fun p => D.int p.2))) := by
  obtain ⟨its, e1, e2, ok, e3⟩ := h
  have hl : its.length = kis.length := by
    have := congrArg List.length e3
    simpa using this
  have lt : 16 < its.length := by omega
  have es : its = its.take 16 ++ its[16] :: its.drop 17 := by
    rw [← List.drop_eq_getElem_cons lt, List.take_append_drop]
  have ndk : ((its.map itK).map (·.1)).Nodup := by
    rw [e3, List.map_map]
    have : ((fun x : Key × V => x.1) ∘ fun p : Str × Int => ((Sum.inr p.1 : Key), V.int p.2)) = (fun s : Str => (Sum.inr s : Key)) ∘ fun p : Str × Int => p.1 := rfl
    rw [this, ← List.map_map]
    exact nd.map _ (fun a b hab => fun z => hab (Sum.inr.inj z))
  have pe := pe_big (X := X) (pos := pos) (a := its.take 16) (b := its.drop 17) (x := its[16]) (fun it hi => ok it (List.mem_of_mem_take hi)) (ok _ (List.getElem_mem lt)) (fun it hi => ok it (List.mem_of_mem_drop hi))
    (by rw [List.length_take]; omega) (by rw [List.length_drop]; omega) (by intro z; have := congrArg List.length z; rw [List.length_drop] at this; simp at this; omega) (by rw [← es]; exact ndk)
  rw [← es, ← e1, ← e2] at pe
  refine PE.imp pe fun σ H Q ⟨L, h, δ, r, s, a⟩ p q ob hp hqp hq => ?_
  obtain ⟨x0, r0⟩ := r.fresh (o := ob) hq
  have hp' : upd H q ob p = none := by rw [upd_ne (Ne.symm hqp)]; exact hp
  obtain ⟨x1, r1⟩ := r0.fresh (o := .dK (its.map itK)) hp'
  refine a L _ _ (x0.trans x1) r1 ?_
  unfold Rep
  refine ⟨p, kis.map fun p => V.int p.2, rfl, .inl ?_, r0.nl_new hp', ⟨by simp, ?_⟩, ?_⟩
  · rw [upd_same, e3, List.zip_map']
  · intro z
    have := congrArg List.length z
    rw [List.length_map] at this
    simp at this
    rw [this] at hz
    simp at hz
  · have := repL_ints (K := X.K) (L := L) (H := upd (upd H q ob) p (.dK (its.map itK))) (kis.map (·.2))
    simpa [List.map_map, Function.comp_def] using this
section
variable {X : Cx} {W : WX} {pos : Pos}
/-- f() -/
theorem pe_callS0 {CX : CXT} {k : Nat} {f : Addr} {fd : FuncData} {ps : List Str} {sp : Sp} {E : L2.St → XK} {x : Str} {p : Pos} (F : FnOk X.prog X.w X.K X.mg X.base CX k f fd ps sp) (hr : Room k X.A) (hg : Gl X x) (hm : X.mg x = some (.ref f)) (hk : PySem.W.keepIn X.K (.ref f) = true) (hb : Binds X.K fd ps []) (hx : ∀ σ, PassesAt CX X σ (E σ))
    (hdb : (x == ("__debug__" : Str)) = false := by decide) : PE X (.Call (.Name x p) [] [] pos) (tCallS sp E tNil) := by
  refine ⟨fun pins s σ H Q I h => ?_⟩
  refine wpAny_Call_Name_kw (ld_glob I hg hm ?_ hdb)
  exact PySem.W.callWith_K0 I.kIn hk (run_fnS (us := []) F hr hb (hx σ) I .nil h)
theorem pem_call0 {x : Str} {st : Stmt} {f : Addr} {fd : FuncData} {ps : List Str} {k : Nat} {m : List D → MH → R D} {p : Pos} (F : FnM X.prog X.w X.K X.mg X.base k f fd ps m) (DA : DefAt X.K X.mg x st f fd ps) (hr : Room k X.A) (tk : L2N.Takes X W) (hg : Gl X x)
    (hdb : (x == ("__debug__" : Str)) = false := by decide) : PEM X W (.Call (.Name x p) [] [] pos) (mCall m mNil) :=
  PE.imp (pe_callS0 (E := WE W) F hr hg DA.mg' DA.fn.kp DA.bi (fun σ => L2N.passAt tk σ) hdb) fun σ H Q ⟨L, h, δ, r0, s, a⟩ => ⟨L, h, [], r0, .nil, a⟩
end
/-- str(x) of an int or a text -/
def fStr3 (ds : List D) (h : MH) : R D := match ds with
  | [.str s] => .ok (.str s) h
  | ds => fStr ds h
theorem call_str3 {X : Cx} : CallR X (.type "str") (fun xs H Q => (∃ i, xs = [.int i] ∧ i.natAbs.log2 < 1920 ∧ Q (.str (toString i)) H) ∨ (∃ a, xs = [.str a] ∧ Q (.str a) H)) := call_str_int.or SkE.call_str_str
theorem fStr3_ok {K : PySem.W.Frag} : CallM K (fun xs H Q => (∃ i, xs = [.int i] ∧ i.natAbs.log2 < 1920 ∧ Q (.str (toString i)) H) ∨ (∃ a, xs = [.str a] ∧ Q (.str a) H)) fStr3 := by
  intro L H h ds vs Q E r w a
  unfold fStr3 at a
  split at a
  · rename_i s
    obtain ⟨v, rfl, q⟩ := w.one
    exact .inr ⟨s, by rw [rep_str_inv q], ans_okE r rep_str a⟩
  · exact .inl (fStr_ok L H h _ vs Q E r w a)
/-! ### list + list, nobody changes them -/
def rCatS (K : PySem.W.Frag) : R2 := fun x y H Q => ∃ l b xs zs, x = .ref l ∧ y = .ref b ∧ SqL K H l xs ∧ SqL K H b zs ∧ xs.length + zs.length ≤ sizeLine ∧ ∀ p, H p = none → Q (.ref p) (upd H p (.lst (xs ++ zs)))
theorem op_catS {X : Cx} : OpR X (binaryOp .Add) (rCatS X.K) := by
  intro pins s σ H x y v u Q I rx ry h
  obtain ⟨l, b, xs, zs, rfl, rfl, hH, hB, hz, q⟩ := h
  cases rx
  cases ry
  obtain ⟨its, r, ⟨o, n, e, c, dn, d⟩, _⟩ := I.list hH
  obtain ⟨its2, r2, ⟨o2, n2, e2, c2, dn2, d2⟩, _⟩ := I.list hB
  obtain ⟨oc, od, odt, osl⟩ := o
  obtain ⟨oc2, od2, odt2, osl2⟩ := o2
  simp only at c dn d c2 dn2 d2
  subst c d c2 d2
  have h1 := r.length
  have h2 := r2.length
  have hsz : its.toArray.size + its2.toArray.size ≤ sizeLine := by rw [List.size_toArray, List.size_toArray]; omega
  refine concat_meets ⟨_, e, rfl⟩ ⟨_, e2, rfl⟩ noFill_list_add seq_list_add PySem.F.slot_list_add PySem.F.entry_list_add (PySem.F.args_list_add_2 _ _) (list_addW l b its.toArray its2.toArray n n2 od od2 osl osl2 hsz) ⟨e, e2, ?_⟩
  have ea : its.toArray ++ its2.toArray = (its ++ its2).toArray := by simp
  rw [ea]
  exact ⟨.ref _, _, I.lnew (t' := s.toks) (r.append r2) (by rw [List.length_append]; omega), rfl, q _ I.fresh⟩
def opAddS (x y : D) (h : MH) : R D := match x, y with
  | .rol a, .rol b => if a.length + b.length ≤ 16777216 then .ok (.rol (a ++ b)) h else .stuck
  | x, y => opAdd x y h
def rAddS (K : PySem.W.Frag) : R2 := fun x y H Q => rAdd3 K x y H Q ∨ rCatS K x y H Q
theorem op_addS {X : Cx} : OpR X (binaryOp .Add) (rAddS X.K) := op_add3.or op_catS
theorem rol_sf {K L H v ds} (q : Rep K L H (.rol ds) v) : ∃ p xs, v = .ref p ∧ SqL K H p xs ∧ RepL K L H ds xs := by
  unfold Rep at q
  obtain ⟨p, xs, rfl, s, w⟩ := q
  exact ⟨p, xs, rfl, s.sq, w⟩
theorem opAddS_ok {K : PySem.W.Frag} : OpM K (rAddS K) opAddS := by
  intro L H h dx dy x y Q E r px py a
  unfold opAddS at a
  split at a
  · rename_i ds es
    split at a
    · rename_i z
      obtain ⟨p, xs, rfl, s, w⟩ := rol_sf px
      obtain ⟨q, ys, rfl, s', w'⟩ := rol_sf py
      exact .inr ⟨p, q, xs, ys, rfl, rfl, s, s', by rw [← w.length, ← w'.length]; exact szl z, fun p hp => ans_of (rep_rol r hp (w.append w')) a⟩
    · exact a.elim
  · exact .inl (opAdd_ok L H h dx dy x y Q E r px py a)
section
variable {h : MH}
@[simp] theorem opAddS_int {i j : Int} : opAddS (.int i) (.int j) h = .ok (.int (i + j)) h := rfl
@[simp] theorem opAddS_str {x y : Str} (e : x.length + y.length ≤ 16777216) : opAddS (.str x) (.str y) h = .ok (.str (x ++ y)) h := if_pos e
@[simp] theorem opAddS_tup {x y : List D} (e : x.length + y.length ≤ 16777216) : opAddS (.tup x) (.tup y) h = .ok (.tup (x ++ y)) h := if_pos e
@[simp] theorem opAddS_rol {x y : List D} (e : x.length + y.length ≤ 16777216) : opAddS (.rol x) (.rol y) h = .ok (.rol (x ++ y)) h := if_pos e
end
end MM

namespace K05
open PySem PySem.Spec PyProof.Rows L2 MM
/-! ### the text of the row, def by def (printed by a program of ours) -/
def topS (i : Nat) : Stmt := PySem.Challenge.pw_escheat_k05_write_a_program.main.body.getD i (.Pass ⟨0, 0, 0, 0⟩)
abbrev s__form : Stmt := topS 2
theorem sc__form : FnScope ["parts"] ["parts"] (defScope s__form) := ⟨rfl, rfl, rfl, by decide +kernel, rfl, by decide +kernel, by decide +kernel⟩
abbrev s__kind_text : Stmt := topS 8
theorem sc__kind_text : FnScope ["kind", "head", "what", "_", "part"] ["kind"] (defScope s__kind_text) := ⟨rfl, rfl, rfl, by decide +kernel, rfl, by decide +kernel, by decide +kernel⟩
abbrev s__constructor_text : Stmt := topS 5
theorem sc__constructor_text : FnScope ["constructor", "name", "fields", "field"] ["constructor"] (defScope s__constructor_text) := ⟨rfl, rfl, rfl, by decide +kernel, rfl, by decide +kernel, by decide +kernel⟩
abbrev s_data_text : Stmt := topS 3
theorem sc_data_text : FnScope ["data", "name", "constructors", "constructor"] ["data"] (defScope s_data_text) := ⟨rfl, rfl, rfl, by decide +kernel, rfl, by decide +kernel, by decide +kernel⟩
abbrev s_exception_text : Stmt := topS 4
theorem sc_exception_text : FnScope ["name"] ["name"] (defScope s_exception_text) := ⟨rfl, rfl, rfl, by decide +kernel, rfl, by decide +kernel, by decide +kernel⟩
abbrev s__parameter_text : Stmt := topS 7
theorem sc__parameter_text : FnScope ["parameter", "name", "kind"] ["parameter"] (defScope s__parameter_text) := ⟨rfl, rfl, rfl, by decide +kernel, rfl, by decide +kernel, by decide +kernel⟩
abbrev s__first_parts : Stmt := topS 11
theorem sc__first_parts : FnScope ["op", "info"] ["op", "info"] (defScope s__first_parts) := ⟨rfl, rfl, rfl, by decide +kernel, rfl, by decide +kernel, by decide +kernel⟩
abbrev s__word_text : Stmt := topS 10
theorem sc__word_text : FnScope ["op", "info"] ["op", "info"] (defScope s__word_text) := ⟨rfl, rfl, rfl, by decide +kernel, rfl, by decide +kernel, by decide +kernel⟩
abbrev s__expression_text : Stmt := topS 9
theorem sc__expression_text : FnScope ["expression", "op", "_", "info", "kids", "arms", "parts", "kid", "arm"] ["expression"] (defScope s__expression_text) := ⟨rfl, rfl, rfl, by decide +kernel, rfl, by decide +kernel, by decide +kernel⟩
abbrev s__arm_text : Stmt := topS 12
theorem sc__arm_text : FnScope ["op", "arm", "name", "variables", "body"] ["op", "arm"] (defScope s__arm_text) := ⟨rfl, rfl, rfl, by decide +kernel, rfl, by decide +kernel, by decide +kernel⟩
abbrev s_function_text : Stmt := topS 6
theorem sc_function_text : FnScope ["function", "name", "_", "parameters", "result", "body", "pairs", "parameter"] ["function"] (defScope s_function_text) := ⟨rfl, rfl, rfl, by decide +kernel, rfl, by decide +kernel, by decide +kernel⟩
abbrev s_write_program : Stmt := topS 14
theorem sc_write_program : FnScope ["tree", "datas", "exceptions", "functions", "lines", "data", "name", "function", "line"] ["tree"] (defScope s_write_program) := ⟨rfl, rfl, rfl, by decide +kernel, rfl, by decide +kernel, by decide +kernel⟩
abbrev s__law_start : Stmt := topS 16
theorem sc__law_start : FnScope ["script", "seed", "cell"] ["script"] (defScope s__law_start) := ⟨rfl, rfl, rfl, by decide +kernel, rfl, by decide +kernel, by decide +kernel⟩
abbrev s__law_draw : Stmt := topS 17
theorem sc__law_draw : FnScope ["state", "many", "value"] ["state", "many"] (defScope s__law_draw) := ⟨rfl, rfl, rfl, by decide +kernel, rfl, by decide +kernel, by decide +kernel⟩
abbrev s__law_reserved : Stmt := topS 18
theorem sc__law_reserved : FnScope ["words"] [] (defScope s__law_reserved) := ⟨rfl, rfl, rfl, by decide +kernel, rfl, by decide +kernel, by decide +kernel⟩
abbrev s__law_name : Stmt := topS 19
theorem sc__law_name : FnScope ["state", "great", "letters", "rest", "first", "size", "name", "k"] ["state", "great"] (defScope s__law_name) := ⟨rfl, rfl, rfl, by decide +kernel, rfl, by decide +kernel, by decide +kernel⟩
abbrev s__law_fresh : Stmt := topS 20
theorem sc__law_fresh : FnScope ["state", "great", "taken", "name", "k"] ["state", "great", "taken"] (defScope s__law_fresh) := ⟨rfl, rfl, rfl, by decide +kernel, rfl, by decide +kernel, by decide +kernel⟩
abbrev s__law_kind : Stmt := topS 21
theorem sc__law_kind : FnScope ["state", "deep", "pick", "k"] ["state", "deep"] (defScope s__law_kind) := ⟨rfl, rfl, rfl, by decide +kernel, rfl, by decide +kernel, by decide +kernel⟩
abbrev s__law_exception : Stmt := topS 22
theorem sc__law_exception : FnScope ["state", "pick"] ["state"] (defScope s__law_exception) := ⟨rfl, rfl, rfl, by decide +kernel, rfl, by decide +kernel, by decide +kernel⟩
abbrev s__law_leaf : Stmt := topS 23
theorem sc__law_leaf : FnScope ["state", "pick"] ["state"] (defScope s__law_leaf) := ⟨rfl, rfl, rfl, by decide +kernel, rfl, by decide +kernel, by decide +kernel⟩
abbrev s__law_counts : Stmt := topS 24
theorem sc__law_counts : FnScope [] [] (defScope s__law_counts) := ⟨rfl, rfl, rfl, by decide +kernel, rfl, by decide +kernel, by decide +kernel⟩
abbrev s__law_arms : Stmt := topS 25
theorem sc__law_arms : FnScope ["state", "op", "deep", "room", "arms", "k", "taken", "names", "j"] ["state", "op", "deep", "room"] (defScope s__law_arms) := ⟨rfl, rfl, rfl, by decide +kernel, rfl, by decide +kernel, by decide +kernel⟩
abbrev s__law_expr : Stmt := topS 26
theorem sc__law_expr : FnScope ["state", "deep", "room", "counts", "ops", "pick", "op", "many", "info", "kids", "k"] ["state", "deep", "room"] (defScope s__law_expr) := ⟨rfl, rfl, rfl, by decide +kernel, rfl, by decide +kernel, by decide +kernel⟩
abbrev s__law_tree : Stmt := topS 27
theorem sc__law_tree : FnScope ["state", "sorts", "cons", "names", "datas", "k", "name", "rows", "j", "fields", "exceptions", "functions", "many", "taken", "kinds", "parameters", "result", "m", "kind"] ["state"] (defScope s__law_tree) := ⟨rfl, rfl, rfl, by decide +kernel, rfl, by decide +kernel, by decide +kernel⟩
abbrev s__law_kind_words : Stmt := topS 28
theorem sc__law_kind_words : FnScope ["kind", "words", "part"] ["kind", "words"] (defScope s__law_kind_words) := ⟨rfl, rfl, rfl, by decide +kernel, rfl, by decide +kernel, by decide +kernel⟩
abbrev s__law_head : Stmt := topS 29
theorem sc__law_head : FnScope ["expr", "words", "op", "at", "info", "kids", "arms"] ["expr", "words"] (defScope s__law_head) := ⟨rfl, rfl, rfl, by decide +kernel, rfl, by decide +kernel, by decide +kernel⟩
abbrev s__law_expr_words : Stmt := topS 30
theorem sc__law_expr_words : FnScope ["expr", "words", "op", "at", "info", "kids", "arms", "rows", "arm", "name", "kid"] ["expr", "words"] (defScope s__law_expr_words) := ⟨rfl, rfl, rfl, by decide +kernel, rfl, by decide +kernel, by decide +kernel⟩
abbrev s__law_data_words : Stmt := topS 31
theorem sc__law_data_words : FnScope ["data", "words", "name", "fields", "field"] ["data", "words"] (defScope s__law_data_words) := ⟨rfl, rfl, rfl, by decide +kernel, rfl, by decide +kernel, by decide +kernel⟩
abbrev s__law_function_words : Stmt := topS 32
theorem sc__law_function_words : FnScope ["function", "words", "name", "at", "parameters", "result", "body", "parameter"] ["function", "words"] (defScope s__law_function_words) := ⟨rfl, rfl, rfl, by decide +kernel, rfl, by decide +kernel, by decide +kernel⟩
abbrev s__law_words : Stmt := topS 33
theorem sc__law_words : FnScope ["tree", "words", "data", "name", "word", "function"] ["tree", "words"] (defScope s__law_words) := ⟨rfl, rfl, rfl, by decide +kernel, rfl, by decide +kernel, by decide +kernel⟩
abbrev s__law_canonical : Stmt := topS 34
theorem sc__law_canonical : FnScope ["words", "text", "depth", "before", "word"] ["words"] (defScope s__law_canonical) := ⟨rfl, rfl, rfl, by decide +kernel, rfl, by decide +kernel, by decide +kernel⟩
abbrev s__law_nodes : Stmt := topS 35
theorem sc__law_nodes : FnScope ["expr", "kid", "arm"] ["expr"] (defScope s__law_nodes) := ⟨rfl, rfl, rfl, by decide +kernel, rfl, by decide +kernel, by decide +kernel⟩
abbrev s_law : Stmt := topS 36
theorem sc_law : FnScope ["script", "state", "tree", "words", "numbered", "actual", "function", "word"] ["script"] (defScope s_law) := ⟨rfl, rfl, rfl, by decide +kernel, rfl, by decide +kernel, by decide +kernel⟩
def c_FIRST_EXCEPTIONS : D := (.tup [(.str "Div"), (.str "Index"), (.str "Size")])
/-- what the top has left -/
structure Top (w : World) (K : PySem.W.Frag) (mg : Str → Option Value) where
  a__form : Addr
  f__form : FuncData
  d__form : DefAt K mg "_form" s__form a__form f__form ["parts"]
  a__kind_text : Addr
  f__kind_text : FuncData
  d__kind_text : DefAt K mg "_kind_text" s__kind_text a__kind_text f__kind_text ["kind"]
  a__constructor_text : Addr
  f__constructor_text : FuncData
  d__constructor_text : DefAt K mg "_constructor_text" s__constructor_text a__constructor_text f__constructor_text ["constructor"]
  a_data_text : Addr
  f_data_text : FuncData
  d_data_text : DefAt K mg "data_text" s_data_text a_data_text f_data_text ["data"]
  a_exception_text : Addr
  f_exception_text : FuncData
  d_exception_text : DefAt K mg "exception_text" s_exception_text a_exception_text f_exception_text ["name"]
  a__parameter_text : Addr
  f__parameter_text : FuncData
  d__parameter_text : DefAt K mg "_parameter_text" s__parameter_text a__parameter_text f__parameter_text ["parameter"]
  a__first_parts : Addr
  f__first_parts : FuncData
  d__first_parts : DefAt K mg "_first_parts" s__first_parts a__first_parts f__first_parts ["op", "info"]
  a__word_text : Addr
  f__word_text : FuncData
  d__word_text : DefAt K mg "_word_text" s__word_text a__word_text f__word_text ["op", "info"]
  a__expression_text : Addr
  f__expression_text : FuncData
  d__expression_text : DefAt K mg "_expression_text" s__expression_text a__expression_text f__expression_text ["expression"]
  a__arm_text : Addr
  f__arm_text : FuncData
  d__arm_text : DefAt K mg "_arm_text" s__arm_text a__arm_text f__arm_text ["op", "arm"]
  a_function_text : Addr
  f_function_text : FuncData
  d_function_text : DefAt K mg "function_text" s_function_text a_function_text f_function_text ["function"]
  a_write_program : Addr
  f_write_program : FuncData
  d_write_program : DefAt K mg "write_program" s_write_program a_write_program f_write_program ["tree"]
  a__law_start : Addr
  f__law_start : FuncData
  d__law_start : DefAt K mg "_law_start" s__law_start a__law_start f__law_start ["script"]
  a__law_draw : Addr
  f__law_draw : FuncData
  d__law_draw : DefAt K mg "_law_draw" s__law_draw a__law_draw f__law_draw ["state", "many"]
  a__law_reserved : Addr
  f__law_reserved : FuncData
  d__law_reserved : DefAt K mg "_law_reserved" s__law_reserved a__law_reserved f__law_reserved []
  a__law_name : Addr
  f__law_name : FuncData
  d__law_name : DefAt K mg "_law_name" s__law_name a__law_name f__law_name ["state", "great"]
  a__law_fresh : Addr
  f__law_fresh : FuncData
  d__law_fresh : DefAt K mg "_law_fresh" s__law_fresh a__law_fresh f__law_fresh ["state", "great", "taken"]
  a__law_kind : Addr
  f__law_kind : FuncData
  d__law_kind : DefAt K mg "_law_kind" s__law_kind a__law_kind f__law_kind ["state", "deep"]
  a__law_exception : Addr
  f__law_exception : FuncData
  d__law_exception : DefAt K mg "_law_exception" s__law_exception a__law_exception f__law_exception ["state"]
  a__law_leaf : Addr
  f__law_leaf : FuncData
  d__law_leaf : DefAt K mg "_law_leaf" s__law_leaf a__law_leaf f__law_leaf ["state"]
  a__law_counts : Addr
  f__law_counts : FuncData
  d__law_counts : DefAt K mg "_law_counts" s__law_counts a__law_counts f__law_counts []
  a__law_arms : Addr
  f__law_arms : FuncData
  d__law_arms : DefAt K mg "_law_arms" s__law_arms a__law_arms f__law_arms ["state", "op", "deep", "room"]
  a__law_expr : Addr
  f__law_expr : FuncData
  d__law_expr : DefAt K mg "_law_expr" s__law_expr a__law_expr f__law_expr ["state", "deep", "room"]
  a__law_tree : Addr
  f__law_tree : FuncData
  d__law_tree : DefAt K mg "_law_tree" s__law_tree a__law_tree f__law_tree ["state"]
  a__law_kind_words : Addr
  f__law_kind_words : FuncData
  d__law_kind_words : DefAt K mg "_law_kind_words" s__law_kind_words a__law_kind_words f__law_kind_words ["kind", "words"]
  a__law_head : Addr
  f__law_head : FuncData
  d__law_head : DefAt K mg "_law_head" s__law_head a__law_head f__law_head ["expr", "words"]
  a__law_expr_words : Addr
  f__law_expr_words : FuncData
  d__law_expr_words : DefAt K mg "_law_expr_words" s__law_expr_words a__law_expr_words f__law_expr_words ["expr", "words"]
  a__law_data_words : Addr
  f__law_data_words : FuncData
  d__law_data_words : DefAt K mg "_law_data_words" s__law_data_words a__law_data_words f__law_data_words ["data", "words"]
  a__law_function_words : Addr
  f__law_function_words : FuncData
  d__law_function_words : DefAt K mg "_law_function_words" s__law_function_words a__law_function_words f__law_function_words ["function", "words"]
  a__law_words : Addr
  f__law_words : FuncData
  d__law_words : DefAt K mg "_law_words" s__law_words a__law_words f__law_words ["tree", "words"]
  a__law_canonical : Addr
  f__law_canonical : FuncData
  d__law_canonical : DefAt K mg "_law_canonical" s__law_canonical a__law_canonical f__law_canonical ["words"]
  a__law_nodes : Addr
  f__law_nodes : FuncData
  d__law_nodes : DefAt K mg "_law_nodes" s__law_nodes a__law_nodes f__law_nodes ["expr"]
  a_law : Addr
  f_law : FuncData
  d_law : DefAt K mg "law" s_law a_law f_law ["script"]
  z_str : mg "str" = none
  z_len : mg "len" = none
  z_int : mg "int" = none
  z_list : mg "list" = none
  z_abs : mg "abs" = none
  z_range : mg "range" = none
  z_tuple : mg "tuple" = none
  z_sorted : mg "sorted" = none
  z_sum : mg "sum" = none
  z_isinstance : mg "isinstance" = none
  c_FIRST_EXCEPTIONS : CAt K mg "FIRST_EXCEPTIONS" c_FIRST_EXCEPTIONS
noncomputable def b__form : MSt :=
  mRet (mOp opAddS (mOp opAddS (mC (.str "(")) (mMtd "str" fJoin (mC (.str " ")) (mCons (mVar 0) (mNil)))) (mC (.str ")")))
noncomputable def m__form : List D → MH → R D := mFn 1 1 b__form
noncomputable def b__kind_text (self__kind_text : List D → MH → R D) : MSt :=
  mSeq (mAsg (mVar 0) (mgTup 3 (mgCons (mgName 1) (mgCons (mgName 2) (mgCons (mgName 3) (mgNil)))))) (mSeq (mIfS (mB (mOp opEq (mVar 1) (mC (.str "data")))) (mRet (mVar 2)) (mNext)) (mSeq (mIfS (mNot (mTru (mVar 2))) (mRet (mVar 1)) (mNext)) (mRet (mCall m__form (mCons (mOp opAddS (mLst (mCons (mVar 1) (mNil))) (mLc (mSrc (mVar 2)) (mgName 4) (mYes) (mCall self__kind_text (mCons (mVar 4) (mNil))) [4])) (mNil))))))
noncomputable def mm__kind_text : Nat → Nat → List D → MH → R D
  | 0, _ => fun _ _ => .stuck
  | n + 1, 0 => mFn 1 5 (b__kind_text (mm__kind_text n 0))
  | _ + 1, _ => fun _ _ => .stuck
noncomputable abbrev m__kind_text (n : Nat) : List D → MH → R D := mm__kind_text n 0
theorem m__kind_text_succ (n : Nat) : m__kind_text (n + 1) = mFn 1 5 (b__kind_text (m__kind_text n)) := rfl
noncomputable def b__constructor_text : MSt :=
  mSeq (mAsg (mVar 0) (mgTup 2 (mgCons (mgName 1) (mgCons (mgName 2) (mgNil))))) (mRet (mCall m__form (mCons (mOp opAddS (mLst (mCons (mVar 1) (mNil))) (mLc (mSrc (mVar 2)) (mgName 3) (mYes) (mCall (m__kind_text 8) (mCons (mVar 3) (mNil))) [3])) (mNil))))
noncomputable def m__constructor_text : List D → MH → R D := mFn 1 4 b__constructor_text
noncomputable def b_data_text : MSt :=
  mSeq (mAsg (mVar 0) (mgTup 2 (mgCons (mgName 1) (mgCons (mgName 2) (mgNil))))) (mRet (mCall m__form (mCons (mOp opAddS (mLst (mCons (mC (.str "data")) (mCons (mVar 1) (mNil)))) (mLc (mSrc (mVar 2)) (mgName 3) (mYes) (mCall m__constructor_text (mCons (mVar 3) (mNil))) [3])) (mNil))))
noncomputable def m_data_text : List D → MH → R D := mFn 1 4 b_data_text
noncomputable def b_exception_text : MSt :=
  mRet (mCall m__form (mCons (mLst (mCons (mC (.str "exception")) (mCons (mVar 0) (mNil)))) (mNil)))
noncomputable def m_exception_text : List D → MH → R D := mFn 1 1 b_exception_text
noncomputable def b__parameter_text : MSt :=
  mSeq (mAsg (mVar 0) (mgTup 2 (mgCons (mgName 1) (mgCons (mgName 2) (mgNil))))) (mRet (mCall m__form (mCons (mLst (mCons (mVar 1) (mCons (mCall (m__kind_text 8) (mCons (mVar 2) (mNil))) (mNil)))) (mNil))))
noncomputable def m__parameter_text : List D → MH → R D := mFn 1 3 b__parameter_text
noncomputable def b__first_parts : MSt :=
  mSeq (mIfS (mB (mOp opIn (mVar 0) (mTup (mCons (mC (.str "call")) (mCons (mC (.str "make")) (mNil)))))) (mRet (mLstN (mCons (mVar 1) (mNil)))) (mNext)) (mSeq (mIfS (mB (mOp opIn (mVar 0) (mTup (mCons (mC (.str "get")) (mCons (mC (.str "let")) (mNil)))))) (mRet (mLstN (mCons (mVar 0) (mCons (mCall fStr3 (mCons (mVar 1) (mNil))) (mNil))))) (mNext)) (mSeq (mIfS (mB (mOp opEq (mVar 0) (mC (.str "fn")))) (mRet (mLstN (mCons (mVar 0) (mCons (mCall m__parameter_text (mCons (mVar 1) (mNil))) (mNil))))) (mNext)) (mSeq (mIfS (mB (mOp opEq (mVar 0) (mC (.str "raise")))) (mRet (mLstN (mCons (mVar 0) (mCons (mOp opIx (mVar 1) (mC (.int 0))) (mCons (mCall (m__kind_text 8) (mCons (mOp opIx (mVar 1) (mC (.int 1))) (mNil))) (mNil)))))) (mNext)) (mRet (mLstN (mCons (mVar 0) (mNil)))))))
noncomputable def m__first_parts : List D → MH → R D := mFnN 2 2 b__first_parts
noncomputable def b__word_text : MSt :=
  mSeq (mIfS (mB (mOp opEq (mVar 0) (mC (.str "unit")))) (mRet (mC (.str "unit"))) (mNext)) (mSeq (mIfS (mB (mOp opEq (mVar 0) (mC (.str "bool")))) (mRet (mIf (mTru (mVar 1)) (mC (.str "true")) (mC (.str "false")))) (mNext)) (mRet (mCall fStr3 (mCons (mVar 1) (mNil)))))
noncomputable def m__word_text : List D → MH → R D := mFn 2 2 b__word_text
noncomputable def b__expression_text (self__expression_text self__arm_text : List D → MH → R D) : MSt :=
  mSeq (mAsg (mVar 0) (mgTup 5 (mgCons (mgName 1) (mgCons (mgName 2) (mgCons (mgName 3) (mgCons (mgName 4) (mgCons (mgName 5) (mgNil)))))))) (mSeq (mIfS (mB (mOp opIn (mVar 1) (mTup (mCons (mC (.str "int")) (mCons (mC (.str "bool")) (mCons (mC (.str "unit")) (mCons (mC (.str "name")) (mNil)))))))) (mRet (mCall m__word_text (mCons (mVar 1) (mCons (mVar 3) (mNil))))) (mNext)) (mSeq (mSet 6 (mCall m__first_parts (mCons (mVar 1) (mCons (mVar 3) (mNil))))) (mSeq (mDrop (mMtd "list" fExtend (mVar 6) (mCons (mLc (mSrc (mVar 4)) (mgName 7) (mYes) (mCall self__expression_text (mCons (mVar 7) (mNil))) [7]) (mNil)))) (mSeq (mDrop (mMtd "list" fExtend (mVar 6) (mCons (mLc (mSrc (mVar 5)) (mgName 8) (mYes) (mCall self__arm_text (mCons (mVar 1) (mCons (mVar 8) (mNil)))) [8]) (mNil)))) (mRet (mCall m__form (mCons (mVar 6) (mNil))))))))
noncomputable def b__arm_text (self__expression_text self__arm_text : List D → MH → R D) : MSt :=
  mSeq (mAsg (mVar 1) (mgTup 3 (mgCons (mgName 2) (mgCons (mgName 3) (mgCons (mgName 4) (mgNil)))))) (mSeq (mIfS (mB (mOp opEq (mVar 0) (mC (.str "case")))) (mRet (mCall m__form (mCons (mLst (mCons (mCall m__form (mCons (mLst (mCons (mVar 2) (mStar (mVar 3) (mNil)))) (mNil))) (mCons (mCall self__expression_text (mCons (mVar 4) (mNil))) (mNil)))) (mNil)))) (mNext)) (mRet (mCall m__form (mCons (mLst (mCons (mVar 2) (mStar (mVar 3) (mCons (mCall self__expression_text (mCons (mVar 4) (mNil))) (mNil))))) (mNil)))))
noncomputable def mm__expression_text : Nat → Nat → List D → MH → R D
  | 0, _ => fun _ _ => .stuck
  | n + 1, 0 => mFn 1 9 (b__expression_text (mm__expression_text n 0) (mm__expression_text n 1))
  | n + 1, 1 => mFn 2 5 (b__arm_text (mm__expression_text n 0) (mm__expression_text n 1))
  | _ + 1, _ => fun _ _ => .stuck
noncomputable abbrev m__expression_text (n : Nat) : List D → MH → R D := mm__expression_text n 0
noncomputable abbrev m__arm_text (n : Nat) : List D → MH → R D := mm__expression_text n 1
theorem m__expression_text_succ (n : Nat) : m__expression_text (n + 1) = mFn 1 9 (b__expression_text (m__expression_text n) (m__arm_text n)) := rfl
theorem m__arm_text_succ (n : Nat) : m__arm_text (n + 1) = mFn 2 5 (b__arm_text (m__expression_text n) (m__arm_text n)) := rfl
noncomputable def b_function_text : MSt :=
  mSeq (mAsg (mVar 0) (mgTup 5 (mgCons (mgName 1) (mgCons (mgName 2) (mgCons (mgName 3) (mgCons (mgName 4) (mgCons (mgName 5) (mgNil)))))))) (mSeq (mSet 6 (mLc (mSrc (mVar 3)) (mgName 7) (mYes) (mCall m__parameter_text (mCons (mVar 7) (mNil))) [7])) (mRet (mCall m__form (mCons (mLst (mCons (mC (.str "fun")) (mCons (mVar 1) (mCons (mCall m__form (mCons (mVar 6) (mNil))) (mCons (mCall (m__kind_text 8) (mCons (mVar 4) (mNil))) (mCons (mCall (m__expression_text 12) (mCons (mVar 5) (mNil))) (mNil))))))) (mNil)))))
noncomputable def m_function_text : List D → MH → R D := mFn 1 8 b_function_text
noncomputable def b_write_program : MSt :=
  mSeq (mAsg (mVar 0) (mgTup 3 (mgCons (mgName 1) (mgCons (mgName 2) (mgCons (mgName 3) (mgNil)))))) (mSeq (mSet 4 (mLcN (mSrc (mVar 1)) (mgName 5) (mYes) (mCall m_data_text (mCons (mVar 5) (mNil))) [5])) (mSeq (mDrop (mMtd "list" fExtend (mVar 4) (mCons (mLc (mSrc (mSl opSl (mVar 2) (mPart (mCall fLen (mCons (mC c_FIRST_EXCEPTIONS) (mNil)))) (mNoP))) (mgName 6) (mYes) (mCall m_exception_text (mCons (mVar 6) (mNil))) [6]) (mNil)))) (mSeq (mDrop (mMtd "list" fExtend (mVar 4) (mCons (mLc (mSrc (mVar 3)) (mgName 7) (mYes) (mCall m_function_text (mCons (mVar 7) (mNil))) [7]) (mNil)))) (mRet (mMtd "str" fJoin (mC (.str "")) (mCons (mLc (mSrc (mVar 4)) (mgName 8) (mYes) (mOp opAddS (mVar 8) (mC (.str "\n"))) [8]) (mNil)))))))
noncomputable def m_write_program : List D → MH → R D := mFn 1 9 b_write_program
noncomputable def b__law_start_1 : MSt :=
  mSet 1 (mOp opAdd (mOp opMod (mCall fInt (mCons (mOp opAdd (mOp opMul (mVar 1) (mC (.int 48271))) (mVar 2)) (mNil))) (mC (.int 2147483629))) (mC (.int 1)))
noncomputable def b__law_start : MSt :=
  mSeq (mSet 1 (mC (.int 7))) (mSeq (mFor (mSrc (mVar 0)) (mgName 2) (b__law_start_1)) (mRet (mLstN (mCons (mCall fList (mCons (mVar 0) (mNil))) (mCons (mC (.int 0)) (mCons (mC (.int 0)) (mCons (mVar 1) (mNil))))))))
noncomputable def m__law_start : List D → MH → R D := mFnN 1 3 b__law_start
noncomputable def b__law_draw : MSt :=
  mSeq (mIfS (mAnd (mB (mOp opEq (mOp opIx (mVar 0) (mC (.int 1))) (mC (.int 0)))) (mB (mOp opGe (mOp opIx (mVar 0) (mC (.int 2))) (mCall fLen (mCons (mOp opIx (mVar 0) (mC (.int 0))) (mNil)))))) (mSeq (mSetIx (mOp opMod (mCall fInt (mCons (mOp opAdd (mOp opMul (mOp opIx (mVar 0) (mC (.int 3))) (mC (.int 48271))) (mC (.int 69621))) (mNil))) (mC (.int 2147483629))) (mVar 0) (mC (.int 3))) (mRet (mOp opMod (mCall fInt (mCons (mOp opDiv (mOp opIx (mVar 0) (mC (.int 3))) (mC (.int 13))) (mNil))) (mVar 1)))) (mNext)) (mSeq (mIfS (mB (mOp opEq (mOp opIx (mVar 0) (mC (.int 1))) (mC (.int 0)))) (mSeq (mSetIx (mCall fAbs (mCons (mOp opIx (mOp opIx (mVar 0) (mC (.int 0))) (mOp opIx (mVar 0) (mC (.int 2)))) (mNil))) (mVar 0) (mC (.int 1))) (mAugIx opAddI (mVar 0) (mC (.int 2)) (mC (.int 1)))) (mNext)) (mSeq (mSet 2 (mOp opMod (mCall fInt (mCons (mOp opIx (mVar 0) (mC (.int 1))) (mNil))) (mVar 1))) (mSeq (mSetIx (mOp opDiv (mOp opIx (mVar 0) (mC (.int 1))) (mVar 1)) (mVar 0) (mC (.int 1))) (mRet (mVar 2)))))
noncomputable def m__law_draw : List D → MH → R D := mFn 2 3 b__law_draw
noncomputable def b__law_reserved : MSt :=
  mSeq (mSet 0 (mC (.str "data exception fun tuple get let if case fn apply ref deref set array at put len raise handle"))) (mSeq (mSet 0 (mOp opAddS (mVar 0) (mC (.str " print seq add sub mul div rem equal less true false int bool unit")))) (mRet (mMtd "str" fSplit (mVar 0) (mCons (mC (.str " ")) (mNil)))))
noncomputable def m__law_reserved : List D → MH → R D := mFn 0 1 b__law_reserved
noncomputable def b__law_name : MSt :=
  mSeq (mSet 2 (mC (.str "abcdefghijklmnopqrstuvwxyz"))) (mSeq (mSet 3 (mOp opAddS (mVar 2) (mC (.str "0123456789_")))) (mSeq (mSet 4 (mOp opIx (mVar 2) (mCall m__law_draw (mCons (mVar 0) (mCons (mC (.int 26)) (mNil)))))) (mSeq (mSet 5 (mCall m__law_draw (mCons (mVar 0) (mCons (mC (.int 4)) (mNil))))) (mSeq (mIfS (mB (mOp opEq (mCall m__law_draw (mCons (mVar 0) (mCons (mC (.int 8)) (mNil)))) (mC (.int 7)))) (mSet 5 (mCall m__law_draw (mCons (mVar 0) (mCons (mC (.int 12)) (mNil))))) (mNext)) (mSeq (mIfS (mTru (mVar 1)) (mSeq (mSet 3 (mOp opAddS (mVar 3) (mMtd "str" fUpper (mVar 2) mNil))) (mSet 4 (mMtd "str" fUpper (mVar 4) mNil))) (mNext)) (mSeq (mSet 6 (mOp opAddS (mVar 4) (mMtd "str" fJoin (mC (.str "")) (mCons (mLc (mCallI fRange1 (mCons (mVar 5) (mNil))) (mgName 7) (mYes) (mOp opIx (mVar 3) (mCall m__law_draw (mCons (mVar 0) (mCons (mCall fLen (mCons (mVar 3) (mNil))) (mNil))))) [7]) (mNil))))) (mSeq (mIfS (mB (mOp opIn (mVar 6) (mCall m__law_reserved mNil))) (mRet (mOp opAddS (mVar 6) (mC (.str "_")))) (mNext)) (mRet (mVar 6)))))))))
noncomputable def m__law_name : List D → MH → R D := mFn 2 8 b__law_name
noncomputable def b__law_fresh_1 : MSt :=
  mIfS (mB (mOp opIn (mVar 3) (mVar 2))) (mSet 3 (mOp opAddS (mSl opSl (mVar 3) (mNoP) (mPart (mC (.int 9)))) (mCall fStr3 (mCons (mVar 4) (mNil))))) (mNext)
noncomputable def b__law_fresh : MSt :=
  mSeq (mSet 3 (mCall m__law_name (mCons (mVar 0) (mCons (mVar 1) (mNil))))) (mSeq (mFor (mCallI fRange1 (mCons (mC (.int 60)) (mNil))) (mgName 4) (b__law_fresh_1)) (mSeq (mDrop (mMtd "list" fAppend (mVar 2) (mCons (mVar 3) (mNil)))) (mRet (mVar 3))))
noncomputable def m__law_fresh : List D → MH → R D := mFn 3 5 b__law_fresh
noncomputable def b__law_kind (self__law_kind : List D → MH → R D) : MSt :=
  mSeq (mSet 2 (mCall m__law_draw (mCons (mVar 0) (mCons (mC (.int 8)) (mNil))))) (mSeq (mIfS (mOr (mB (mOp opLt (mVar 1) (mC (.int 1)))) (mB (mOp opLt (mVar 2) (mC (.int 3))))) (mRet (mTup (mCons (mOp opIx (mLst (mCons (mC (.str "int")) (mCons (mC (.str "bool")) (mCons (mC (.str "unit")) (mNil))))) (mOp opMod (mVar 2) (mC (.int 3)))) (mCons (mTup (mNil)) (mCons (mC (.int 0)) (mNil)))))) (mNext)) (mSeq (mIfS (mB (mOp opEq (mVar 2) (mC (.int 3)))) (mRet (mTup (mCons (mC (.str "data")) (mCons (mCall m__law_name (mCons (mVar 0) (mCons (mC (.bl false)) (mNil)))) (mCons (mC (.int 0)) (mNil)))))) (mNext)) (mSeq (mIfS (mB (mOp opEq (mVar 2) (mC (.int 4)))) (mRet (mTup (mCons (mC (.str "tuple")) (mCons (mCall fTuple (mCons (mLc (mCallI fRange1 (mCons (mOp opAddS (mC (.int 2)) (mCall m__law_draw (mCons (mVar 0) (mCons (mC (.int 5)) (mNil))))) (mNil))) (mgName 3) (mYes) (mCall self__law_kind (mCons (mVar 0) (mCons (mOp opSub (mVar 1) (mC (.int 1))) (mNil)))) [3]) (mNil))) (mCons (mC (.int 0)) (mNil)))))) (mNext)) (mSeq (mIfS (mB (mOp opEq (mVar 2) (mC (.int 5)))) (mRet (mTup (mCons (mC (.str "fn")) (mCons (mTup (mCons (mCall self__law_kind (mCons (mVar 0) (mCons (mOp opSub (mVar 1) (mC (.int 1))) (mNil)))) (mCons (mCall self__law_kind (mCons (mVar 0) (mCons (mOp opSub (mVar 1) (mC (.int 1))) (mNil)))) (mNil)))) (mCons (mC (.int 0)) (mNil)))))) (mNext)) (mRet (mTup (mCons (mOp opIx (mLst (mCons (mC (.str "ref")) (mCons (mC (.str "array")) (mNil)))) (mOp opMod (mVar 2) (mC (.int 2)))) (mCons (mTup (mCons (mCall self__law_kind (mCons (mVar 0) (mCons (mOp opSub (mVar 1) (mC (.int 1))) (mNil)))) (mNil))) (mCons (mC (.int 0)) (mNil))))))))))
noncomputable def mm__law_kind : Nat → Nat → List D → MH → R D
  | 0, _ => fun _ _ => .stuck
  | n + 1, 0 => mFn 2 4 (b__law_kind (mm__law_kind n 0))
  | _ + 1, _ => fun _ _ => .stuck
noncomputable abbrev m__law_kind (n : Nat) : List D → MH → R D := mm__law_kind n 0
theorem m__law_kind_succ (n : Nat) : m__law_kind (n + 1) = mFn 2 4 (b__law_kind (m__law_kind n)) := rfl
noncomputable def b__law_exception : MSt :=
  mSeq (mSet 1 (mCall m__law_draw (mCons (mVar 0) (mCons (mC (.int 6)) (mNil))))) (mSeq (mIfS (mB (mOp opLt (mVar 1) (mC (.int 3)))) (mRet (mOp opIx (mLst (mCons (mC (.str "Div")) (mCons (mC (.str "Index")) (mCons (mC (.str "Size")) (mNil))))) (mVar 1))) (mNext)) (mRet (mCall m__law_name (mCons (mVar 0) (mCons (mC (.bl false)) (mNil))))))
noncomputable def m__law_exception : List D → MH → R D := mFn 1 2 b__law_exception
noncomputable def b__law_leaf : MSt :=
  mSeq (mSet 1 (mCall m__law_draw (mCons (mVar 0) (mCons (mC (.int 8)) (mNil))))) (mSeq (mIfS (mB (mOp opLt (mVar 1) (mC (.int 3)))) (mRet (mTup (mCons (mC (.str "int")) (mCons (mC (.int 0)) (mCons (mOp opIx (mLst (mCons (mC (.int 0)) (mCons (mC (.int 1)) (mCons (mUn opNeg (mC (.int 1))) (mCons (mC (.int 2147483647)) (mCons (mUn opNeg (mC (.int 2147483648))) (mCons (mC (.int 10)) (mCons (mC (.int 6)) (mNil))))))))) (mCall m__law_draw (mCons (mVar 0) (mCons (mC (.int 7)) (mNil))))) (mCons (mTup (mNil)) (mCons (mTup (mNil)) (mNil)))))))) (mNext)) (mSeq (mIfS (mB (mOp opEq (mVar 1) (mC (.int 3)))) (mRet (mTup (mCons (mC (.str "int")) (mCons (mC (.int 0)) (mCons (mOp opSub (mCall m__law_draw (mCons (mVar 0) (mCons (mC (.int 4294967296)) (mNil)))) (mC (.int 2147483648))) (mCons (mTup (mNil)) (mCons (mTup (mNil)) (mNil)))))))) (mNext)) (mSeq (mIfS (mB (mOp opEq (mVar 1) (mC (.int 4)))) (mRet (mTup (mCons (mC (.str "bool")) (mCons (mC (.int 0)) (mCons (mOp opEq (mCall m__law_draw (mCons (mVar 0) (mCons (mC (.int 2)) (mNil)))) (mC (.int 1))) (mCons (mTup (mNil)) (mCons (mTup (mNil)) (mNil)))))))) (mNext)) (mSeq (mIfS (mB (mOp opEq (mVar 1) (mC (.int 5)))) (mRet (mTup (mCons (mC (.str "unit")) (mCons (mC (.int 0)) (mCons (mC .non) (mCons (mTup (mNil)) (mCons (mTup (mNil)) (mNil)))))))) (mNext)) (mRet (mTup (mCons (mC (.str "name")) (mCons (mC (.int 0)) (mCons (mCall m__law_name (mCons (mVar 0) (mCons (mC (.bl false)) (mNil)))) (mCons (mTup (mNil)) (mCons (mTup (mNil)) (mNil))))))))))))
noncomputable def m__law_leaf : List D → MH → R D := mFn 1 2 b__law_leaf
noncomputable def b__law_counts : MSt :=
  mRet (mC (.rdc ([("tuple", 2), ("get", 1), ("let", 2), ("if", 3), ("fn", 1), ("apply", 2), ("raise", 1), ("ref", 1), ("deref", 1), ("len", 1), ("print", 1), ("set", 2), ("array", 2), ("at", 2), ("seq", 2), ("put", 3), ("add", 2), ("sub", 2), ("mul", 2), ("div", 2), ("rem", 2), ("equal", 2), ("less", 2), ("call", 0), ("make", 0), ("case", 1), ("handle", 1)].map fun p => Sum.inr p.1) ([("tuple", 2), ("get", 1), ("let", 2), ("if", 3), ("fn", 1), ("apply", 2), ("raise", 1), ("ref", 1), ("deref", 1), ("len", 1), ("print", 1), ("set", 2), ("array", 2), ("at", 2), ("seq", 2), ("put", 3), ("add", 2), ("sub", 2), ("mul", 2), ("div", 2), ("rem", 2), ("equal", 2), ("less", 2), ("call", 0), ("make", 0), ("case", 1), ("handle", 1)].map fun p => D.int p.2)))
noncomputable def m__law_counts : List D → MH → R D := mFn 0 0 b__law_counts
noncomputable def b__law_arms_1 (self__law_arms self__law_expr : List D → MH → R D) : MSt :=
  mSeq (mSet 6 (mLstN (mNil))) (mSeq (mSet 7 (mCall fTuple (mCons (mLc (mCallI fRange1 (mCons (mCall m__law_draw (mCons (mVar 0) (mCons (mC (.int 4)) (mNil)))) (mNil))) (mgName 8) (mYes) (mCall m__law_fresh (mCons (mVar 0) (mCons (mC (.bl false)) (mCons (mVar 6) (mNil))))) [8]) (mNil)))) (mDrop (mMtd "list" fAppend (mVar 4) (mCons (mTup (mCons (mCall m__law_name (mCons (mVar 0) (mCons (mC (.bl true)) (mNil)))) (mCons (mVar 7) (mCons (mCall self__law_expr (mCons (mVar 0) (mCons (mOp opSub (mVar 2) (mC (.int 1))) (mCons (mVar 3) (mNil))))) (mNil))))) (mNil)))))
noncomputable def b__law_arms_2 (self__law_arms self__law_expr : List D → MH → R D) : MSt :=
  mDrop (mMtd "list" fAppend (mVar 4) (mCons (mTup (mCons (mCall m__law_exception (mCons (mVar 0) (mNil))) (mCons (mTup (mCons (mCall m__law_name (mCons (mVar 0) (mCons (mC (.bl false)) (mNil)))) (mNil))) (mCons (mCall self__law_expr (mCons (mVar 0) (mCons (mOp opSub (mVar 2) (mC (.int 1))) (mCons (mVar 3) (mNil))))) (mNil))))) (mNil)))
noncomputable def b__law_arms (self__law_arms self__law_expr : List D → MH → R D) : MSt :=
  mSeq (mSet 4 (mLstN (mNil))) (mSeq (mIfS (mB (mOp opEq (mVar 1) (mC (.str "case")))) (mFor (mCallI fRange1 (mCons (mOp opAddS (mC (.int 1)) (mCall m__law_draw (mCons (mVar 0) (mCons (mIf (mB (mOp opEq (mCall m__law_draw (mCons (mVar 0) (mCons (mC (.int 8)) (mNil)))) (mC (.int 7)))) (mC (.int 8)) (mC (.int 3))) (mNil))))) (mNil))) (mgName 5) (b__law_arms_1 self__law_arms self__law_expr)) (mNext)) (mSeq (mIfS (mB (mOp opEq (mVar 1) (mC (.str "handle")))) (mFor (mCallI fRange1 (mCons (mCall m__law_draw (mCons (mVar 0) (mCons (mIf (mB (mOp opEq (mCall m__law_draw (mCons (mVar 0) (mCons (mC (.int 8)) (mNil)))) (mC (.int 7)))) (mC (.int 7)) (mC (.int 3))) (mNil)))) (mNil))) (mgName 5) (b__law_arms_2 self__law_arms self__law_expr)) (mNext)) (mRet (mCall fTuple (mCons (mVar 4) (mNil))))))
noncomputable def b__law_expr (self__law_arms self__law_expr : List D → MH → R D) : MSt :=
  mSeq (mAugIx opSub (mVar 2) (mC (.int 0)) (mC (.int 1))) (mSeq (mSet 3 (mCall m__law_counts mNil)) (mSeq (mSet 4 (mCall fSorted (mCons (mVar 3) (mNil)))) (mSeq (mSet 5 (mCall m__law_draw (mCons (mVar 0) (mCons (mC (.int 36)) (mNil))))) (mSeq (mIfS (mOr (mB (mOp opLt (mVar 1) (mC (.int 1)))) (mOr (mB (mOp opLt (mOp opIx (mVar 2) (mC (.int 0))) (mC (.int 1)))) (mB (mOp opGe (mVar 5) (mCall fLen (mCons (mVar 4) (mNil))))))) (mRet (mCall m__law_leaf (mCons (mVar 0) (mNil)))) (mNext)) (mSeq (mSet 6 (mOp opIx (mVar 4) (mVar 5))) (mSeq (mSet 7 (mOp opIx (mVar 3) (mVar 6))) (mSeq (mIfS (mB (mOp opIn (mVar 6) (mTup (mCons (mC (.str "call")) (mCons (mC (.str "make")) (mCons (mC (.str "tuple")) (mNil))))))) (mAug 7 opAddI (mCall m__law_draw (mCons (mVar 0) (mCons (mIf (mB (mOp opEq (mCall m__law_draw (mCons (mVar 0) (mCons (mC (.int 8)) (mNil)))) (mC (.int 7)))) (mOp opSub (mC (.int 7)) (mVar 7)) (mC (.int 3))) (mNil))))) (mNext)) (mSeq (mSet 8 (mC .non)) (mSeq (mIfS (mOr (mB (mOp opEq (mVar 6) (mC (.str "call")))) (mB (mOp opEq (mVar 6) (mC (.str "let"))))) (mSet 8 (mCall m__law_name (mCons (mVar 0) (mCons (mC (.bl false)) (mNil))))) (mNext)) (mSeq (mIfS (mB (mOp opEq (mVar 6) (mC (.str "make")))) (mSet 8 (mCall m__law_name (mCons (mVar 0) (mCons (mC (.bl true)) (mNil))))) (mNext)) (mSeq (mIfS (mB (mOp opEq (mVar 6) (mC (.str "get")))) (mSet 8 (mCall m__law_draw (mCons (mVar 0) (mCons (mC (.int 6)) (mNil))))) (mNext)) (mSeq (mIfS (mB (mOp opEq (mVar 6) (mC (.str "fn")))) (mSet 8 (mTup (mCons (mCall m__law_name (mCons (mVar 0) (mCons (mC (.bl false)) (mNil)))) (mCons (mCall (m__law_kind 8) (mCons (mVar 0) (mCons (mC (.int 2)) (mNil)))) (mNil))))) (mNext)) (mSeq (mIfS (mB (mOp opEq (mVar 6) (mC (.str "raise")))) (mSet 8 (mTup (mCons (mCall m__law_exception (mCons (mVar 0) (mNil))) (mCons (mCall (m__law_kind 8) (mCons (mVar 0) (mCons (mC (.int 2)) (mNil)))) (mNil))))) (mNext)) (mSeq (mSet 9 (mCall fTuple (mCons (mLc (mCallI fRange1 (mCons (mVar 7) (mNil))) (mgName 10) (mYes) (mCall self__law_expr (mCons (mVar 0) (mCons (mOp opSub (mVar 1) (mC (.int 1))) (mCons (mVar 2) (mNil))))) [10]) (mNil)))) (mRet (mTup (mCons (mVar 6) (mCons (mC (.int 0)) (mCons (mVar 8) (mCons (mVar 9) (mCons (mCall self__law_arms (mCons (mVar 0) (mCons (mVar 6) (mCons (mVar 1) (mCons (mVar 2) (mNil)))))) (mNil))))))))))))))))))))))
noncomputable def mm__law_arms : Nat → Nat → List D → MH → R D
  | 0, _ => fun _ _ => .stuck
  | n + 1, 0 => mFn 4 9 (b__law_arms (mm__law_arms n 0) (mm__law_arms n 1))
  | n + 1, 1 => mFn 3 11 (b__law_expr (mm__law_arms n 0) (mm__law_arms n 1))
  | _ + 1, _ => fun _ _ => .stuck
noncomputable abbrev m__law_arms (n : Nat) : List D → MH → R D := mm__law_arms n 0
noncomputable abbrev m__law_expr (n : Nat) : List D → MH → R D := mm__law_arms n 1
theorem m__law_arms_succ (n : Nat) : m__law_arms (n + 1) = mFn 4 9 (b__law_arms (m__law_arms n) (m__law_expr n)) := rfl
theorem m__law_expr_succ (n : Nat) : m__law_expr (n + 1) = mFn 3 11 (b__law_expr (m__law_arms n) (m__law_expr n)) := rfl
noncomputable def b__law_tree_1 : MSt :=
  mSeq (mSet 9 (mCall fTuple (mCons (mLc (mCallI fRange1 (mCons (mCall m__law_draw (mCons (mVar 0) (mCons (mIf (mB (mOp opEq (mCall m__law_draw (mCons (mVar 0) (mCons (mC (.int 8)) (mNil)))) (mC (.int 7)))) (mC (.int 7)) (mC (.int 3))) (mNil)))) (mNil))) (mgName 17) (mYes) (mCall (m__law_kind 8) (mCons (mVar 0) (mCons (mC (.int 2)) (mNil)))) [17]) (mNil)))) (mDrop (mMtd "list" fAppend (mVar 7) (mCons (mTup (mCons (mCall m__law_fresh (mCons (mVar 0) (mCons (mC (.bl true)) (mCons (mVar 2) (mNil))))) (mCons (mVar 9) (mNil)))) (mNil))))
noncomputable def b__law_tree_2 : MSt :=
  mSeq (mSet 6 (mCall m__law_fresh (mCons (mVar 0) (mCons (mC (.bl false)) (mCons (mVar 1) (mNil)))))) (mSeq (mSet 7 (mLstN (mNil))) (mSeq (mFor (mCallI fRange1 (mCons (mOp opAddS (mC (.int 1)) (mCall m__law_draw (mCons (mVar 0) (mCons (mIf (mB (mOp opEq (mCall m__law_draw (mCons (mVar 0) (mCons (mC (.int 8)) (mNil)))) (mC (.int 7)))) (mC (.int 8)) (mC (.int 3))) (mNil))))) (mNil))) (mgName 8) (b__law_tree_1)) (mDrop (mMtd "list" fAppend (mVar 4) (mCons (mTup (mCons (mVar 6) (mCons (mCall fTuple (mCons (mVar 7) (mNil))) (mNil)))) (mNil))))))
noncomputable def b__law_tree_3 : MSt :=
  mDrop (mCall m__law_fresh (mCons (mVar 0) (mCons (mC (.bl false)) (mCons (mVar 10) (mNil)))))
noncomputable def b__law_tree_4 : MSt :=
  mSeq (mSet 13 (mLstN (mNil))) (mSeq (mSet 6 (mC (.str "main"))) (mSeq (mIfS (mB (mOp opLt (mVar 5) (mVar 12))) (mSet 6 (mCall m__law_fresh (mCons (mVar 0) (mCons (mC (.bl false)) (mCons (mVar 3) (mNil)))))) (mNext)) (mSeq (mSet 14 (mLc (mCallI fRange1 (mCons (mCall m__law_draw (mCons (mVar 0) (mCons (mC (.int 4)) (mNil)))) (mNil))) (mgName 8) (mYes) (mIf (mB (mOp opEq (mVar 5) (mVar 12))) (mTup (mCons (mC (.str "int")) (mCons (mTup (mNil)) (mCons (mC (.int 0)) (mNil))))) (mCall (m__law_kind 8) (mCons (mVar 0) (mCons (mC (.int 2)) (mNil))))) [8])) (mSeq (mSet 15 (mCall fTuple (mCons (mLc (mSrc (mVar 14)) (mgName 18) (mYes) (mTup (mCons (mCall m__law_fresh (mCons (mVar 0) (mCons (mC (.bl false)) (mCons (mVar 13) (mNil))))) (mCons (mVar 18) (mNil)))) [18]) (mNil)))) (mSeq (mSet 16 (mIf (mB (mOp opEq (mVar 5) (mVar 12))) (mTup (mCons (mC (.str "int")) (mCons (mTup (mNil)) (mCons (mC (.int 0)) (mNil))))) (mCall (m__law_kind 8) (mCons (mVar 0) (mCons (mC (.int 2)) (mNil)))))) (mDrop (mMtd "list" fAppend (mVar 11) (mCons (mTup (mCons (mVar 6) (mCons (mC (.int 0)) (mCons (mVar 15) (mCons (mVar 16) (mCons (mCall (m__law_expr 12) (mCons (mVar 0) (mCons (mOp opAddS (mC (.int 1)) (mCall m__law_draw (mCons (mVar 0) (mCons (mC (.int 4)) (mNil))))) (mCons (mLstN (mCons (mC (.int 40)) (mNil))) (mNil))))) (mNil))))))) (mNil)))))))))
noncomputable def b__law_tree : MSt :=
  mSeq (mSet 1 (mLstN (mNil))) (mSeq (mSet 2 (mLstN (mNil))) (mSeq (mSet 3 (mLstN (mCons (mC (.str "main")) (mNil)))) (mSeq (mSet 4 (mLstN (mNil))) (mSeq (mFor (mCallI fRange1 (mCons (mCall m__law_draw (mCons (mVar 0) (mCons (mC (.int 3)) (mNil)))) (mNil))) (mgName 5) (b__law_tree_2)) (mSeq (mSet 10 (mLstN (mNil))) (mSeq (mFor (mCallI fRange1 (mCons (mCall m__law_draw (mCons (mVar 0) (mCons (mC (.int 3)) (mNil)))) (mNil))) (mgName 5) (b__law_tree_3)) (mSeq (mSet 11 (mLstN (mNil))) (mSeq (mSet 12 (mCall m__law_draw (mCons (mVar 0) (mCons (mC (.int 3)) (mNil))))) (mSeq (mFor (mCallI fRange1 (mCons (mOp opAddS (mVar 12) (mC (.int 1))) (mNil))) (mgName 5) (b__law_tree_4)) (mRet (mTup (mCons (mCall fTuple (mCons (mVar 4) (mNil))) (mCons (mOp opAddS (mTup (mCons (mC (.str "Div")) (mCons (mC (.str "Index")) (mCons (mC (.str "Size")) (mNil))))) (mCall fTuple (mCons (mVar 10) (mNil)))) (mCons (mCall fTuple (mCons (mVar 11) (mNil))) (mNil)))))))))))))))
noncomputable def m__law_tree : List D → MH → R D := mFn 1 19 b__law_tree
noncomputable def b__law_kind_words_1 (self__law_kind_words : List D → MH → R D) : MSt :=
  mDrop (mCall self__law_kind_words (mCons (mVar 2) (mCons (mVar 1) (mNil))))
noncomputable def b__law_kind_words (self__law_kind_words : List D → MH → R D) : MSt :=
  mIfS (mB (mOp opIn (mOp opIx (mVar 0) (mC (.int 0))) (mTup (mCons (mC (.str "int")) (mCons (mC (.str "bool")) (mCons (mC (.str "unit")) (mNil))))))) (mDrop (mMtd "list" fAppend (mVar 1) (mCons (mOp opIx (mVar 0) (mC (.int 0))) (mNil)))) (mIfS (mB (mOp opEq (mOp opIx (mVar 0) (mC (.int 0))) (mC (.str "data")))) (mDrop (mMtd "list" fAppend (mVar 1) (mCons (mOp opIx (mVar 0) (mC (.int 1))) (mNil)))) (mSeq (mDrop (mMtd "list" fAppend (mVar 1) (mCons (mC (.str "(")) (mNil)))) (mSeq (mDrop (mMtd "list" fAppend (mVar 1) (mCons (mOp opIx (mVar 0) (mC (.int 0))) (mNil)))) (mSeq (mFor (mSrc (mOp opIx (mVar 0) (mC (.int 1)))) (mgName 2) (b__law_kind_words_1 self__law_kind_words)) (mDrop (mMtd "list" fAppend (mVar 1) (mCons (mC (.str ")")) (mNil))))))))
noncomputable def mm__law_kind_words : Nat → Nat → List D → MH → R D
  | 0, _ => fun _ _ => .stuck
  | n + 1, 0 => mFn 2 3 (b__law_kind_words (mm__law_kind_words n 0))
  | _ + 1, _ => fun _ _ => .stuck
noncomputable abbrev m__law_kind_words (n : Nat) : List D → MH → R D := mm__law_kind_words n 0
theorem m__law_kind_words_succ (n : Nat) : m__law_kind_words (n + 1) = mFn 2 3 (b__law_kind_words (m__law_kind_words n)) := rfl
noncomputable def b__law_head : MSt :=
  mSeq (mAsg (mVar 0) (mgTup 5 (mgCons (mgName 2) (mgCons (mgName 3) (mgCons (mgName 4) (mgCons (mgName 5) (mgCons (mgName 6) (mgNil)))))))) (mSeq (mDrop (mMtd "list" fAppend (mVar 1) (mCons (mC (.str "(")) (mNil)))) (mSeq (mDrop (mMtd "list" fAppend (mVar 1) (mCons (mIf (mB (mOp opIn (mVar 2) (mTup (mCons (mC (.str "call")) (mCons (mC (.str "make")) (mNil)))))) (mVar 4) (mVar 2)) (mNil)))) (mSeq (mIfS (mB (mOp opEq (mVar 2) (mC (.str "get")))) (mDrop (mMtd "list" fAppend (mVar 1) (mCons (mCall fStr3 (mCons (mVar 4) (mNil))) (mNil)))) (mNext)) (mSeq (mIfS (mB (mOp opEq (mVar 2) (mC (.str "let")))) (mDrop (mMtd "list" fAppend (mVar 1) (mCons (mVar 4) (mNil)))) (mNext)) (mSeq (mIfS (mB (mOp opEq (mVar 2) (mC (.str "fn")))) (mSeq (mDrop (mMtd "list" fAppend (mVar 1) (mCons (mC (.str "(")) (mNil)))) (mSeq (mDrop (mMtd "list" fAppend (mVar 1) (mCons (mOp opIx (mVar 4) (mC (.int 0))) (mNil)))) (mSeq (mDrop (mCall (m__law_kind_words 8) (mCons (mOp opIx (mVar 4) (mC (.int 1))) (mCons (mVar 1) (mNil))))) (mDrop (mMtd "list" fAppend (mVar 1) (mCons (mC (.str ")")) (mNil))))))) (mNext)) (mIfS (mB (mOp opEq (mVar 2) (mC (.str "raise")))) (mSeq (mDrop (mMtd "list" fAppend (mVar 1) (mCons (mOp opIx (mVar 4) (mC (.int 0))) (mNil)))) (mDrop (mCall (m__law_kind_words 8) (mCons (mOp opIx (mVar 4) (mC (.int 1))) (mCons (mVar 1) (mNil)))))) (mNext)))))))
noncomputable def m__law_head : List D → MH → R D := mFn 2 7 b__law_head
noncomputable def b__law_expr_words_1 (self__law_expr_words : List D → MH → R D) : MSt :=
  mDrop (mMtd "list" fAppend (mVar 1) (mCons (mVar 9) (mNil)))
noncomputable def b__law_expr_words_2 (self__law_expr_words : List D → MH → R D) : MSt :=
  mSeq (mDrop (mMtd "list" fAppend (mVar 1) (mCons (mC (.str "(")) (mNil)))) (mSeq (mIfS (mB (mOp opEq (mVar 2) (mC (.str "case")))) (mDrop (mMtd "list" fAppend (mVar 1) (mCons (mC (.str "(")) (mNil)))) (mNext)) (mSeq (mDrop (mMtd "list" fAppend (mVar 1) (mCons (mOp opIx (mVar 8) (mC (.int 0))) (mNil)))) (mSeq (mFor (mSrc (mOp opIx (mVar 8) (mC (.int 1)))) (mgName 9) (b__law_expr_words_1 self__law_expr_words)) (mSeq (mIfS (mB (mOp opEq (mVar 2) (mC (.str "case")))) (mDrop (mMtd "list" fAppend (mVar 1) (mCons (mC (.str ")")) (mNil)))) (mNext)) (mSeq (mDrop (mMtd "list" fAppend (mVar 7) (mCons (mTup (mCons (mOp opIx (mVar 8) (mC (.int 0))) (mCons (mOp opIx (mVar 8) (mC (.int 1))) (mCons (mCall self__law_expr_words (mCons (mOp opIx (mVar 8) (mC (.int 2))) (mCons (mVar 1) (mNil)))) (mNil))))) (mNil)))) (mDrop (mMtd "list" fAppend (mVar 1) (mCons (mC (.str ")")) (mNil)))))))))
noncomputable def b__law_expr_words (self__law_expr_words : List D → MH → R D) : MSt :=
  mSeq (mAsg (mVar 0) (mgTup 5 (mgCons (mgName 2) (mgCons (mgName 3) (mgCons (mgName 4) (mgCons (mgName 5) (mgCons (mgName 6) (mgNil)))))))) (mSeq (mSet 3 (mCall fLen (mCons (mVar 1) (mNil)))) (mSeq (mIfS (mB (mOp opEq (mVar 2) (mC (.str "int")))) (mDrop (mMtd "list" fAppend (mVar 1) (mCons (mCall fStr3 (mCons (mVar 4) (mNil))) (mNil)))) (mIfS (mB (mOp opEq (mVar 2) (mC (.str "bool")))) (mDrop (mMtd "list" fAppend (mVar 1) (mCons (mIf (mTru (mVar 4)) (mC (.str "true")) (mC (.str "false"))) (mNil)))) (mIfS (mB (mOp opEq (mVar 2) (mC (.str "unit")))) (mDrop (mMtd "list" fAppend (mVar 1) (mCons (mC (.str "unit")) (mNil)))) (mIfS (mB (mOp opEq (mVar 2) (mC (.str "name")))) (mDrop (mMtd "list" fAppend (mVar 1) (mCons (mVar 4) (mNil)))) (mNext))))) (mSeq (mIfS (mB (mOp opIn (mVar 2) (mTup (mCons (mC (.str "int")) (mCons (mC (.str "bool")) (mCons (mC (.str "unit")) (mCons (mC (.str "name")) (mNil)))))))) (mRet (mTup (mCons (mVar 2) (mCons (mVar 3) (mCons (mVar 4) (mCons (mTup (mNil)) (mCons (mTup (mNil)) (mNil)))))))) (mNext)) (mSeq (mDrop (mCall m__law_head (mCons (mVar 0) (mCons (mVar 1) (mNil))))) (mSeq (mSet 5 (mCall fTuple (mCons (mLc (mSrc (mVar 5)) (mgName 10) (mYes) (mCall self__law_expr_words (mCons (mVar 10) (mCons (mVar 1) (mNil)))) [10]) (mNil)))) (mSeq (mSet 7 (mLstN (mNil))) (mSeq (mFor (mSrc (mVar 6)) (mgName 8) (b__law_expr_words_2 self__law_expr_words)) (mSeq (mDrop (mMtd "list" fAppend (mVar 1) (mCons (mC (.str ")")) (mNil)))) (mRet (mTup (mCons (mVar 2) (mCons (mVar 3) (mCons (mVar 4) (mCons (mVar 5) (mCons (mCall fTuple (mCons (mVar 7) (mNil))) (mNil))))))))))))))))
noncomputable def mm__law_expr_words : Nat → Nat → List D → MH → R D
  | 0, _ => fun _ _ => .stuck
  | n + 1, 0 => mFn 2 11 (b__law_expr_words (mm__law_expr_words n 0))
  | _ + 1, _ => fun _ _ => .stuck
noncomputable abbrev m__law_expr_words (n : Nat) : List D → MH → R D := mm__law_expr_words n 0
theorem m__law_expr_words_succ (n : Nat) : m__law_expr_words (n + 1) = mFn 2 11 (b__law_expr_words (m__law_expr_words n)) := rfl
noncomputable def b__law_data_words_1 : MSt :=
  mDrop (mCall (m__law_kind_words 8) (mCons (mVar 4) (mCons (mVar 1) (mNil))))
noncomputable def b__law_data_words_2 : MSt :=
  mSeq (mDrop (mMtd "list" fAppend (mVar 1) (mCons (mC (.str "(")) (mNil)))) (mSeq (mDrop (mMtd "list" fAppend (mVar 1) (mCons (mVar 2) (mNil)))) (mSeq (mFor (mSrc (mVar 3)) (mgName 4) (b__law_data_words_1)) (mDrop (mMtd "list" fAppend (mVar 1) (mCons (mC (.str ")")) (mNil))))))
noncomputable def b__law_data_words : MSt :=
  mSeq (mDrop (mMtd "list" fAppend (mVar 1) (mCons (mC (.str "(")) (mNil)))) (mSeq (mDrop (mMtd "list" fAppend (mVar 1) (mCons (mC (.str "data")) (mNil)))) (mSeq (mDrop (mMtd "list" fAppend (mVar 1) (mCons (mOp opIx (mVar 0) (mC (.int 0))) (mNil)))) (mSeq (mFor (mSrc (mOp opIx (mVar 0) (mC (.int 1)))) (mgTup 2 (mgCons (mgName 2) (mgCons (mgName 3) (mgNil)))) (b__law_data_words_2)) (mDrop (mMtd "list" fAppend (mVar 1) (mCons (mC (.str ")")) (mNil)))))))
noncomputable def m__law_data_words : List D → MH → R D := mFn 2 5 b__law_data_words
noncomputable def b__law_function_words_1 : MSt :=
  mSeq (mDrop (mMtd "list" fAppend (mVar 1) (mCons (mC (.str "(")) (mNil)))) (mSeq (mDrop (mMtd "list" fAppend (mVar 1) (mCons (mOp opIx (mVar 7) (mC (.int 0))) (mNil)))) (mSeq (mDrop (mCall (m__law_kind_words 8) (mCons (mOp opIx (mVar 7) (mC (.int 1))) (mCons (mVar 1) (mNil))))) (mDrop (mMtd "list" fAppend (mVar 1) (mCons (mC (.str ")")) (mNil))))))
noncomputable def b__law_function_words : MSt :=
  mSeq (mAsg (mVar 0) (mgTup 5 (mgCons (mgName 2) (mgCons (mgName 3) (mgCons (mgName 4) (mgCons (mgName 5) (mgCons (mgName 6) (mgNil)))))))) (mSeq (mDrop (mMtd "list" fAppend (mVar 1) (mCons (mC (.str "(")) (mNil)))) (mSeq (mDrop (mMtd "list" fAppend (mVar 1) (mCons (mC (.str "fun")) (mNil)))) (mSeq (mSet 3 (mCall fLen (mCons (mVar 1) (mNil)))) (mSeq (mDrop (mMtd "list" fAppend (mVar 1) (mCons (mVar 2) (mNil)))) (mSeq (mDrop (mMtd "list" fAppend (mVar 1) (mCons (mC (.str "(")) (mNil)))) (mSeq (mFor (mSrc (mVar 4)) (mgName 7) (b__law_function_words_1)) (mSeq (mDrop (mMtd "list" fAppend (mVar 1) (mCons (mC (.str ")")) (mNil)))) (mSeq (mDrop (mCall (m__law_kind_words 8) (mCons (mVar 5) (mCons (mVar 1) (mNil))))) (mSeq (mSet 6 (mCall (m__law_expr_words 8) (mCons (mVar 6) (mCons (mVar 1) (mNil))))) (mSeq (mDrop (mMtd "list" fAppend (mVar 1) (mCons (mC (.str ")")) (mNil)))) (mRet (mTup (mCons (mVar 2) (mCons (mVar 3) (mCons (mVar 4) (mCons (mVar 5) (mCons (mVar 6) (mNil))))))))))))))))))
noncomputable def m__law_function_words : List D → MH → R D := mFn 2 8 b__law_function_words
noncomputable def b__law_words_1 : MSt :=
  mDrop (mCall m__law_data_words (mCons (mVar 2) (mCons (mVar 1) (mNil))))
noncomputable def b__law_words_2 : MSt :=
  mDrop (mMtd "list" fAppend (mVar 1) (mCons (mVar 4) (mNil)))
noncomputable def b__law_words_3 : MSt :=
  mFor (mSrc (mTup (mCons (mC (.str "(")) (mCons (mC (.str "exception")) (mCons (mVar 3) (mCons (mC (.str ")")) (mNil))))))) (mgName 4) (b__law_words_2)
noncomputable def b__law_words : MSt :=
  mSeq (mFor (mSrc (mOp opIx (mVar 0) (mC (.int 0)))) (mgName 2) (b__law_words_1)) (mSeq (mFor (mSrc (mSl opSl (mOp opIx (mVar 0) (mC (.int 1))) (mPart (mC (.int 3))) (mNoP))) (mgName 3) (b__law_words_3)) (mRet (mTup (mCons (mOp opIx (mVar 0) (mC (.int 0))) (mCons (mOp opIx (mVar 0) (mC (.int 1))) (mCons (mCall fTuple (mCons (mLc (mSrc (mOp opIx (mVar 0) (mC (.int 2)))) (mgName 5) (mYes) (mCall m__law_function_words (mCons (mVar 5) (mCons (mVar 1) (mNil)))) [5]) (mNil))) (mNil)))))))
noncomputable def m__law_words : List D → MH → R D := mFn 2 6 b__law_words
noncomputable def b__law_canonical_1 : MSt :=
  mSeq (mIfS (mAnd (mB (mOp opGt (mVar 2) (mC (.int 0)))) (mAnd (mB (mOp opNe (mVar 3) (mC (.str "(")))) (mB (mOp opNe (mVar 4) (mC (.str ")")))))) (mSet 1 (mOp opAddS (mVar 1) (mC (.str " ")))) (mNext)) (mSeq (mSet 1 (mOp opAddS (mVar 1) (mVar 4))) (mSeq (mIfS (mB (mOp opEq (mVar 4) (mC (.str "(")))) (mAug 2 opAddI (mC (.int 1))) (mNext)) (mSeq (mIfS (mB (mOp opEq (mVar 4) (mC (.str ")")))) (mSeq (mAug 2 opSub (mC (.int 1))) (mIfS (mB (mOp opEq (mVar 2) (mC (.int 0)))) (mSet 1 (mOp opAddS (mVar 1) (mC (.str "\n")))) (mNext))) (mNext)) (mSet 3 (mVar 4)))))
noncomputable def b__law_canonical : MSt :=
  mSeq (mSet 1 (mC (.str ""))) (mSeq (mSet 2 (mC (.int 0))) (mSeq (mSet 3 (mC (.str "("))) (mSeq (mFor (mSrc (mVar 0)) (mgName 4) (b__law_canonical_1)) (mRet (mVar 1)))))
noncomputable def m__law_canonical : List D → MH → R D := mFn 1 5 b__law_canonical
noncomputable def b__law_nodes (self__law_nodes : List D → MH → R D) : MSt :=
  mRet (mOp opAddS (mOp opAddS (mC (.int 1)) (mCall fSum (mCons (mLc (mSrc (mOp opIx (mVar 0) (mC (.int 3)))) (mgName 1) (mYes) (mCall self__law_nodes (mCons (mVar 1) (mNil))) [1]) (mNil)))) (mCall fSum (mCons (mLc (mSrc (mOp opIx (mVar 0) (mC (.int 4)))) (mgName 2) (mYes) (mCall self__law_nodes (mCons (mOp opIx (mVar 2) (mC (.int 2))) (mNil))) [2]) (mNil))))
noncomputable def mm__law_nodes : Nat → Nat → List D → MH → R D
  | 0, _ => fun _ _ => .stuck
  | n + 1, 0 => mFn 1 3 (b__law_nodes (mm__law_nodes n 0))
  | _ + 1, _ => fun _ _ => .stuck
noncomputable abbrev m__law_nodes (n : Nat) : List D → MH → R D := mm__law_nodes n 0
theorem m__law_nodes_succ (n : Nat) : m__law_nodes (n + 1) = mFn 1 3 (b__law_nodes (m__law_nodes n)) := rfl
noncomputable def b_law : MSt :=
  mSeq (mSet 1 (mCall m__law_start (mCons (mVar 0) (mNil)))) (mSeq (mSet 2 (mCall m__law_tree (mCons (mVar 1) (mNil)))) (mSeq (mSet 3 (mLstN (mNil))) (mSeq (mSet 4 (mCall m__law_words (mCons (mVar 2) (mCons (mVar 3) (mNil))))) (mSeq (mIfS (mOr (mB (mOp opGt (mCall fSum (mCons (mLc (mSrc (mOp opIx (mVar 2) (mC (.int 2)))) (mgName 6) (mYes) (mCall (m__law_nodes 8) (mCons (mOp opIx (mVar 6) (mC (.int 4))) (mNil))) [6]) (mNil))) (mC (.int 400)))) (mB (mOp opGt (mCall fSum (mCons (mLc (mSrc (mVar 3)) (mgName 7) (mYes) (mCall fLen (mCons (mVar 7) (mNil))) [7]) (mNil))) (mC (.int 6000))))) (mRet (mC (.bl true))) (mNext)) (mSeq (mIfS (mB (mOp opGt (mCall fLen (mCons (mCall m__law_canonical (mCons (mVar 3) (mNil))) (mNil))) (mC (.int 6000)))) (mRet (mC (.bl true))) (mNext)) (mSeq (mIfS (mB (mOp opEq (mCall m__law_draw (mCons (mVar 1) (mCons (mC (.int 2)) (mNil)))) (mC (.int 1)))) (mSet 2 (mVar 4)) (mNext)) (mSeq (mSet 5 (mCall m_write_program (mCons (mVar 2) (mNil)))) (mRet (mAndV (mCall fIsi (mCons (mVar 5) (mCons (mC (.ty "str")) (mNil)))) (mOp opEq (mVar 5) (mCall m__law_canonical (mCons (mVar 3) (mNil)))))))))))))
noncomputable def m_law : List D → MH → R D := mFn 1 8 b_law
section
variable {P : Program} {w : World} {K : PySem.W.Frag} {mg : Str → Option Value} {base : Heap}
theorem ok__form (T : Top w K mg) : FnM P w K mg base 1 T.a__form T.f__form ["parts"] m__form := by
  refine fnM_body T.d__form.fn sc__form hg_fn fun cdv A outer s H E hr tk hp => ?_
  exact pssm_one (psm_ret (pem_op op_addS opAddS_ok (pem_op op_addS opAddS_ok (pem_str) (pem_bm PySem.F.plainAttrs_str PySem.F.slot_str_join PySem.F.type_str_join mt_join fJoin_ok (pem_str) (pam_cons (mv 0) (pam_nil)))) (pem_str)))
theorem st__kind_text (T : Top w K mg) (k__form : FnM P w K mg base 1 T.a__form T.f__form ["parts"] m__form) (n : Nat) (ih__kind_text : FnM P w K mg base (1 + n) T.a__kind_text T.f__kind_text ["kind"] (m__kind_text n)) : FnM P w K mg base (1 + (n + 1)) T.a__kind_text T.f__kind_text ["kind"] (m__kind_text (n + 1)) := by
  replace k__form := k__form.mono (Nat.le_add_right 1 n)
  refine fnM_body T.d__kind_text.fn sc__kind_text hg_fn fun cdv A outer s H E hr tk hp => ?_
  exact pssm_cons (psm_asg (mv 0) (pgm_tup rfl (pgsm_cons (gn 1 sc__kind_text.nd) (pgsm_cons (gn 2 sc__kind_text.nd) (pgsm_cons (gn 3 sc__kind_text.nd) (pgsm_nil)))))) (pssm_cons (psm_if (ptm_cmp (op_eq2 hr.units) opEq_ok (nomark _) (mv 1) (pem_str)) (pssm_one (psm_ret (mv 2))) (pssm_nil)) (pssm_cons (psm_if (ptm_not (ptm_val (mv 2))) (pssm_one (psm_ret (mv 1))) (pssm_nil)) (pssm_one (psm_ret (pem_call k__form T.d__form hr tk (by rfl) (pam_cons (pem_op op_addS opAddS_ok (pem_lst (pam_cons (mv 1) (pam_nil))) (pem_lc (own := [("part", 4)]) rfl sc__kind_text.nd (pim_src (mv 2)) (blkOk_by (N := ["kind", "head", "what", "_", "part"]) (sc := defScope s__kind_text) (by decide +kernel)) (by decide) (fun _ _ _ _ _ => gn 4 sc__kind_text.nd) (fun _ _ _ _ _ => ptsm_nil) (fun _ _ _ _ _ => pem_call ih__kind_text T.d__kind_text hr takesW0 (by rfl) (pam_cons (mv 4) (pam_nil))))) (pam_nil)))))))
theorem al__kind_text (T : Top w K mg) (k__form : FnM P w K mg base 1 T.a__form T.f__form ["parts"] m__form) : ∀ n : Nat, FnM P w K mg base (1 + n) T.a__kind_text T.f__kind_text ["kind"] (m__kind_text n)
  | 0 => fnM_stuck
  | n + 1 => st__kind_text T k__form n (al__kind_text T k__form n)
theorem ok__constructor_text (T : Top w K mg) (k__form : FnM P w K mg base 9 T.a__form T.f__form ["parts"] m__form) (k__kind_text : FnM P w K mg base 9 T.a__kind_text T.f__kind_text ["kind"] (m__kind_text 8)) : FnM P w K mg base 10 T.a__constructor_text T.f__constructor_text ["constructor"] m__constructor_text := by
  refine fnM_body T.d__constructor_text.fn sc__constructor_text hg_fn fun cdv A outer s H E hr tk hp => ?_
  exact pssm_cons (psm_asg (mv 0) (pgm_tup rfl (pgsm_cons (gn 1 sc__constructor_text.nd) (pgsm_cons (gn 2 sc__constructor_text.nd) (pgsm_nil))))) (pssm_one (psm_ret (pem_call k__form T.d__form hr tk (by rfl) (pam_cons (pem_op op_addS opAddS_ok (pem_lst (pam_cons (mv 1) (pam_nil))) (pem_lc (own := [("field", 3)]) rfl sc__constructor_text.nd (pim_src (mv 2)) (blkOk_by (N := ["constructor", "name", "fields", "field"]) (sc := defScope s__constructor_text) (by decide +kernel)) (by decide) (fun _ _ _ _ _ => gn 3 sc__constructor_text.nd) (fun _ _ _ _ _ => ptsm_nil) (fun _ _ _ _ _ => pem_call k__kind_text T.d__kind_text hr takesW0 (by rfl) (pam_cons (mv 3) (pam_nil))))) (pam_nil)))))
theorem ok_data_text (T : Top w K mg) (k__form : FnM P w K mg base 10 T.a__form T.f__form ["parts"] m__form) (k__constructor_text : FnM P w K mg base 10 T.a__constructor_text T.f__constructor_text ["constructor"] m__constructor_text) : FnM P w K mg base 11 T.a_data_text T.f_data_text ["data"] m_data_text := by
  refine fnM_body T.d_data_text.fn sc_data_text hg_fn fun cdv A outer s H E hr tk hp => ?_
  exact pssm_cons (psm_asg (mv 0) (pgm_tup rfl (pgsm_cons (gn 1 sc_data_text.nd) (pgsm_cons (gn 2 sc_data_text.nd) (pgsm_nil))))) (pssm_one (psm_ret (pem_call k__form T.d__form hr tk (by rfl) (pam_cons (pem_op op_addS opAddS_ok (pem_lst (pam_cons (pem_str) (pam_cons (mv 1) (pam_nil)))) (pem_lc (own := [("constructor", 3)]) rfl sc_data_text.nd (pim_src (mv 2)) (blkOk_by (N := ["data", "name", "constructors", "constructor"]) (sc := defScope s_data_text) (by decide +kernel)) (by decide) (fun _ _ _ _ _ => gn 3 sc_data_text.nd) (fun _ _ _ _ _ => ptsm_nil) (fun _ _ _ _ _ => pem_call k__constructor_text T.d__constructor_text hr takesW0 (by rfl) (pam_cons (mv 3) (pam_nil))))) (pam_nil)))))
theorem ok_exception_text (T : Top w K mg) (k__form : FnM P w K mg base 1 T.a__form T.f__form ["parts"] m__form) : FnM P w K mg base 2 T.a_exception_text T.f_exception_text ["name"] m_exception_text := by
  refine fnM_body T.d_exception_text.fn sc_exception_text hg_fn fun cdv A outer s H E hr tk hp => ?_
  exact pssm_one (psm_ret (pem_call k__form T.d__form hr tk (by rfl) (pam_cons (pem_lst (pam_cons (pem_str) (pam_cons (mv 0) (pam_nil)))) (pam_nil))))
theorem ok__parameter_text (T : Top w K mg) (k__form : FnM P w K mg base 9 T.a__form T.f__form ["parts"] m__form) (k__kind_text : FnM P w K mg base 9 T.a__kind_text T.f__kind_text ["kind"] (m__kind_text 8)) : FnM P w K mg base 10 T.a__parameter_text T.f__parameter_text ["parameter"] m__parameter_text := by
  refine fnM_body T.d__parameter_text.fn sc__parameter_text hg_fn fun cdv A outer s H E hr tk hp => ?_
  exact pssm_cons (psm_asg (mv 0) (pgm_tup rfl (pgsm_cons (gn 1 sc__parameter_text.nd) (pgsm_cons (gn 2 sc__parameter_text.nd) (pgsm_nil))))) (pssm_one (psm_ret (pem_call k__form T.d__form hr tk (by rfl) (pam_cons (pem_lst (pam_cons (mv 1) (pam_cons (pem_call k__kind_text T.d__kind_text hr tk (by rfl) (pam_cons (mv 2) (pam_nil))) (pam_nil)))) (pam_nil)))))
theorem ok__first_parts (T : Top w K mg) (k__parameter_text : FnM P w K mg base 10 T.a__parameter_text T.f__parameter_text ["parameter"] m__parameter_text) (k__kind_text : FnM P w K mg base 10 T.a__kind_text T.f__kind_text ["kind"] (m__kind_text 8)) : FnM P w K mg base 11 T.a__first_parts T.f__first_parts ["op", "info"] m__first_parts := by
  refine fnM_body T.d__first_parts.fn sc__first_parts hg_fnN fun cdv A outer s H E hr tk hp => ?_
  exact pssm_cons (psm_if (ptm_cmp op_in2 opIn_ok rfl (mv 0) (pem_tup (pam_cons (pem_str) (pam_cons (pem_str) (pam_nil))))) (pssm_one (psm_ret (pem_lstN (pam_cons (mv 1) (pam_nil))))) (pssm_nil)) (pssm_cons (psm_if (ptm_cmp op_in2 opIn_ok rfl (mv 0) (pem_tup (pam_cons (pem_str) (pam_cons (pem_str) (pam_nil))))) (pssm_one (psm_ret (pem_lstN (pam_cons (mv 0) (pam_cons (pem_callTy call_str3 fStr3_ok (by rfl) T.z_str (by decide +kernel) (pam_cons (mv 1) (pam_nil))) (pam_nil)))))) (pssm_nil)) (pssm_cons (psm_if (ptm_cmp (op_eq2 hr.units) opEq_ok (nomark _) (mv 0) (pem_str)) (pssm_one (psm_ret (pem_lstN (pam_cons (mv 0) (pam_cons (pem_call k__parameter_text T.d__parameter_text hr tk (by rfl) (pam_cons (mv 1) (pam_nil))) (pam_nil)))))) (pssm_nil)) (pssm_cons (psm_if (ptm_cmp (op_eq2 hr.units) opEq_ok (nomark _) (mv 0) (pem_str)) (pssm_one (psm_ret (pem_lstN (pam_cons (mv 0) (pam_cons (pem_ix (ix_all2 hr.units) opIx_ok (mv 1) (pem_int) (fun _ _ => rfl)) (pam_cons (pem_call k__kind_text T.d__kind_text hr tk (by rfl) (pam_cons (pem_ix (ix_all2 hr.units) opIx_ok (mv 1) (pem_int) (fun _ _ => rfl)) (pam_nil))) (pam_nil))))))) (pssm_nil)) (pssm_one (psm_ret (pem_lstN (pam_cons (mv 0) (pam_nil))))))))
theorem ok__word_text (T : Top w K mg) : FnM P w K mg base 1 T.a__word_text T.f__word_text ["op", "info"] m__word_text := by
  refine fnM_body T.d__word_text.fn sc__word_text hg_fn fun cdv A outer s H E hr tk hp => ?_
  exact pssm_cons (psm_if (ptm_cmp (op_eq2 hr.units) opEq_ok (nomark _) (mv 0) (pem_str)) (pssm_one (psm_ret (pem_str))) (pssm_nil)) (pssm_cons (psm_if (ptm_cmp (op_eq2 hr.units) opEq_ok (nomark _) (mv 0) (pem_str)) (pssm_one (psm_ret (pem_if (ptm_val (mv 1)) (pem_str) (pem_str)))) (pssm_nil)) (pssm_one (psm_ret (pem_callTy call_str3 fStr3_ok (by rfl) T.z_str (by decide +kernel) (pam_cons (mv 1) (pam_nil))))))
theorem st__expression_text (T : Top w K mg) (k__word_text : FnM P w K mg base 11 T.a__word_text T.f__word_text ["op", "info"] m__word_text) (k__first_parts : FnM P w K mg base 11 T.a__first_parts T.f__first_parts ["op", "info"] m__first_parts) (k__form : FnM P w K mg base 11 T.a__form T.f__form ["parts"] m__form) (n : Nat) (ih__expression_text : FnM P w K mg base (11 + n) T.a__expression_text T.f__expression_text ["expression"] (m__expression_text n)) (ih__arm_text : FnM P w K mg base (11 + n) T.a__arm_text T.f__arm_text ["op", "arm"] (m__arm_text n)) : FnM P w K mg base (11 + (n + 1)) T.a__expression_text T.f__expression_text ["expression"] (m__expression_text (n + 1)) := by
  replace k__word_text := k__word_text.mono (Nat.le_add_right 11 n)
  replace k__first_parts := k__first_parts.mono (Nat.le_add_right 11 n)
  replace k__form := k__form.mono (Nat.le_add_right 11 n)
  refine fnM_body T.d__expression_text.fn sc__expression_text hg_fn fun cdv A outer s H E hr tk hp => ?_
  exact pssm_cons (psm_asg (mv 0) (pgm_tup rfl (pgsm_cons (gn 1 sc__expression_text.nd) (pgsm_cons (gn 2 sc__expression_text.nd) (pgsm_cons (gn 3 sc__expression_text.nd) (pgsm_cons (gn 4 sc__expression_text.nd) (pgsm_cons (gn 5 sc__expression_text.nd) (pgsm_nil)))))))) (pssm_cons (psm_if (ptm_cmp op_in2 opIn_ok rfl (mv 1) (pem_tup (pam_cons (pem_str) (pam_cons (pem_str) (pam_cons (pem_str) (pam_cons (pem_str) (pam_nil))))))) (pssm_one (psm_ret (pem_call k__word_text T.d__word_text hr tk (by rfl) (pam_cons (mv 1) (pam_cons (mv 3) (pam_nil)))))) (pssm_nil)) (pssm_cons (ss 6 sc__expression_text.nd (pem_call k__first_parts T.d__first_parts hr tk (by rfl) (pam_cons (mv 1) (pam_cons (mv 3) (pam_nil))))) (pssm_cons (psm_expr (pem_bm PySem.F.plainAttrs_list PySem.F.slot_list_extend PySem.F.type_list_extend mt_extend2 fExtend_ok (mv 6) (pam_cons (pem_lc (own := [("kid", 7)]) rfl sc__expression_text.nd (pim_src (mv 4)) (blkOk_by (N := ["expression", "op", "_", "info", "kids", "arms", "parts", "kid", "arm"]) (sc := defScope s__expression_text) (by decide +kernel)) (by decide) (fun _ _ _ _ _ => gn 7 sc__expression_text.nd) (fun _ _ _ _ _ => ptsm_nil) (fun _ _ _ _ _ => pem_call ih__expression_text T.d__expression_text hr takesW0 (by rfl) (pam_cons (mv 7) (pam_nil)))) (pam_nil)))) (pssm_cons (psm_expr (pem_bm PySem.F.plainAttrs_list PySem.F.slot_list_extend PySem.F.type_list_extend mt_extend2 fExtend_ok (mv 6) (pam_cons (pem_lc (own := [("arm", 8)]) rfl sc__expression_text.nd (pim_src (mv 5)) (blkOk_by (N := ["expression", "op", "_", "info", "kids", "arms", "parts", "kid", "arm"]) (sc := defScope s__expression_text) (by decide +kernel)) (by decide) (fun _ _ _ _ _ => gn 8 sc__expression_text.nd) (fun _ _ _ _ _ => ptsm_nil) (fun _ _ _ _ _ => pem_call ih__arm_text T.d__arm_text hr takesW0 (by rfl) (pam_cons (mv 1) (pam_cons (mv 8) (pam_nil))))) (pam_nil)))) (pssm_one (psm_ret (pem_call k__form T.d__form hr tk (by rfl) (pam_cons (mv 6) (pam_nil)))))))))
theorem st__arm_text (T : Top w K mg) (k__word_text : FnM P w K mg base 11 T.a__word_text T.f__word_text ["op", "info"] m__word_text) (k__first_parts : FnM P w K mg base 11 T.a__first_parts T.f__first_parts ["op", "info"] m__first_parts) (k__form : FnM P w K mg base 11 T.a__form T.f__form ["parts"] m__form) (n : Nat) (ih__expression_text : FnM P w K mg base (11 + n) T.a__expression_text T.f__expression_text ["expression"] (m__expression_text n)) (ih__arm_text : FnM P w K mg base (11 + n) T.a__arm_text T.f__arm_text ["op", "arm"] (m__arm_text n)) : FnM P w K mg base (11 + (n + 1)) T.a__arm_text T.f__arm_text ["op", "arm"] (m__arm_text (n + 1)) := by
  replace k__form := k__form.mono (Nat.le_add_right 11 n)
  refine fnM_body T.d__arm_text.fn sc__arm_text hg_fn fun cdv A outer s H E hr tk hp => ?_
  exact pssm_cons (psm_asg (mv 1) (pgm_tup rfl (pgsm_cons (gn 2 sc__arm_text.nd) (pgsm_cons (gn 3 sc__arm_text.nd) (pgsm_cons (gn 4 sc__arm_text.nd) (pgsm_nil)))))) (pssm_cons (psm_if (ptm_cmp (op_eq2 hr.units) opEq_ok (nomark _) (mv 0) (pem_str)) (pssm_one (psm_ret (pem_call k__form T.d__form hr tk (by rfl) (pam_cons (pem_lst (pam_cons (pem_call k__form T.d__form hr tk (by rfl) (pam_cons (pem_lst (pam_cons (mv 2) (pam_star (mv 3) (pam_nil)))) (pam_nil))) (pam_cons (pem_call ih__expression_text T.d__expression_text hr tk (by rfl) (pam_cons (mv 4) (pam_nil))) (pam_nil)))) (pam_nil))))) (pssm_nil)) (pssm_one (psm_ret (pem_call k__form T.d__form hr tk (by rfl) (pam_cons (pem_lst (pam_cons (mv 2) (pam_star (mv 3) (pam_cons (pem_call ih__expression_text T.d__expression_text hr tk (by rfl) (pam_cons (mv 4) (pam_nil))) (pam_nil))))) (pam_nil))))))
theorem al__expression_text (T : Top w K mg) (k__word_text : FnM P w K mg base 11 T.a__word_text T.f__word_text ["op", "info"] m__word_text) (k__first_parts : FnM P w K mg base 11 T.a__first_parts T.f__first_parts ["op", "info"] m__first_parts) (k__form : FnM P w K mg base 11 T.a__form T.f__form ["parts"] m__form) : ∀ n : Nat, FnM P w K mg base (11 + n) T.a__expression_text T.f__expression_text ["expression"] (m__expression_text n) ∧ FnM P w K mg base (11 + n) T.a__arm_text T.f__arm_text ["op", "arm"] (m__arm_text n)
  | 0 => ⟨fnM_stuck, fnM_stuck⟩
  | n + 1 => let ⟨i__expression_text, i__arm_text⟩ := al__expression_text T k__word_text k__first_parts k__form n; ⟨st__expression_text T k__word_text k__first_parts k__form n i__expression_text i__arm_text, st__arm_text T k__word_text k__first_parts k__form n i__expression_text i__arm_text⟩
theorem ok_function_text (T : Top w K mg) (k__parameter_text : FnM P w K mg base 23 T.a__parameter_text T.f__parameter_text ["parameter"] m__parameter_text) (k__form : FnM P w K mg base 23 T.a__form T.f__form ["parts"] m__form) (k__expression_text : FnM P w K mg base 23 T.a__expression_text T.f__expression_text ["expression"] (m__expression_text 12)) (k__kind_text : FnM P w K mg base 23 T.a__kind_text T.f__kind_text ["kind"] (m__kind_text 8)) : FnM P w K mg base 24 T.a_function_text T.f_function_text ["function"] m_function_text := by
  refine fnM_body T.d_function_text.fn sc_function_text hg_fn fun cdv A outer s H E hr tk hp => ?_
  exact pssm_cons (psm_asg (mv 0) (pgm_tup rfl (pgsm_cons (gn 1 sc_function_text.nd) (pgsm_cons (gn 2 sc_function_text.nd) (pgsm_cons (gn 3 sc_function_text.nd) (pgsm_cons (gn 4 sc_function_text.nd) (pgsm_cons (gn 5 sc_function_text.nd) (pgsm_nil)))))))) (pssm_cons (psm_setLc (i := 6) (own := [("parameter", 7)]) rfl sc_function_text.nd rfl rfl (sw_true rfl rfl rfl (by decide +kernel)) (pim_src (mv 3)) (blkOk_by (N := ["function", "name", "_", "parameters", "result", "body", "pairs", "parameter"]) (sc := defScope s_function_text) (by decide +kernel)) (by decide) (fun _ _ _ _ _ => gn 7 sc_function_text.nd) (fun _ _ _ _ _ => ptsm_nil) (fun _ _ _ _ _ => pem_call k__parameter_text T.d__parameter_text hr takesW0 (by rfl) (pam_cons (mv 7) (pam_nil)))) (pssm_one (psm_ret (pem_call k__form T.d__form hr tk (by rfl) (pam_cons (pem_lst (pam_cons (pem_str) (pam_cons (mv 1) (pam_cons (pem_call k__form T.d__form hr tk (by rfl) (pam_cons (mv 6) (pam_nil))) (pam_cons (pem_call k__kind_text T.d__kind_text hr tk (by rfl) (pam_cons (mv 4) (pam_nil))) (pam_cons (pem_call k__expression_text T.d__expression_text hr tk (by rfl) (pam_cons (mv 5) (pam_nil))) (pam_nil))))))) (pam_nil))))))
theorem ok_write_program (T : Top w K mg) (k_data_text : FnM P w K mg base 24 T.a_data_text T.f_data_text ["data"] m_data_text) (k_exception_text : FnM P w K mg base 24 T.a_exception_text T.f_exception_text ["name"] m_exception_text) (k_function_text : FnM P w K mg base 24 T.a_function_text T.f_function_text ["function"] m_function_text) : FnM P w K mg base 25 T.a_write_program T.f_write_program ["tree"] m_write_program := by
  refine fnM_body T.d_write_program.fn sc_write_program hg_fn fun cdv A outer s H E hr tk hp => ?_
  exact pssm_cons (psm_asg (mv 0) (pgm_tup rfl (pgsm_cons (gn 1 sc_write_program.nd) (pgsm_cons (gn 2 sc_write_program.nd) (pgsm_cons (gn 3 sc_write_program.nd) (pgsm_nil)))))) (pssm_cons (psm_setLcN (i := 4) (own := [("data", 5)]) rfl sc_write_program.nd rfl rfl (sw_true rfl rfl rfl (by decide +kernel)) (pim_src (mv 1)) (blkOk_by (N := ["tree", "datas", "exceptions", "functions", "lines", "data", "name", "function", "line"]) (sc := defScope s_write_program) (by decide +kernel)) (by decide) (fun _ _ _ _ _ => gn 5 sc_write_program.nd) (fun _ _ _ _ _ => ptsm_nil) (fun _ _ _ _ _ => pem_call k_data_text T.d_data_text hr takesW0 (by rfl) (pam_cons (mv 5) (pam_nil)))) (pssm_cons (psm_expr (pem_bm PySem.F.plainAttrs_list PySem.F.slot_list_extend PySem.F.type_list_extend mt_extend2 fExtend_ok (mv 4) (pam_cons (pem_lc (own := [("name", 6)]) rfl sc_write_program.nd (pim_src (pem_slice sl_all opSl_ok (mv 2) (pom_some (pem_callB call_len2 fLen_ok (by rfl) T.z_len (by decide +kernel) (pam_cons (mk T.c_FIRST_EXCEPTIONS) (pam_nil)))) (pom_none))) (blkOk_by (N := ["tree", "datas", "exceptions", "functions", "lines", "data", "name", "function", "line"]) (sc := defScope s_write_program) (by decide +kernel)) (by decide) (fun _ _ _ _ _ => gn 6 sc_write_program.nd) (fun _ _ _ _ _ => ptsm_nil) (fun _ _ _ _ _ => pem_call k_exception_text T.d_exception_text hr takesW0 (by rfl) (pam_cons (mv 6) (pam_nil)))) (pam_nil)))) (pssm_cons (psm_expr (pem_bm PySem.F.plainAttrs_list PySem.F.slot_list_extend PySem.F.type_list_extend mt_extend2 fExtend_ok (mv 4) (pam_cons (pem_lc (own := [("function", 7)]) rfl sc_write_program.nd (pim_src (mv 3)) (blkOk_by (N := ["tree", "datas", "exceptions", "functions", "lines", "data", "name", "function", "line"]) (sc := defScope s_write_program) (by decide +kernel)) (by decide) (fun _ _ _ _ _ => gn 7 sc_write_program.nd) (fun _ _ _ _ _ => ptsm_nil) (fun _ _ _ _ _ => pem_call k_function_text T.d_function_text hr takesW0 (by rfl) (pam_cons (mv 7) (pam_nil)))) (pam_nil)))) (pssm_one (psm_ret (pem_bm PySem.F.plainAttrs_str PySem.F.slot_str_join PySem.F.type_str_join mt_join fJoin_ok (pem_str) (pam_cons (pem_lc (own := [("line", 8)]) rfl sc_write_program.nd (pim_src (mv 4)) (blkOk_by (N := ["tree", "datas", "exceptions", "functions", "lines", "data", "name", "function", "line"]) (sc := defScope s_write_program) (by decide +kernel)) (by decide) (fun _ _ _ _ _ => gn 8 sc_write_program.nd) (fun _ _ _ _ _ => ptsm_nil) (fun _ _ _ _ _ => pem_op op_addS opAddS_ok (mv 8) (pem_str))) (pam_nil))))))))
theorem ok__law_start (T : Top w K mg) : FnM P w K mg base 1 T.a__law_start T.f__law_start ["script"] m__law_start := by
  refine fnM_body T.d__law_start.fn sc__law_start hg_fnN fun cdv A outer s H E hr tk hp => ?_
  exact pssm_cons (ss 1 sc__law_start.nd (pem_int)) (pssm_cons (psm_for hp rfl (pim_src (mv 0)) (gn 2 sc__law_start.nd) (pssm_one (ss 1 sc__law_start.nd (pem_op op_add3 opAdd_ok (pem_op op_mod opMod_ok (pem_callTy call_int2 fInt_ok (by rfl) T.z_int (by decide +kernel) (pam_cons (pem_op op_add3 opAdd_ok (pem_op op_mul2 opMul_ok (mv 1) (pem_int)) (mv 2)) (pam_nil))) (pem_int)) (pem_int))))) (pssm_one (psm_ret (pem_lstN (pam_cons (pem_callTy call_list_of fList_ok (by rfl) T.z_list (by decide +kernel) (pam_cons (mv 0) (pam_nil))) (pam_cons (pem_int) (pam_cons (pem_int) (pam_cons (mv 1) (pam_nil)))))))))
theorem ok__law_draw (T : Top w K mg) : FnM P w K mg base 1 T.a__law_draw T.f__law_draw ["state", "many"] m__law_draw := by
  refine fnM_body T.d__law_draw.fn sc__law_draw hg_fn fun cdv A outer s H E hr tk hp => ?_
  exact pssm_cons (psm_if (ptm_w (pwm_and (ptm_cmp (op_eq2 hr.units) opEq_ok (nomark _) (pem_ix (ix_all2 hr.units) opIx_ok (mv 0) (pem_int) (fun _ _ => rfl)) (pem_int)) (pwm_and1 (ptm_cmp op_ge2 opCmp_ok (nomark _) (pem_ix (ix_all2 hr.units) opIx_ok (mv 0) (pem_int) (fun _ _ => rfl)) (pem_callB call_len2 fLen_ok (by rfl) T.z_len (by decide +kernel) (pam_cons (pem_ix (ix_all2 hr.units) opIx_ok (mv 0) (pem_int) (fun _ _ => rfl)) (pam_nil))))))) (pssm_cons (psm_setIx (pem_op op_mod opMod_ok (pem_callTy call_int2 fInt_ok (by rfl) T.z_int (by decide +kernel) (pam_cons (pem_op op_add3 opAdd_ok (pem_op op_mul2 opMul_ok (pem_ix (ix_all2 hr.units) opIx_ok (mv 0) (pem_int) (fun _ _ => rfl)) (pem_int)) (pem_int)) (pam_nil))) (pem_int)) (mv 0) (pem_int)) (pssm_one (psm_ret (pem_op op_mod opMod_ok (pem_callTy call_int2 fInt_ok (by rfl) T.z_int (by decide +kernel) (pam_cons (pem_op op_fdivW opDiv_ok (pem_ix (ix_all2 hr.units) opIx_ok (mv 0) (pem_int) (fun _ _ => rfl)) (pem_int)) (pam_nil))) (mv 1))))) (pssm_nil)) (pssm_cons (psm_if (ptm_cmp (op_eq2 hr.units) opEq_ok (nomark _) (pem_ix (ix_all2 hr.units) opIx_ok (mv 0) (pem_int) (fun _ _ => rfl)) (pem_int)) (pssm_cons (psm_setIx (pem_callB call_abs fAbs_ok (by rfl) T.z_abs (by decide +kernel) (pam_cons (pem_ix (ix_all2 hr.units) opIx_ok (pem_ix (ix_all2 hr.units) opIx_ok (mv 0) (pem_int) (fun _ _ => rfl)) (pem_ix (ix_all2 hr.units) opIx_ok (mv 0) (pem_int) (fun _ _ => rfl)) (fun _ _ => rfl)) (pam_nil))) (mv 0) (pem_int)) (pssm_one (psm_augIx iop_addI opAddI_ok (mv 0) (pem_int) (pem_int)))) (pssm_nil)) (pssm_cons (ss 2 sc__law_draw.nd (pem_op op_mod opMod_ok (pem_callTy call_int2 fInt_ok (by rfl) T.z_int (by decide +kernel) (pam_cons (pem_ix (ix_all2 hr.units) opIx_ok (mv 0) (pem_int) (fun _ _ => rfl)) (pam_nil))) (mv 1))) (pssm_cons (psm_setIx (pem_op op_fdivW opDiv_ok (pem_ix (ix_all2 hr.units) opIx_ok (mv 0) (pem_int) (fun _ _ => rfl)) (mv 1)) (mv 0) (pem_int)) (pssm_one (psm_ret (mv 2))))))
theorem ok__law_reserved (T : Top w K mg) : FnM P w K mg base 1 T.a__law_reserved T.f__law_reserved [] m__law_reserved := by
  refine fnM_body T.d__law_reserved.fn sc__law_reserved hg_fn fun cdv A outer s H E hr tk hp => ?_
  exact pssm_cons (ss 0 sc__law_reserved.nd (pem_str)) (pssm_cons (ss 0 sc__law_reserved.nd (pem_op op_addS opAddS_ok (mv 0) (pem_str))) (pssm_one (psm_ret (pem_bm PySem.F.plainAttrs_str PySem.F.slot_str_split PySem.F.type_str_split mt_split fSplit_ok (mv 0) (pam_cons (pem_str) (pam_nil))))))
theorem ok__law_name (T : Top w K mg) (k__law_draw : FnM P w K mg base 1 T.a__law_draw T.f__law_draw ["state", "many"] m__law_draw) (k__law_reserved : FnM P w K mg base 1 T.a__law_reserved T.f__law_reserved [] m__law_reserved) : FnM P w K mg base 2 T.a__law_name T.f__law_name ["state", "great"] m__law_name := by
  refine fnM_body T.d__law_name.fn sc__law_name hg_fn fun cdv A outer s H E hr tk hp => ?_
  exact pssm_cons (ss 2 sc__law_name.nd (pem_str)) (pssm_cons (ss 3 sc__law_name.nd (pem_op op_addS opAddS_ok (mv 2) (pem_str))) (pssm_cons (ss 4 sc__law_name.nd (pem_ix (ix_all2 hr.units) opIx_ok (mv 2) (pem_call k__law_draw T.d__law_draw hr tk (by rfl) (pam_cons (mv 0) (pam_cons (pem_int) (pam_nil)))) (fun _ _ => rfl))) (pssm_cons (ss 5 sc__law_name.nd (pem_call k__law_draw T.d__law_draw hr tk (by rfl) (pam_cons (mv 0) (pam_cons (pem_int) (pam_nil))))) (pssm_cons (psm_if (ptm_cmp (op_eq2 hr.units) opEq_ok (nomark _) (pem_call k__law_draw T.d__law_draw hr tk (by rfl) (pam_cons (mv 0) (pam_cons (pem_int) (pam_nil)))) (pem_int)) (pssm_one (ss 5 sc__law_name.nd (pem_call k__law_draw T.d__law_draw hr tk (by rfl) (pam_cons (mv 0) (pam_cons (pem_int) (pam_nil)))))) (pssm_nil)) (pssm_cons (psm_if (ptm_val (mv 1)) (pssm_cons (ss 3 sc__law_name.nd (pem_op op_addS opAddS_ok (mv 3) (pem_bm0 PySem.F.plainAttrs_str PySem.F.slot_str_upper PySem.F.type_str_upper mt_upper fUpper_ok (mv 2)))) (pssm_one (ss 4 sc__law_name.nd (pem_bm0 PySem.F.plainAttrs_str PySem.F.slot_str_upper PySem.F.type_str_upper mt_upper fUpper_ok (mv 4))))) (pssm_nil)) (pssm_cons (ss 6 sc__law_name.nd (pem_op op_addS opAddS_ok (mv 4) (pem_bm PySem.F.plainAttrs_str PySem.F.slot_str_join PySem.F.type_str_join mt_join fJoin_ok (pem_str) (pam_cons (pem_lc (own := [("k", 7)]) rfl sc__law_name.nd (pim_range1 (by rfl) T.z_range (pam_cons (mv 5) (pam_nil))) (blkOk_by (N := ["state", "great", "letters", "rest", "first", "size", "name", "k"]) (sc := defScope s__law_name) (by decide +kernel)) (by decide) (fun _ _ _ _ _ => gn 7 sc__law_name.nd) (fun _ _ _ _ _ => ptsm_nil) (fun _ _ _ _ _ => pem_ix (ix_all2 hr.units) opIx_ok (mv 3) (pem_call k__law_draw T.d__law_draw hr takesW0 (by rfl) (pam_cons (mv 0) (pam_cons (pem_callB call_len2 fLen_ok (by rfl) T.z_len (by decide +kernel) (pam_cons (mv 3) (pam_nil))) (pam_nil)))) (fun _ _ => rfl))) (pam_nil))))) (pssm_cons (psm_if (ptm_cmp op_in2 opIn_ok rfl (mv 6) (pem_call0 k__law_reserved T.d__law_reserved hr tk (by rfl))) (pssm_one (psm_ret (pem_op op_addS opAddS_ok (mv 6) (pem_str)))) (pssm_nil)) (pssm_one (psm_ret (mv 6))))))))))
theorem ok__law_fresh (T : Top w K mg) (k__law_name : FnM P w K mg base 2 T.a__law_name T.f__law_name ["state", "great"] m__law_name) : FnM P w K mg base 3 T.a__law_fresh T.f__law_fresh ["state", "great", "taken"] m__law_fresh := by
  refine fnM_body T.d__law_fresh.fn sc__law_fresh hg_fn fun cdv A outer s H E hr tk hp => ?_
  exact pssm_cons (ss 3 sc__law_fresh.nd (pem_call k__law_name T.d__law_name hr tk (by rfl) (pam_cons (mv 0) (pam_cons (mv 1) (pam_nil))))) (pssm_cons (psm_for hp rfl (pim_range1 (by rfl) T.z_range (pam_cons (pem_int) (pam_nil))) (gn 4 sc__law_fresh.nd) (pssm_one (psm_if (ptm_cmp op_in2 opIn_ok rfl (mv 3) (mv 2)) (pssm_one (ss 3 sc__law_fresh.nd (pem_op op_addS opAddS_ok (pem_slice sl_all opSl_ok (mv 3) (pom_none) (pom_some (pem_int))) (pem_callTy call_str3 fStr3_ok (by rfl) T.z_str (by decide +kernel) (pam_cons (mv 4) (pam_nil)))))) (pssm_nil)))) (pssm_cons (psm_expr (pem_bm PySem.F.plainAttrs_list PySem.F.slot_list_append PySem.F.type_list_append mt_append fAppend_ok (mv 2) (pam_cons (mv 3) (pam_nil)))) (pssm_one (psm_ret (mv 3)))))
theorem st__law_kind (T : Top w K mg) (k__law_draw : FnM P w K mg base 2 T.a__law_draw T.f__law_draw ["state", "many"] m__law_draw) (k__law_name : FnM P w K mg base 2 T.a__law_name T.f__law_name ["state", "great"] m__law_name) (n : Nat) (ih__law_kind : FnM P w K mg base (2 + n) T.a__law_kind T.f__law_kind ["state", "deep"] (m__law_kind n)) : FnM P w K mg base (2 + (n + 1)) T.a__law_kind T.f__law_kind ["state", "deep"] (m__law_kind (n + 1)) := by
  replace k__law_draw := k__law_draw.mono (Nat.le_add_right 2 n)
  replace k__law_name := k__law_name.mono (Nat.le_add_right 2 n)
  refine fnM_body T.d__law_kind.fn sc__law_kind hg_fn fun cdv A outer s H E hr tk hp => ?_
  exact pssm_cons (ss 2 sc__law_kind.nd (pem_call k__law_draw T.d__law_draw hr tk (by rfl) (pam_cons (mv 0) (pam_cons (pem_int) (pam_nil))))) (pssm_cons (psm_if (ptm_w (pwm_or (ptm_cmp op_lt2 opCmp_ok (nomark _) (mv 1) (pem_int)) (pwm_or1 (ptm_cmp op_lt2 opCmp_ok (nomark _) (mv 2) (pem_int))))) (pssm_one (psm_ret (pem_tup (pam_cons (pem_ix (ix_all2 hr.units) opIx_ok (pem_lst (pam_cons (pem_str) (pam_cons (pem_str) (pam_cons (pem_str) (pam_nil))))) (pem_op op_mod opMod_ok (mv 2) (pem_int)) (fun _ _ => rfl)) (pam_cons (pem_tup (pam_nil)) (pam_cons (pem_int) (pam_nil))))))) (pssm_nil)) (pssm_cons (psm_if (ptm_cmp (op_eq2 hr.units) opEq_ok (nomark _) (mv 2) (pem_int)) (pssm_one (psm_ret (pem_tup (pam_cons (pem_str) (pam_cons (pem_call k__law_name T.d__law_name hr tk (by rfl) (pam_cons (mv 0) (pam_cons (pem_bl) (pam_nil)))) (pam_cons (pem_int) (pam_nil))))))) (pssm_nil)) (pssm_cons (psm_if (ptm_cmp (op_eq2 hr.units) opEq_ok (nomark _) (mv 2) (pem_int)) (pssm_one (psm_ret (pem_tup (pam_cons (pem_str) (pam_cons (pem_callTy call_tuple_of fTuple_ok (by rfl) T.z_tuple (by decide +kernel) (pam_cons (pem_lc (own := [("k", 3)]) rfl sc__law_kind.nd (pim_range1 (by rfl) T.z_range (pam_cons (pem_op op_addS opAddS_ok (pem_int) (pem_call k__law_draw T.d__law_draw hr tk (by rfl) (pam_cons (mv 0) (pam_cons (pem_int) (pam_nil))))) (pam_nil))) (blkOk_by (N := ["state", "deep", "pick", "k"]) (sc := defScope s__law_kind) (by decide +kernel)) (by decide) (fun _ _ _ _ _ => gn 3 sc__law_kind.nd) (fun _ _ _ _ _ => ptsm_nil) (fun _ _ _ _ _ => pem_call ih__law_kind T.d__law_kind hr takesW0 (by rfl) (pam_cons (mv 0) (pam_cons (pem_op op_sub opSub_ok (mv 1) (pem_int)) (pam_nil))))) (pam_nil))) (pam_cons (pem_int) (pam_nil))))))) (pssm_nil)) (pssm_cons (psm_if (ptm_cmp (op_eq2 hr.units) opEq_ok (nomark _) (mv 2) (pem_int)) (pssm_one (psm_ret (pem_tup (pam_cons (pem_str) (pam_cons (pem_tup (pam_cons (pem_call ih__law_kind T.d__law_kind hr tk (by rfl) (pam_cons (mv 0) (pam_cons (pem_op op_sub opSub_ok (mv 1) (pem_int)) (pam_nil)))) (pam_cons (pem_call ih__law_kind T.d__law_kind hr tk (by rfl) (pam_cons (mv 0) (pam_cons (pem_op op_sub opSub_ok (mv 1) (pem_int)) (pam_nil)))) (pam_nil)))) (pam_cons (pem_int) (pam_nil))))))) (pssm_nil)) (pssm_one (psm_ret (pem_tup (pam_cons (pem_ix (ix_all2 hr.units) opIx_ok (pem_lst (pam_cons (pem_str) (pam_cons (pem_str) (pam_nil)))) (pem_op op_mod opMod_ok (mv 2) (pem_int)) (fun _ _ => rfl)) (pam_cons (pem_tup (pam_cons (pem_call ih__law_kind T.d__law_kind hr tk (by rfl) (pam_cons (mv 0) (pam_cons (pem_op op_sub opSub_ok (mv 1) (pem_int)) (pam_nil)))) (pam_nil))) (pam_cons (pem_int) (pam_nil)))))))))))
theorem al__law_kind (T : Top w K mg) (k__law_draw : FnM P w K mg base 2 T.a__law_draw T.f__law_draw ["state", "many"] m__law_draw) (k__law_name : FnM P w K mg base 2 T.a__law_name T.f__law_name ["state", "great"] m__law_name) : ∀ n : Nat, FnM P w K mg base (2 + n) T.a__law_kind T.f__law_kind ["state", "deep"] (m__law_kind n)
  | 0 => fnM_stuck
  | n + 1 => st__law_kind T k__law_draw k__law_name n (al__law_kind T k__law_draw k__law_name n)
theorem ok__law_exception (T : Top w K mg) (k__law_draw : FnM P w K mg base 2 T.a__law_draw T.f__law_draw ["state", "many"] m__law_draw) (k__law_name : FnM P w K mg base 2 T.a__law_name T.f__law_name ["state", "great"] m__law_name) : FnM P w K mg base 3 T.a__law_exception T.f__law_exception ["state"] m__law_exception := by
  refine fnM_body T.d__law_exception.fn sc__law_exception hg_fn fun cdv A outer s H E hr tk hp => ?_
  exact pssm_cons (ss 1 sc__law_exception.nd (pem_call k__law_draw T.d__law_draw hr tk (by rfl) (pam_cons (mv 0) (pam_cons (pem_int) (pam_nil))))) (pssm_cons (psm_if (ptm_cmp op_lt2 opCmp_ok (nomark _) (mv 1) (pem_int)) (pssm_one (psm_ret (pem_ix (ix_all2 hr.units) opIx_ok (pem_lst (pam_cons (pem_str) (pam_cons (pem_str) (pam_cons (pem_str) (pam_nil))))) (mv 1) (fun _ _ => rfl)))) (pssm_nil)) (pssm_one (psm_ret (pem_call k__law_name T.d__law_name hr tk (by rfl) (pam_cons (mv 0) (pam_cons (pem_bl) (pam_nil)))))))
theorem ok__law_leaf (T : Top w K mg) (k__law_draw : FnM P w K mg base 2 T.a__law_draw T.f__law_draw ["state", "many"] m__law_draw) (k__law_name : FnM P w K mg base 2 T.a__law_name T.f__law_name ["state", "great"] m__law_name) : FnM P w K mg base 3 T.a__law_leaf T.f__law_leaf ["state"] m__law_leaf := by
  refine fnM_body T.d__law_leaf.fn sc__law_leaf hg_fn fun cdv A outer s H E hr tk hp => ?_
  exact pssm_cons (ss 1 sc__law_leaf.nd (pem_call k__law_draw T.d__law_draw hr tk (by rfl) (pam_cons (mv 0) (pam_cons (pem_int) (pam_nil))))) (pssm_cons (psm_if (ptm_cmp op_lt2 opCmp_ok (nomark _) (mv 1) (pem_int)) (pssm_one (psm_ret (pem_tup (pam_cons (pem_str) (pam_cons (pem_int) (pam_cons (pem_ix (ix_all2 hr.units) opIx_ok (pem_lst (pam_cons (pem_int) (pam_cons (pem_int) (pam_cons (pem_un un_neg opNeg_ok (pem_int)) (pam_cons (pem_int) (pam_cons (pem_un un_neg opNeg_ok (pem_int)) (pam_cons (pem_int) (pam_cons (pem_int) (pam_nil))))))))) (pem_call k__law_draw T.d__law_draw hr tk (by rfl) (pam_cons (mv 0) (pam_cons (pem_int) (pam_nil)))) (fun _ _ => rfl)) (pam_cons (pem_tup (pam_nil)) (pam_cons (pem_tup (pam_nil)) (pam_nil))))))))) (pssm_nil)) (pssm_cons (psm_if (ptm_cmp (op_eq2 hr.units) opEq_ok (nomark _) (mv 1) (pem_int)) (pssm_one (psm_ret (pem_tup (pam_cons (pem_str) (pam_cons (pem_int) (pam_cons (pem_op op_sub opSub_ok (pem_call k__law_draw T.d__law_draw hr tk (by rfl) (pam_cons (mv 0) (pam_cons (pem_int) (pam_nil)))) (pem_int)) (pam_cons (pem_tup (pam_nil)) (pam_cons (pem_tup (pam_nil)) (pam_nil))))))))) (pssm_nil)) (pssm_cons (psm_if (ptm_cmp (op_eq2 hr.units) opEq_ok (nomark _) (mv 1) (pem_int)) (pssm_one (psm_ret (pem_tup (pam_cons (pem_str) (pam_cons (pem_int) (pam_cons (pem_cmp (op_eq2 hr.units) opEq_ok (nomark _) (pem_call k__law_draw T.d__law_draw hr tk (by rfl) (pam_cons (mv 0) (pam_cons (pem_int) (pam_nil)))) (pem_int)) (pam_cons (pem_tup (pam_nil)) (pam_cons (pem_tup (pam_nil)) (pam_nil))))))))) (pssm_nil)) (pssm_cons (psm_if (ptm_cmp (op_eq2 hr.units) opEq_ok (nomark _) (mv 1) (pem_int)) (pssm_one (psm_ret (pem_tup (pam_cons (pem_str) (pam_cons (pem_int) (pam_cons (pem_non) (pam_cons (pem_tup (pam_nil)) (pam_cons (pem_tup (pam_nil)) (pam_nil))))))))) (pssm_nil)) (pssm_one (psm_ret (pem_tup (pam_cons (pem_str) (pam_cons (pem_int) (pam_cons (pem_call k__law_name T.d__law_name hr tk (by rfl) (pam_cons (mv 0) (pam_cons (pem_bl) (pam_nil)))) (pam_cons (pem_tup (pam_nil)) (pam_cons (pem_tup (pam_nil)) (pam_nil)))))))))))))
theorem ok__law_counts (T : Top w K mg) : FnM P w K mg base 1 T.a__law_counts T.f__law_counts [] m__law_counts := by
  refine fnM_body T.d__law_counts.fn sc__law_counts hg_fn fun cdv A outer s H E hr tk hp => ?_
  exact pssm_one (psm_ret (pem_big (kis := [("tuple", 2), ("get", 1), ("let", 2), ("if", 3), ("fn", 1), ("apply", 2), ("raise", 1), ("ref", 1), ("deref", 1), ("len", 1), ("print", 1), ("set", 2), ("array", 2), ("at", 2), ("seq", 2), ("put", 3), ("add", 2), ("sub", 2), ("mul", 2), ("div", 2), ("rem", 2), ("equal", 2), ("less", 2), ("call", 0), ("make", 0), ("case", 1), ("handle", 1)]) (bigs_cons (bigs_cons (bigs_cons (bigs_cons (bigs_cons (bigs_cons (bigs_cons (bigs_cons (bigs_cons (bigs_cons (bigs_cons (bigs_cons (bigs_cons (bigs_cons (bigs_cons (bigs_cons (bigs_cons (bigs_cons (bigs_cons (bigs_cons (bigs_cons (bigs_cons (bigs_cons (bigs_cons (bigs_cons (bigs_cons (bigs_cons (bigs_nil)))))))))))))))))))))))))))) (by decide) (by decide)))
theorem st__law_arms (T : Top w K mg) (k__law_draw : FnM P w K mg base 10 T.a__law_draw T.f__law_draw ["state", "many"] m__law_draw) (k__law_fresh : FnM P w K mg base 10 T.a__law_fresh T.f__law_fresh ["state", "great", "taken"] m__law_fresh) (k__law_name : FnM P w K mg base 10 T.a__law_name T.f__law_name ["state", "great"] m__law_name) (k__law_exception : FnM P w K mg base 10 T.a__law_exception T.f__law_exception ["state"] m__law_exception) (k__law_counts : FnM P w K mg base 10 T.a__law_counts T.f__law_counts [] m__law_counts) (k__law_leaf : FnM P w K mg base 10 T.a__law_leaf T.f__law_leaf ["state"] m__law_leaf) (k__law_kind : FnM P w K mg base 10 T.a__law_kind T.f__law_kind ["state", "deep"] (m__law_kind 8)) (n : Nat) (ih__law_arms : FnM P w K mg base (10 + n) T.a__law_arms T.f__law_arms ["state", "op", "deep", "room"] (m__law_arms n)) (ih__law_expr : FnM P w K mg base (10 + n) T.a__law_expr T.f__law_expr ["state", "deep", "room"] (m__law_expr n)) : FnM P w K mg base (10 + (n + 1)) T.a__law_arms T.f__law_arms ["state", "op", "deep", "room"] (m__law_arms (n + 1)) := by
  replace k__law_draw := k__law_draw.mono (Nat.le_add_right 10 n)
  replace k__law_fresh := k__law_fresh.mono (Nat.le_add_right 10 n)
  replace k__law_name := k__law_name.mono (Nat.le_add_right 10 n)
  replace k__law_exception := k__law_exception.mono (Nat.le_add_right 10 n)
  refine fnM_body T.d__law_arms.fn sc__law_arms hg_fn fun cdv A outer s H E hr tk hp => ?_
  exact pssm_cons (ss 4 sc__law_arms.nd (pem_lstN (pam_nil))) (pssm_cons (psm_if (ptm_cmp (op_eq2 hr.units) opEq_ok (nomark _) (mv 1) (pem_str)) (pssm_one (psm_for hp rfl (pim_range1 (by rfl) T.z_range (pam_cons (pem_op op_addS opAddS_ok (pem_int) (pem_call k__law_draw T.d__law_draw hr tk (by rfl) (pam_cons (mv 0) (pam_cons (pem_if (ptm_cmp (op_eq2 hr.units) opEq_ok (nomark _) (pem_call k__law_draw T.d__law_draw hr tk (by rfl) (pam_cons (mv 0) (pam_cons (pem_int) (pam_nil)))) (pem_int)) (pem_int) (pem_int)) (pam_nil))))) (pam_nil))) (gn 5 sc__law_arms.nd) (pssm_cons (ss 6 sc__law_arms.nd (pem_lstN (pam_nil))) (pssm_cons (ss 7 sc__law_arms.nd (pem_callTy call_tuple_of fTuple_ok (by rfl) T.z_tuple (by decide +kernel) (pam_cons (pem_lc (own := [("j", 8)]) rfl sc__law_arms.nd (pim_range1 (by rfl) T.z_range (pam_cons (pem_call k__law_draw T.d__law_draw hr tk (by rfl) (pam_cons (mv 0) (pam_cons (pem_int) (pam_nil)))) (pam_nil))) (blkOk_by (N := ["state", "op", "deep", "room", "arms", "k", "taken", "names", "j"]) (sc := defScope s__law_arms) (by decide +kernel)) (by decide) (fun _ _ _ _ _ => gn 8 sc__law_arms.nd) (fun _ _ _ _ _ => ptsm_nil) (fun _ _ _ _ _ => pem_call k__law_fresh T.d__law_fresh hr takesW0 (by rfl) (pam_cons (mv 0) (pam_cons (pem_bl) (pam_cons (mv 6) (pam_nil)))))) (pam_nil)))) (pssm_one (psm_expr (pem_bm PySem.F.plainAttrs_list PySem.F.slot_list_append PySem.F.type_list_append mt_append fAppend_ok (mv 4) (pam_cons (pem_tup (pam_cons (pem_call k__law_name T.d__law_name hr tk (by rfl) (pam_cons (mv 0) (pam_cons (pem_bl) (pam_nil)))) (pam_cons (mv 7) (pam_cons (pem_call ih__law_expr T.d__law_expr hr tk (by rfl) (pam_cons (mv 0) (pam_cons (pem_op op_sub opSub_ok (mv 2) (pem_int)) (pam_cons (mv 3) (pam_nil))))) (pam_nil))))) (pam_nil))))))))) (pssm_nil)) (pssm_cons (psm_if (ptm_cmp (op_eq2 hr.units) opEq_ok (nomark _) (mv 1) (pem_str)) (pssm_one (psm_for hp rfl (pim_range1 (by rfl) T.z_range (pam_cons (pem_call k__law_draw T.d__law_draw hr tk (by rfl) (pam_cons (mv 0) (pam_cons (pem_if (ptm_cmp (op_eq2 hr.units) opEq_ok (nomark _) (pem_call k__law_draw T.d__law_draw hr tk (by rfl) (pam_cons (mv 0) (pam_cons (pem_int) (pam_nil)))) (pem_int)) (pem_int) (pem_int)) (pam_nil)))) (pam_nil))) (gn 5 sc__law_arms.nd) (pssm_one (psm_expr (pem_bm PySem.F.plainAttrs_list PySem.F.slot_list_append PySem.F.type_list_append mt_append fAppend_ok (mv 4) (pam_cons (pem_tup (pam_cons (pem_call k__law_exception T.d__law_exception hr tk (by rfl) (pam_cons (mv 0) (pam_nil))) (pam_cons (pem_tup (pam_cons (pem_call k__law_name T.d__law_name hr tk (by rfl) (pam_cons (mv 0) (pam_cons (pem_bl) (pam_nil)))) (pam_nil))) (pam_cons (pem_call ih__law_expr T.d__law_expr hr tk (by rfl) (pam_cons (mv 0) (pam_cons (pem_op op_sub opSub_ok (mv 2) (pem_int)) (pam_cons (mv 3) (pam_nil))))) (pam_nil))))) (pam_nil))))))) (pssm_nil)) (pssm_one (psm_ret (pem_callTy call_tuple_of fTuple_ok (by rfl) T.z_tuple (by decide +kernel) (pam_cons (mv 4) (pam_nil)))))))
theorem st__law_expr (T : Top w K mg) (k__law_draw : FnM P w K mg base 10 T.a__law_draw T.f__law_draw ["state", "many"] m__law_draw) (k__law_fresh : FnM P w K mg base 10 T.a__law_fresh T.f__law_fresh ["state", "great", "taken"] m__law_fresh) (k__law_name : FnM P w K mg base 10 T.a__law_name T.f__law_name ["state", "great"] m__law_name) (k__law_exception : FnM P w K mg base 10 T.a__law_exception T.f__law_exception ["state"] m__law_exception) (k__law_counts : FnM P w K mg base 10 T.a__law_counts T.f__law_counts [] m__law_counts) (k__law_leaf : FnM P w K mg base 10 T.a__law_leaf T.f__law_leaf ["state"] m__law_leaf) (k__law_kind : FnM P w K mg base 10 T.a__law_kind T.f__law_kind ["state", "deep"] (m__law_kind 8)) (n : Nat) (ih__law_arms : FnM P w K mg base (10 + n) T.a__law_arms T.f__law_arms ["state", "op", "deep", "room"] (m__law_arms n)) (ih__law_expr : FnM P w K mg base (10 + n) T.a__law_expr T.f__law_expr ["state", "deep", "room"] (m__law_expr n)) : FnM P w K mg base (10 + (n + 1)) T.a__law_expr T.f__law_expr ["state", "deep", "room"] (m__law_expr (n + 1)) := by
  replace k__law_counts := k__law_counts.mono (Nat.le_add_right 10 n)
  replace k__law_draw := k__law_draw.mono (Nat.le_add_right 10 n)
  replace k__law_leaf := k__law_leaf.mono (Nat.le_add_right 10 n)
  replace k__law_name := k__law_name.mono (Nat.le_add_right 10 n)
  replace k__law_kind := k__law_kind.mono (Nat.le_add_right 10 n)
  replace k__law_exception := k__law_exception.mono (Nat.le_add_right 10 n)
  refine fnM_body T.d__law_expr.fn sc__law_expr hg_fn fun cdv A outer s H E hr tk hp => ?_
  exact pssm_cons (psm_augIx iop_sub opSub_ok (mv 2) (pem_int) (pem_int)) (pssm_cons (ss 3 sc__law_expr.nd (pem_call0 k__law_counts T.d__law_counts hr tk (by rfl))) (pssm_cons (ss 4 sc__law_expr.nd (pem_callB (call_sortedD rfl) fSorted_ok (by rfl) T.z_sorted (by decide +kernel) (pam_cons (mv 3) (pam_nil)))) (pssm_cons (ss 5 sc__law_expr.nd (pem_call k__law_draw T.d__law_draw hr tk (by rfl) (pam_cons (mv 0) (pam_cons (pem_int) (pam_nil))))) (pssm_cons (psm_if (ptm_w (pwm_or (ptm_cmp op_lt2 opCmp_ok (nomark _) (mv 1) (pem_int)) (pwm_or (ptm_cmp op_lt2 opCmp_ok (nomark _) (pem_ix (ix_all2 hr.units) opIx_ok (mv 2) (pem_int) (fun _ _ => rfl)) (pem_int)) (pwm_or1 (ptm_cmp op_ge2 opCmp_ok (nomark _) (mv 5) (pem_callB call_len2 fLen_ok (by rfl) T.z_len (by decide +kernel) (pam_cons (mv 4) (pam_nil)))))))) (pssm_one (psm_ret (pem_call k__law_leaf T.d__law_leaf hr tk (by rfl) (pam_cons (mv 0) (pam_nil))))) (pssm_nil)) (pssm_cons (ss 6 sc__law_expr.nd (pem_ix (ix_all2 hr.units) opIx_ok (mv 4) (mv 5) (fun _ _ => rfl))) (pssm_cons (ss 7 sc__law_expr.nd (pem_ix (ix_all2 hr.units) opIx_ok (mv 3) (mv 6) (fun _ _ => rfl))) (pssm_cons (psm_if (ptm_cmp op_in2 opIn_ok rfl (mv 6) (pem_tup (pam_cons (pem_str) (pam_cons (pem_str) (pam_cons (pem_str) (pam_nil)))))) (pssm_one (sa 7 sc__law_expr.nd iop_addI opAddI_ok (pem_call k__law_draw T.d__law_draw hr tk (by rfl) (pam_cons (mv 0) (pam_cons (pem_if (ptm_cmp (op_eq2 hr.units) opEq_ok (nomark _) (pem_call k__law_draw T.d__law_draw hr tk (by rfl) (pam_cons (mv 0) (pam_cons (pem_int) (pam_nil)))) (pem_int)) (pem_op op_sub opSub_ok (pem_int) (mv 7)) (pem_int)) (pam_nil)))))) (pssm_nil)) (pssm_cons (ss 8 sc__law_expr.nd (pem_non)) (pssm_cons (psm_if (ptm_w (pwm_or (ptm_cmp (op_eq2 hr.units) opEq_ok (nomark _) (mv 6) (pem_str)) (pwm_or1 (ptm_cmp (op_eq2 hr.units) opEq_ok (nomark _) (mv 6) (pem_str))))) (pssm_one (ss 8 sc__law_expr.nd (pem_call k__law_name T.d__law_name hr tk (by rfl) (pam_cons (mv 0) (pam_cons (pem_bl) (pam_nil)))))) (pssm_nil)) (pssm_cons (psm_if (ptm_cmp (op_eq2 hr.units) opEq_ok (nomark _) (mv 6) (pem_str)) (pssm_one (ss 8 sc__law_expr.nd (pem_call k__law_name T.d__law_name hr tk (by rfl) (pam_cons (mv 0) (pam_cons (pem_bl) (pam_nil)))))) (pssm_nil)) (pssm_cons (psm_if (ptm_cmp (op_eq2 hr.units) opEq_ok (nomark _) (mv 6) (pem_str)) (pssm_one (ss 8 sc__law_expr.nd (pem_call k__law_draw T.d__law_draw hr tk (by rfl) (pam_cons (mv 0) (pam_cons (pem_int) (pam_nil)))))) (pssm_nil)) (pssm_cons (psm_if (ptm_cmp (op_eq2 hr.units) opEq_ok (nomark _) (mv 6) (pem_str)) (pssm_one (ss 8 sc__law_expr.nd (pem_tup (pam_cons (pem_call k__law_name T.d__law_name hr tk (by rfl) (pam_cons (mv 0) (pam_cons (pem_bl) (pam_nil)))) (pam_cons (pem_call k__law_kind T.d__law_kind hr tk (by rfl) (pam_cons (mv 0) (pam_cons (pem_int) (pam_nil)))) (pam_nil)))))) (pssm_nil)) (pssm_cons (psm_if (ptm_cmp (op_eq2 hr.units) opEq_ok (nomark _) (mv 6) (pem_str)) (pssm_one (ss 8 sc__law_expr.nd (pem_tup (pam_cons (pem_call k__law_exception T.d__law_exception hr tk (by rfl) (pam_cons (mv 0) (pam_nil))) (pam_cons (pem_call k__law_kind T.d__law_kind hr tk (by rfl) (pam_cons (mv 0) (pam_cons (pem_int) (pam_nil)))) (pam_nil)))))) (pssm_nil)) (pssm_cons (ss 9 sc__law_expr.nd (pem_callTy call_tuple_of fTuple_ok (by rfl) T.z_tuple (by decide +kernel) (pam_cons (pem_lc (own := [("k", 10)]) rfl sc__law_expr.nd (pim_range1 (by rfl) T.z_range (pam_cons (mv 7) (pam_nil))) (blkOk_by (N := ["state", "deep", "room", "counts", "ops", "pick", "op", "many", "info", "kids", "k"]) (sc := defScope s__law_expr) (by decide +kernel)) (by decide) (fun _ _ _ _ _ => gn 10 sc__law_expr.nd) (fun _ _ _ _ _ => ptsm_nil) (fun _ _ _ _ _ => pem_call ih__law_expr T.d__law_expr hr takesW0 (by rfl) (pam_cons (mv 0) (pam_cons (pem_op op_sub opSub_ok (mv 1) (pem_int)) (pam_cons (mv 2) (pam_nil)))))) (pam_nil)))) (pssm_one (psm_ret (pem_tup (pam_cons (mv 6) (pam_cons (pem_int) (pam_cons (mv 8) (pam_cons (mv 9) (pam_cons (pem_call ih__law_arms T.d__law_arms hr tk (by rfl) (pam_cons (mv 0) (pam_cons (mv 6) (pam_cons (mv 1) (pam_cons (mv 2) (pam_nil)))))) (pam_nil)))))))))))))))))))))))
theorem al__law_arms (T : Top w K mg) (k__law_draw : FnM P w K mg base 10 T.a__law_draw T.f__law_draw ["state", "many"] m__law_draw) (k__law_fresh : FnM P w K mg base 10 T.a__law_fresh T.f__law_fresh ["state", "great", "taken"] m__law_fresh) (k__law_name : FnM P w K mg base 10 T.a__law_name T.f__law_name ["state", "great"] m__law_name) (k__law_exception : FnM P w K mg base 10 T.a__law_exception T.f__law_exception ["state"] m__law_exception) (k__law_counts : FnM P w K mg base 10 T.a__law_counts T.f__law_counts [] m__law_counts) (k__law_leaf : FnM P w K mg base 10 T.a__law_leaf T.f__law_leaf ["state"] m__law_leaf) (k__law_kind : FnM P w K mg base 10 T.a__law_kind T.f__law_kind ["state", "deep"] (m__law_kind 8)) : ∀ n : Nat, FnM P w K mg base (10 + n) T.a__law_arms T.f__law_arms ["state", "op", "deep", "room"] (m__law_arms n) ∧ FnM P w K mg base (10 + n) T.a__law_expr T.f__law_expr ["state", "deep", "room"] (m__law_expr n)
  | 0 => ⟨fnM_stuck, fnM_stuck⟩
  | n + 1 => let ⟨i__law_arms, i__law_expr⟩ := al__law_arms T k__law_draw k__law_fresh k__law_name k__law_exception k__law_counts k__law_leaf k__law_kind n; ⟨st__law_arms T k__law_draw k__law_fresh k__law_name k__law_exception k__law_counts k__law_leaf k__law_kind n i__law_arms i__law_expr, st__law_expr T k__law_draw k__law_fresh k__law_name k__law_exception k__law_counts k__law_leaf k__law_kind n i__law_arms i__law_expr⟩
theorem ok__law_tree (T : Top w K mg) (k__law_draw : FnM P w K mg base 22 T.a__law_draw T.f__law_draw ["state", "many"] m__law_draw) (k__law_fresh : FnM P w K mg base 22 T.a__law_fresh T.f__law_fresh ["state", "great", "taken"] m__law_fresh) (k__law_kind : FnM P w K mg base 22 T.a__law_kind T.f__law_kind ["state", "deep"] (m__law_kind 8)) (k__law_expr : FnM P w K mg base 22 T.a__law_expr T.f__law_expr ["state", "deep", "room"] (m__law_expr 12)) : FnM P w K mg base 23 T.a__law_tree T.f__law_tree ["state"] m__law_tree := by
  refine fnM_body T.d__law_tree.fn sc__law_tree hg_fn fun cdv A outer s H E hr tk hp => ?_
  exact pssm_cons (ss 1 sc__law_tree.nd (pem_lstN (pam_nil))) (pssm_cons (ss 2 sc__law_tree.nd (pem_lstN (pam_nil))) (pssm_cons (ss 3 sc__law_tree.nd (pem_lstN (pam_cons (pem_str) (pam_nil)))) (pssm_cons (ss 4 sc__law_tree.nd (pem_lstN (pam_nil))) (pssm_cons (psm_for hp rfl (pim_range1 (by rfl) T.z_range (pam_cons (pem_call k__law_draw T.d__law_draw hr tk (by rfl) (pam_cons (mv 0) (pam_cons (pem_int) (pam_nil)))) (pam_nil))) (gn 5 sc__law_tree.nd) (pssm_cons (ss 6 sc__law_tree.nd (pem_call k__law_fresh T.d__law_fresh hr tk (by rfl) (pam_cons (mv 0) (pam_cons (pem_bl) (pam_cons (mv 1) (pam_nil)))))) (pssm_cons (ss 7 sc__law_tree.nd (pem_lstN (pam_nil))) (pssm_cons (psm_for hp rfl (pim_range1 (by rfl) T.z_range (pam_cons (pem_op op_addS opAddS_ok (pem_int) (pem_call k__law_draw T.d__law_draw hr tk (by rfl) (pam_cons (mv 0) (pam_cons (pem_if (ptm_cmp (op_eq2 hr.units) opEq_ok (nomark _) (pem_call k__law_draw T.d__law_draw hr tk (by rfl) (pam_cons (mv 0) (pam_cons (pem_int) (pam_nil)))) (pem_int)) (pem_int) (pem_int)) (pam_nil))))) (pam_nil))) (gn 8 sc__law_tree.nd) (pssm_cons (ss 9 sc__law_tree.nd (pem_callTy call_tuple_of fTuple_ok (by rfl) T.z_tuple (by decide +kernel) (pam_cons (pem_lc (own := [("m", 17)]) rfl sc__law_tree.nd (pim_range1 (by rfl) T.z_range (pam_cons (pem_call k__law_draw T.d__law_draw hr tk (by rfl) (pam_cons (mv 0) (pam_cons (pem_if (ptm_cmp (op_eq2 hr.units) opEq_ok (nomark _) (pem_call k__law_draw T.d__law_draw hr tk (by rfl) (pam_cons (mv 0) (pam_cons (pem_int) (pam_nil)))) (pem_int)) (pem_int) (pem_int)) (pam_nil)))) (pam_nil))) (blkOk_by (N := ["state", "sorts", "cons", "names", "datas", "k", "name", "rows", "j", "fields", "exceptions", "functions", "many", "taken", "kinds", "parameters", "result", "m", "kind"]) (sc := defScope s__law_tree) (by decide +kernel)) (by decide) (fun _ _ _ _ _ => gn 17 sc__law_tree.nd) (fun _ _ _ _ _ => ptsm_nil) (fun _ _ _ _ _ => pem_call k__law_kind T.d__law_kind hr takesW0 (by rfl) (pam_cons (mv 0) (pam_cons (pem_int) (pam_nil))))) (pam_nil)))) (pssm_one (psm_expr (pem_bm PySem.F.plainAttrs_list PySem.F.slot_list_append PySem.F.type_list_append mt_append fAppend_ok (mv 7) (pam_cons (pem_tup (pam_cons (pem_call k__law_fresh T.d__law_fresh hr tk (by rfl) (pam_cons (mv 0) (pam_cons (pem_bl) (pam_cons (mv 2) (pam_nil))))) (pam_cons (mv 9) (pam_nil)))) (pam_nil))))))) (pssm_one (psm_expr (pem_bm PySem.F.plainAttrs_list PySem.F.slot_list_append PySem.F.type_list_append mt_append fAppend_ok (mv 4) (pam_cons (pem_tup (pam_cons (mv 6) (pam_cons (pem_callTy call_tuple_of fTuple_ok (by rfl) T.z_tuple (by decide +kernel) (pam_cons (mv 7) (pam_nil))) (pam_nil)))) (pam_nil))))))))) (pssm_cons (ss 10 sc__law_tree.nd (pem_lstN (pam_nil))) (pssm_cons (psm_for hp rfl (pim_range1 (by rfl) T.z_range (pam_cons (pem_call k__law_draw T.d__law_draw hr tk (by rfl) (pam_cons (mv 0) (pam_cons (pem_int) (pam_nil)))) (pam_nil))) (gn 5 sc__law_tree.nd) (pssm_one (psm_expr (pem_call k__law_fresh T.d__law_fresh hr tk (by rfl) (pam_cons (mv 0) (pam_cons (pem_bl) (pam_cons (mv 10) (pam_nil)))))))) (pssm_cons (ss 11 sc__law_tree.nd (pem_lstN (pam_nil))) (pssm_cons (ss 12 sc__law_tree.nd (pem_call k__law_draw T.d__law_draw hr tk (by rfl) (pam_cons (mv 0) (pam_cons (pem_int) (pam_nil))))) (pssm_cons (psm_for hp rfl (pim_range1 (by rfl) T.z_range (pam_cons (pem_op op_addS opAddS_ok (mv 12) (pem_int)) (pam_nil))) (gn 5 sc__law_tree.nd) (pssm_cons (ss 13 sc__law_tree.nd (pem_lstN (pam_nil))) (pssm_cons (ss 6 sc__law_tree.nd (pem_str)) (pssm_cons (psm_if (ptm_cmp op_lt2 opCmp_ok (nomark _) (mv 5) (mv 12)) (pssm_one (ss 6 sc__law_tree.nd (pem_call k__law_fresh T.d__law_fresh hr tk (by rfl) (pam_cons (mv 0) (pam_cons (pem_bl) (pam_cons (mv 3) (pam_nil))))))) (pssm_nil)) (pssm_cons (psm_setLc (i := 14) (own := [("j", 8)]) rfl sc__law_tree.nd rfl rfl (sw_true rfl rfl rfl (by decide +kernel)) (pim_range1 (by rfl) T.z_range (pam_cons (pem_call k__law_draw T.d__law_draw hr tk (by rfl) (pam_cons (mv 0) (pam_cons (pem_int) (pam_nil)))) (pam_nil))) (blkOk_by (N := ["state", "sorts", "cons", "names", "datas", "k", "name", "rows", "j", "fields", "exceptions", "functions", "many", "taken", "kinds", "parameters", "result", "m", "kind"]) (sc := defScope s__law_tree) (by decide +kernel)) (by decide) (fun _ _ _ _ _ => gn 8 sc__law_tree.nd) (fun _ _ _ _ _ => ptsm_nil) (fun _ _ _ _ _ => pem_if (ptm_cmp (op_eq2 hr.units) opEq_ok (nomark _) (mv 5) (mv 12)) (pem_tup (pam_cons (pem_str) (pam_cons (pem_tup (pam_nil)) (pam_cons (pem_int) (pam_nil))))) (pem_call k__law_kind T.d__law_kind hr takesW0 (by rfl) (pam_cons (mv 0) (pam_cons (pem_int) (pam_nil)))))) (pssm_cons (ss 15 sc__law_tree.nd (pem_callTy call_tuple_of fTuple_ok (by rfl) T.z_tuple (by decide +kernel) (pam_cons (pem_lc (own := [("kind", 18)]) rfl sc__law_tree.nd (pim_src (mv 14)) (blkOk_by (N := ["state", "sorts", "cons", "names", "datas", "k", "name", "rows", "j", "fields", "exceptions", "functions", "many", "taken", "kinds", "parameters", "result", "m", "kind"]) (sc := defScope s__law_tree) (by decide +kernel)) (by decide) (fun _ _ _ _ _ => gn 18 sc__law_tree.nd) (fun _ _ _ _ _ => ptsm_nil) (fun _ _ _ _ _ => pem_tup (pam_cons (pem_call k__law_fresh T.d__law_fresh hr takesW0 (by rfl) (pam_cons (mv 0) (pam_cons (pem_bl) (pam_cons (mv 13) (pam_nil))))) (pam_cons (mv 18) (pam_nil))))) (pam_nil)))) (pssm_cons (ss 16 sc__law_tree.nd (pem_if (ptm_cmp (op_eq2 hr.units) opEq_ok (nomark _) (mv 5) (mv 12)) (pem_tup (pam_cons (pem_str) (pam_cons (pem_tup (pam_nil)) (pam_cons (pem_int) (pam_nil))))) (pem_call k__law_kind T.d__law_kind hr tk (by rfl) (pam_cons (mv 0) (pam_cons (pem_int) (pam_nil)))))) (pssm_one (psm_expr (pem_bm PySem.F.plainAttrs_list PySem.F.slot_list_append PySem.F.type_list_append mt_append fAppend_ok (mv 11) (pam_cons (pem_tup (pam_cons (mv 6) (pam_cons (pem_int) (pam_cons (mv 15) (pam_cons (mv 16) (pam_cons (pem_call k__law_expr T.d__law_expr hr tk (by rfl) (pam_cons (mv 0) (pam_cons (pem_op op_addS opAddS_ok (pem_int) (pem_call k__law_draw T.d__law_draw hr tk (by rfl) (pam_cons (mv 0) (pam_cons (pem_int) (pam_nil))))) (pam_cons (pem_lstN (pam_cons (pem_int) (pam_nil))) (pam_nil))))) (pam_nil))))))) (pam_nil)))))))))))) (pssm_one (psm_ret (pem_tup (pam_cons (pem_callTy call_tuple_of fTuple_ok (by rfl) T.z_tuple (by decide +kernel) (pam_cons (mv 4) (pam_nil))) (pam_cons (pem_op op_addS opAddS_ok (pem_tup (pam_cons (pem_str) (pam_cons (pem_str) (pam_cons (pem_str) (pam_nil))))) (pem_callTy call_tuple_of fTuple_ok (by rfl) T.z_tuple (by decide +kernel) (pam_cons (mv 10) (pam_nil)))) (pam_cons (pem_callTy call_tuple_of fTuple_ok (by rfl) T.z_tuple (by decide +kernel) (pam_cons (mv 11) (pam_nil))) (pam_nil))))))))))))))))
theorem st__law_kind_words (T : Top w K mg) (n : Nat) (ih__law_kind_words : FnM P w K mg base (0 + n) T.a__law_kind_words T.f__law_kind_words ["kind", "words"] (m__law_kind_words n)) : FnM P w K mg base (0 + (n + 1)) T.a__law_kind_words T.f__law_kind_words ["kind", "words"] (m__law_kind_words (n + 1)) := by
  refine fnM_body T.d__law_kind_words.fn sc__law_kind_words hg_fn fun cdv A outer s H E hr tk hp => ?_
  exact pssm_one (psm_if (ptm_cmp op_in2 opIn_ok rfl (pem_ix (ix_all2 hr.units) opIx_ok (mv 0) (pem_int) (fun _ _ => rfl)) (pem_tup (pam_cons (pem_str) (pam_cons (pem_str) (pam_cons (pem_str) (pam_nil)))))) (pssm_one (psm_expr (pem_bm PySem.F.plainAttrs_list PySem.F.slot_list_append PySem.F.type_list_append mt_append fAppend_ok (mv 1) (pam_cons (pem_ix (ix_all2 hr.units) opIx_ok (mv 0) (pem_int) (fun _ _ => rfl)) (pam_nil))))) (pssm_one (psm_if (ptm_cmp (op_eq2 hr.units) opEq_ok (nomark _) (pem_ix (ix_all2 hr.units) opIx_ok (mv 0) (pem_int) (fun _ _ => rfl)) (pem_str)) (pssm_one (psm_expr (pem_bm PySem.F.plainAttrs_list PySem.F.slot_list_append PySem.F.type_list_append mt_append fAppend_ok (mv 1) (pam_cons (pem_ix (ix_all2 hr.units) opIx_ok (mv 0) (pem_int) (fun _ _ => rfl)) (pam_nil))))) (pssm_cons (psm_expr (pem_bm PySem.F.plainAttrs_list PySem.F.slot_list_append PySem.F.type_list_append mt_append fAppend_ok (mv 1) (pam_cons (pem_str) (pam_nil)))) (pssm_cons (psm_expr (pem_bm PySem.F.plainAttrs_list PySem.F.slot_list_append PySem.F.type_list_append mt_append fAppend_ok (mv 1) (pam_cons (pem_ix (ix_all2 hr.units) opIx_ok (mv 0) (pem_int) (fun _ _ => rfl)) (pam_nil)))) (pssm_cons (psm_for hp rfl (pim_src (pem_ix (ix_all2 hr.units) opIx_ok (mv 0) (pem_int) (fun _ _ => rfl))) (gn 2 sc__law_kind_words.nd) (pssm_one (psm_expr (pem_call ih__law_kind_words T.d__law_kind_words hr tk (by rfl) (pam_cons (mv 2) (pam_cons (mv 1) (pam_nil))))))) (pssm_one (psm_expr (pem_bm PySem.F.plainAttrs_list PySem.F.slot_list_append PySem.F.type_list_append mt_append fAppend_ok (mv 1) (pam_cons (pem_str) (pam_nil)))))))))))
theorem al__law_kind_words (T : Top w K mg) : ∀ n : Nat, FnM P w K mg base (0 + n) T.a__law_kind_words T.f__law_kind_words ["kind", "words"] (m__law_kind_words n)
  | 0 => fnM_stuck
  | n + 1 => st__law_kind_words T  n (al__law_kind_words T  n)
theorem ok__law_head (T : Top w K mg) (k__law_kind_words : FnM P w K mg base 8 T.a__law_kind_words T.f__law_kind_words ["kind", "words"] (m__law_kind_words 8)) : FnM P w K mg base 9 T.a__law_head T.f__law_head ["expr", "words"] m__law_head := by
  refine fnM_body T.d__law_head.fn sc__law_head hg_fn fun cdv A outer s H E hr tk hp => ?_
  exact pssm_cons (psm_asg (mv 0) (pgm_tup rfl (pgsm_cons (gn 2 sc__law_head.nd) (pgsm_cons (gn 3 sc__law_head.nd) (pgsm_cons (gn 4 sc__law_head.nd) (pgsm_cons (gn 5 sc__law_head.nd) (pgsm_cons (gn 6 sc__law_head.nd) (pgsm_nil)))))))) (pssm_cons (psm_expr (pem_bm PySem.F.plainAttrs_list PySem.F.slot_list_append PySem.F.type_list_append mt_append fAppend_ok (mv 1) (pam_cons (pem_str) (pam_nil)))) (pssm_cons (psm_expr (pem_bm PySem.F.plainAttrs_list PySem.F.slot_list_append PySem.F.type_list_append mt_append fAppend_ok (mv 1) (pam_cons (pem_if (ptm_cmp op_in2 opIn_ok rfl (mv 2) (pem_tup (pam_cons (pem_str) (pam_cons (pem_str) (pam_nil))))) (mv 4) (mv 2)) (pam_nil)))) (pssm_cons (psm_if (ptm_cmp (op_eq2 hr.units) opEq_ok (nomark _) (mv 2) (pem_str)) (pssm_one (psm_expr (pem_bm PySem.F.plainAttrs_list PySem.F.slot_list_append PySem.F.type_list_append mt_append fAppend_ok (mv 1) (pam_cons (pem_callTy call_str3 fStr3_ok (by rfl) T.z_str (by decide +kernel) (pam_cons (mv 4) (pam_nil))) (pam_nil))))) (pssm_nil)) (pssm_cons (psm_if (ptm_cmp (op_eq2 hr.units) opEq_ok (nomark _) (mv 2) (pem_str)) (pssm_one (psm_expr (pem_bm PySem.F.plainAttrs_list PySem.F.slot_list_append PySem.F.type_list_append mt_append fAppend_ok (mv 1) (pam_cons (mv 4) (pam_nil))))) (pssm_nil)) (pssm_cons (psm_if (ptm_cmp (op_eq2 hr.units) opEq_ok (nomark _) (mv 2) (pem_str)) (pssm_cons (psm_expr (pem_bm PySem.F.plainAttrs_list PySem.F.slot_list_append PySem.F.type_list_append mt_append fAppend_ok (mv 1) (pam_cons (pem_str) (pam_nil)))) (pssm_cons (psm_expr (pem_bm PySem.F.plainAttrs_list PySem.F.slot_list_append PySem.F.type_list_append mt_append fAppend_ok (mv 1) (pam_cons (pem_ix (ix_all2 hr.units) opIx_ok (mv 4) (pem_int) (fun _ _ => rfl)) (pam_nil)))) (pssm_cons (psm_expr (pem_call k__law_kind_words T.d__law_kind_words hr tk (by rfl) (pam_cons (pem_ix (ix_all2 hr.units) opIx_ok (mv 4) (pem_int) (fun _ _ => rfl)) (pam_cons (mv 1) (pam_nil))))) (pssm_one (psm_expr (pem_bm PySem.F.plainAttrs_list PySem.F.slot_list_append PySem.F.type_list_append mt_append fAppend_ok (mv 1) (pam_cons (pem_str) (pam_nil)))))))) (pssm_nil)) (pssm_one (psm_if (ptm_cmp (op_eq2 hr.units) opEq_ok (nomark _) (mv 2) (pem_str)) (pssm_cons (psm_expr (pem_bm PySem.F.plainAttrs_list PySem.F.slot_list_append PySem.F.type_list_append mt_append fAppend_ok (mv 1) (pam_cons (pem_ix (ix_all2 hr.units) opIx_ok (mv 4) (pem_int) (fun _ _ => rfl)) (pam_nil)))) (pssm_one (psm_expr (pem_call k__law_kind_words T.d__law_kind_words hr tk (by rfl) (pam_cons (pem_ix (ix_all2 hr.units) opIx_ok (mv 4) (pem_int) (fun _ _ => rfl)) (pam_cons (mv 1) (pam_nil))))))) (pssm_nil))))))))
theorem st__law_expr_words (T : Top w K mg) (k__law_head : FnM P w K mg base 9 T.a__law_head T.f__law_head ["expr", "words"] m__law_head) (n : Nat) (ih__law_expr_words : FnM P w K mg base (9 + n) T.a__law_expr_words T.f__law_expr_words ["expr", "words"] (m__law_expr_words n)) : FnM P w K mg base (9 + (n + 1)) T.a__law_expr_words T.f__law_expr_words ["expr", "words"] (m__law_expr_words (n + 1)) := by
  replace k__law_head := k__law_head.mono (Nat.le_add_right 9 n)
  refine fnM_body T.d__law_expr_words.fn sc__law_expr_words hg_fn fun cdv A outer s H E hr tk hp => ?_
  exact pssm_cons (psm_asg (mv 0) (pgm_tup rfl (pgsm_cons (gn 2 sc__law_expr_words.nd) (pgsm_cons (gn 3 sc__law_expr_words.nd) (pgsm_cons (gn 4 sc__law_expr_words.nd) (pgsm_cons (gn 5 sc__law_expr_words.nd) (pgsm_cons (gn 6 sc__law_expr_words.nd) (pgsm_nil)))))))) (pssm_cons (ss 3 sc__law_expr_words.nd (pem_callB call_len2 fLen_ok (by rfl) T.z_len (by decide +kernel) (pam_cons (mv 1) (pam_nil)))) (pssm_cons (psm_if (ptm_cmp (op_eq2 hr.units) opEq_ok (nomark _) (mv 2) (pem_str)) (pssm_one (psm_expr (pem_bm PySem.F.plainAttrs_list PySem.F.slot_list_append PySem.F.type_list_append mt_append fAppend_ok (mv 1) (pam_cons (pem_callTy call_str3 fStr3_ok (by rfl) T.z_str (by decide +kernel) (pam_cons (mv 4) (pam_nil))) (pam_nil))))) (pssm_one (psm_if (ptm_cmp (op_eq2 hr.units) opEq_ok (nomark _) (mv 2) (pem_str)) (pssm_one (psm_expr (pem_bm PySem.F.plainAttrs_list PySem.F.slot_list_append PySem.F.type_list_append mt_append fAppend_ok (mv 1) (pam_cons (pem_if (ptm_val (mv 4)) (pem_str) (pem_str)) (pam_nil))))) (pssm_one (psm_if (ptm_cmp (op_eq2 hr.units) opEq_ok (nomark _) (mv 2) (pem_str)) (pssm_one (psm_expr (pem_bm PySem.F.plainAttrs_list PySem.F.slot_list_append PySem.F.type_list_append mt_append fAppend_ok (mv 1) (pam_cons (pem_str) (pam_nil))))) (pssm_one (psm_if (ptm_cmp (op_eq2 hr.units) opEq_ok (nomark _) (mv 2) (pem_str)) (pssm_one (psm_expr (pem_bm PySem.F.plainAttrs_list PySem.F.slot_list_append PySem.F.type_list_append mt_append fAppend_ok (mv 1) (pam_cons (mv 4) (pam_nil))))) (pssm_nil)))))))) (pssm_cons (psm_if (ptm_cmp op_in2 opIn_ok rfl (mv 2) (pem_tup (pam_cons (pem_str) (pam_cons (pem_str) (pam_cons (pem_str) (pam_cons (pem_str) (pam_nil))))))) (pssm_one (psm_ret (pem_tup (pam_cons (mv 2) (pam_cons (mv 3) (pam_cons (mv 4) (pam_cons (pem_tup (pam_nil)) (pam_cons (pem_tup (pam_nil)) (pam_nil))))))))) (pssm_nil)) (pssm_cons (psm_expr (pem_call k__law_head T.d__law_head hr tk (by rfl) (pam_cons (mv 0) (pam_cons (mv 1) (pam_nil))))) (pssm_cons (ss 5 sc__law_expr_words.nd (pem_callTy call_tuple_of fTuple_ok (by rfl) T.z_tuple (by decide +kernel) (pam_cons (pem_lc (own := [("kid", 10)]) rfl sc__law_expr_words.nd (pim_src (mv 5)) (blkOk_by (N := ["expr", "words", "op", "at", "info", "kids", "arms", "rows", "arm", "name", "kid"]) (sc := defScope s__law_expr_words) (by decide +kernel)) (by decide) (fun _ _ _ _ _ => gn 10 sc__law_expr_words.nd) (fun _ _ _ _ _ => ptsm_nil) (fun _ _ _ _ _ => pem_call ih__law_expr_words T.d__law_expr_words hr takesW0 (by rfl) (pam_cons (mv 10) (pam_cons (mv 1) (pam_nil))))) (pam_nil)))) (pssm_cons (ss 7 sc__law_expr_words.nd (pem_lstN (pam_nil))) (pssm_cons (psm_for hp rfl (pim_src (mv 6)) (gn 8 sc__law_expr_words.nd) (pssm_cons (psm_expr (pem_bm PySem.F.plainAttrs_list PySem.F.slot_list_append PySem.F.type_list_append mt_append fAppend_ok (mv 1) (pam_cons (pem_str) (pam_nil)))) (pssm_cons (psm_if (ptm_cmp (op_eq2 hr.units) opEq_ok (nomark _) (mv 2) (pem_str)) (pssm_one (psm_expr (pem_bm PySem.F.plainAttrs_list PySem.F.slot_list_append PySem.F.type_list_append mt_append fAppend_ok (mv 1) (pam_cons (pem_str) (pam_nil))))) (pssm_nil)) (pssm_cons (psm_expr (pem_bm PySem.F.plainAttrs_list PySem.F.slot_list_append PySem.F.type_list_append mt_append fAppend_ok (mv 1) (pam_cons (pem_ix (ix_all2 hr.units) opIx_ok (mv 8) (pem_int) (fun _ _ => rfl)) (pam_nil)))) (pssm_cons (psm_for hp rfl (pim_src (pem_ix (ix_all2 hr.units) opIx_ok (mv 8) (pem_int) (fun _ _ => rfl))) (gn 9 sc__law_expr_words.nd) (pssm_one (psm_expr (pem_bm PySem.F.plainAttrs_list PySem.F.slot_list_append PySem.F.type_list_append mt_append fAppend_ok (mv 1) (pam_cons (mv 9) (pam_nil)))))) (pssm_cons (psm_if (ptm_cmp (op_eq2 hr.units) opEq_ok (nomark _) (mv 2) (pem_str)) (pssm_one (psm_expr (pem_bm PySem.F.plainAttrs_list PySem.F.slot_list_append PySem.F.type_list_append mt_append fAppend_ok (mv 1) (pam_cons (pem_str) (pam_nil))))) (pssm_nil)) (pssm_cons (psm_expr (pem_bm PySem.F.plainAttrs_list PySem.F.slot_list_append PySem.F.type_list_append mt_append fAppend_ok (mv 7) (pam_cons (pem_tup (pam_cons (pem_ix (ix_all2 hr.units) opIx_ok (mv 8) (pem_int) (fun _ _ => rfl)) (pam_cons (pem_ix (ix_all2 hr.units) opIx_ok (mv 8) (pem_int) (fun _ _ => rfl)) (pam_cons (pem_call ih__law_expr_words T.d__law_expr_words hr tk (by rfl) (pam_cons (pem_ix (ix_all2 hr.units) opIx_ok (mv 8) (pem_int) (fun _ _ => rfl)) (pam_cons (mv 1) (pam_nil)))) (pam_nil))))) (pam_nil)))) (pssm_one (psm_expr (pem_bm PySem.F.plainAttrs_list PySem.F.slot_list_append PySem.F.type_list_append mt_append fAppend_ok (mv 1) (pam_cons (pem_str) (pam_nil)))))))))))) (pssm_cons (psm_expr (pem_bm PySem.F.plainAttrs_list PySem.F.slot_list_append PySem.F.type_list_append mt_append fAppend_ok (mv 1) (pam_cons (pem_str) (pam_nil)))) (pssm_one (psm_ret (pem_tup (pam_cons (mv 2) (pam_cons (mv 3) (pam_cons (mv 4) (pam_cons (mv 5) (pam_cons (pem_callTy call_tuple_of fTuple_ok (by rfl) T.z_tuple (by decide +kernel) (pam_cons (mv 7) (pam_nil))) (pam_nil)))))))))))))))))
theorem al__law_expr_words (T : Top w K mg) (k__law_head : FnM P w K mg base 9 T.a__law_head T.f__law_head ["expr", "words"] m__law_head) : ∀ n : Nat, FnM P w K mg base (9 + n) T.a__law_expr_words T.f__law_expr_words ["expr", "words"] (m__law_expr_words n)
  | 0 => fnM_stuck
  | n + 1 => st__law_expr_words T k__law_head n (al__law_expr_words T k__law_head n)
theorem ok__law_data_words (T : Top w K mg) (k__law_kind_words : FnM P w K mg base 8 T.a__law_kind_words T.f__law_kind_words ["kind", "words"] (m__law_kind_words 8)) : FnM P w K mg base 9 T.a__law_data_words T.f__law_data_words ["data", "words"] m__law_data_words := by
  refine fnM_body T.d__law_data_words.fn sc__law_data_words hg_fn fun cdv A outer s H E hr tk hp => ?_
  exact pssm_cons (psm_expr (pem_bm PySem.F.plainAttrs_list PySem.F.slot_list_append PySem.F.type_list_append mt_append fAppend_ok (mv 1) (pam_cons (pem_str) (pam_nil)))) (pssm_cons (psm_expr (pem_bm PySem.F.plainAttrs_list PySem.F.slot_list_append PySem.F.type_list_append mt_append fAppend_ok (mv 1) (pam_cons (pem_str) (pam_nil)))) (pssm_cons (psm_expr (pem_bm PySem.F.plainAttrs_list PySem.F.slot_list_append PySem.F.type_list_append mt_append fAppend_ok (mv 1) (pam_cons (pem_ix (ix_all2 hr.units) opIx_ok (mv 0) (pem_int) (fun _ _ => rfl)) (pam_nil)))) (pssm_cons (psm_for hp rfl (pim_src (pem_ix (ix_all2 hr.units) opIx_ok (mv 0) (pem_int) (fun _ _ => rfl))) (pgm_tup rfl (pgsm_cons (gn 2 sc__law_data_words.nd) (pgsm_cons (gn 3 sc__law_data_words.nd) (pgsm_nil)))) (pssm_cons (psm_expr (pem_bm PySem.F.plainAttrs_list PySem.F.slot_list_append PySem.F.type_list_append mt_append fAppend_ok (mv 1) (pam_cons (pem_str) (pam_nil)))) (pssm_cons (psm_expr (pem_bm PySem.F.plainAttrs_list PySem.F.slot_list_append PySem.F.type_list_append mt_append fAppend_ok (mv 1) (pam_cons (mv 2) (pam_nil)))) (pssm_cons (psm_for hp rfl (pim_src (mv 3)) (gn 4 sc__law_data_words.nd) (pssm_one (psm_expr (pem_call k__law_kind_words T.d__law_kind_words hr tk (by rfl) (pam_cons (mv 4) (pam_cons (mv 1) (pam_nil))))))) (pssm_one (psm_expr (pem_bm PySem.F.plainAttrs_list PySem.F.slot_list_append PySem.F.type_list_append mt_append fAppend_ok (mv 1) (pam_cons (pem_str) (pam_nil))))))))) (pssm_one (psm_expr (pem_bm PySem.F.plainAttrs_list PySem.F.slot_list_append PySem.F.type_list_append mt_append fAppend_ok (mv 1) (pam_cons (pem_str) (pam_nil))))))))
theorem ok__law_function_words (T : Top w K mg) (k__law_kind_words : FnM P w K mg base 17 T.a__law_kind_words T.f__law_kind_words ["kind", "words"] (m__law_kind_words 8)) (k__law_expr_words : FnM P w K mg base 17 T.a__law_expr_words T.f__law_expr_words ["expr", "words"] (m__law_expr_words 8)) : FnM P w K mg base 18 T.a__law_function_words T.f__law_function_words ["function", "words"] m__law_function_words := by
  refine fnM_body T.d__law_function_words.fn sc__law_function_words hg_fn fun cdv A outer s H E hr tk hp => ?_
  exact pssm_cons (psm_asg (mv 0) (pgm_tup rfl (pgsm_cons (gn 2 sc__law_function_words.nd) (pgsm_cons (gn 3 sc__law_function_words.nd) (pgsm_cons (gn 4 sc__law_function_words.nd) (pgsm_cons (gn 5 sc__law_function_words.nd) (pgsm_cons (gn 6 sc__law_function_words.nd) (pgsm_nil)))))))) (pssm_cons (psm_expr (pem_bm PySem.F.plainAttrs_list PySem.F.slot_list_append PySem.F.type_list_append mt_append fAppend_ok (mv 1) (pam_cons (pem_str) (pam_nil)))) (pssm_cons (psm_expr (pem_bm PySem.F.plainAttrs_list PySem.F.slot_list_append PySem.F.type_list_append mt_append fAppend_ok (mv 1) (pam_cons (pem_str) (pam_nil)))) (pssm_cons (ss 3 sc__law_function_words.nd (pem_callB call_len2 fLen_ok (by rfl) T.z_len (by decide +kernel) (pam_cons (mv 1) (pam_nil)))) (pssm_cons (psm_expr (pem_bm PySem.F.plainAttrs_list PySem.F.slot_list_append PySem.F.type_list_append mt_append fAppend_ok (mv 1) (pam_cons (mv 2) (pam_nil)))) (pssm_cons (psm_expr (pem_bm PySem.F.plainAttrs_list PySem.F.slot_list_append PySem.F.type_list_append mt_append fAppend_ok (mv 1) (pam_cons (pem_str) (pam_nil)))) (pssm_cons (psm_for hp rfl (pim_src (mv 4)) (gn 7 sc__law_function_words.nd) (pssm_cons (psm_expr (pem_bm PySem.F.plainAttrs_list PySem.F.slot_list_append PySem.F.type_list_append mt_append fAppend_ok (mv 1) (pam_cons (pem_str) (pam_nil)))) (pssm_cons (psm_expr (pem_bm PySem.F.plainAttrs_list PySem.F.slot_list_append PySem.F.type_list_append mt_append fAppend_ok (mv 1) (pam_cons (pem_ix (ix_all2 hr.units) opIx_ok (mv 7) (pem_int) (fun _ _ => rfl)) (pam_nil)))) (pssm_cons (psm_expr (pem_call k__law_kind_words T.d__law_kind_words hr tk (by rfl) (pam_cons (pem_ix (ix_all2 hr.units) opIx_ok (mv 7) (pem_int) (fun _ _ => rfl)) (pam_cons (mv 1) (pam_nil))))) (pssm_one (psm_expr (pem_bm PySem.F.plainAttrs_list PySem.F.slot_list_append PySem.F.type_list_append mt_append fAppend_ok (mv 1) (pam_cons (pem_str) (pam_nil))))))))) (pssm_cons (psm_expr (pem_bm PySem.F.plainAttrs_list PySem.F.slot_list_append PySem.F.type_list_append mt_append fAppend_ok (mv 1) (pam_cons (pem_str) (pam_nil)))) (pssm_cons (psm_expr (pem_call k__law_kind_words T.d__law_kind_words hr tk (by rfl) (pam_cons (mv 5) (pam_cons (mv 1) (pam_nil))))) (pssm_cons (ss 6 sc__law_function_words.nd (pem_call k__law_expr_words T.d__law_expr_words hr tk (by rfl) (pam_cons (mv 6) (pam_cons (mv 1) (pam_nil))))) (pssm_cons (psm_expr (pem_bm PySem.F.plainAttrs_list PySem.F.slot_list_append PySem.F.type_list_append mt_append fAppend_ok (mv 1) (pam_cons (pem_str) (pam_nil)))) (pssm_one (psm_ret (pem_tup (pam_cons (mv 2) (pam_cons (mv 3) (pam_cons (mv 4) (pam_cons (mv 5) (pam_cons (mv 6) (pam_nil)))))))))))))))))))
theorem ok__law_words (T : Top w K mg) (k__law_data_words : FnM P w K mg base 18 T.a__law_data_words T.f__law_data_words ["data", "words"] m__law_data_words) (k__law_function_words : FnM P w K mg base 18 T.a__law_function_words T.f__law_function_words ["function", "words"] m__law_function_words) : FnM P w K mg base 19 T.a__law_words T.f__law_words ["tree", "words"] m__law_words := by
  refine fnM_body T.d__law_words.fn sc__law_words hg_fn fun cdv A outer s H E hr tk hp => ?_
  exact pssm_cons (psm_for hp rfl (pim_src (pem_ix (ix_all2 hr.units) opIx_ok (mv 0) (pem_int) (fun _ _ => rfl))) (gn 2 sc__law_words.nd) (pssm_one (psm_expr (pem_call k__law_data_words T.d__law_data_words hr tk (by rfl) (pam_cons (mv 2) (pam_cons (mv 1) (pam_nil))))))) (pssm_cons (psm_for hp rfl (pim_src (pem_slice sl_all opSl_ok (pem_ix (ix_all2 hr.units) opIx_ok (mv 0) (pem_int) (fun _ _ => rfl)) (pom_some (pem_int)) (pom_none))) (gn 3 sc__law_words.nd) (pssm_one (psm_for hp rfl (pim_src (pem_tup (pam_cons (pem_str) (pam_cons (pem_str) (pam_cons (mv 3) (pam_cons (pem_str) (pam_nil))))))) (gn 4 sc__law_words.nd) (pssm_one (psm_expr (pem_bm PySem.F.plainAttrs_list PySem.F.slot_list_append PySem.F.type_list_append mt_append fAppend_ok (mv 1) (pam_cons (mv 4) (pam_nil)))))))) (pssm_one (psm_ret (pem_tup (pam_cons (pem_ix (ix_all2 hr.units) opIx_ok (mv 0) (pem_int) (fun _ _ => rfl)) (pam_cons (pem_ix (ix_all2 hr.units) opIx_ok (mv 0) (pem_int) (fun _ _ => rfl)) (pam_cons (pem_callTy call_tuple_of fTuple_ok (by rfl) T.z_tuple (by decide +kernel) (pam_cons (pem_lc (own := [("function", 5)]) rfl sc__law_words.nd (pim_src (pem_ix (ix_all2 hr.units) opIx_ok (mv 0) (pem_int) (fun _ _ => rfl))) (blkOk_by (N := ["tree", "words", "data", "name", "word", "function"]) (sc := defScope s__law_words) (by decide +kernel)) (by decide) (fun _ _ _ _ _ => gn 5 sc__law_words.nd) (fun _ _ _ _ _ => ptsm_nil) (fun _ _ _ _ _ => pem_call k__law_function_words T.d__law_function_words hr takesW0 (by rfl) (pam_cons (mv 5) (pam_cons (mv 1) (pam_nil))))) (pam_nil))) (pam_nil))))))))
theorem ok__law_canonical (T : Top w K mg) : FnM P w K mg base 1 T.a__law_canonical T.f__law_canonical ["words"] m__law_canonical := by
  refine fnM_body T.d__law_canonical.fn sc__law_canonical hg_fn fun cdv A outer s H E hr tk hp => ?_
  exact pssm_cons (ss 1 sc__law_canonical.nd (pem_str)) (pssm_cons (ss 2 sc__law_canonical.nd (pem_int)) (pssm_cons (ss 3 sc__law_canonical.nd (pem_str)) (pssm_cons (psm_for hp rfl (pim_src (mv 0)) (gn 4 sc__law_canonical.nd) (pssm_cons (psm_if (ptm_w (pwm_and (ptm_cmp op_gt2 opCmp_ok (nomark _) (mv 2) (pem_int)) (pwm_and (ptm_cmp (op_ne2 hr.units) opNe_ok (nomark _) (mv 3) (pem_str)) (pwm_and1 (ptm_cmp (op_ne2 hr.units) opNe_ok (nomark _) (mv 4) (pem_str)))))) (pssm_one (ss 1 sc__law_canonical.nd (pem_op op_addS opAddS_ok (mv 1) (pem_str)))) (pssm_nil)) (pssm_cons (ss 1 sc__law_canonical.nd (pem_op op_addS opAddS_ok (mv 1) (mv 4))) (pssm_cons (psm_if (ptm_cmp (op_eq2 hr.units) opEq_ok (nomark _) (mv 4) (pem_str)) (pssm_one (sa 2 sc__law_canonical.nd iop_addI opAddI_ok (pem_int))) (pssm_nil)) (pssm_cons (psm_if (ptm_cmp (op_eq2 hr.units) opEq_ok (nomark _) (mv 4) (pem_str)) (pssm_cons (sa 2 sc__law_canonical.nd iop_sub opSub_ok (pem_int)) (pssm_one (psm_if (ptm_cmp (op_eq2 hr.units) opEq_ok (nomark _) (mv 2) (pem_int)) (pssm_one (ss 1 sc__law_canonical.nd (pem_op op_addS opAddS_ok (mv 1) (pem_str)))) (pssm_nil)))) (pssm_nil)) (pssm_one (ss 3 sc__law_canonical.nd (mv 4)))))))) (pssm_one (psm_ret (mv 1))))))
theorem st__law_nodes (T : Top w K mg) (n : Nat) (ih__law_nodes : FnM P w K mg base (0 + n) T.a__law_nodes T.f__law_nodes ["expr"] (m__law_nodes n)) : FnM P w K mg base (0 + (n + 1)) T.a__law_nodes T.f__law_nodes ["expr"] (m__law_nodes (n + 1)) := by
  refine fnM_body T.d__law_nodes.fn sc__law_nodes hg_fn fun cdv A outer s H E hr tk hp => ?_
  exact pssm_one (psm_ret (pem_op op_addS opAddS_ok (pem_op op_addS opAddS_ok (pem_int) (pem_callB (cr_sum rfl) fSum_ok (by rfl) T.z_sum (by decide +kernel) (pam_cons (pem_lc (own := [("kid", 1)]) rfl sc__law_nodes.nd (pim_src (pem_ix (ix_all2 hr.units) opIx_ok (mv 0) (pem_int) (fun _ _ => rfl))) (blkOk_by (N := ["expr", "kid", "arm"]) (sc := defScope s__law_nodes) (by decide +kernel)) (by decide) (fun _ _ _ _ _ => gn 1 sc__law_nodes.nd) (fun _ _ _ _ _ => ptsm_nil) (fun _ _ _ _ _ => pem_call ih__law_nodes T.d__law_nodes hr takesW0 (by rfl) (pam_cons (mv 1) (pam_nil)))) (pam_nil)))) (pem_callB (cr_sum rfl) fSum_ok (by rfl) T.z_sum (by decide +kernel) (pam_cons (pem_lc (own := [("arm", 2)]) rfl sc__law_nodes.nd (pim_src (pem_ix (ix_all2 hr.units) opIx_ok (mv 0) (pem_int) (fun _ _ => rfl))) (blkOk_by (N := ["expr", "kid", "arm"]) (sc := defScope s__law_nodes) (by decide +kernel)) (by decide) (fun _ _ _ _ _ => gn 2 sc__law_nodes.nd) (fun _ _ _ _ _ => ptsm_nil) (fun _ _ _ _ _ => pem_call ih__law_nodes T.d__law_nodes hr takesW0 (by rfl) (pam_cons (pem_ix (ix_all2 hr.units) opIx_ok (mv 2) (pem_int) (fun _ _ => rfl)) (pam_nil)))) (pam_nil)))))
theorem al__law_nodes (T : Top w K mg) : ∀ n : Nat, FnM P w K mg base (0 + n) T.a__law_nodes T.f__law_nodes ["expr"] (m__law_nodes n)
  | 0 => fnM_stuck
  | n + 1 => st__law_nodes T  n (al__law_nodes T  n)
theorem ok_law (T : Top w K mg) (k__law_start : FnM P w K mg base 25 T.a__law_start T.f__law_start ["script"] m__law_start) (k__law_tree : FnM P w K mg base 25 T.a__law_tree T.f__law_tree ["state"] m__law_tree) (k__law_words : FnM P w K mg base 25 T.a__law_words T.f__law_words ["tree", "words"] m__law_words) (k__law_nodes : FnM P w K mg base 25 T.a__law_nodes T.f__law_nodes ["expr"] (m__law_nodes 8)) (k__law_canonical : FnM P w K mg base 25 T.a__law_canonical T.f__law_canonical ["words"] m__law_canonical) (k__law_draw : FnM P w K mg base 25 T.a__law_draw T.f__law_draw ["state", "many"] m__law_draw) (k_write_program : FnM P w K mg base 25 T.a_write_program T.f_write_program ["tree"] m_write_program) : FnM P w K mg base 26 T.a_law T.f_law ["script"] m_law := by
  refine fnM_body T.d_law.fn sc_law hg_fn fun cdv A outer s H E hr tk hp => ?_
  exact pssm_cons (ss 1 sc_law.nd (pem_call k__law_start T.d__law_start hr tk (by rfl) (pam_cons (mv 0) (pam_nil)))) (pssm_cons (ss 2 sc_law.nd (pem_call k__law_tree T.d__law_tree hr tk (by rfl) (pam_cons (mv 1) (pam_nil)))) (pssm_cons (ss 3 sc_law.nd (pem_lstN (pam_nil))) (pssm_cons (ss 4 sc_law.nd (pem_call k__law_words T.d__law_words hr tk (by rfl) (pam_cons (mv 2) (pam_cons (mv 3) (pam_nil))))) (pssm_cons (psm_if (ptm_w (pwm_or (ptm_cmp op_gt2 opCmp_ok (nomark _) (pem_callB (cr_sum rfl) fSum_ok (by rfl) T.z_sum (by decide +kernel) (pam_cons (pem_lc (own := [("function", 6)]) rfl sc_law.nd (pim_src (pem_ix (ix_all2 hr.units) opIx_ok (mv 2) (pem_int) (fun _ _ => rfl))) (blkOk_by (N := ["script", "state", "tree", "words", "numbered", "actual", "function", "word"]) (sc := defScope s_law) (by decide +kernel)) (by decide) (fun _ _ _ _ _ => gn 6 sc_law.nd) (fun _ _ _ _ _ => ptsm_nil) (fun _ _ _ _ _ => pem_call k__law_nodes T.d__law_nodes hr takesW0 (by rfl) (pam_cons (pem_ix (ix_all2 hr.units) opIx_ok (mv 6) (pem_int) (fun _ _ => rfl)) (pam_nil)))) (pam_nil))) (pem_int)) (pwm_or1 (ptm_cmp op_gt2 opCmp_ok (nomark _) (pem_callB (cr_sum rfl) fSum_ok (by rfl) T.z_sum (by decide +kernel) (pam_cons (pem_lc (own := [("word", 7)]) rfl sc_law.nd (pim_src (mv 3)) (blkOk_by (N := ["script", "state", "tree", "words", "numbered", "actual", "function", "word"]) (sc := defScope s_law) (by decide +kernel)) (by decide) (fun _ _ _ _ _ => gn 7 sc_law.nd) (fun _ _ _ _ _ => ptsm_nil) (fun _ _ _ _ _ => pem_callB call_len2 fLen_ok (by rfl) T.z_len (by decide +kernel) (pam_cons (mv 7) (pam_nil)))) (pam_nil))) (pem_int))))) (pssm_one (psm_ret (pem_bl))) (pssm_nil)) (pssm_cons (psm_if (ptm_cmp op_gt2 opCmp_ok (nomark _) (pem_callB call_len2 fLen_ok (by rfl) T.z_len (by decide +kernel) (pam_cons (pem_call k__law_canonical T.d__law_canonical hr tk (by rfl) (pam_cons (mv 3) (pam_nil))) (pam_nil))) (pem_int)) (pssm_one (psm_ret (pem_bl))) (pssm_nil)) (pssm_cons (psm_if (ptm_cmp (op_eq2 hr.units) opEq_ok (nomark _) (pem_call k__law_draw T.d__law_draw hr tk (by rfl) (pam_cons (mv 1) (pam_cons (pem_int) (pam_nil)))) (pem_int)) (pssm_one (ss 2 sc_law.nd (mv 4))) (pssm_nil)) (pssm_cons (ss 5 sc_law.nd (pem_call k_write_program T.d_write_program hr tk (by rfl) (pam_cons (mv 2) (pam_nil)))) (pssm_one (psm_ret (pem_and (pem_callB call_isi fIsi_ok (by rfl) T.z_isinstance (by decide +kernel) (pam_cons (mv 5) (pam_cons (mty "str" T.z_str (by decide +kernel)) (pam_nil)))) (pem_one (pem_cmp (op_eq2 hr.units) opEq_ok (nomark _) (mv 5) (pem_call k__law_canonical T.d__law_canonical hr tk (by rfl) (pam_cons (mv 3) (pam_nil)))))))))))))))
/-- all of them -/
theorem ok_all (T : Top w K mg) : FnM P w K mg base 26 T.a_law T.f_law ["script"] m_law := by
  have h__form := ok__form (P := P) (w := w) (base := base) T 
  have h0__kind_text := al__kind_text (P := P) (w := w) (base := base) T (h__form.mono (by decide)) 8
  have h__kind_text := h0__kind_text
  have h__constructor_text := ok__constructor_text (P := P) (w := w) (base := base) T (h__form.mono (by decide)) (h__kind_text.mono (by decide))
  have h_data_text := ok_data_text (P := P) (w := w) (base := base) T (h__form.mono (by decide)) (h__constructor_text.mono (by decide))
  have h_exception_text := ok_exception_text (P := P) (w := w) (base := base) T (h__form.mono (by decide))
  have h__parameter_text := ok__parameter_text (P := P) (w := w) (base := base) T (h__form.mono (by decide)) (h__kind_text.mono (by decide))
  have h__first_parts := ok__first_parts (P := P) (w := w) (base := base) T (h__parameter_text.mono (by decide)) (h__kind_text.mono (by decide))
  have h__word_text := ok__word_text (P := P) (w := w) (base := base) T 
  have h0__expression_text := al__expression_text (P := P) (w := w) (base := base) T (h__word_text.mono (by decide)) (h__first_parts.mono (by decide)) (h__form.mono (by decide)) 12
  obtain ⟨h__expression_text, h__arm_text⟩ := h0__expression_text
  have h_function_text := ok_function_text (P := P) (w := w) (base := base) T (h__parameter_text.mono (by decide)) (h__form.mono (by decide)) (h__expression_text.mono (by decide)) (h__kind_text.mono (by decide))
  have h_write_program := ok_write_program (P := P) (w := w) (base := base) T (h_data_text.mono (by decide)) (h_exception_text.mono (by decide)) (h_function_text.mono (by decide))
  have h__law_start := ok__law_start (P := P) (w := w) (base := base) T 
  have h__law_draw := ok__law_draw (P := P) (w := w) (base := base) T 
  have h__law_reserved := ok__law_reserved (P := P) (w := w) (base := base) T 
  have h__law_name := ok__law_name (P := P) (w := w) (base := base) T (h__law_draw.mono (by decide)) (h__law_reserved.mono (by decide))
  have h__law_fresh := ok__law_fresh (P := P) (w := w) (base := base) T (h__law_name.mono (by decide))
  have h0__law_kind := al__law_kind (P := P) (w := w) (base := base) T (h__law_draw.mono (by decide)) (h__law_name.mono (by decide)) 8
  have h__law_kind := h0__law_kind
  have h__law_exception := ok__law_exception (P := P) (w := w) (base := base) T (h__law_draw.mono (by decide)) (h__law_name.mono (by decide))
  have h__law_leaf := ok__law_leaf (P := P) (w := w) (base := base) T (h__law_draw.mono (by decide)) (h__law_name.mono (by decide))
  have h__law_counts := ok__law_counts (P := P) (w := w) (base := base) T 
  have h0__law_arms := al__law_arms (P := P) (w := w) (base := base) T (h__law_draw.mono (by decide)) (h__law_fresh.mono (by decide)) (h__law_name.mono (by decide)) (h__law_exception.mono (by decide)) (h__law_counts.mono (by decide)) (h__law_leaf.mono (by decide)) (h__law_kind.mono (by decide)) 12
  obtain ⟨h__law_arms, h__law_expr⟩ := h0__law_arms
  have h__law_tree := ok__law_tree (P := P) (w := w) (base := base) T (h__law_draw.mono (by decide)) (h__law_fresh.mono (by decide)) (h__law_kind.mono (by decide)) (h__law_expr.mono (by decide))
  have h0__law_kind_words := al__law_kind_words (P := P) (w := w) (base := base) T  8
  have h__law_kind_words := h0__law_kind_words
  have h__law_head := ok__law_head (P := P) (w := w) (base := base) T (h__law_kind_words.mono (by decide))
  have h0__law_expr_words := al__law_expr_words (P := P) (w := w) (base := base) T (h__law_head.mono (by decide)) 8
  have h__law_expr_words := h0__law_expr_words
  have h__law_data_words := ok__law_data_words (P := P) (w := w) (base := base) T (h__law_kind_words.mono (by decide))
  have h__law_function_words := ok__law_function_words (P := P) (w := w) (base := base) T (h__law_kind_words.mono (by decide)) (h__law_expr_words.mono (by decide))
  have h__law_words := ok__law_words (P := P) (w := w) (base := base) T (h__law_data_words.mono (by decide)) (h__law_function_words.mono (by decide))
  have h__law_canonical := ok__law_canonical (P := P) (w := w) (base := base) T 
  have h0__law_nodes := al__law_nodes (P := P) (w := w) (base := base) T  8
  have h__law_nodes := h0__law_nodes
  have h_law := ok_law (P := P) (w := w) (base := base) T (h__law_start.mono (by decide)) (h__law_tree.mono (by decide)) (h__law_words.mono (by decide)) (h__law_nodes.mono (by decide)) (h__law_canonical.mono (by decide)) (h__law_draw.mono (by decide)) (h_write_program.mono (by decide))
  exact h_law
end
section
theorem law_facts {l : PySem.W.OpenLaw} {w : World} {K : PySem.W.Frag} {h : Heap} {mg : Str → Option Value} {fa : Addr} (X : K.In h) (G : h.Ns mainGlobals mg) (hfa : mg "law" = some (.ref fa))
    {f0 : Addr} {od0 an0 : Option Addr} {sl0 : Array (Option Value)} {oc0 kV0 dc0 pm0 cd0 ct0 : Value}
    (a0 : PySem.W.nsIn K mainGlobals "_form" = some (some (.ref f0))) (l0 : K.lookup f0 = some ⟨oc0, od0, .func (PySem.W.fnOf "_form" "_form" (defArgs s__form) (defBody s__form) (defScope s__form) .none kV0 dc0 pm0 an0 cd0 ct0), sl0⟩) (c0 : PySem.W.codeIn K cd0 "_form" = true) (k0 : PySem.W.keepIn K (.ref f0) = true)
    {f1 : Addr} {od1 an1 : Option Addr} {sl1 : Array (Option Value)} {oc1 kV1 dc1 pm1 cd1 ct1 : Value}
    (a1 : PySem.W.nsIn K mainGlobals "_kind_text" = some (some (.ref f1))) (l1 : K.lookup f1 = some ⟨oc1, od1, .func (PySem.W.fnOf "_kind_text" "_kind_text" (defArgs s__kind_text) (defBody s__kind_text) (defScope s__kind_text) .none kV1 dc1 pm1 an1 cd1 ct1), sl1⟩) (c1 : PySem.W.codeIn K cd1 "_kind_text" = true) (k1 : PySem.W.keepIn K (.ref f1) = true)
    {f2 : Addr} {od2 an2 : Option Addr} {sl2 : Array (Option Value)} {oc2 kV2 dc2 pm2 cd2 ct2 : Value}
    (a2 : PySem.W.nsIn K mainGlobals "_constructor_text" = some (some (.ref f2))) (l2 : K.lookup f2 = some ⟨oc2, od2, .func (PySem.W.fnOf "_constructor_text" "_constructor_text" (defArgs s__constructor_text) (defBody s__constructor_text) (defScope s__constructor_text) .none kV2 dc2 pm2 an2 cd2 ct2), sl2⟩) (c2 : PySem.W.codeIn K cd2 "_constructor_text" = true) (k2 : PySem.W.keepIn K (.ref f2) = true)
    {f3 : Addr} {od3 an3 : Option Addr} {sl3 : Array (Option Value)} {oc3 kV3 dc3 pm3 cd3 ct3 : Value}
    (a3 : PySem.W.nsIn K mainGlobals "data_text" = some (some (.ref f3))) (l3 : K.lookup f3 = some ⟨oc3, od3, .func (PySem.W.fnOf "data_text" "data_text" (defArgs s_data_text) (defBody s_data_text) (defScope s_data_text) .none kV3 dc3 pm3 an3 cd3 ct3), sl3⟩) (c3 : PySem.W.codeIn K cd3 "data_text" = true) (k3 : PySem.W.keepIn K (.ref f3) = true)
    {f4 : Addr} {od4 an4 : Option Addr} {sl4 : Array (Option Value)} {oc4 kV4 dc4 pm4 cd4 ct4 : Value}
    (a4 : PySem.W.nsIn K mainGlobals "exception_text" = some (some (.ref f4))) (l4 : K.lookup f4 = some ⟨oc4, od4, .func (PySem.W.fnOf "exception_text" "exception_text" (defArgs s_exception_text) (defBody s_exception_text) (defScope s_exception_text) .none kV4 dc4 pm4 an4 cd4 ct4), sl4⟩) (c4 : PySem.W.codeIn K cd4 "exception_text" = true) (k4 : PySem.W.keepIn K (.ref f4) = true)
    {f5 : Addr} {od5 an5 : Option Addr} {sl5 : Array (Option Value)} {oc5 kV5 dc5 pm5 cd5 ct5 : Value}
    (a5 : PySem.W.nsIn K mainGlobals "_parameter_text" = some (some (.ref f5))) (l5 : K.lookup f5 = some ⟨oc5, od5, .func (PySem.W.fnOf "_parameter_text" "_parameter_text" (defArgs s__parameter_text) (defBody s__parameter_text) (defScope s__parameter_text) .none kV5 dc5 pm5 an5 cd5 ct5), sl5⟩) (c5 : PySem.W.codeIn K cd5 "_parameter_text" = true) (k5 : PySem.W.keepIn K (.ref f5) = true)
    {f6 : Addr} {od6 an6 : Option Addr} {sl6 : Array (Option Value)} {oc6 kV6 dc6 pm6 cd6 ct6 : Value}
    (a6 : PySem.W.nsIn K mainGlobals "_first_parts" = some (some (.ref f6))) (l6 : K.lookup f6 = some ⟨oc6, od6, .func (PySem.W.fnOf "_first_parts" "_first_parts" (defArgs s__first_parts) (defBody s__first_parts) (defScope s__first_parts) .none kV6 dc6 pm6 an6 cd6 ct6), sl6⟩) (c6 : PySem.W.codeIn K cd6 "_first_parts" = true) (k6 : PySem.W.keepIn K (.ref f6) = true)
    {f7 : Addr} {od7 an7 : Option Addr} {sl7 : Array (Option Value)} {oc7 kV7 dc7 pm7 cd7 ct7 : Value}
    (a7 : PySem.W.nsIn K mainGlobals "_word_text" = some (some (.ref f7))) (l7 : K.lookup f7 = some ⟨oc7, od7, .func (PySem.W.fnOf "_word_text" "_word_text" (defArgs s__word_text) (defBody s__word_text) (defScope s__word_text) .none kV7 dc7 pm7 an7 cd7 ct7), sl7⟩) (c7 : PySem.W.codeIn K cd7 "_word_text" = true) (k7 : PySem.W.keepIn K (.ref f7) = true)
    {f8 : Addr} {od8 an8 : Option Addr} {sl8 : Array (Option Value)} {oc8 kV8 dc8 pm8 cd8 ct8 : Value}
    (a8 : PySem.W.nsIn K mainGlobals "_expression_text" = some (some (.ref f8))) (l8 : K.lookup f8 = some ⟨oc8, od8, .func (PySem.W.fnOf "_expression_text" "_expression_text" (defArgs s__expression_text) (defBody s__expression_text) (defScope s__expression_text) .none kV8 dc8 pm8 an8 cd8 ct8), sl8⟩) (c8 : PySem.W.codeIn K cd8 "_expression_text" = true) (k8 : PySem.W.keepIn K (.ref f8) = true)
    {f9 : Addr} {od9 an9 : Option Addr} {sl9 : Array (Option Value)} {oc9 kV9 dc9 pm9 cd9 ct9 : Value}
    (a9 : PySem.W.nsIn K mainGlobals "_arm_text" = some (some (.ref f9))) (l9 : K.lookup f9 = some ⟨oc9, od9, .func (PySem.W.fnOf "_arm_text" "_arm_text" (defArgs s__arm_text) (defBody s__arm_text) (defScope s__arm_text) .none kV9 dc9 pm9 an9 cd9 ct9), sl9⟩) (c9 : PySem.W.codeIn K cd9 "_arm_text" = true) (k9 : PySem.W.keepIn K (.ref f9) = true)
    {f10 : Addr} {od10 an10 : Option Addr} {sl10 : Array (Option Value)} {oc10 kV10 dc10 pm10 cd10 ct10 : Value}
    (a10 : PySem.W.nsIn K mainGlobals "function_text" = some (some (.ref f10))) (l10 : K.lookup f10 = some ⟨oc10, od10, .func (PySem.W.fnOf "function_text" "function_text" (defArgs s_function_text) (defBody s_function_text) (defScope s_function_text) .none kV10 dc10 pm10 an10 cd10 ct10), sl10⟩) (c10 : PySem.W.codeIn K cd10 "function_text" = true) (k10 : PySem.W.keepIn K (.ref f10) = true)
    {f11 : Addr} {od11 an11 : Option Addr} {sl11 : Array (Option Value)} {oc11 kV11 dc11 pm11 cd11 ct11 : Value}
    (a11 : PySem.W.nsIn K mainGlobals "write_program" = some (some (.ref f11))) (l11 : K.lookup f11 = some ⟨oc11, od11, .func (PySem.W.fnOf "write_program" "write_program" (defArgs s_write_program) (defBody s_write_program) (defScope s_write_program) .none kV11 dc11 pm11 an11 cd11 ct11), sl11⟩) (c11 : PySem.W.codeIn K cd11 "write_program" = true) (k11 : PySem.W.keepIn K (.ref f11) = true)
    {f12 : Addr} {od12 an12 : Option Addr} {sl12 : Array (Option Value)} {oc12 kV12 dc12 pm12 cd12 ct12 : Value}
    (a12 : PySem.W.nsIn K mainGlobals "_law_start" = some (some (.ref f12))) (l12 : K.lookup f12 = some ⟨oc12, od12, .func (PySem.W.fnOf "_law_start" "_law_start" (defArgs s__law_start) (defBody s__law_start) (defScope s__law_start) .none kV12 dc12 pm12 an12 cd12 ct12), sl12⟩) (c12 : PySem.W.codeIn K cd12 "_law_start" = true) (k12 : PySem.W.keepIn K (.ref f12) = true)
    {f13 : Addr} {od13 an13 : Option Addr} {sl13 : Array (Option Value)} {oc13 kV13 dc13 pm13 cd13 ct13 : Value}
    (a13 : PySem.W.nsIn K mainGlobals "_law_draw" = some (some (.ref f13))) (l13 : K.lookup f13 = some ⟨oc13, od13, .func (PySem.W.fnOf "_law_draw" "_law_draw" (defArgs s__law_draw) (defBody s__law_draw) (defScope s__law_draw) .none kV13 dc13 pm13 an13 cd13 ct13), sl13⟩) (c13 : PySem.W.codeIn K cd13 "_law_draw" = true) (k13 : PySem.W.keepIn K (.ref f13) = true)
    {f14 : Addr} {od14 an14 : Option Addr} {sl14 : Array (Option Value)} {oc14 kV14 dc14 pm14 cd14 ct14 : Value}
    (a14 : PySem.W.nsIn K mainGlobals "_law_reserved" = some (some (.ref f14))) (l14 : K.lookup f14 = some ⟨oc14, od14, .func (PySem.W.fnOf "_law_reserved" "_law_reserved" (defArgs s__law_reserved) (defBody s__law_reserved) (defScope s__law_reserved) .none kV14 dc14 pm14 an14 cd14 ct14), sl14⟩) (c14 : PySem.W.codeIn K cd14 "_law_reserved" = true) (k14 : PySem.W.keepIn K (.ref f14) = true)
    {f15 : Addr} {od15 an15 : Option Addr} {sl15 : Array (Option Value)} {oc15 kV15 dc15 pm15 cd15 ct15 : Value}
    (a15 : PySem.W.nsIn K mainGlobals "_law_name" = some (some (.ref f15))) (l15 : K.lookup f15 = some ⟨oc15, od15, .func (PySem.W.fnOf "_law_name" "_law_name" (defArgs s__law_name) (defBody s__law_name) (defScope s__law_name) .none kV15 dc15 pm15 an15 cd15 ct15), sl15⟩) (c15 : PySem.W.codeIn K cd15 "_law_name" = true) (k15 : PySem.W.keepIn K (.ref f15) = true)
    {f16 : Addr} {od16 an16 : Option Addr} {sl16 : Array (Option Value)} {oc16 kV16 dc16 pm16 cd16 ct16 : Value}
    (a16 : PySem.W.nsIn K mainGlobals "_law_fresh" = some (some (.ref f16))) (l16 : K.lookup f16 = some ⟨oc16, od16, .func (PySem.W.fnOf "_law_fresh" "_law_fresh" (defArgs s__law_fresh) (defBody s__law_fresh) (defScope s__law_fresh) .none kV16 dc16 pm16 an16 cd16 ct16), sl16⟩) (c16 : PySem.W.codeIn K cd16 "_law_fresh" = true) (k16 : PySem.W.keepIn K (.ref f16) = true)
    {f17 : Addr} {od17 an17 : Option Addr} {sl17 : Array (Option Value)} {oc17 kV17 dc17 pm17 cd17 ct17 : Value}
    (a17 : PySem.W.nsIn K mainGlobals "_law_kind" = some (some (.ref f17))) (l17 : K.lookup f17 = some ⟨oc17, od17, .func (PySem.W.fnOf "_law_kind" "_law_kind" (defArgs s__law_kind) (defBody s__law_kind) (defScope s__law_kind) .none kV17 dc17 pm17 an17 cd17 ct17), sl17⟩) (c17 : PySem.W.codeIn K cd17 "_law_kind" = true) (k17 : PySem.W.keepIn K (.ref f17) = true)
    {f18 : Addr} {od18 an18 : Option Addr} {sl18 : Array (Option Value)} {oc18 kV18 dc18 pm18 cd18 ct18 : Value}
    (a18 : PySem.W.nsIn K mainGlobals "_law_exception" = some (some (.ref f18))) (l18 : K.lookup f18 = some ⟨oc18, od18, .func (PySem.W.fnOf "_law_exception" "_law_exception" (defArgs s__law_exception) (defBody s__law_exception) (defScope s__law_exception) .none kV18 dc18 pm18 an18 cd18 ct18), sl18⟩) (c18 : PySem.W.codeIn K cd18 "_law_exception" = true) (k18 : PySem.W.keepIn K (.ref f18) = true)
    {f19 : Addr} {od19 an19 : Option Addr} {sl19 : Array (Option Value)} {oc19 kV19 dc19 pm19 cd19 ct19 : Value}
    (a19 : PySem.W.nsIn K mainGlobals "_law_leaf" = some (some (.ref f19))) (l19 : K.lookup f19 = some ⟨oc19, od19, .func (PySem.W.fnOf "_law_leaf" "_law_leaf" (defArgs s__law_leaf) (defBody s__law_leaf) (defScope s__law_leaf) .none kV19 dc19 pm19 an19 cd19 ct19), sl19⟩) (c19 : PySem.W.codeIn K cd19 "_law_leaf" = true) (k19 : PySem.W.keepIn K (.ref f19) = true)
    {f20 : Addr} {od20 an20 : Option Addr} {sl20 : Array (Option Value)} {oc20 kV20 dc20 pm20 cd20 ct20 : Value}
    (a20 : PySem.W.nsIn K mainGlobals "_law_counts" = some (some (.ref f20))) (l20 : K.lookup f20 = some ⟨oc20, od20, .func (PySem.W.fnOf "_law_counts" "_law_counts" (defArgs s__law_counts) (defBody s__law_counts) (defScope s__law_counts) .none kV20 dc20 pm20 an20 cd20 ct20), sl20⟩) (c20 : PySem.W.codeIn K cd20 "_law_counts" = true) (k20 : PySem.W.keepIn K (.ref f20) = true)
    {f21 : Addr} {od21 an21 : Option Addr} {sl21 : Array (Option Value)} {oc21 kV21 dc21 pm21 cd21 ct21 : Value}
    (a21 : PySem.W.nsIn K mainGlobals "_law_arms" = some (some (.ref f21))) (l21 : K.lookup f21 = some ⟨oc21, od21, .func (PySem.W.fnOf "_law_arms" "_law_arms" (defArgs s__law_arms) (defBody s__law_arms) (defScope s__law_arms) .none kV21 dc21 pm21 an21 cd21 ct21), sl21⟩) (c21 : PySem.W.codeIn K cd21 "_law_arms" = true) (k21 : PySem.W.keepIn K (.ref f21) = true)
    {f22 : Addr} {od22 an22 : Option Addr} {sl22 : Array (Option Value)} {oc22 kV22 dc22 pm22 cd22 ct22 : Value}
    (a22 : PySem.W.nsIn K mainGlobals "_law_expr" = some (some (.ref f22))) (l22 : K.lookup f22 = some ⟨oc22, od22, .func (PySem.W.fnOf "_law_expr" "_law_expr" (defArgs s__law_expr) (defBody s__law_expr) (defScope s__law_expr) .none kV22 dc22 pm22 an22 cd22 ct22), sl22⟩) (c22 : PySem.W.codeIn K cd22 "_law_expr" = true) (k22 : PySem.W.keepIn K (.ref f22) = true)
    {f23 : Addr} {od23 an23 : Option Addr} {sl23 : Array (Option Value)} {oc23 kV23 dc23 pm23 cd23 ct23 : Value}
    (a23 : PySem.W.nsIn K mainGlobals "_law_tree" = some (some (.ref f23))) (l23 : K.lookup f23 = some ⟨oc23, od23, .func (PySem.W.fnOf "_law_tree" "_law_tree" (defArgs s__law_tree) (defBody s__law_tree) (defScope s__law_tree) .none kV23 dc23 pm23 an23 cd23 ct23), sl23⟩) (c23 : PySem.W.codeIn K cd23 "_law_tree" = true) (k23 : PySem.W.keepIn K (.ref f23) = true)
    {f24 : Addr} {od24 an24 : Option Addr} {sl24 : Array (Option Value)} {oc24 kV24 dc24 pm24 cd24 ct24 : Value}
    (a24 : PySem.W.nsIn K mainGlobals "_law_kind_words" = some (some (.ref f24))) (l24 : K.lookup f24 = some ⟨oc24, od24, .func (PySem.W.fnOf "_law_kind_words" "_law_kind_words" (defArgs s__law_kind_words) (defBody s__law_kind_words) (defScope s__law_kind_words) .none kV24 dc24 pm24 an24 cd24 ct24), sl24⟩) (c24 : PySem.W.codeIn K cd24 "_law_kind_words" = true) (k24 : PySem.W.keepIn K (.ref f24) = true)
    {f25 : Addr} {od25 an25 : Option Addr} {sl25 : Array (Option Value)} {oc25 kV25 dc25 pm25 cd25 ct25 : Value}
    (a25 : PySem.W.nsIn K mainGlobals "_law_head" = some (some (.ref f25))) (l25 : K.lookup f25 = some ⟨oc25, od25, .func (PySem.W.fnOf "_law_head" "_law_head" (defArgs s__law_head) (defBody s__law_head) (defScope s__law_head) .none kV25 dc25 pm25 an25 cd25 ct25), sl25⟩) (c25 : PySem.W.codeIn K cd25 "_law_head" = true) (k25 : PySem.W.keepIn K (.ref f25) = true)
    {f26 : Addr} {od26 an26 : Option Addr} {sl26 : Array (Option Value)} {oc26 kV26 dc26 pm26 cd26 ct26 : Value}
    (a26 : PySem.W.nsIn K mainGlobals "_law_expr_words" = some (some (.ref f26))) (l26 : K.lookup f26 = some ⟨oc26, od26, .func (PySem.W.fnOf "_law_expr_words" "_law_expr_words" (defArgs s__law_expr_words) (defBody s__law_expr_words) (defScope s__law_expr_words) .none kV26 dc26 pm26 an26 cd26 ct26), sl26⟩) (c26 : PySem.W.codeIn K cd26 "_law_expr_words" = true) (k26 : PySem.W.keepIn K (.ref f26) = true)
    {f27 : Addr} {od27 an27 : Option Addr} {sl27 : Array (Option Value)} {oc27 kV27 dc27 pm27 cd27 ct27 : Value}
    (a27 : PySem.W.nsIn K mainGlobals "_law_data_words" = some (some (.ref f27))) (l27 : K.lookup f27 = some ⟨oc27, od27, .func (PySem.W.fnOf "_law_data_words" "_law_data_words" (defArgs s__law_data_words) (defBody s__law_data_words) (defScope s__law_data_words) .none kV27 dc27 pm27 an27 cd27 ct27), sl27⟩) (c27 : PySem.W.codeIn K cd27 "_law_data_words" = true) (k27 : PySem.W.keepIn K (.ref f27) = true)
    {f28 : Addr} {od28 an28 : Option Addr} {sl28 : Array (Option Value)} {oc28 kV28 dc28 pm28 cd28 ct28 : Value}
    (a28 : PySem.W.nsIn K mainGlobals "_law_function_words" = some (some (.ref f28))) (l28 : K.lookup f28 = some ⟨oc28, od28, .func (PySem.W.fnOf "_law_function_words" "_law_function_words" (defArgs s__law_function_words) (defBody s__law_function_words) (defScope s__law_function_words) .none kV28 dc28 pm28 an28 cd28 ct28), sl28⟩) (c28 : PySem.W.codeIn K cd28 "_law_function_words" = true) (k28 : PySem.W.keepIn K (.ref f28) = true)
    {f29 : Addr} {od29 an29 : Option Addr} {sl29 : Array (Option Value)} {oc29 kV29 dc29 pm29 cd29 ct29 : Value}
    (a29 : PySem.W.nsIn K mainGlobals "_law_words" = some (some (.ref f29))) (l29 : K.lookup f29 = some ⟨oc29, od29, .func (PySem.W.fnOf "_law_words" "_law_words" (defArgs s__law_words) (defBody s__law_words) (defScope s__law_words) .none kV29 dc29 pm29 an29 cd29 ct29), sl29⟩) (c29 : PySem.W.codeIn K cd29 "_law_words" = true) (k29 : PySem.W.keepIn K (.ref f29) = true)
    {f30 : Addr} {od30 an30 : Option Addr} {sl30 : Array (Option Value)} {oc30 kV30 dc30 pm30 cd30 ct30 : Value}
    (a30 : PySem.W.nsIn K mainGlobals "_law_canonical" = some (some (.ref f30))) (l30 : K.lookup f30 = some ⟨oc30, od30, .func (PySem.W.fnOf "_law_canonical" "_law_canonical" (defArgs s__law_canonical) (defBody s__law_canonical) (defScope s__law_canonical) .none kV30 dc30 pm30 an30 cd30 ct30), sl30⟩) (c30 : PySem.W.codeIn K cd30 "_law_canonical" = true) (k30 : PySem.W.keepIn K (.ref f30) = true)
    {f31 : Addr} {od31 an31 : Option Addr} {sl31 : Array (Option Value)} {oc31 kV31 dc31 pm31 cd31 ct31 : Value}
    (a31 : PySem.W.nsIn K mainGlobals "_law_nodes" = some (some (.ref f31))) (l31 : K.lookup f31 = some ⟨oc31, od31, .func (PySem.W.fnOf "_law_nodes" "_law_nodes" (defArgs s__law_nodes) (defBody s__law_nodes) (defScope s__law_nodes) .none kV31 dc31 pm31 an31 cd31 ct31), sl31⟩) (c31 : PySem.W.codeIn K cd31 "_law_nodes" = true) (k31 : PySem.W.keepIn K (.ref f31) = true)
    {f32 : Addr} {od32 an32 : Option Addr} {sl32 : Array (Option Value)} {oc32 kV32 dc32 pm32 cd32 ct32 : Value}
    (a32 : PySem.W.nsIn K mainGlobals "law" = some (some (.ref f32))) (l32 : K.lookup f32 = some ⟨oc32, od32, .func (PySem.W.fnOf "law" "law" (defArgs s_law) (defBody s_law) (defScope s_law) .none kV32 dc32 pm32 an32 cd32 ct32), sl32⟩) (c32 : PySem.W.codeIn K cd32 "law" = true) (k32 : PySem.W.keepIn K (.ref f32) = true)
    (z_str : PySem.W.nsIn K mainGlobals "str" = some none)
    (z_len : PySem.W.nsIn K mainGlobals "len" = some none)
    (z_int : PySem.W.nsIn K mainGlobals "int" = some none)
    (z_list : PySem.W.nsIn K mainGlobals "list" = some none)
    (z_abs : PySem.W.nsIn K mainGlobals "abs" = some none)
    (z_range : PySem.W.nsIn K mainGlobals "range" = some none)
    (z_tuple : PySem.W.nsIn K mainGlobals "tuple" = some none)
    (z_sorted : PySem.W.nsIn K mainGlobals "sorted" = some none)
    (z_sum : PySem.W.nsIn K mainGlobals "sum" = some none)
    (z_isinstance : PySem.W.nsIn K mainGlobals "isinstance" = some none)
    {u_FIRST_EXCEPTIONS : Value} (g_FIRST_EXCEPTIONS : PySem.W.nsIn K mainGlobals "FIRST_EXCEPTIONS" = some (some u_FIRST_EXCEPTIONS)) (r_FIRST_EXCEPTIONS : kRep K c_FIRST_EXCEPTIONS u_FIRST_EXCEPTIONS = true)
    : ∃ fd : FuncData, (∀ (s : Shared) (v : Value), BindsTo s fd ⟨[v], []⟩ [("script", v)]) ∧ ∀ base : Heap, K.In base → base.Ns mainGlobals mg → FnOk l.prog w K mg base (L2N.CX l.prog w) 26 fa fd ["script"] (spOf K m_law) := by
  have e := hfa.symm.trans (PySem.W.mg_of X G a32)
  cases e
  have F0 := fun_mk (st := s__form) l0 c0 k0
  have b0 := F0.binds (ps := ["parts"]) fun _ _ _ _ _ _ us hl => match us, hl with | [_], _ => rfl
  have F1 := fun_mk (st := s__kind_text) l1 c1 k1
  have b1 := F1.binds (ps := ["kind"]) fun _ _ _ _ _ _ us hl => match us, hl with | [_], _ => rfl
  have F2 := fun_mk (st := s__constructor_text) l2 c2 k2
  have b2 := F2.binds (ps := ["constructor"]) fun _ _ _ _ _ _ us hl => match us, hl with | [_], _ => rfl
  have F3 := fun_mk (st := s_data_text) l3 c3 k3
  have b3 := F3.binds (ps := ["data"]) fun _ _ _ _ _ _ us hl => match us, hl with | [_], _ => rfl
  have F4 := fun_mk (st := s_exception_text) l4 c4 k4
  have b4 := F4.binds (ps := ["name"]) fun _ _ _ _ _ _ us hl => match us, hl with | [_], _ => rfl
  have F5 := fun_mk (st := s__parameter_text) l5 c5 k5
  have b5 := F5.binds (ps := ["parameter"]) fun _ _ _ _ _ _ us hl => match us, hl with | [_], _ => rfl
  have F6 := fun_mk (st := s__first_parts) l6 c6 k6
  have b6 := F6.binds (ps := ["op", "info"]) fun _ _ _ _ _ _ us hl => match us, hl with | [_, _], _ => rfl
  have F7 := fun_mk (st := s__word_text) l7 c7 k7
  have b7 := F7.binds (ps := ["op", "info"]) fun _ _ _ _ _ _ us hl => match us, hl with | [_, _], _ => rfl
  have F8 := fun_mk (st := s__expression_text) l8 c8 k8
  have b8 := F8.binds (ps := ["expression"]) fun _ _ _ _ _ _ us hl => match us, hl with | [_], _ => rfl
  have F9 := fun_mk (st := s__arm_text) l9 c9 k9
  have b9 := F9.binds (ps := ["op", "arm"]) fun _ _ _ _ _ _ us hl => match us, hl with | [_, _], _ => rfl
  have F10 := fun_mk (st := s_function_text) l10 c10 k10
  have b10 := F10.binds (ps := ["function"]) fun _ _ _ _ _ _ us hl => match us, hl with | [_], _ => rfl
  have F11 := fun_mk (st := s_write_program) l11 c11 k11
  have b11 := F11.binds (ps := ["tree"]) fun _ _ _ _ _ _ us hl => match us, hl with | [_], _ => rfl
  have F12 := fun_mk (st := s__law_start) l12 c12 k12
  have b12 := F12.binds (ps := ["script"]) fun _ _ _ _ _ _ us hl => match us, hl with | [_], _ => rfl
  have F13 := fun_mk (st := s__law_draw) l13 c13 k13
  have b13 := F13.binds (ps := ["state", "many"]) fun _ _ _ _ _ _ us hl => match us, hl with | [_, _], _ => rfl
  have F14 := fun_mk (st := s__law_reserved) l14 c14 k14
  have b14 := F14.binds (ps := []) fun _ _ _ _ _ _ us hl => match us, hl with | [], _ => rfl
  have F15 := fun_mk (st := s__law_name) l15 c15 k15
  have b15 := F15.binds (ps := ["state", "great"]) fun _ _ _ _ _ _ us hl => match us, hl with | [_, _], _ => rfl
  have F16 := fun_mk (st := s__law_fresh) l16 c16 k16
  have b16 := F16.binds (ps := ["state", "great", "taken"]) fun _ _ _ _ _ _ us hl => match us, hl with | [_, _, _], _ => rfl
  have F17 := fun_mk (st := s__law_kind) l17 c17 k17
  have b17 := F17.binds (ps := ["state", "deep"]) fun _ _ _ _ _ _ us hl => match us, hl with | [_, _], _ => rfl
  have F18 := fun_mk (st := s__law_exception) l18 c18 k18
  have b18 := F18.binds (ps := ["state"]) fun _ _ _ _ _ _ us hl => match us, hl with | [_], _ => rfl
  have F19 := fun_mk (st := s__law_leaf) l19 c19 k19
  have b19 := F19.binds (ps := ["state"]) fun _ _ _ _ _ _ us hl => match us, hl with | [_], _ => rfl
  have F20 := fun_mk (st := s__law_counts) l20 c20 k20
  have b20 := F20.binds (ps := []) fun _ _ _ _ _ _ us hl => match us, hl with | [], _ => rfl
  have F21 := fun_mk (st := s__law_arms) l21 c21 k21
  have b21 := F21.binds (ps := ["state", "op", "deep", "room"]) fun _ _ _ _ _ _ us hl => match us, hl with | [_, _, _, _], _ => rfl
  have F22 := fun_mk (st := s__law_expr) l22 c22 k22
  have b22 := F22.binds (ps := ["state", "deep", "room"]) fun _ _ _ _ _ _ us hl => match us, hl with | [_, _, _], _ => rfl
  have F23 := fun_mk (st := s__law_tree) l23 c23 k23
  have b23 := F23.binds (ps := ["state"]) fun _ _ _ _ _ _ us hl => match us, hl with | [_], _ => rfl
  have F24 := fun_mk (st := s__law_kind_words) l24 c24 k24
  have b24 := F24.binds (ps := ["kind", "words"]) fun _ _ _ _ _ _ us hl => match us, hl with | [_, _], _ => rfl
  have F25 := fun_mk (st := s__law_head) l25 c25 k25
  have b25 := F25.binds (ps := ["expr", "words"]) fun _ _ _ _ _ _ us hl => match us, hl with | [_, _], _ => rfl
  have F26 := fun_mk (st := s__law_expr_words) l26 c26 k26
  have b26 := F26.binds (ps := ["expr", "words"]) fun _ _ _ _ _ _ us hl => match us, hl with | [_, _], _ => rfl
  have F27 := fun_mk (st := s__law_data_words) l27 c27 k27
  have b27 := F27.binds (ps := ["data", "words"]) fun _ _ _ _ _ _ us hl => match us, hl with | [_, _], _ => rfl
  have F28 := fun_mk (st := s__law_function_words) l28 c28 k28
  have b28 := F28.binds (ps := ["function", "words"]) fun _ _ _ _ _ _ us hl => match us, hl with | [_, _], _ => rfl
  have F29 := fun_mk (st := s__law_words) l29 c29 k29
  have b29 := F29.binds (ps := ["tree", "words"]) fun _ _ _ _ _ _ us hl => match us, hl with | [_, _], _ => rfl
  have F30 := fun_mk (st := s__law_canonical) l30 c30 k30
  have b30 := F30.binds (ps := ["words"]) fun _ _ _ _ _ _ us hl => match us, hl with | [_], _ => rfl
  have F31 := fun_mk (st := s__law_nodes) l31 c31 k31
  have b31 := F31.binds (ps := ["expr"]) fun _ _ _ _ _ _ us hl => match us, hl with | [_], _ => rfl
  have F32 := fun_mk (st := s_law) l32 c32 k32
  have b32 := F32.binds (ps := ["script"]) fun _ _ _ _ _ _ us hl => match us, hl with | [_], _ => rfl
  let T : Top w K mg := { a__form := f0, f__form := _, d__form := ⟨F0, PySem.W.mg_of X G a0, b0⟩, a__kind_text := f1, f__kind_text := _, d__kind_text := ⟨F1, PySem.W.mg_of X G a1, b1⟩, a__constructor_text := f2, f__constructor_text := _, d__constructor_text := ⟨F2, PySem.W.mg_of X G a2, b2⟩, a_data_text := f3, f_data_text := _, d_data_text := ⟨F3, PySem.W.mg_of X G a3, b3⟩, a_exception_text := f4, f_exception_text := _, d_exception_text := ⟨F4, PySem.W.mg_of X G a4, b4⟩, a__parameter_text := f5, f__parameter_text := _, d__parameter_text := ⟨F5, PySem.W.mg_of X G a5, b5⟩, a__first_parts := f6, f__first_parts := _, d__first_parts := ⟨F6, PySem.W.mg_of X G a6, b6⟩, a__word_text := f7, f__word_text := _, d__word_text := ⟨F7, PySem.W.mg_of X G a7, b7⟩, a__expression_text := f8, f__expression_text := _, d__expression_text := ⟨F8, PySem.W.mg_of X G a8, b8⟩, a__arm_text := f9, f__arm_text := _, d__arm_text := ⟨F9, PySem.W.mg_of X G a9, b9⟩, a_function_text := f10, f_function_text := _, d_function_text := ⟨F10, PySem.W.mg_of X G a10, b10⟩, a_write_program := f11, f_write_program := _, d_write_program := ⟨F11, PySem.W.mg_of X G a11, b11⟩, a__law_start := f12, f__law_start := _, d__law_start := ⟨F12, PySem.W.mg_of X G a12, b12⟩, a__law_draw := f13, f__law_draw := _, d__law_draw := ⟨F13, PySem.W.mg_of X G a13, b13⟩, a__law_reserved := f14, f__law_reserved := _, d__law_reserved := ⟨F14, PySem.W.mg_of X G a14, b14⟩, a__law_name := f15, f__law_name := _, d__law_name := ⟨F15, PySem.W.mg_of X G a15, b15⟩, a__law_fresh := f16, f__law_fresh := _, d__law_fresh := ⟨F16, PySem.W.mg_of X G a16, b16⟩, a__law_kind := f17, f__law_kind := _, d__law_kind := ⟨F17, PySem.W.mg_of X G a17, b17⟩, a__law_exception := f18, f__law_exception := _, d__law_exception := ⟨F18, PySem.W.mg_of X G a18, b18⟩, a__law_leaf := f19, f__law_leaf := _, d__law_leaf := ⟨F19, PySem.W.mg_of X G a19, b19⟩, a__law_counts := f20, f__law_counts := _, d__law_counts := ⟨F20, PySem.W.mg_of X G a20, b20⟩, a__law_arms := f21, f__law_arms := _, d__law_arms := ⟨F21, PySem.W.mg_of X G a21, b21⟩, a__law_expr := f22, f__law_expr := _, d__law_expr := ⟨F22, PySem.W.mg_of X G a22, b22⟩, a__law_tree := f23, f__law_tree := _, d__law_tree := ⟨F23, PySem.W.mg_of X G a23, b23⟩, a__law_kind_words := f24, f__law_kind_words := _, d__law_kind_words := ⟨F24, PySem.W.mg_of X G a24, b24⟩, a__law_head := f25, f__law_head := _, d__law_head := ⟨F25, PySem.W.mg_of X G a25, b25⟩, a__law_expr_words := f26, f__law_expr_words := _, d__law_expr_words := ⟨F26, PySem.W.mg_of X G a26, b26⟩, a__law_data_words := f27, f__law_data_words := _, d__law_data_words := ⟨F27, PySem.W.mg_of X G a27, b27⟩, a__law_function_words := f28, f__law_function_words := _, d__law_function_words := ⟨F28, PySem.W.mg_of X G a28, b28⟩, a__law_words := f29, f__law_words := _, d__law_words := ⟨F29, PySem.W.mg_of X G a29, b29⟩, a__law_canonical := f30, f__law_canonical := _, d__law_canonical := ⟨F30, PySem.W.mg_of X G a30, b30⟩, a__law_nodes := f31, f__law_nodes := _, d__law_nodes := ⟨F31, PySem.W.mg_of X G a31, b31⟩, a_law := fa, f_law := _, d_law := ⟨F32, PySem.W.mg_of X G a32, b32⟩, z_str := PySem.W.mg_none_of X G z_str, z_len := PySem.W.mg_none_of X G z_len, z_int := PySem.W.mg_none_of X G z_int, z_list := PySem.W.mg_none_of X G z_list, z_abs := PySem.W.mg_none_of X G z_abs, z_range := PySem.W.mg_none_of X G z_range, z_tuple := PySem.W.mg_none_of X G z_tuple, z_sorted := PySem.W.mg_none_of X G z_sorted, z_sum := PySem.W.mg_none_of X G z_sum, z_isinstance := PySem.W.mg_none_of X G z_isinstance, c_FIRST_EXCEPTIONS := cAt_of (PySem.W.mg_of X G g_FIRST_EXCEPTIONS) r_FIRST_EXCEPTIONS }
  exact ⟨T.f_law, fun s v => .of_eq rfl, fun base _ _ => ok_all T⟩
end
end K05

namespace K05
open PySem PySem.Spec PyProof.Rows L2 MM
/-! ### words and the text of a form -/
abbrev Wd := List Nat
abbrev CS := Wd × Int × Wd
def stp (st : CS) (w : Wd) : CS :=
  if w = [41] then (if st.2.1 - 1 = 0 then st.1 ++ w ++ [10] else st.1 ++ w, st.2.1 - 1, w)
  else ((if 0 < st.2.1 ∧ st.2.2 ≠ [40] then st.1 ++ [32] else st.1) ++ w, if w = [40] then st.2.1 + 1 else st.2.1, w)
def run (ws : List Wd) (st : CS) : CS := ws.foldl stp st
theorem run_app (a b : List Wd) (st : CS) : run (a ++ b) st = run b (run a st) := List.foldl_append
def wt (ws : List Wd) : Nat := (ws.map fun w => w.length + 1).sum
theorem wt_app (a b : List Wd) : wt (a ++ b) = wt a + wt b := by unfold wt; rw [List.map_append, List.sum_append]
theorem wt_cons (a : Wd) (b : List Wd) : wt (a :: b) = a.length + 1 + wt b := rfl
theorem wt_nil : wt [] = 0 := rfl
structure Pc (ws : List Wd) (t : Wd) : Prop where
  can : ∀ (text : Wd) (depth : Int) (before : Wd), 0 < depth → ∃ last, last ≠ [40] ∧ run ws (text, depth, before) = (text ++ ((if before = [40] then [] else [32]) ++ t), depth, last)
  len : t.length + 1 ≤ wt ws
  ne : ∀ w ∈ ws, w ≠ [] ∧ w.length ≤ 1000
def Atm (w : Wd) : Prop := w ≠ [40] ∧ w ≠ [41] ∧ w ≠ [] ∧ w.length ≤ 1000
theorem Pc.atm {w : Wd} (a : Atm w) : Pc [w] w := by
  refine ⟨fun text depth before hd => ⟨w, a.1, ?_⟩, by simp [wt], fun x hx => by rw [List.mem_singleton.mp hx]; exact a.2.2⟩
  show stp _ _ = _
  unfold stp
  rw [if_neg a.2.1, if_neg a.1]
  by_cases hb : before = [40]
  · simp [hb]
  · simp [hb, hd]
abbrev PP := List Wd × Wd
def flat (ps : List PP) : List Wd := ps.flatMap (·.1)
def txts (ps : List PP) : List Wd := ps.map (·.2)
theorem flat_app (a b : List PP) : flat (a ++ b) = flat a ++ flat b := List.flatMap_append
theorem flat_cons (a : PP) (b : List PP) : flat (a :: b) = a.1 ++ flat b := List.flatMap_cons
def formT (ts : List Wd) : Wd := [40] ++ (jl [32] ts ++ [41])
def formW (ws : List Wd) : List Wd := [40] :: (ws ++ [[41]])
def AllPc (ps : List PP) : Prop := ∀ p ∈ ps, Pc p.1 p.2
theorem inner : ∀ (ps : List PP) (text : Wd) (depth : Int) (before : Wd), AllPc ps → 0 < depth → (ps = [] ∧ run (flat ps) (text, depth, before) = (text, depth, before)) ∨ ∃ last, last ≠ [40] ∧ run (flat ps) (text, depth, before) = (text ++ ((if before = [40] then [] else [32]) ++ jl [32] (txts ps)), depth, last)
  | [], text, depth, before, _, _ => .inl ⟨rfl, rfl⟩
  | p :: r, text, depth, before, h, hd => by
    right
    obtain ⟨l1, n1, e1⟩ := (h p (by simp)).can text depth before hd
    rw [flat_cons, run_app, e1]
    cases r with
    | nil => exact ⟨l1, n1, rfl⟩
    | cons q r =>
      rcases inner (q :: r) (text ++ ((if before = [40] then [] else [32]) ++ p.2)) depth l1 (fun x hx => h x (List.mem_cons_of_mem _ hx)) hd with z | ⟨l2, n2, e2⟩
      · cases z.1
      · refine ⟨l2, n2, ?_⟩
        rw [e2, if_neg n1]
        show _ = (text ++ (_ ++ (p.2 ++ [32] ++ jl [32] (q.2 :: txts r))), depth, l2)
        simp only [List.append_assoc]
        rfl
theorem jl_len : ∀ ps : List PP, AllPc ps → (jl [32] (txts ps)).length ≤ wt (flat ps)
  | [], _ => Nat.zero_le _
  | [p], h => by
    have := (h p (by simp)).len
    show p.2.length ≤ _
    rw [flat_cons, wt_app]; omega
  | p :: q :: r, h => by
    have := (h p (by simp)).len
    have ih := jl_len (q :: r) fun x hx => h x (List.mem_cons_of_mem _ hx)
    rw [flat_cons, wt_app]
    show (p.2 ++ [32] ++ jl [32] (txts (q :: r))).length ≤ _
    simp only [List.length_append, List.length_cons, List.length_nil]
    omega
theorem jl_sum : ∀ ps : List PP, AllPc ps → ((txts ps).map (·.length)).sum + (txts ps).length ≤ wt (flat ps)
  | [], _ => Nat.le_refl _
  | p :: r, h => by
    have := (h p (by simp)).len
    have ih := jl_sum r fun x hx => h x (List.mem_cons_of_mem _ hx)
    rw [flat_cons, wt_app]
    show p.2.length + ((txts r).map (·.length)).sum + ((txts r).length + 1) ≤ _
    omega
theorem run_form {ps : List PP} (h : AllPc ps) (text : Wd) (depth : Int) (before : Wd) (hd : 0 ≤ depth) :
    run (formW (flat ps)) (text, depth, before) = (text ++ ((if 0 < depth ∧ before ≠ [40] then [32] else []) ++ (formT (txts ps) ++ if depth = 0 then [10] else [])), depth, [41]) := by
  unfold formW
  have e0 : run ([40] :: (flat ps ++ [[41]])) (text, depth, before) = run (flat ps ++ [[41]]) (text ++ (if 0 < depth ∧ before ≠ [40] then [32] else []) ++ [40], depth + 1, [40]) := by
    show run (flat ps ++ [[41]]) (stp _ _) = _
    unfold stp
    rw [if_neg (by decide), if_pos rfl]
    congr 2
    split <;> simp
  rw [e0, run_app]
  have fin : ∀ (t l : Wd), run [[41]] (t, depth + 1, l) = (t ++ ([41] ++ if depth = 0 then [10] else []), depth, [41]) := fun t l => by
    rw [show run [[41]] (t, depth + 1, l) = stp (t, depth + 1, l) [41] from rfl]
    unfold stp
    rw [if_pos rfl]
    have : depth + 1 - 1 = depth := by omega
    simp only [this]
    by_cases z : depth = 0
    · simp [z]
    · simp [z]
  rcases inner ps (text ++ (if 0 < depth ∧ before ≠ [40] then [32] else []) ++ [40]) (depth + 1) [40] h (by omega) with ⟨e1, e2⟩ | ⟨l, n, e⟩
  · rw [e2, fin, e1]
    simp [formT, txts, jl]
  · rw [e, fin, if_pos rfl]
    simp [formT]
theorem Pc.form {ps : List PP} (h : AllPc ps) : Pc (formW (flat ps)) (formT (txts ps)) := by
  refine ⟨fun text depth before hd => ⟨[41], by decide, ?_⟩, ?_, ?_⟩
  · rw [run_form h _ _ _ (by omega), if_neg (by omega : ¬ depth = 0), List.append_nil]
    by_cases z : before = [40]
    · simp [z]
    · simp [z, hd]
  · have := jl_len ps h
    unfold formT formW
    rw [wt_cons, wt_app]
    simp [wt_cons, wt_nil]
    omega
  · intro w hw
    unfold formW at hw
    rcases List.mem_cons.mp hw with z | z
    · subst z; decide
    · rcases List.mem_append.mp z with z | z
      · obtain ⟨p, hp, hw⟩ := List.mem_flatMap.mp z
        exact (h p hp).ne w hw
      · rw [List.mem_singleton.mp z]; decide
/-! ### the texts in a heap -/
abbrev dS (w : Wd) : D := .str (tx w)
abbrev dSs (ws : List Wd) : List D := ws.map dS
theorem s40 : (Str.ofString "(") = tx [40] := rfl
theorem s41 : (Str.ofString ")") = tx [41] := rfl
theorem s32 : (Str.ofString " ") = tx [32] := rfl
theorem s10 : (Str.ofString "\n") = tx [10] := rfl
theorem s0 : (Str.ofString "") = tx [] := rfl
section
variable {h : MH} {n : Nat}
theorem can_step {x0 x4 : Option D} {t b w : Wd} {d : Int} (hz : t.length + w.length ≤ 10000000) :
    b__law_canonical_1 [x0, some (dS t), some (.int d), some (dS b), some (dS w)] h = .ok (.next [x0, some (dS (stp (t, d, b) w).1), some (.int (stp (t, d, b) w).2.1), some (dS w), some (dS w)]) h := by
  unfold b__law_canonical_1 stp
  have len : ∀ a : Wd, (tx a).length = a.length := tx_len
  have z1 : t.length + 1 ≤ 16777216 := by omega
  have z2 : t.length + 1 + w.length ≤ 16777216 := by omega
  have z3 : t.length + w.length ≤ 16777216 := by omega
  have z4 : t.length + w.length + 1 ≤ 16777216 := by omega
  have z5 : t.length + 1 + 1 ≤ 16777216 := by omega
  by_cases h1 : w = [41]
  · subst h1
    by_cases h2 : d - 1 = 0
    · by_cases hd : 0 < d <;> by_cases hb : b = [40] <;> simp [s40, s41, s32, s10, tx_eq, opAddS, opAdd, len, tx_app, h2, hd, hb, z1, z2, z3, z4, z5]
    · by_cases hd : 0 < d <;> by_cases hb : b = [40] <;> simp [s40, s41, s32, s10, tx_eq, opAddS, opAdd, len, tx_app, h2, hd, hb, z1, z2, z3, z4, z5]
  · by_cases h3 : w = [40]
    · subst h3
      by_cases hd : 0 < d <;> by_cases hb : b = [40] <;> simp [s40, s41, s32, s10, tx_eq, opAddS, opAdd, len, tx_app, hd, hb, z1, z2, z3, z4, z5]
    · by_cases hd : 0 < d <;> by_cases hb : b = [40] <;> simp [s40, s41, s32, s10, tx_eq, opAddS, opAdd, len, tx_app, h1, h3, hd, hb, z1, z2, z3, z4, z5]
end
end K05

namespace K05
open PySem PySem.Spec PyProof.Rows L2 MM
section
variable {h : MH} {n : Nat}
theorem stp_len (st : CS) (w : Wd) : (stp st w).1.length ≤ st.1.length + w.length + 1 := by
  unfold stp
  split
  · split <;> simp <;> omega
  · split <;> simp <;> omega
theorem can_ok {ws : List Wd} (e : h[n]? = some (.lst (dSs ws))) (hz : wt ws ≤ 1000000) : m__law_canonical [.ref n] h = .ok (dS (run ws ([], 0, [40])).1) h := by
  have t : Tm (m__law_canonical [.ref n] h) (fun d h' => d = dS (run ws ([], 0, [40])).1 ∧ h' = h) NoX := by
    refine Tm_fn rfl ?_
    generalize hE : EndX h NoX = EE
    generalize hP : EndP h _ = PP
    have st : mStart 5 [D.ref n] = [some (.ref n), none, none, none, none] := rfl
    rw [st]
    unfold b__law_canonical
    have el : lst? h n = some (dSs ws) := lst?_of e
    have es : srcOf (.ref n) h = .ok ⟨dSs ws, fun h' => lstD (.ref n) h' = some (dSs ws)⟩ h := by
      unfold srcOf srcG
      simp only [lstD_ref, el]
      rfl
    simp only [mSeq_eq, TmS_seq, mSet_eq, mC_eq, R.st_ok, TmS_ok, SeqP_next, s0, s40]
    rw [mFor_eq, mSrc_eq, mVar_eq (show _ = some (some (D.ref n)) from rfl), R.bnd_ok, es, R.st_ok]
    obtain ⟨I, hI⟩ : ∃ I : List D → MS → MH → Prop, I = fun r δ h' => ∃ (us : List Wd) (st : CS) (x4 : Option D), r = dSs us ∧ δ = [some (.ref n), some (dS st.1), some (.int st.2.1), some (dS st.2.2), x4] ∧ h' = h ∧ run us st = run ws ([], 0, [40]) ∧ st.1.length + wt us ≤ wt ws := ⟨_, rfl⟩
    refine TmS_forN I ?_ ?_ ?_ (by rw [hI]; exact ⟨ws, ([], 0, [40]), none, rfl, rfl, rfl, rfl, by simp⟩)
    · intro ds δ h' i
      rw [hI] at i
      obtain ⟨_, _, _, _, _, rfl, _⟩ := i
      show lstD (.ref n) h' = _
      rw [lstD_ref, el]
    · intro x r δ h' i
      rw [hI] at i
      obtain ⟨us, st, x4, er, rfl, rfl, eR, hl⟩ := i
      cases us with
      | nil => cases er
      | cons w us =>
        obtain ⟨rfl, rfl⟩ := List.cons.inj er
        refine ⟨_, rfl, ?_⟩
        rw [wt_cons] at hl
        have cs := can_step (h := h') (x0 := some (.ref n)) (x4 := some (dS w)) (t := st.1) (b := st.2.2) (w := w) (d := st.2.1) (by omega)
        rw [show (some (dS w) :: ([] : List (Option D))) = [some (dS w)] from rfl] at *
        show TmS (b__law_canonical_1 [some (.ref n), some (dS st.1), some (.int st.2.1), some (dS st.2.2), some (dS w)] h') _ _
        rw [cs, TmS_ok, Nx_next, hI]
        have e2 : (stp st w).2.2 = w := by unfold stp; split <;> rfl
        refine ⟨us, stp st w, some (dS w), rfl, by rw [e2], rfl, eR, ?_⟩
        have := stp_len st w
        omega
    · intro δ h' i
      rw [hI] at i
      obtain ⟨us, st, x4, er, rfl, rfl, eR, hl⟩ := i
      cases us with
      | cons w us => cases er
      | nil =>
        rw [SeqP_next, mRet_eq, mVar_eq (show _ = some (some (dS st.1)) from rfl), R.st_ok, TmS_ok]
        subst hP
        have : st = run ws ([], 0, [40]) := eR
        exact ⟨⟨LeftOf.refl _, rfl⟩, by rw [this], by simp⟩
  obtain ⟨d, h', e1, rfl, rfl⟩ := t.ex
  exact e1
/-! ### a form -/
theorem form_ok {ps : List PP} (a : AllPc ps) (hz : wt (flat ps) ≤ 1000000) {ds : List D} (e : ds = dSs (txts ps)) : m__form [.rol ds] h = .ok (dS (formT (txts ps))) h := by
  subst e
  unfold m__form
  refine mFn_pure0 rfl ?_ rfl
  have st : mStart 1 [D.rol (dSs (txts ps))] = [some (.rol (dSs (txts ps)))] := rfl
  rw [st]
  unfold b__form
  have h1 := jl_len ps a
  have h2 := jl_sum ps a
  have ej := join_ok (s := [32]) (ls := txts ps) (d := .rol (dSs (txts ps))) (h := h) rfl (by rw [List.length_singleton, Nat.mul_one]; exact Nat.le_trans h2 (by omega))
  have z1 : 1 + (jl [32] (txts ps)).length ≤ 16777216 := by omega
  have z2 : (tx ([40] ++ jl [32] (txts ps))).length + (tx [41]).length ≤ 16777216 := by rw [tx_len, tx_len]; simp; omega
  have z3 : (tx [40]).length + (tx (jl [32] (txts ps))).length ≤ 16777216 := by rw [tx_len, tx_len]; simp; omega
  simp only [mRet_eq, mOp_eq, mC_eq, R.bnd_ok, mMtd_eq, mCons_eq, mVar_eq (show [some (D.rol (dSs (txts ps)))][0]? = some (some (D.rol (dSs (txts ps)))) from rfl), mNil_eq, s40, s41, s32]
  rw [if_pos (show isTy "str" (.str (tx [32])) h = true from rfl), ej]
  simp only [R.bnd_ok]
  rw [opAddS_str z3, R.bnd_ok, tx_app, opAddS_str z2, tx_app]
  simp [formT]
end
end K05

namespace K05
open PySem PySem.Spec PyProof.Rows L2 MM
/-! ### the list of words -/
def wr (h : MH) (m : Nat) (ws : List Wd) : MH := h.set m (.lst (dSs ws))
section
variable {h : MH} {m : Nat}
theorem wr_at (hm : m < h.length) (ws : List Wd) : (wr h m ws)[m]? = some (.lst (dSs ws)) := List.getElem?_set_self hm
theorem wr_wr (a b : List Wd) : (wr h m a).set m (.lst (dSs b)) = wr h m b := List.set_set ..
theorem wr_len (ws : List Wd) : (wr h m ws).length = h.length := List.length_set ..
theorem wr_app (hm : m < h.length) (ws : List Wd) (k : MH) : wr (h ++ k) m ws = wr h m ws ++ k := List.set_append_left _ _ hm
theorem wr_of {ws : List Wd} (e : h[m]? = some (.lst (dSs ws))) : wr h m ws = h := by
  obtain ⟨hn, e2⟩ := List.getElem?_eq_some_iff.mp e
  unfold wr
  rw [← e2, List.set_getElem_self]
theorem lows_dSs (k : Nat) (ws : List Wd) : lowsL k (dSs ws) = true := by
  induction ws with
  | nil => rfl
  | cons x r ih => show (true && lowsL k (dSs r)) = true; rw [ih]; rfl
theorem wr_left (hm : m < h.length) (a b : List Wd) : LeftOf (wr h m a) (wr h m b) := by
  have := (LeftOf.refl (wr h m a)).set (n := m) (o := .lst (dSs b)) (.inl (lows_dSs _ _))
  rwa [wr_wr] at this
theorem push {δ : MS} {i : Nat} {a : ME} {w : Wd} {old : List Wd} (hm : m < h.length) (ei : δ[i]? = some (some (.ref m))) (ea : a δ (wr h m old) = .ok (dS w) (wr h m old)) (hz : old.length < 16777216) :
    mDrop (mMtd "list" fAppend (mVar i) (mCons a mNil)) δ (wr h m old) = .ok (.next δ) (wr h m (old ++ [w])) := by
  have el : lst? (wr h m old) m = some (dSs old) := lst?_of (wr_at hm old)
  have ap := app_ok (x := dS w) (wr_at hm old) (by rw [List.length_map]; exact hz)
  have e2 : dSs old ++ [dS w] = dSs (old ++ [w]) := by simp
  rw [e2, wr_wr] at ap
  simp only [mDrop_eq, mMtd_eq, mVar_eq ei, R.bnd_ok, isTy_ref el, mCons_eq, ea, mNil_eq, ap]
  rfl
end
theorem TmS.ex {s : SR} {P : Fl → MH → Prop} {E : XPS} (t : TmS s P E) (hE : ∀ c fs δ h, ¬ E c fs δ h) : ∃ f h, s = .ok f h ∧ P f h := by
  cases s with
  | ok f h => exact ⟨f, h, rfl, t⟩
  | exc c fs δ h => exact (hE _ _ _ _ t).elim
  | stuck => exact t.elim
section
variable {α : Type} {R : D → α → Prop}
/-- a comprehension over things that stand for others -/
theorem lc_pair {enc : α → D} {src : MI} {tgt : MG} {elt : ME} {vs : List Nat} {δ : MS} {h h1 : MH} {ks : List D} {as : List α} (es : src δ h = .ok ⟨ks, fun _ => True⟩ h1) (hp : Paired R ks as) (hz : ks.length < 16777216) (lo : ∀ a m, (enc a).lows m = true)
    (step : ∀ x a, R x a → a ∈ as → ∃ δ1, tgt x (wipeM δ vs) = some δ1 ∧ ∀ k, elt δ1 (h1 ++ k) = .ok (enc a) (h1 ++ k)) : mLc src tgt mYes elt vs δ h = .ok (.rol (as.map enc)) h1 := by
  have lm : ∀ (l : List α) m, lowsL m (l.map enc) = true := fun l m => by
    induction l with
    | nil => rfl
    | cons x r ih => show ((enc x).lows m && lowsL m (r.map enc)) = true; rw [lo, ih]; rfl
  have t : Tm (mLc src tgt mYes elt vs δ h) (fun d h' => d = .rol (as.map enc) ∧ h' = h1) NoX := by
    refine Tm_lcI (fun S h' => S = ⟨ks, fun _ => True⟩ ∧ h' = h1) (.of es ⟨rfl, rfl⟩) ?_
    rintro S h' ⟨rfl, rfl⟩
    refine ⟨fun r acc k => k = h' ∧ ∃ a1 a2, Paired R r a2 ∧ acc = a1.map enc ∧ a1 ++ a2 = as ∧ acc.length + r.length ≤ ks.length, ⟨rfl, [], as, hp, rfl, rfl, by simp⟩, ?_, ?_, ?_⟩
    · rintro r acc k ⟨rfl, a1, a2, _, _, _, hl⟩
      exact ⟨⟨rfl, by omega⟩, trivial⟩
    · rintro x r acc k ⟨rfl, a1, a2, p, rfl, ea, hl⟩
      cases p with
      | @cons _ b _ bs rx pr =>
        obtain ⟨δ1, e1, e2⟩ := step x b rx (by rw [← ea]; simp)
        refine ⟨δ1, e1, .of (e2 _) ⟨k, rfl, rfl, a1 ++ [b], bs, pr, by simp, by simp [← ea], ?_⟩⟩
        simp at hl ⊢; omega
    · rintro acc k ⟨rfl, a1, a2, p, rfl, ea, hl⟩
      cases p
      rw [List.append_nil] at ea
      subst ea
      exact ⟨⟨LeftOf.refl _, lm _ _⟩, rfl, rfl⟩
  obtain ⟨d, h', e, rfl, rfl⟩ := t.ex
  exact e
/-- a loop over things whose words are put down -/
theorem for_words {tgt : MG} {body : MSt} {m : Nat} (J : MS → Prop) {Rp : D → PP → Prop} {h : MH} (hm : m < h.length) {ks : List D} {ps : List PP} (hp : Paired Rp ks ps) {old : List Wd} (hz : old.length + (flat ps).length ≤ 16000000)
    (step : ∀ x p δ old, Rp x p → p ∈ ps → J δ → old.length + p.1.length ≤ 16000000 → ∃ δ1 δ2, tgt x δ = some δ1 ∧ body δ1 (wr h m old) = .ok (.next δ2) (wr h m (old ++ p.1)) ∧ J δ2) {δ : MS} (j : J δ) :
    ∃ δ', forM (fun _ => True) tgt body ks δ (wr h m old) = .ok (.next δ') (wr h m (old ++ flat ps)) ∧ J δ' := by
  have t : TmS (forM (fun _ => True) tgt body ks δ (wr h m old)) (fun f h' => ∃ δ', f = .next δ' ∧ h' = wr h m (old ++ flat ps) ∧ J δ') NoX.s := by
    refine TmS_forN (fun r δ h' => ∃ p1 p2, Paired Rp r p2 ∧ p1 ++ p2 = ps ∧ h' = wr h m (old ++ flat p1) ∧ J δ) (fun _ _ _ _ => trivial) ?_ ?_ ⟨[], ps, hp, rfl, by simp [flat], j⟩
    · rintro x r δ h' ⟨p1, p2, pr, ep, rfl, j⟩
      cases pr with
      | @cons _ b _ bs rx pr =>
        have : (flat ps).length = (flat p1).length + (b.1.length + (flat bs).length) := by rw [← ep, flat_app, flat_cons]; simp
        obtain ⟨δ1, δ2, e1, e2, j2⟩ := step x b δ (old ++ flat p1) rx (by rw [← ep]; simp) j (by rw [List.length_append]; omega)
        refine ⟨δ1, e1, ?_⟩
        rw [e2, TmS_ok, Nx_next]
        exact ⟨p1 ++ [b], bs, pr, by simp [← ep], by rw [flat_app, flat_cons]; simp [flat], j2⟩
    · rintro δ h' ⟨p1, p2, pr, ep, rfl, j⟩
      cases pr
      rw [List.append_nil] at ep
      subst ep
      exact ⟨δ, rfl, rfl, j⟩
  obtain ⟨f, h', e, δ', rfl, rfl, j'⟩ := TmS.ex t (fun _ _ _ _ z => z)
  exact ⟨δ', e, j'⟩
end
/-! ### kinds -/
def KOk : Nat → D → Prop
  | 0, _ => False
  | n + 1, d => (∃ s : Str, d = .tup [.str s, .tup [], .int 0] ∧ (s = "int" ∨ s = "bool" ∨ s = "unit")) ∨ (∃ w, d = .tup [.str "data", dS w, .int 0] ∧ Atm w) ∨
      ∃ (s : Str) (ks : List D), d = .tup [.str s, .tup ks, .int 0] ∧ (s = "tuple" ∨ s = "fn" ∨ s = "ref" ∨ s = "array") ∧ ks ≠ [] ∧ ks.length ≤ 6 ∧ ∀ k ∈ ks, KOk n k
def KB : Nat → Nat
  | 0 => 0
  | n + 1 => 3 + 6 * KB n
structure KSp (n : Nat) (d : D) (p : PP) : Prop where
  pc : Pc p.1 p.2
  sz : p.1.length ≤ KB n
  text : ∀ f, n ≤ f → ∀ h, wt p.1 ≤ 1000000 → m__kind_text f [d] h = .ok (dS p.2) h
  words : ∀ f, n ≤ f → ∀ (h : MH) (m : Nat) (old : List Wd), m < h.length → old.length + p.1.length ≤ 16000000 → m__law_kind_words f [d, .ref m] (wr h m old) = .ok .non (wr h m (old ++ p.1))
theorem pair_ex {R : D → PP → Prop} : ∀ (ks : List D), (∀ k ∈ ks, ∃ p, R k p) → ∃ ps, Paired R ks ps
  | [], _ => ⟨[], .nil⟩
  | k :: r, h => by
    obtain ⟨p, hp⟩ := h k (by simp)
    obtain ⟨ps, hps⟩ := pair_ex r fun x hx => h x (by simp [hx])
    exact ⟨p :: ps, .cons hp hps⟩
theorem pair_all {R : D → PP → Prop} {Q : PP → Prop} (hq : ∀ k p, R k p → Q p) : ∀ {ks : List D} {ps : List PP}, Paired R ks ps → ∀ p ∈ ps, Q p
  | _, _, .nil => fun _ h => nomatch h
  | _, _, .cons a r => fun p hp => by
    rcases List.mem_cons.mp hp with z | z
    · subst z; exact hq _ _ a
    · exact pair_all hq r p z
theorem flat_le {B : Nat} : ∀ ps : List PP, (∀ p ∈ ps, p.1.length ≤ B) → (flat ps).length ≤ B * ps.length
  | [], _ => Nat.zero_le _
  | p :: r, h => by
    have := h p (by simp)
    have ih := flat_le r fun x hx => h x (by simp [hx])
    rw [flat_cons, List.length_append, List.length_cons, Nat.mul_succ]; omega
theorem wt_flat_le {p : PP} : ∀ {ps : List PP}, p ∈ ps → wt p.1 ≤ wt (flat ps)
  | q :: r, h => by
    rw [flat_cons, wt_app]
    rcases List.mem_cons.mp h with z | z
    · subst z; omega
    · have := wt_flat_le z; omega
def tl (s : Str) : Wd := s.cps.toList
theorem dS_tl (s : Str) : (D.str s) = dS (tl s) := congrArg D.str (tx_of s)
end K05

namespace K05
open PySem PySem.Spec PyProof.Rows L2 MM
section
variable {h : MH}
theorem in_base {s : Str} (e : s = "int" ∨ s = "bool" ∨ s = "unit") : opIn (.str s) (.tup [.str "int", .str "bool", .str "unit"]) h = .ok (.bl true) h := by
  rcases e with rfl | rfl | rfl <;> rfl
theorem in_app {s : Str} (e : s = "tuple" ∨ s = "fn" ∨ s = "ref" ∨ s = "array") : opIn (.str s) (.tup [.str "int", .str "bool", .str "unit"]) h = .ok (.bl false) h := by
  rcases e with rfl | rfl | rfl | rfl <;> rfl
theorem in_data : opIn (.str "data") (.tup [.str "int", .str "bool", .str "unit"]) h = .ok (.bl false) h := rfl
theorem base_nd {s : Str} (e : s = "int" ∨ s = "bool" ∨ s = "unit") : s ≠ "data" := by rcases e with rfl | rfl | rfl <;> decide
theorem app_nd {s : Str} (e : s = "tuple" ∨ s = "fn" ∨ s = "ref" ∨ s = "array") : s ≠ "data" := by rcases e with rfl | rfl | rfl | rfl <;> decide
theorem base_atm {s : Str} (e : s = "int" ∨ s = "bool" ∨ s = "unit") : Atm (tl s) := by rcases e with rfl | rfl | rfl <;> exact ⟨by decide, by decide, by decide⟩
theorem app_atm {s : Str} (e : s = "tuple" ∨ s = "fn" ∨ s = "ref" ∨ s = "array") : Atm (tl s) := by rcases e with rfl | rfl | rfl | rfl <;> exact ⟨by decide, by decide, by decide⟩
theorem ix0 {a : D} {r : List D} : opIx (.tup (a :: r)) (.int 0) h = .ok a h := opIx_of (atI_ok (by decide) rfl)
theorem ix1 {a b : D} {r : List D} : opIx (.tup (a :: b :: r)) (.int 1) h = .ok b h := opIx_of (atI_ok (by decide) rfl)
theorem ix2 {a b c : D} {r : List D} : opIx (.tup (a :: b :: c :: r)) (.int 2) h = .ok c h := opIx_of (atI_ok (by decide) rfl)
theorem ix3 {a b c d : D} {r : List D} : opIx (.tup (a :: b :: c :: d :: r)) (.int 3) h = .ok d h := opIx_of (atI_ok (by decide) rfl)
theorem ix4 {a b c d e : D} {r : List D} : opIx (.tup (a :: b :: c :: d :: e :: r)) (.int 4) h = .ok e h := opIx_of (atI_ok (by decide) rfl)
theorem fn_next {n N : Nat} {ms : MSt} {ds : List D} {k : MH} {δ : MS} (e : ds.length = n) (r : ms (mStart N ds) h = .ok (.next δ) k) (el : k.length = h.length) (l : LeftOf h k) : mFn n N ms ds h = .ok .non k := by
  rw [mFn_eq e, r]
  show leave h .non k = _
  rw [leave_eq l rfl, ← el, List.take_length]
end
theorem kind_leaf {n : Nat} {s w : Wd} {a : D} {h0 : Atm w} (hd : (s = tl "data" ∧ a = dS w) ∨ (s = w ∧ a = .tup [] ∧ (tx s = "int" ∨ tx s = "bool" ∨ tx s = "unit"))) : KSp (n + 1) (.tup [dS s, a, .int 0]) ([w], w) := by
  refine ⟨Pc.atm h0, by show 1 ≤ 3 + _; omega, fun f hf h _ => ?_, fun f hf h m old hm hz => ?_⟩
  · obtain ⟨g, rfl⟩ : ∃ g, f = g + 1 := ⟨f - 1, by omega⟩
    rw [m__kind_text_succ]
    refine mFn_pure0 rfl ?_ rfl
    have st : mStart 5 [D.tup [dS s, a, .int 0]] = [some (.tup [dS s, a, .int 0]), none, none, none, none] := rfl
    rw [st]
    unfold b__kind_text
    rcases hd with ⟨rfl, rfl⟩ | ⟨rfl, rfl, e⟩
    · simp [dS, tl]
    · have nd := base_nd e
      simp [nd]
  · obtain ⟨g, rfl⟩ : ∃ g, f = g + 1 := ⟨f - 1, by omega⟩
    rw [m__law_kind_words_succ]
    have st : mStart 3 [D.tup [dS s, a, .int 0], .ref m] = [some (.tup [dS s, a, .int 0]), some (.ref m), none] := rfl
    have go : ∀ x : ME, x [some (.tup [dS s, a, .int 0]), some (.ref m), none] (wr h m old) = .ok (dS w) (wr h m old) → mDrop (mMtd "list" fAppend (mVar 1) (mCons x mNil)) [some (.tup [dS s, a, .int 0]), some (.ref m), none] (wr h m old) = .ok (.next [some (.tup [dS s, a, .int 0]), some (.ref m), none]) (wr h m (old ++ [w])) := fun x ex =>
      push hm rfl ex (by simp at hz; omega)
    refine fn_next (δ := [some (.tup [dS s, a, .int 0]), some (.ref m), none]) rfl ?_ (by rw [wr_len, wr_len]) (wr_left hm _ _)
    rw [st]
    unfold b__law_kind_words
    rcases hd with ⟨rfl, rfl⟩ | ⟨rfl, rfl, e⟩
    · have g1 := go (mOp opIx (mVar 0) (mC (.int 1))) (by simp [ix1])
      generalize mDrop _ = M1 at g1 ⊢
      have e1 : opIx (.tup [dS (tl "data"), dS w, .int 0]) (.int 0) (wr h m old) = .ok (.str "data") (wr h m old) := by rw [ix0, ← dS_tl]
      simp [e1, in_data, g1]
    · have g1 := go (mOp opIx (mVar 0) (mC (.int 0))) (by simp [ix0])
      generalize mDrop _ = M1 at g1 ⊢
      have := in_base (h := wr h m old) e
      simp [ix0, this, g1]
theorem kind_node {n : Nat} {s : Str} {ks : List D} {ps : List PP} (hs : s = "tuple" ∨ s = "fn" ∨ s = "ref" ∨ s = "array") (hne : ks ≠ []) (hl : ks.length ≤ 6) (hp : Paired (KSp n) ks ps) : KSp (n + 1) (.tup [.str s, .tup ks, .int 0]) (formW (flat (([tl s], tl s) :: ps)), formT (txts (([tl s], tl s) :: ps))) := by
  have hpc : AllPc (([tl s], tl s) :: ps) := fun p hp' => by
    rcases List.mem_cons.mp hp' with z | z
    · subst z; exact Pc.atm (app_atm hs)
    · exact pair_all (Q := fun p => Pc p.1 p.2) (fun _ _ k => k.pc) hp p z
  have hfl := flat_le (B := KB n) ps (pair_all (fun _ _ k => k.sz) hp)
  have hlen : ps.length = ks.length := hp.length.symm
  have nd := app_nd hs
  refine ⟨Pc.form hpc, ?_, fun f hf h hz => ?_, fun f hf h m old hm hz => ?_⟩
  · show (formW _).length ≤ 3 + 6 * KB n
    unfold formW
    rw [flat_cons]
    simp
    have : KB n * ps.length ≤ KB n * 6 := Nat.mul_le_mul_left _ (by omega)
    omega
  · obtain ⟨g, rfl⟩ : ∃ g, f = g + 1 := ⟨f - 1, by omega⟩
    rw [m__kind_text_succ]
    refine mFn_pure0 rfl ?_ rfl
    have st : mStart 5 [D.tup [.str s, .tup ks, .int 0]] = [some (.tup [.str s, .tup ks, .int 0]), none, none, none, none] := rfl
    rw [st]
    unfold b__kind_text
    have wz : wt (flat (([tl s], tl s) :: ps)) ≤ 1000000 := by
      have : wt (formW (flat (([tl s], tl s) :: ps))) ≤ 1000000 := hz
      unfold formW at this
      rw [wt_cons, wt_app] at this
      omega
    have lc : mLc (mSrc (mVar 2)) (mgName 4) (mYes) (mCall (m__kind_text g) (mCons (mVar 4) (mNil))) [4] [some (.tup [.str s, .tup ks, .int 0]), some (.str s), some (.tup ks), some (.int 0), none] h = .ok (.rol (ps.map fun p => dS p.2)) h := by
      refine lc_pair (enc := fun p : PP => dS p.2) (R := KSp n) (ks := ks) (by simp) hp (by omega) (fun _ _ => rfl) fun x p hx hpm => ⟨_, rfl, fun k => ?_⟩
      have wp : wt p.1 ≤ 1000000 := by
        have := wt_flat_le hpm
        rw [flat_cons, wt_app] at wz
        omega
      have := hx.text g (by omega) (h ++ k) wp
      simp [wipeM, this]
    have ff := form_ok (h := h) hpc wz (ds := dS (tl s) :: ps.map fun p => dS p.2) (by simp [txts])
    generalize mLc _ _ _ _ _ = LC at lc ⊢
    simp [nd, hne, lc, ← dS_tl] at ff ⊢
    rw [opAddS_rol (by simp; omega)]
    simp only [R.bnd_ok, List.cons_append, List.nil_append, ff, R.st_ok]
  · obtain ⟨g, rfl⟩ : ∃ g, f = g + 1 := ⟨f - 1, by omega⟩
    rw [m__law_kind_words_succ]
    have hz' : old.length + ((flat ps).length + 3) ≤ 16000000 := by
      have : old.length + (formW (flat (([tl s], tl s) :: ps))).length ≤ 16000000 := hz
      unfold formW at this
      rw [flat_cons] at this
      simp at this
      omega
    obtain ⟨d0, hd0⟩ : ∃ d0, d0 = D.tup [.str s, .tup ks, .int 0] := ⟨_, rfl⟩
    rw [← hd0]
    have e0 : ∀ k, opIx d0 (.int 0) k = .ok (dS (tl s)) k := fun k => by rw [hd0, ix0, dS_tl]
    have e0' : ∀ k, opIx d0 (.int 0) k = .ok (.str s) k := fun k => by rw [hd0, ix0]
    have e1 : ∀ k, opIx d0 (.int 1) k = .ok (.tup ks) k := fun k => by rw [hd0, ix1]
    have p1 : ∀ x2, mDrop (mMtd "list" fAppend (mVar 1) (mCons (mC (.str "(")) mNil)) [some d0, some (.ref m), x2] (wr h m old) = .ok (.next [some d0, some (.ref m), x2]) (wr h m (old ++ [[40]])) := fun x2 => push hm rfl rfl (by omega)
    have p2 : ∀ x2, mDrop (mMtd "list" fAppend (mVar 1) (mCons (mOp opIx (mVar 0) (mC (.int 0))) mNil)) [some d0, some (.ref m), x2] (wr h m (old ++ [[40]])) = .ok (.next [some d0, some (.ref m), x2]) (wr h m (old ++ [[40]] ++ [tl s])) := fun x2 => push hm rfl (by simp [e0]) (by simp; omega)
    have p3 : ∀ x2, mDrop (mMtd "list" fAppend (mVar 1) (mCons (mC (.str ")")) mNil)) [some d0, some (.ref m), x2] (wr h m (old ++ [[40]] ++ [tl s] ++ flat ps)) = .ok (.next [some d0, some (.ref m), x2]) (wr h m (old ++ [[40]] ++ [tl s] ++ flat ps ++ [[41]])) := fun x2 => push hm rfl rfl (by simp; omega)
    obtain ⟨δ', fw, x2, rfl⟩ := for_words (tgt := mgName 2) (body := b__law_kind_words_1 (m__law_kind_words g)) (fun δ => ∃ x2, δ = [some d0, some (.ref m), x2]) (h := h) hm hp (old := old ++ [[40]] ++ [tl s]) (by simp; omega) (fun x p δ old' hx hpm ⟨x2, e⟩ hz2 => by
      subst e
      refine ⟨_, _, rfl, ?_, some x, rfl⟩
      have := hx.words g (by omega) h m old' hm hz2
      unfold b__law_kind_words_1
      simp [this]) ⟨none, rfl⟩
    refine fn_next (δ := [some d0, some (.ref m), x2]) rfl ?_ (by rw [wr_len, wr_len]) (wr_left hm _ _)
    have st : mStart 3 [d0, .ref m] = [some d0, some (.ref m), none] := rfl
    rw [st]
    unfold b__law_kind_words
    have ia := in_app (h := wr h m old) hs
    have fin : wr h m (old ++ (formW (flat (([tl s], tl s) :: ps)), formT (txts (([tl s], tl s) :: ps))).1) = wr h m (old ++ [[40]] ++ [tl s] ++ flat ps ++ [[41]]) := by
      show wr h m (old ++ formW _) = _
      unfold formW
      rw [flat_cons]
      simp
    rw [fin]
    generalize mDrop (mMtd "list" fAppend (mVar 1) (mCons (mC (.str "(")) mNil)) = M1 at p1 ⊢
    generalize mDrop (mMtd "list" fAppend (mVar 1) (mCons (mC (.str ")")) mNil)) = M3 at p3 ⊢
    generalize mDrop (mMtd "list" fAppend (mVar 1) (mCons (mOp opIx (mVar 0) (mC (.int 0))) mNil)) = M2 at p2 ⊢
    generalize b__law_kind_words_1 _ = B1 at fw ⊢
    simp [e0', e1, ia, nd, p1, p2]
    simp only [List.append_assoc, List.cons_append, List.nil_append] at fw p3 ⊢
    simp [fw, p3]
theorem kind_spec : ∀ (n : Nat) (d : D), KOk n d → ∃ p, KSp n d p
  | 0, _, h => h.elim
  | n + 1, d, h => by
    unfold KOk at h
    rcases h with ⟨s, rfl, e⟩ | ⟨w, rfl, a⟩ | ⟨s, ks, rfl, hs, hne, hl, hk⟩
    · have := kind_leaf (n := n) (s := tl s) (w := tl s) (a := .tup []) (h0 := base_atm e) (.inr ⟨rfl, rfl, by rw [show tx (tl s) = s from (tx_of s).symm]; exact e⟩)
      rw [← dS_tl] at this
      exact ⟨_, this⟩
    · have := kind_leaf (n := n) (s := tl "data") (w := w) (a := dS w) (h0 := a) (.inl ⟨rfl, rfl⟩)
      rw [← dS_tl] at this
      exact ⟨_, this⟩
    · obtain ⟨ps, hp⟩ := pair_ex (R := KSp n) ks fun k hk' => kind_spec n k (hk k hk')
      exact ⟨_, kind_node hs hne hl hp⟩
theorem KOk.lows : ∀ {n : Nat} {d : D} (m : Nat), KOk n d → d.lows m = true
  | 0, _, _, h => h.elim
  | n + 1, d, m, h => by
    unfold KOk at h
    rcases h with ⟨s, rfl, e⟩ | ⟨w, rfl, a⟩ | ⟨s, ks, rfl, hs, hne, hl, hk⟩
    · rfl
    · rfl
    · have : ∀ l : List D, (∀ k ∈ l, k.lows m = true) → lowsL m l = true := fun l => by
        induction l with
        | nil => intro _; rfl
        | cons x r ih => intro q; show (x.lows m && lowsL m r) = true; rw [q x (by simp), ih fun y hy => q y (by simp [hy])]; rfl
      show (true && (lowsL m ks && (true && true))) = true
      rw [this ks fun k hk' => (hk k hk').lows m]; rfl
end K05

namespace K05
open PySem PySem.Spec PyProof.Rows L2 MM
def numW (i : Int) : Wd := if i < 0 then 45 :: TL.numL i.natAbs else TL.numL i.natAbs
theorem numW_ok {i : Int} {h : MH} (b : i.natAbs < 10 ^ 20) : fStr3 [.int i] h = .ok (dS (numW i)) h := by
  show fStr [.int i] h = _
  have : i.natAbs.log2 < 1920 := by
    by_cases z : i.natAbs = 0
    · rw [z]; decide
    · rw [Nat.log2_lt z]
      exact Nat.lt_of_lt_of_le b (by decide +kernel)
  rw [show fStr [.int i] h = if i.natAbs.log2 < 1920 then .ok (.str (toString i)) h else .stuck from rfl, if_pos this]
  show R.ok (D.str _) h = _
  rw [str_int]; rfl
theorem numW_atm {i : Int} (b : i.natAbs < 10 ^ 20) : Atm (numW i) := by
  have hl := TL.numL_len (n := i.natAbs) (k := 20) (by decide) b
  unfold numW
  split
  · exact ⟨by simp, by simp, by simp, by simp; omega⟩
  · have fr : ∀ s, (s < 48 ∨ 57 < s) → TL.numL i.natAbs ≠ [s] := fun s hs e => TL.numL_free (n := i.natAbs) hs (by rw [e]; simp)
    exact ⟨fr 40 (by omega), fr 41 (by omega), TL.numL_ne _, by omega⟩
section
variable {h : MH}
theorem form_ok2 {ps : List PP} (a : AllPc ps) (hz : wt (flat ps) ≤ 1000000) {d : D} (e : seqG d h = some (dSs (txts ps))) : m__form [d] h = .ok (dS (formT (txts ps))) h := by
  unfold m__form
  refine mFn_pure0 rfl ?_ rfl
  have st : mStart 1 [d] = [some d] := rfl
  rw [st]
  unfold b__form
  have h1 := jl_len ps a
  have h2 := jl_sum ps a
  have ej := join_ok (s := [32]) (ls := txts ps) (d := d) (h := h) e (by rw [List.length_singleton, Nat.mul_one]; exact Nat.le_trans h2 (by omega))
  have z2 : (tx ([40] ++ jl [32] (txts ps))).length + (tx [41]).length ≤ 16777216 := by rw [tx_len, tx_len]; simp; omega
  have z3 : (tx [40]).length + (tx (jl [32] (txts ps))).length ≤ 16777216 := by rw [tx_len, tx_len]; simp; omega
  simp only [mRet_eq, mOp_eq, mC_eq, R.bnd_ok, mMtd_eq, mCons_eq, mVar_eq (show [some d][0]? = some (some d) from rfl), mNil_eq, s40, s41, s32]
  rw [if_pos (show isTy "str" (.str (tx [32])) h = true from rfl), ej]
  simp only [R.bnd_ok]
  rw [opAddS_str z3, R.bnd_ok, tx_app, opAddS_str z2, tx_app]
  simp [formT]
/-! ### heads -/
def plainOps : List Str := ["tuple", "if", "apply", "ref", "deref", "len", "print", "set", "array", "at", "seq", "put", "add", "sub", "mul", "div", "rem", "equal", "less", "case", "handle"]
def HOk (op : Str) (info : D) : Prop :=
  ((op = "call" ∨ op = "make") ∧ ∃ w, info = dS w ∧ Atm w) ∨
  (op = "get" ∧ ∃ i : Int, info = .int i ∧ 0 ≤ i ∧ i < 6) ∨
  (op = "let" ∧ ∃ w, info = dS w ∧ Atm w) ∨
  (op = "fn" ∧ ∃ w k, info = .tup [dS w, k] ∧ Atm w ∧ KOk 3 k) ∨
  (op = "raise" ∧ ∃ w k, info = .tup [dS w, k] ∧ Atm w ∧ KOk 3 k) ∨
  (op ∈ plainOps ∧ info = .non)
structure HSp (op : Str) (info : D) (ps : List PP) : Prop where
  all : AllPc ps
  sz : (flat ps).length ≤ 140
  lo : ∀ m, info.lows m = true
  nl : opIn (.str op) (.tup [.str "int", .str "bool", .str "unit", .str "name"]) [] = .ok (.bl false) []
  first : ∀ h, wt (flat ps) ≤ 1000000 → m__first_parts [.str op, info] h = .ok (.ref h.length) (h ++ [.lst (dSs (txts ps))])
  head : ∀ (at' : Int) (kids arms : D) (h : MH) (m : Nat) (old : List Wd), m < h.length → old.length + 1 + (flat ps).length ≤ 16000000 → m__law_head [.tup [.str op, .int at', info, kids, arms], .ref m] (wr h m old) = .ok .non (wr h m (old ++ ([40] :: flat ps)))
theorem in_h {a : Str} {l : List D} {h k : MH} {b : Bool} (e : opIn (.str a) (.tup l) k = .ok (.bl b) k) : opIn (.str a) (.tup l) h = .ok (.bl b) h := by
  unfold opIn at e ⊢
  have : inG (.str a) (.tup l) h = inG (.str a) (.tup l) k := rfl
  rw [this]
  cases hh : inG (.str a) (.tup l) k with
  | none => rw [hh] at e; cases e
  | some c => rw [hh] at e; cases e; rfl
structure OpF (op : Str) (cm gl f r g l : Bool) : Prop where
  cm : ∀ h, opIn (.str op) (.tup [.str "call", .str "make"]) h = .ok (.bl cm) h
  gl : ∀ h, opIn (.str op) (.tup [.str "get", .str "let"]) h = .ok (.bl gl) h
  f : (op = Str.ofString "fn") ↔ (f = true)
  r : (op = Str.ofString "raise") ↔ (r = true)
  g : (op = Str.ofString "get") ↔ (g = true)
  l : (op = Str.ofString "let") ↔ (l = true)
  nl : opIn (.str op) (.tup [.str "int", .str "bool", .str "unit", .str "name"]) [] = .ok (.bl false) []
  atm : Atm (tl op)
theorem opf_plain {op : Str} (h : op ∈ plainOps) : OpF op false false false false false false := by
  unfold plainOps at h
  simp only [List.mem_cons, List.not_mem_nil, or_false] at h
  rcases h with rfl | rfl | rfl | rfl | rfl | rfl | rfl | rfl | rfl | rfl | rfl | rfl | rfl | rfl | rfl | rfl | rfl | rfl | rfl | rfl | rfl <;>
    exact ⟨fun _ => rfl, fun _ => rfl, by decide, by decide, by decide, by decide, rfl, by decide, by decide, by decide⟩
theorem opf_call : OpF "call" true false false false false false := ⟨fun _ => rfl, fun _ => rfl, by decide, by decide, by decide, by decide, rfl, by decide, by decide, by decide⟩
theorem opf_make : OpF "make" true false false false false false := ⟨fun _ => rfl, fun _ => rfl, by decide, by decide, by decide, by decide, rfl, by decide, by decide, by decide⟩
theorem opf_get : OpF "get" false true false false true false := ⟨fun _ => rfl, fun _ => rfl, by decide, by decide, by decide, by decide, rfl, by decide, by decide, by decide⟩
theorem opf_let : OpF "let" false true false false false true := ⟨fun _ => rfl, fun _ => rfl, by decide, by decide, by decide, by decide, rfl, by decide, by decide, by decide⟩
theorem opf_fn : OpF "fn" false false true false false false := ⟨fun _ => rfl, fun _ => rfl, by decide, by decide, by decide, by decide, rfl, by decide, by decide, by decide⟩
theorem opf_raise : OpF "raise" false false false true false false := ⟨fun _ => rfl, fun _ => rfl, by decide, by decide, by decide, by decide, rfl, by decide, by decide, by decide⟩
end
end K05

namespace K05
open PySem PySem.Spec PyProof.Rows L2 MM
abbrev at1 (w : Wd) : PP := ([w], w)
theorem all1 {w : Wd} (a : Atm w) : AllPc [at1 w] := fun p hp => by rw [List.mem_singleton.mp hp]; exact Pc.atm a
theorem all_cons {p : PP} {ps : List PP} (a : Pc p.1 p.2) (b : AllPc ps) : AllPc (p :: ps) := fun q hq => by
  rcases List.mem_cons.mp hq with z | z
  · subst z; exact a
  · exact b q z
theorem all_nil : AllPc [] := fun _ h => nomatch h
theorem all_app {a b : List PP} (ha : AllPc a) (hb : AllPc b) : AllPc (a ++ b) := fun q hq => by
  rcases List.mem_append.mp hq with z | z
  · exact ha q z
  · exact hb q z
section
variable {h : MH}
theorem param_ok {w : Wd} {k : D} {kp : PP} (a : Atm w) (s : KSp 3 k kp) (hz : wt (flat [at1 w, kp]) ≤ 1000000) : m__parameter_text [.tup [dS w, k]] h = .ok (dS (formT (txts [at1 w, kp]))) h := by
  unfold m__parameter_text
  refine mFn_pure0 rfl ?_ rfl
  have st : mStart 3 [D.tup [dS w, k]] = [some (.tup [dS w, k]), none, none] := rfl
  rw [st]
  unfold b__parameter_text
  have hk : wt kp.1 ≤ 1000000 := by rw [flat_cons, flat_cons, wt_app, wt_app] at hz; omega
  have tk := s.text 8 (by omega) h hk
  have fo := form_ok2 (h := h) (ps := [at1 w, kp]) (d := .rol [dS w, dS kp.2]) (all_cons (Pc.atm a) (all_cons s.pc all_nil)) hz rfl
  simp [tk, fo]
theorem if_no {op s : Str} {δ : MS} {k : MH} {A : MSt} (v : δ[2]? = some (some (.str op))) (n : ¬ op = s) : mIfS (mB (mOp opEq (mVar 2) (mC (.str s)))) A mNext δ k = .ok (.next δ) k := by
  simp only [mIfS_eq, mB_eq, mOp_eq, mVar_eq v, mC_eq, R.bnd_ok, opEq_str]
  simp [n]
theorem if_yes {op s : Str} {δ : MS} {k : MH} {A B : MSt} (v : δ[2]? = some (some (.str op))) (n : op = s) : mIfS (mB (mOp opEq (mVar 2) (mC (.str s)))) A B δ k = A δ k := by
  simp only [mIfS_eq, mB_eq, mOp_eq, mVar_eq v, mC_eq, R.bnd_ok, opEq_str]
  simp [n]
noncomputable def gtS : MSt := mDrop (mMtd "list" fAppend (mVar 1) (mCons (mCall fStr3 (mCons (mVar 4) (mNil))) (mNil)))
noncomputable def ltS : MSt := mDrop (mMtd "list" fAppend (mVar 1) (mCons (mVar 4) (mNil)))
noncomputable def fnS : MSt := mSeq (mDrop (mMtd "list" fAppend (mVar 1) (mCons (mC (.str "(")) (mNil)))) (mSeq (mDrop (mMtd "list" fAppend (mVar 1) (mCons (mOp opIx (mVar 4) (mC (.int 0))) (mNil)))) (mSeq (mDrop (mCall (m__law_kind_words 8) (mCons (mOp opIx (mVar 4) (mC (.int 1))) (mCons (mVar 1) (mNil))))) (mDrop (mMtd "list" fAppend (mVar 1) (mCons (mC (.str ")")) (mNil))))))
noncomputable def rsS : MSt := mSeq (mDrop (mMtd "list" fAppend (mVar 1) (mCons (mOp opIx (mVar 4) (mC (.int 0))) (mNil)))) (mDrop (mCall (m__law_kind_words 8) (mCons (mOp opIx (mVar 4) (mC (.int 1))) (mCons (mVar 1) (mNil)))))
noncomputable def ifS (s : Str) (A : MSt) : MSt := mIfS (mB (mOp opEq (mVar 2) (mC (.str s)))) A mNext
noncomputable def restS : MSt := mSeq (ifS "get" gtS) (mSeq (ifS "let" ltS) (mSeq (ifS "fn" fnS) (ifS "raise" rsS)))
theorem head_eq : b__law_head = mSeq (mAsg (mVar 0) (mgTup 5 (mgCons (mgName 2) (mgCons (mgName 3) (mgCons (mgName 4) (mgCons (mgName 5) (mgCons (mgName 6) (mgNil)))))))) (mSeq (mDrop (mMtd "list" fAppend (mVar 1) (mCons (mC (.str "(")) (mNil)))) (mSeq (mDrop (mMtd "list" fAppend (mVar 1) (mCons (mIf (mB (mOp opIn (mVar 2) (mTup (mCons (mC (.str "call")) (mCons (mC (.str "make")) (mNil)))))) (mVar 4) (mVar 2)) (mNil)))) restS)) := rfl
theorem head_gen {op : Str} {info : D} {cm gl f r g l : Bool} (F : OpF op cm gl f r g l) {w : Wd} (hi : (if cm then info else .str op) = dS w) {ws : List Wd} {at' : Int} {kids arms : D} {m : Nat} {old : List Wd} (hm : m < h.length) (hz : old.length + 1 + (w :: ws).length ≤ 16000000)
    (rest : ∀ δ : MS, δ[1]? = some (some (.ref m)) → δ[2]? = some (some (.str op)) → δ[4]? = some (some info) → restS δ (wr h m (old ++ [[40]] ++ [w])) = .ok (.next δ) (wr h m (old ++ [[40]] ++ [w] ++ ws))) :
    m__law_head [.tup [.str op, .int at', info, kids, arms], .ref m] (wr h m old) = .ok .non (wr h m (old ++ ([40] :: w :: ws))) := by
  obtain ⟨δ, hδ⟩ : ∃ δ : MS, δ = [some (.tup [.str op, .int at', info, kids, arms]), some (.ref m), some (.str op), some (.int at'), some info, some kids, some arms] := ⟨_, rfl⟩
  have hz1 : old.length + 2 + ws.length ≤ 16000000 := by simp at hz; omega
  have p1 : mDrop (mMtd "list" fAppend (mVar 1) (mCons (mC (.str "(")) mNil)) δ (wr h m old) = .ok (.next δ) (wr h m (old ++ [[40]])) := push hm (by rw [hδ]; rfl) rfl (by omega)
  have fc := F.cm (wr h m (old ++ [[40]]))
  have p2 : mDrop (mMtd "list" fAppend (mVar 1) (mCons (mIf (mB (mOp opIn (mVar 2) (mTup (mCons (mC (.str "call")) (mCons (mC (.str "make")) (mNil)))))) (mVar 4) (mVar 2)) mNil)) δ (wr h m (old ++ [[40]])) = .ok (.next δ) (wr h m (old ++ [[40]] ++ [w])) := push hm (by rw [hδ]; rfl) (by
    rw [← hi, hδ]
    cases cm <;> simp [fc]) (by simp; omega)
  have e1 : mAsg (mVar 0) (mgTup 5 (mgCons (mgName 2) (mgCons (mgName 3) (mgCons (mgName 4) (mgCons (mgName 5) (mgCons (mgName 6) mgNil)))))) [some (.tup [.str op, .int at', info, kids, arms]), some (.ref m), none, none, none, none, none] (wr h m old) = .ok (.next δ) (wr h m old) := by rw [hδ]; simp
  have e3 := rest δ (by rw [hδ]; rfl) (by rw [hδ]; rfl) (by rw [hδ]; rfl)
  unfold m__law_head
  refine fn_next (δ := δ) rfl ?_ (by rw [wr_len, wr_len]) (wr_left hm _ _)
  have st : mStart 7 [D.tup [.str op, .int at', info, kids, arms], .ref m] = [some (.tup [.str op, .int at', info, kids, arms]), some (.ref m), none, none, none, none, none] := rfl
  rw [st, head_eq, mSeq_eq, e1, SR.seq_next, mSeq_eq, p1, SR.seq_next, mSeq_eq, p2, SR.seq_next, e3]
  simp
theorem rest_no {op : Str} {cm gl : Bool} (F : OpF op cm gl false false false false) {δ : MS} {k : MH} (v : δ[2]? = some (some (.str op))) : restS δ k = .ok (.next δ) k := by
  have n1 : ¬ op = Str.ofString "get" := fun z => Bool.false_ne_true (F.g.mp z)
  have n2 : ¬ op = Str.ofString "let" := fun z => Bool.false_ne_true (F.l.mp z)
  have n3 : ¬ op = Str.ofString "fn" := fun z => Bool.false_ne_true (F.f.mp z)
  have n4 : ¬ op = Str.ofString "raise" := fun z => Bool.false_ne_true (F.r.mp z)
  unfold restS ifS
  rw [mSeq_eq, if_no v n1, SR.seq_next, mSeq_eq, if_no v n2, SR.seq_next, mSeq_eq, if_no v n3, SR.seq_next, if_no v n4]
theorem hsp_call {op : Str} (f : OpF op true false false false false false) {w : Wd} (a : Atm w) : HSp op (dS w) [at1 w] := by
  refine ⟨all1 a, by show 1 ≤ 140; omega, fun _ => rfl, f.nl, fun h _ => ?_, fun at' kids arms h m old hm hz => head_gen f rfl hm (ws := []) hz fun δ _ v _ => by rw [rest_no f v]; simp⟩
  unfold m__first_parts
  rw [mFnN_eq (show [D.str op, dS w].length = 2 from rfl)]
  have st : mStart 2 [D.str op, dS w] = [some (.str op), some (dS w)] := rfl
  rw [st]
  unfold b__first_parts
  have := f.cm h
  simp [this]
  rfl
theorem hsp_plain {op : Str} (f : OpF op false false false false false false) : HSp op .non [at1 (tl op)] := by
  refine ⟨all1 f.atm, by show 1 ≤ 140; omega, fun _ => rfl, f.nl, fun h _ => ?_, fun at' kids arms h m old hm hz => head_gen f (dS_tl op) hm (ws := []) hz fun δ _ v _ => by rw [rest_no f v]; simp⟩
  unfold m__first_parts
  rw [mFnN_eq (show [D.str op, .non].length = 2 from rfl)]
  have st : mStart 2 [D.str op, .non] = [some (.str op), some .non] := rfl
  rw [st]
  unfold b__first_parts
  have e1 := f.cm h
  have e2 := f.gl h
  have n3 : ¬ op = Str.ofString "fn" := fun z => Bool.false_ne_true (f.f.mp z)
  have n4 : ¬ op = Str.ofString "raise" := fun z => Bool.false_ne_true (f.r.mp z)
  simp [e1, e2, n3, n4]
  show R.ok _ _ = R.ok _ (h ++ [MO.lst [dS (tl op)]])
  rw [← dS_tl]
theorem hsp_get {i : Int} (h0 : 0 ≤ i) (h1 : i < 6) : HSp "get" (.int i) [at1 (tl "get"), at1 (numW i)] := by
  have f := opf_get
  have nb : i.natAbs < 10 ^ 20 := Nat.lt_of_lt_of_le (show i.natAbs < 6 by omega) (by decide)
  refine ⟨all_cons (Pc.atm f.atm) (all1 (numW_atm (Nat.lt_of_lt_of_le (show i.natAbs < 6 by omega) (by decide)))), by show 2 ≤ 140; omega, fun _ => rfl, f.nl, fun h _ => ?_, fun at' kids arms h m old hm hz => head_gen f (dS_tl _) hm (ws := [numW i]) hz fun δ v1 v v4 => ?_⟩
  · unfold m__first_parts
    rw [mFnN_eq (show [D.str "get", .int i].length = 2 from rfl)]
    have st : mStart 2 [D.str "get", .int i] = [some (.str "get"), some (.int i)] := rfl
    rw [st]
    unfold b__first_parts
    have e1 := f.cm h
    have e2 := f.gl h
    simp [e1, e2, numW_ok nb]
    show R.ok _ _ = R.ok _ (h ++ [MO.lst [dS (tl "get"), dS (numW i)]])
    rw [← dS_tl]
  · have hz1 : old.length + 3 ≤ 16000000 := by simp [flat] at hz; omega
    have p : gtS δ (wr h m (old ++ [[40]] ++ [tl "get"])) = .ok (.next δ) (wr h m (old ++ [[40]] ++ [tl "get"] ++ [numW i])) := push hm v1 (by simp only [mCall_eq, mCons_eq, mVar_eq v4, R.bnd_ok, mNil_eq, numW_ok nb]) (by simp; omega)
    unfold restS ifS
    rw [mSeq_eq, if_yes v rfl, p, SR.seq_next, mSeq_eq, if_no v (by decide), SR.seq_next, mSeq_eq, if_no v (by decide), SR.seq_next, if_no v (by decide)]
theorem hsp_let {w : Wd} (a : Atm w) : HSp "let" (dS w) [at1 (tl "let"), at1 w] := by
  have f := opf_let
  refine ⟨all_cons (Pc.atm f.atm) (all1 a), by show 2 ≤ 140; omega, fun _ => rfl, f.nl, fun h _ => ?_, fun at' kids arms h m old hm hz => head_gen f (dS_tl _) hm (ws := [w]) hz fun δ v1 v v4 => ?_⟩
  · unfold m__first_parts
    rw [mFnN_eq (show [D.str "let", dS w].length = 2 from rfl)]
    have st : mStart 2 [D.str "let", dS w] = [some (.str "let"), some (dS w)] := rfl
    rw [st]
    unfold b__first_parts
    have e1 := f.cm h
    have e2 := f.gl h
    have e3 : fStr3 [dS w] h = .ok (dS w) h := rfl
    simp [e1, e2, e3]
    show R.ok _ _ = R.ok _ (h ++ [MO.lst [dS (tl "let"), dS w]])
    rw [← dS_tl]
  · have hz1 : old.length + 3 ≤ 16000000 := by simp [flat] at hz; omega
    have p : ltS δ (wr h m (old ++ [[40]] ++ [tl "let"])) = .ok (.next δ) (wr h m (old ++ [[40]] ++ [tl "let"] ++ [w])) := push hm v1 (mVar_eq v4) (by simp; omega)
    unfold restS ifS
    rw [mSeq_eq, if_no v (by decide), SR.seq_next, mSeq_eq, if_yes v rfl, p, SR.seq_next, mSeq_eq, if_no v (by decide), SR.seq_next, if_no v (by decide)]
end
end K05

namespace K05
open PySem PySem.Spec PyProof.Rows L2 MM
section
variable {h : MH}
theorem wt_formW (ws : List Wd) : wt (formW ws) = wt ws + 4 := by
  unfold formW
  rw [wt_cons, wt_app, wt_cons, wt_nil]
  simp
  omega
theorem kw_stmt {k : D} {kp : PP} (s : KSp 3 k kp) {a : ME} {δ : MS} {m : Nat} {old : List Wd} (hm : m < h.length) (v1 : δ[1]? = some (some (.ref m))) (ea : a δ (wr h m old) = .ok k (wr h m old)) (hz : old.length + kp.1.length ≤ 16000000) :
    mDrop (mCall (m__law_kind_words 8) (mCons a (mCons (mVar 1) mNil))) δ (wr h m old) = .ok (.next δ) (wr h m (old ++ kp.1)) := by
  have := s.words 8 (by omega) h m old hm hz
  simp only [mDrop_eq, mCall_eq, mCons_eq, ea, R.bnd_ok, mVar_eq v1, mNil_eq, this]
  rfl
theorem hsp_fn {w : Wd} {k : D} {kp : PP} (a : Atm w) (s : KSp 3 k kp) (lk : ∀ m, k.lows m = true) : HSp "fn" (.tup [dS w, k]) [at1 (tl "fn"), (formW (flat [at1 w, kp]), formT (txts [at1 w, kp]))] := by
  have f := opf_fn
  have ak : AllPc [at1 w, kp] := all_cons (Pc.atm a) (all_cons s.pc all_nil)
  have sz := s.sz
  have kb : KB 3 = 129 := rfl
  have e0 : flat [at1 w, kp] = w :: kp.1 := by simp [flat]
  refine ⟨all_cons (Pc.atm f.atm) (all_cons (Pc.form ak) all_nil), ?_, fun m => ?_, f.nl, fun h hz => ?_, fun at' kids arms h m old hm hz => ?_⟩
  · simp [flat, formW]; omega
  · show (true && (k.lows m && true)) = true
    rw [lk]; rfl
  · have hz' : wt (flat [at1 w, kp]) ≤ 1000000 := by
      rw [flat_cons, flat_cons, wt_app, wt_app] at hz
      have := wt_formW (flat [at1 w, kp])
      have hz2 : wt [tl "fn"] + (wt (formW (flat [at1 w, kp])) + wt (flat [])) ≤ 1000000 := hz
      omega
    have pk := param_ok (h := h) a s hz'
    unfold m__first_parts
    rw [mFnN_eq (show [D.str "fn", .tup [dS w, k]].length = 2 from rfl)]
    have st : mStart 2 [D.str "fn", .tup [dS w, k]] = [some (.str "fn"), some (.tup [dS w, k])] := rfl
    rw [st]
    unfold b__first_parts
    have e1 := f.cm h
    have e2 := f.gl h
    simp [e1, e2, pk]
    show R.ok _ _ = R.ok _ (h ++ [MO.lst [dS (tl "fn"), dS _]])
    rw [← dS_tl]
  · have hl : (flat [at1 (tl "fn"), (formW (flat [at1 w, kp]), formT (txts [at1 w, kp]))]) = tl "fn" :: formW (w :: kp.1) := by simp [flat]
    rw [hl] at hz ⊢
    have hz1 : old.length + 5 + kp.1.length ≤ 16000000 := by simp [formW] at hz; omega
    refine head_gen f (dS_tl _) hm hz fun δ v1 v v4 => ?_
    have i0 : ∀ k', opIx (.tup [dS w, k]) (.int 0) k' = .ok (dS w) k' := fun k' => ix0
    have i1 : ∀ k', opIx (.tup [dS w, k]) (.int 1) k' = .ok k k' := fun k' => ix1
    obtain ⟨o, ho⟩ : ∃ o, o = old ++ [[40]] ++ [tl "fn"] := ⟨_, rfl⟩
    have lo : o.length = old.length + 2 := by rw [ho]; simp
    rw [← ho]
    have p1 : mDrop (mMtd "list" fAppend (mVar 1) (mCons (mC (.str "(")) mNil)) δ (wr h m o) = .ok (.next δ) (wr h m (o ++ [[40]])) := push hm v1 rfl (by omega)
    have p2 : mDrop (mMtd "list" fAppend (mVar 1) (mCons (mOp opIx (mVar 4) (mC (.int 0))) mNil)) δ (wr h m (o ++ [[40]])) = .ok (.next δ) (wr h m (o ++ [[40]] ++ [w])) := push hm v1 (by simp only [mOp_eq, mVar_eq v4, mC_eq, R.bnd_ok, i0]) (by simp; omega)
    have p3 := kw_stmt s (a := mOp opIx (mVar 4) (mC (.int 1))) (old := o ++ [[40]] ++ [w]) hm v1 (by simp only [mOp_eq, mVar_eq v4, mC_eq, R.bnd_ok, i1]) (by simp; omega)
    have p4 : mDrop (mMtd "list" fAppend (mVar 1) (mCons (mC (.str ")")) mNil)) δ (wr h m (o ++ [[40]] ++ [w] ++ kp.1)) = .ok (.next δ) (wr h m (o ++ [[40]] ++ [w] ++ kp.1 ++ [[41]])) := push hm v1 rfl (by simp; omega)
    have pf : fnS δ (wr h m o) = .ok (.next δ) (wr h m (o ++ formW (w :: kp.1))) := by
      unfold fnS
      rw [mSeq_eq, p1, SR.seq_next, mSeq_eq, p2, SR.seq_next, mSeq_eq, p3, SR.seq_next, p4]
      simp [formW]
    unfold restS ifS
    rw [mSeq_eq, if_no v (by decide), SR.seq_next, mSeq_eq, if_no v (by decide), SR.seq_next, mSeq_eq, if_yes v rfl, pf, SR.seq_next, if_no v (by decide)]
theorem hsp_raise {w : Wd} {k : D} {kp : PP} (a : Atm w) (s : KSp 3 k kp) (lk : ∀ m, k.lows m = true) : HSp "raise" (.tup [dS w, k]) [at1 (tl "raise"), at1 w, kp] := by
  have f := opf_raise
  have sz := s.sz
  have kb : KB 3 = 129 := rfl
  refine ⟨all_cons (Pc.atm f.atm) (all_cons (Pc.atm a) (all_cons s.pc all_nil)), ?_, fun m => ?_, f.nl, fun h hz => ?_, fun at' kids arms h m old hm hz => ?_⟩
  · simp [flat]; omega
  · show (true && (k.lows m && true)) = true
    rw [lk]; rfl
  · have hk : wt kp.1 ≤ 1000000 := by rw [flat_cons, flat_cons, flat_cons, wt_app, wt_app, wt_app] at hz; omega
    have tk := s.text 8 (by omega) h hk
    unfold m__first_parts
    rw [mFnN_eq (show [D.str "raise", .tup [dS w, k]].length = 2 from rfl)]
    have st : mStart 2 [D.str "raise", .tup [dS w, k]] = [some (.str "raise"), some (.tup [dS w, k])] := rfl
    rw [st]
    unfold b__first_parts
    have e1 := f.cm h
    have e2 := f.gl h
    have nf : ¬ (Str.ofString "raise" = Str.ofString "fn") := by decide
    simp [e1, e2, nf, tk, ix0, ix1]
    show R.ok _ _ = R.ok _ (h ++ [MO.lst [dS (tl "raise"), dS w, dS kp.2]])
    rw [← dS_tl]
  · have hl : (flat [at1 (tl "raise"), at1 w, kp]) = tl "raise" :: (w :: kp.1) := by simp [flat]
    rw [hl] at hz ⊢
    have hz1 : old.length + 3 + kp.1.length ≤ 16000000 := by simp at hz; omega
    refine head_gen f (dS_tl _) hm hz fun δ v1 v v4 => ?_
    have i0 : ∀ k', opIx (.tup [dS w, k]) (.int 0) k' = .ok (dS w) k' := fun k' => ix0
    have i1 : ∀ k', opIx (.tup [dS w, k]) (.int 1) k' = .ok k k' := fun k' => ix1
    obtain ⟨o, ho⟩ : ∃ o, o = old ++ [[40]] ++ [tl "raise"] := ⟨_, rfl⟩
    have lo : o.length = old.length + 2 := by rw [ho]; simp
    rw [← ho]
    have p2 : mDrop (mMtd "list" fAppend (mVar 1) (mCons (mOp opIx (mVar 4) (mC (.int 0))) mNil)) δ (wr h m o) = .ok (.next δ) (wr h m (o ++ [w])) := push hm v1 (by simp only [mOp_eq, mVar_eq v4, mC_eq, R.bnd_ok, i0]) (by omega)
    have p3 := kw_stmt s (a := mOp opIx (mVar 4) (mC (.int 1))) (old := o ++ [w]) hm v1 (by simp only [mOp_eq, mVar_eq v4, mC_eq, R.bnd_ok, i1]) (by simp; omega)
    have pf : rsS δ (wr h m o) = .ok (.next δ) (wr h m (o ++ (w :: kp.1))) := by
      unfold rsS
      rw [mSeq_eq, p2, SR.seq_next, p3]
      simp
    unfold restS ifS
    rw [mSeq_eq, if_no v (by decide), SR.seq_next, mSeq_eq, if_no v (by decide), SR.seq_next, mSeq_eq, if_no v (by decide), SR.seq_next, if_yes v rfl, pf]
theorem head_spec {op : Str} {info : D} (H : HOk op info) : ∃ ps, HSp op info ps := by
  rcases H with ⟨e, w, rfl, a⟩ | ⟨rfl, i, rfl, h0, h1⟩ | ⟨rfl, w, rfl, a⟩ | ⟨rfl, w, k, rfl, a, hk⟩ | ⟨rfl, w, k, rfl, a, hk⟩ | ⟨hp, rfl⟩
  · rcases e with rfl | rfl
    · exact ⟨_, hsp_call opf_call a⟩
    · exact ⟨_, hsp_call opf_make a⟩
  · exact ⟨_, hsp_get h0 h1⟩
  · exact ⟨_, hsp_let a⟩
  · obtain ⟨kp, s⟩ := kind_spec 3 k hk
    exact ⟨_, hsp_fn a s fun m => hk.lows m⟩
  · obtain ⟨kp, s⟩ := kind_spec 3 k hk
    exact ⟨_, hsp_raise a s fun m => hk.lows m⟩
  · exact ⟨_, hsp_plain (opf_plain hp)⟩
/-- a comprehension that puts words down and makes things -/
theorem lc_words {Rp : D → PP → Prop} {Y : D → PP → Prop} {src : MI} {tgt : MG} {elt : ME} {vs : List Nat} {δ : MS} {m : Nat} {old : List Wd} {ks : List D} {ps : List PP} (hm : m < h.length) (es : src δ (wr h m old) = .ok ⟨ks, fun _ => True⟩ (wr h m old)) (hp : Paired Rp ks ps) (hz : ks.length < 16777216)
    (ho : old.length + (flat ps).length ≤ 16000000) (lo : ∀ y p, Y y p → ∀ m, y.lows m = true)
    (step : ∀ x p old' acc, Rp x p → p ∈ ps → old'.length + p.1.length ≤ 16000000 → ∃ δ1 y, tgt x (wipeM δ vs) = some δ1 ∧ elt δ1 (wr h m old' ++ [.lst acc]) = .ok y (wr h m (old' ++ p.1) ++ [.lst acc]) ∧ Y y p) :
    ∃ ys, mLc src tgt mYes elt vs δ (wr h m old) = .ok (.rol ys) (wr h m (old ++ flat ps)) ∧ Paired Y ys ps := by
  have lm : ∀ {l : List D} {qs : List PP}, Paired Y l qs → ∀ m, lowsL m l = true := fun {l qs} p m => by
    induction p with
    | nil => rfl
    | cons a _ ih => show ((_ : D).lows m && lowsL m _) = true; rw [lo _ _ a, ih]; rfl
  have t : Tm (mLc src tgt mYes elt vs δ (wr h m old)) (fun d h' => ∃ ys, d = .rol ys ∧ h' = wr h m (old ++ flat ps) ∧ Paired Y ys ps) NoX := by
    refine Tm_lcI (fun S h' => S = ⟨ks, fun _ => True⟩ ∧ h' = wr h m old) (.of es ⟨rfl, rfl⟩) ?_
    rintro S h' ⟨rfl, rfl⟩
    refine ⟨fun r acc k => ∃ p1 p2, Paired Rp r p2 ∧ p1 ++ p2 = ps ∧ k = wr h m (old ++ flat p1) ∧ Paired Y acc p1 ∧ acc.length + r.length ≤ ks.length, ⟨[], ps, hp, rfl, by simp [flat], .nil, by simp⟩, ?_, ?_, ?_⟩
    · rintro r acc k ⟨p1, p2, _, _, rfl, _, hl⟩
      exact ⟨⟨by rw [wr_len, wr_len], by omega⟩, trivial⟩
    · rintro x r acc k ⟨p1, p2, pr, ep, rfl, py, hl⟩
      cases pr with
      | @cons _ b _ bs rx pr =>
        have : (flat ps).length = (flat p1).length + (b.1.length + (flat bs).length) := by rw [← ep, flat_app, flat_cons]; simp
        obtain ⟨δ1, y, e1, e2, hy⟩ := step x b (old ++ flat p1) acc rx (by rw [← ep]; simp) (by rw [List.length_append]; omega)
        exact ⟨δ1, e1, .of e2 ⟨_, rfl, p1 ++ [b], bs, pr, by simp [← ep], by rw [flat_app, flat_cons]; simp [flat], py.snoc hy, by simp at hl ⊢; omega⟩⟩
    · rintro acc k ⟨p1, p2, pr, ep, rfl, py, hl⟩
      cases pr
      rw [List.append_nil] at ep
      subst ep
      exact ⟨⟨wr_left hm _ _, lm py _⟩, acc, rfl, rfl, py⟩
  obtain ⟨d, h', e, ys, rfl, rfl, py⟩ := t.ex
  exact ⟨ys, e, py⟩
end
end K05

namespace K05
open PySem PySem.Spec PyProof.Rows L2 MM
def TX (n : Nat) (d : D) (p : PP) : Prop := ∀ f, 2 * n ≤ f → ∀ h, wt p.1 ≤ 1000000 → m__expression_text f [d] h = .ok (dS p.2) h
def AT (op : Str) (n : Nat) (a : D) (p : PP) : Prop := ∀ f, 2 * n + 1 ≤ f → ∀ h, wt p.1 ≤ 1000000 → m__arm_text f [.str op, a] h = .ok (dS p.2) h
def atoms (ws : List Wd) : List PP := ws.map at1
theorem flat_atoms : ∀ ws : List Wd, flat (atoms ws) = ws
  | [] => rfl
  | w :: r => by show flat (at1 w :: atoms r) = _; rw [flat_cons, flat_atoms r]; rfl
theorem txts_atoms : ∀ ws : List Wd, txts (atoms ws) = ws
  | [] => rfl
  | w :: r => by show w :: txts (atoms r) = _; rw [txts_atoms r]
theorem all_atoms {ws : List Wd} (a : ∀ w ∈ ws, Atm w) : AllPc (atoms ws) := fun p hp => by
  obtain ⟨w, hw, rfl⟩ := List.mem_map.mp hp
  exact Pc.atm (a w hw)
theorem txts_app (a b : List PP) : txts (a ++ b) = txts a ++ txts b := List.map_append
/-- the pieces of an arm -/
def armP (op : Str) (nm : Wd) (vs : List Wd) (bp : PP) : List PP := if op = "case" then [(formW (flat (atoms (nm :: vs))), formT (txts (atoms (nm :: vs)))), bp] else atoms (nm :: vs) ++ [bp]
abbrev fp (ps : List PP) : PP := (formW (flat ps), formT (txts ps))
theorem arm_all {op : Str} {nm : Wd} {vs : List Wd} {bp : PP} (a : Atm nm) (av : ∀ v ∈ vs, Atm v) (pb : Pc bp.1 bp.2) : AllPc (armP op nm vs bp) := by
  have aa : AllPc (atoms (nm :: vs)) := all_atoms fun w hw => by
    rcases List.mem_cons.mp hw with z | z
    · rw [z]; exact a
    · exact av w z
  unfold armP
  split
  · exact all_cons (Pc.form aa) (all_cons pb all_nil)
  · exact all_app aa (all_cons pb all_nil)
section
variable {h : MH}
theorem wt_fp {ps : List PP} (hz : wt (fp ps).1 ≤ 1000000) : wt (flat ps) ≤ 1000000 := by
  have := wt_formW (flat ps)
  have hz2 : wt (formW (flat ps)) ≤ 1000000 := hz
  omega
theorem arm_text {op : Str} {n : Nat} {nm : Wd} {vs : List Wd} {b : D} {bp : PP} (a : Atm nm) (av : ∀ v ∈ vs, Atm v) (hv : vs.length ≤ 3) (pb : Pc bp.1 bp.2) (tb : TX n b bp) : AT op n (.tup [dS nm, .tup (dSs vs), b]) (fp (armP op nm vs bp)) := by
  intro f hf h hz
  obtain ⟨g, rfl⟩ : ∃ g, f = g + 1 := ⟨f - 1, by omega⟩
  have hz1 := wt_fp hz
  have all := arm_all (op := op) a av pb
  have aa : AllPc (atoms (nm :: vs)) := all_atoms fun w hw => by
    rcases List.mem_cons.mp hw with z | z
    · rw [z]; exact a
    · exact av w z
  have hb : wt bp.1 ≤ 1000000 := by
    have : bp ∈ armP op nm vs bp := by unfold armP; split <;> simp
    have := wt_flat_le this
    omega
  have te := tb g (by omega) h hb
  rw [m__arm_text_succ]
  refine mFn_pure0 rfl ?_ rfl
  have st : mStart 5 [D.str op, .tup [dS nm, .tup (dSs vs), b]] = [some (.str op), some (.tup [dS nm, .tup (dSs vs), b]), none, none, none] := rfl
  rw [st]
  unfold b__arm_text
  have z3 : vs.length + 2 ≤ 16777216 := by omega
  by_cases hc : op = "case"
  · subst hc
    unfold armP at hz1 all ⊢
    rw [if_pos rfl] at hz1 all ⊢
    have h1 : wt (flat (atoms (nm :: vs))) ≤ 1000000 := by
      rw [flat_cons, wt_app] at hz1
      have := wt_formW (flat (atoms (nm :: vs)))
      have hz2 : wt (formW (flat (atoms (nm :: vs)))) + wt (flat [bp]) ≤ 1000000 := hz1
      omega
    have f1 := form_ok2 (h := h) aa h1 (d := .rol (dS nm :: dSs vs)) (by rw [txts_atoms]; rfl)
    have f2 := form_ok2 (h := h) all hz1 (d := .rol [dS (formT (txts (atoms (nm :: vs)))), dS bp.2]) rfl
    simp only [txts_atoms] at f1 f2 ⊢
    simp [mStar, seqG, te, f1, f2, show vs.length + 1 ≤ 16777216 by omega]
  · unfold armP at hz1 all ⊢
    rw [if_neg hc] at hz1 all ⊢
    have f2 := form_ok2 (h := h) all hz1 (d := .rol (dS nm :: (dSs vs ++ [dS bp.2]))) (by rw [txts_app, txts_atoms]; simp [txts, seqG])
    simp [mStar, seqG, te, hc, show vs.length + 1 + 1 ≤ 16777216 by omega]
    rw [f2]; rfl
theorem text_node {n : Nat} {op : Str} {info : D} {hps : List PP} (H : HSp op info hps) {at' : Int} {ks as : List D} {kps aps : List PP} (hk : Paired (TX n) ks kps) (ak : AllPc kps) (ha : Paired (AT op n) as aps) (aa : AllPc aps) (hl : ks.length + as.length ≤ 9) :
    TX (n + 1) (.tup [.str op, .int at', info, .tup ks, .tup as]) (fp (hps ++ kps ++ aps)) := by
  intro f hf h hz
  obtain ⟨g, rfl⟩ : ∃ g, f = g + 1 := ⟨f - 1, by omega⟩
  have hz1 := wt_fp hz
  have all : AllPc (hps ++ kps ++ aps) := all_app (all_app H.all ak) aa
  have hz2 := hz1
  rw [flat_app, flat_app, wt_app, wt_app] at hz2
  have fs := H.first h (by omega)
  have jh := jl_sum hps H.all
  have lh : (txts hps).length ≤ 1000000 := by omega
  have lk : (txts kps).length = ks.length := by unfold txts; rw [List.length_map]; exact hk.length.symm
  have la : (txts aps).length = as.length := by unfold txts; rw [List.length_map]; exact ha.length.symm
  rw [m__expression_text_succ]
  obtain ⟨d0, hd0⟩ : ∃ d0, d0 = D.tup [.str op, .int at', info, .tup ks, .tup as] := ⟨_, rfl⟩
  have h1 : ∀ x, lst? (h ++ [MO.lst x]) h.length = some x := fun x => lst?_of (by simp)
  have s1 : ∀ x y, (h ++ [MO.lst x]).set h.length (.lst y) = h ++ [.lst y] := fun x y => by simp
  have lc1 : ∀ (x : List D) (y7 y8 : Option D), mLc (mSrc (mVar 4)) (mgName 7) (mYes) (mCall (m__expression_text g) (mCons (mVar 7) (mNil))) [7] [some d0, some (.str op), some (.int at'), some info, some (.tup ks), some (.tup as), some (.ref h.length), y7, y8] (h ++ [.lst x]) = .ok (.rol (kps.map fun p => dS p.2)) (h ++ [.lst x]) := fun l0 y7 y8 =>
    lc_pair (enc := fun p : PP => dS p.2) (R := TX n) (ks := ks) (by simp) hk (by omega) (fun _ _ => rfl) fun x p hx hpm => ⟨_, rfl, fun k => by
      have := hx g (by omega) (h ++ [.lst l0] ++ k) (by have := wt_flat_le hpm; omega)
      simp [wipeM] at this ⊢
      simp [this]⟩
  have lc2 : ∀ (x : List D) (y7 y8 : Option D), mLc (mSrc (mVar 5)) (mgName 8) (mYes) (mCall (m__arm_text g) (mCons (mVar 1) (mCons (mVar 8) (mNil)))) [8] [some d0, some (.str op), some (.int at'), some info, some (.tup ks), some (.tup as), some (.ref h.length), y7, y8] (h ++ [.lst x]) = .ok (.rol (aps.map fun p => dS p.2)) (h ++ [.lst x]) := fun l0 y7 y8 =>
    lc_pair (enc := fun p : PP => dS p.2) (R := AT op n) (ks := as) (by simp) ha (by omega) (fun _ _ => rfl) fun x p hx hpm => ⟨_, rfl, fun k => by
      have := hx g (by omega) (h ++ [.lst l0] ++ k) (by have := wt_flat_le hpm; omega)
      simp [wipeM] at this ⊢
      simp [this]⟩
  have ff := form_ok2 (h := h ++ [MO.lst (dSs (txts (hps ++ kps ++ aps)))]) all hz1 (d := .ref h.length) (show seqG (.ref h.length) (h ++ [MO.lst (dSs (txts (hps ++ kps ++ aps)))]) = some _ from h1 (dSs (txts (hps ++ kps ++ aps))))
  refine mFn_pure (g := [.lst (dSs (txts (hps ++ kps ++ aps)))]) rfl ?_ rfl
  have st : mStart 9 [D.tup [.str op, .int at', info, .tup ks, .tup as]] = [some d0, none, none, none, none, none, none, none, none] := by rw [hd0]; rfl
  rw [st]
  unfold b__expression_text
  have nl := in_h (h := h) H.nl
  have ea : mAsg (mVar 0) (mgTup 5 (mgCons (mgName 1) (mgCons (mgName 2) (mgCons (mgName 3) (mgCons (mgName 4) (mgCons (mgName 5) mgNil)))))) [some d0, none, none, none, none, none, none, none, none] h = .ok (.next [some d0, some (.str op), some (.int at'), some info, some (.tup ks), some (.tup as), none, none, none]) h := by rw [hd0]; simp
  have ext : ∀ (M : ME) (δ : MS) (a b : List Wd), δ[6]? = some (some (.ref h.length)) → M δ (h ++ [.lst (dSs a)]) = .ok (.rol (dSs b)) (h ++ [.lst (dSs a)]) → a.length + b.length ≤ 16777216 → mDrop (mMtd "list" fExtend (mVar 6) (mCons M mNil)) δ (h ++ [.lst (dSs a)]) = .ok (.next δ) (h ++ [.lst (dSs (a ++ b))]) := fun M δ a b v eM hz => by
    have fe : fExtend (.ref h.length) [.rol (dSs b)] (h ++ [.lst (dSs a)]) = .ok .non (h ++ [.lst (dSs (a ++ b))]) := by
      unfold fExtend
      simp only [h1, show seqG (.rol (dSs b)) (h ++ [.lst (dSs a)]) = some (dSs b) from rfl]
      rw [if_pos (by simp; omega), s1]
      simp
    simp only [mDrop_eq, mMtd_eq, mVar_eq v, R.bnd_ok]
    rw [if_pos (isTy_list (h := h ++ [MO.lst (dSs a)]) (n := h.length) (es := dSs a) (by simp))]
    simp only [mCons_eq, eM, R.bnd_ok, mNil_eq, fe]
    rfl
  have x1 := ext _ _ (txts hps) (txts kps) (by rfl) ((lc1 (dSs (txts hps)) none none).trans (by simp [txts])) (by omega)
  have x2 := ext _ _ (txts hps ++ txts kps) (txts aps) (by rfl) ((lc2 (dSs (txts hps ++ txts kps)) none none).trans (by simp [txts])) (by simp; omega)
  rw [mSeq_eq, ea, SR.seq_next]
  have e2 : ∀ A, mSeq (mIfS (mB (mOp opIn (mVar 1) (mTup (mCons (mC (.str "int")) (mCons (mC (.str "bool")) (mCons (mC (.str "unit")) (mCons (mC (.str "name")) (mNil)))))))) (mRet (mCall m__word_text (mCons (mVar 1) (mCons (mVar 3) (mNil))))) (mNext)) A [some d0, some (.str op), some (.int at'), some info, some (.tup ks), some (.tup as), none, none, none] h = A [some d0, some (.str op), some (.int at'), some info, some (.tup ks), some (.tup as), none, none, none] h := fun A => by
    rw [mSeq_eq]
    simp [nl]
  rw [e2]
  have e3 : mSet 6 (mCall m__first_parts (mCons (mVar 1) (mCons (mVar 3) mNil))) [some d0, some (.str op), some (.int at'), some info, some (.tup ks), some (.tup as), none, none, none] h = .ok (.next [some d0, some (.str op), some (.int at'), some info, some (.tup ks), some (.tup as), some (.ref h.length), none, none]) (h ++ [.lst (dSs (txts hps))]) := by simp [fs]
  rw [mSeq_eq, e3, SR.seq_next, mSeq_eq, x1, SR.seq_next, mSeq_eq, x2, SR.seq_next]
  rw [txts_app, txts_app] at ff ⊢
  simp [ff] at ff ⊢
  simp [ff, txts_app]
end
end K05

namespace K05
open PySem PySem.Spec PyProof.Rows L2 MM
def EB : Nat → Nat
  | 0 => 0
  | n + 1 => 150 + 9 * (EB n + 10)
def LOk (op : Str) (info : D) : Prop :=
  (op = "int" ∧ ∃ i : Int, info = .int i ∧ i.natAbs < 10 ^ 20) ∨ (op = "bool" ∧ ∃ b, info = .bl b) ∨ (op = "unit" ∧ info = .non) ∨ (op = "name" ∧ ∃ w, info = dS w ∧ Atm w)
def ExOk : Nat → D → Prop
  | 0, _ => False
  | n + 1, d => (∃ op info, d = .tup [.str op, .int 0, info, .tup [], .tup []] ∧ LOk op info) ∨
      ∃ (op : Str) (info : D) (ks as : List D), d = .tup [.str op, .int 0, info, .tup ks, .tup as] ∧ HOk op info ∧ ks.length + as.length ≤ 9 ∧ (∀ k ∈ ks, ExOk n k) ∧
        ∀ a ∈ as, ∃ nm vs b, a = .tup [dS nm, .tup (dSs vs), b] ∧ Atm nm ∧ (∀ v ∈ vs, Atm v) ∧ vs.length ≤ 3 ∧ ExOk n b
def Wds (n : Nat) (d : D) (p : PP) : Prop := ∀ f, n ≤ f → ∀ (h : MH) (m : Nat) (old : List Wd), m < h.length → old.length + p.1.length ≤ 16000000 →
  ∃ d', m__law_expr_words f [d, .ref m] (wr h m old) = .ok d' (wr h m (old ++ p.1)) ∧ TX n d' p ∧ ∀ k, d'.lows k = true
structure ESp (n : Nat) (d : D) (p : PP) : Prop where
  pc : Pc p.1 p.2
  sz : p.1.length ≤ EB n
  lo : ∀ m, d.lows m = true
  text : TX n d p
  words : Wds n d p
  nodes : ∀ f, n ≤ f → ∀ h, ∃ i, m__law_nodes f [d] h = .ok (.int i) h
section
variable {h : MH}
theorem lenW {m : Nat} (hm : m < h.length) (ws : List Wd) : fLen [.ref m] (wr h m ws) = .ok (.int ws.length) (wr h m ws) := by
  have : lst? (wr h m ws) m = some (dSs ws) := lst?_of (wr_at hm ws)
  unfold fLen lenG
  simp only [lstD_ref, this]
  simp
theorem if_no2 {op s : Str} {δ : MS} {k : MH} {A B : MSt} (v : δ[2]? = some (some (.str op))) (n : ¬ op = s) : mIfS (mB (mOp opEq (mVar 2) (mC (.str s)))) A B δ k = B δ k := by
  simp only [mIfS_eq, mB_eq, mOp_eq, mVar_eq v, mC_eq, R.bnd_ok, opEq_str]
  simp [n]
theorem leaf_gen {op : Str} {info : D} {w : Wd} (aw : Atm w) (lo : ∀ m, info.lows m = true) (il : opIn (.str op) (.tup [.str "int", .str "bool", .str "unit", .str "name"]) [] = .ok (.bl true) [])
    (tw : ∀ h, m__word_text [.str op, info] h = .ok (dS w) h)
    (ww : ∀ (δ : MS) (m : Nat) (h : MH) (old : List Wd), m < h.length → old.length < 16777216 → δ[1]? = some (some (.ref m)) → δ[2]? = some (some (.str op)) → δ[4]? = some (some info) →
      mIfS (mB (mOp opEq (mVar 2) (mC (.str "int")))) (mDrop (mMtd "list" fAppend (mVar 1) (mCons (mCall fStr3 (mCons (mVar 4) (mNil))) (mNil)))) (mIfS (mB (mOp opEq (mVar 2) (mC (.str "bool")))) (mDrop (mMtd "list" fAppend (mVar 1) (mCons (mIf (mTru (mVar 4)) (mC (.str "true")) (mC (.str "false"))) (mNil)))) (mIfS (mB (mOp opEq (mVar 2) (mC (.str "unit")))) (mDrop (mMtd "list" fAppend (mVar 1) (mCons (mC (.str "unit")) (mNil)))) (mIfS (mB (mOp opEq (mVar 2) (mC (.str "name")))) (mDrop (mMtd "list" fAppend (mVar 1) (mCons (mVar 4) (mNil)))) (mNext)))) δ (wr h m old) = .ok (.next δ) (wr h m (old ++ [w]))) (n : Nat) :
    ESp (n + 1) (.tup [.str op, .int 0, info, .tup [], .tup []]) (at1 w) := by
  have low : ∀ i m, (D.tup [.str op, .int i, info, .tup [], .tup []]).lows m = true := fun i m => by
    show (true && (true && (info.lows m && (true && (true && true))))) = true
    rw [lo]; rfl
  have tx' : ∀ i : Int, TX (n + 1) (.tup [.str op, .int i, info, .tup [], .tup []]) (at1 w) := fun i f hf h _ => by
    obtain ⟨g, rfl⟩ : ∃ g, f = g + 1 := ⟨f - 1, by omega⟩
    rw [m__expression_text_succ]
    refine mFn_pure0 rfl ?_ rfl
    have st : mStart 9 [D.tup [.str op, .int i, info, .tup [], .tup []]] = [some (D.tup [.str op, .int i, info, .tup [], .tup []]), none, none, none, none, none, none, none, none] := rfl
    rw [st]
    unfold b__expression_text
    have nl := in_h (h := h) il
    have := tw h
    simp [nl, this]
  refine ⟨Pc.atm aw, by show 1 ≤ 150 + _; omega, low 0, tx' 0, fun f hf h m old hm hz => ?_, fun f hf h => ?_⟩
  · obtain ⟨g, rfl⟩ : ∃ g, f = g + 1 := ⟨f - 1, by omega⟩
    refine ⟨.tup [.str op, .int old.length, info, .tup [], .tup []], ?_, tx' _, low _⟩
    rw [m__law_expr_words_succ]
    refine mFn_ret (g := []) rfl ?_ (by rw [List.append_nil]) (by rw [wr_len, wr_len]) (wr_left hm _ _) (low _ _)
    have st : mStart 11 [D.tup [.str op, .int 0, info, .tup [], .tup []], .ref m] = [some (D.tup [.str op, .int 0, info, .tup [], .tup []]), some (.ref m), none, none, none, none, none, none, none, none, none] := rfl
    rw [st]
    unfold b__law_expr_words
    have z : old.length < 16777216 := by simp at hz; omega
    have w1 := ww [some (D.tup [.str op, .int 0, info, .tup [], .tup []]), some (.ref m), some (.str op), some (.int old.length), some info, some (.tup []), some (.tup []), none, none, none, none] m h old hm z rfl rfl rfl
    generalize mIfS (mB (mOp opEq (mVar 2) (mC (.str "int")))) _ _ = M1 at w1 ⊢
    have nl := in_h (h := wr h m (old ++ [w])) il
    simp [lenW hm]
    rw [w1]
    simp [nl]
  · obtain ⟨g, rfl⟩ : ∃ g, f = g + 1 := ⟨f - 1, by omega⟩
    refine ⟨1, ?_⟩
    rw [m__law_nodes_succ]
    refine mFn_pure0 rfl ?_ rfl
    have st : mStart 3 [D.tup [.str op, .int 0, info, .tup [], .tup []]] = [some (D.tup [.str op, .int 0, info, .tup [], .tup []]), none, none] := rfl
    rw [st]
    unfold b__law_nodes
    have l1 : mLc (mSrc (mOp opIx (mVar 0) (mC (.int 3)))) (mgName 1) (mYes) (mCall (m__law_nodes g) (mCons (mVar 1) (mNil))) [1] [some (D.tup [.str op, .int 0, info, .tup [], .tup []]), none, none] h = .ok (.rol []) h :=
      lc_pair (enc := fun p : PP => dS p.2) (R := fun _ _ => True) (ks := []) (as := []) (by simp [ix3]) .nil (by simp) (fun _ _ => rfl) fun x a _ hh => nomatch hh
    have l2 : mLc (mSrc (mOp opIx (mVar 0) (mC (.int 4)))) (mgName 2) (mYes) (mCall (m__law_nodes g) (mCons (mOp opIx (mVar 2) (mC (.int 2))) (mNil))) [2] [some (D.tup [.str op, .int 0, info, .tup [], .tup []]), none, none] h = .ok (.rol []) h :=
      lc_pair (enc := fun p : PP => dS p.2) (R := fun _ _ => True) (ks := []) (as := []) (by simp [ix4]) .nil (by simp) (fun _ _ => rfl) fun x a _ hh => nomatch hh
    have fs : fSum [.rol []] h = .ok (.int 0) h := rfl
    simp [l1, l2, fs]
theorem leaf_spec {op : Str} {info : D} (L : LOk op info) (n : Nat) : ∃ p, ESp (n + 1) (.tup [.str op, .int 0, info, .tup [], .tup []]) p := by
  rcases L with ⟨rfl, i, rfl, hi⟩ | ⟨rfl, b, rfl⟩ | ⟨rfl, rfl⟩ | ⟨rfl, w, rfl, a⟩
  · refine ⟨_, leaf_gen (numW_atm hi) (fun _ => rfl) rfl (fun h => ?_) (fun δ m h old hm hz v1 v2 v4 => ?_) n⟩
    · unfold m__word_text
      refine mFn_pure0 rfl ?_ rfl
      have st : mStart 2 [D.str "int", .int i] = [some (.str "int"), some (.int i)] := rfl
      rw [st]
      unfold b__word_text
      have n1 : ¬ (Str.ofString "int" = Str.ofString "unit") := by decide
      have n2 : ¬ (Str.ofString "int" = Str.ofString "bool") := by decide
      simp [n1, n2, numW_ok hi]
    · rw [if_yes v2 rfl]
      exact push hm v1 (by simp only [mCall_eq, mCons_eq, mVar_eq v4, R.bnd_ok, mNil_eq, numW_ok hi]) hz
  · refine ⟨_, leaf_gen (w := if b then tl "true" else tl "false") (by cases b <;> exact ⟨by decide, by decide, by decide⟩) (fun _ => rfl) rfl (fun h => ?_) (fun δ m h old hm hz v1 v2 v4 => ?_) n⟩
    · unfold m__word_text
      refine mFn_pure0 rfl ?_ rfl
      have st : mStart 2 [D.str "bool", .bl b] = [some (.str "bool"), some (.bl b)] := rfl
      rw [st]
      unfold b__word_text
      have n1 : ¬ (Str.ofString "bool" = Str.ofString "unit") := by decide
      cases b <;> simp [n1, truD] <;> exact tx_of _
    · have n1 : ¬ (Str.ofString "bool" = Str.ofString "int") := by decide
      have := if_yes (k := wr h m old) (A := mDrop (mMtd "list" fAppend (mVar 1) (mCons (mIf (mTru (mVar 4)) (mC (.str "true")) (mC (.str "false"))) (mNil)))) (B := mIfS (mB (mOp opEq (mVar 2) (mC (.str "unit")))) (mDrop (mMtd "list" fAppend (mVar 1) (mCons (mC (.str "unit")) (mNil)))) (mIfS (mB (mOp opEq (mVar 2) (mC (.str "name")))) (mDrop (mMtd "list" fAppend (mVar 1) (mCons (mVar 4) (mNil)))) (mNext))) v2 (show Str.ofString "bool" = Str.ofString "bool" from rfl)
      rw [if_no2 v2 n1, this]
      exact push hm v1 (by cases b <;> simp [mVar_eq v4, truD, ← dS_tl]) hz
  · refine ⟨_, leaf_gen (w := tl "unit") ⟨by decide, by decide, by decide⟩ (fun _ => rfl) rfl (fun h => ?_) (fun δ m h old hm hz v1 v2 v4 => ?_) n⟩
    · unfold m__word_text
      refine mFn_pure0 rfl ?_ rfl
      have st : mStart 2 [D.str "unit", .non] = [some (.str "unit"), some .non] := rfl
      rw [st]
      unfold b__word_text
      simp
      exact tx_of _
    · rw [if_no2 v2 (by decide), if_no2 v2 (by decide), if_yes v2 rfl]
      exact push hm v1 rfl hz
  · refine ⟨_, leaf_gen (w := w) a (fun _ => rfl) rfl (fun h => ?_) (fun δ m h old hm hz v1 v2 v4 => ?_) n⟩
    · unfold m__word_text
      refine mFn_pure0 rfl ?_ rfl
      have st : mStart 2 [D.str "name", dS w] = [some (.str "name"), some (dS w)] := rfl
      rw [st]
      unfold b__word_text
      have n1 : ¬ (Str.ofString "name" = Str.ofString "unit") := by decide
      have n2 : ¬ (Str.ofString "name" = Str.ofString "bool") := by decide
      have e3 : fStr3 [dS w] h = .ok (dS w) h := rfl
      simp [n1, n2, e3]
    · rw [if_no2 v2 (by decide), if_no2 v2 (by decide), if_no2 v2 (by decide), if_yes v2 rfl]
      exact push hm v1 (mVar_eq v4) hz
end
end K05

namespace K05
open PySem PySem.Spec PyProof.Rows L2 MM
def AR (op : Str) (n : Nat) (a : D) (p : PP) : Prop := ∃ nm vs b bp, a = .tup [dS nm, .tup (dSs vs), b] ∧ Atm nm ∧ (∀ v ∈ vs, Atm v) ∧ vs.length ≤ 3 ∧ ESp n b bp ∧ p = fp (armP op nm vs bp)
theorem AR.pc {op n a p} (A : AR op n a p) : Pc p.1 p.2 := by
  obtain ⟨nm, vs, b, bp, rfl, an, av, hv, E, rfl⟩ := A
  exact Pc.form (arm_all an av E.pc)
theorem flat_nil : flat [] = [] := rfl
theorem flat_arm {op : Str} {nm : Wd} {vs : List Wd} {bp : PP} : flat (armP op nm vs bp) = (if op = "case" then [[40]] else []) ++ ((nm :: vs) ++ ((if op = "case" then [[41]] else []) ++ bp.1)) := by
  unfold armP
  split
  · rw [flat_cons, flat_cons, flat_nil, flat_atoms]
    simp [formW]
  · rw [flat_app, flat_atoms, flat_cons, flat_nil]
    simp
theorem armP_len {op : Str} {nm : Wd} {vs : List Wd} {bp : PP} : (fp (armP op nm vs bp)).1.length = (if op = "case" then 2 else 0) + vs.length + bp.1.length + 3 := by
  show (formW (flat (armP op nm vs bp))).length = _
  rw [flat_arm]
  unfold formW
  split <;> simp <;> omega
theorem AR.sz {op n a p} (A : AR op n a p) : p.1.length ≤ EB n + 10 := by
  obtain ⟨nm, vs, b, bp, rfl, an, av, hv, E, rfl⟩ := A
  have := armP_len (op := op) (nm := nm) (vs := vs) (bp := bp)
  have := E.sz
  split at * <;> omega
theorem AR.text {op n a p} (A : AR op n a p) : AT op n a p := by
  obtain ⟨nm, vs, b, bp, rfl, an, av, hv, E, rfl⟩ := A
  exact arm_text an av hv E.pc E.text
theorem lows_arm {nm : Wd} {vs : List Wd} {b : D} (lb : ∀ k, b.lows k = true) (k : Nat) : (D.tup [dS nm, .tup (dSs vs), b]).lows k = true := by
  show (true && (lowsL k (dSs vs) && (b.lows k && true))) = true
  rw [lows_dSs, lb]; rfl
theorem AR.lo {op n a p} (A : AR op n a p) (k : Nat) : a.lows k = true := by
  obtain ⟨nm, vs, b, bp, rfl, an, av, hv, E, rfl⟩ := A
  exact lows_arm E.lo k
section
variable {h : MH}
theorem rows_app {m : Nat} {old : List Wd} {rows : List D} {x : D} (hz : rows.length < 16777216) : fAppend (.ref h.length) [x] (wr h m old ++ [.lst rows]) = .ok .non (wr h m old ++ [.lst (rows ++ [x])]) := by
  have e : (wr h m old ++ [MO.lst rows])[h.length]? = some (.lst rows) := by
    have : (wr h m old).length = h.length := wr_len old
    rw [List.getElem?_append_right (by omega)]
    simp [this]
  rw [app_ok e hz]
  have : (wr h m old ++ [MO.lst rows]).set h.length (.lst (rows ++ [x])) = wr h m old ++ [.lst (rows ++ [x])] := by
    rw [show h.length = (wr h m old).length from (wr_len old).symm]
    simp
  rw [this]
theorem rows_ty {m : Nat} {old : List Wd} {rows : List D} : isTy "list" (.ref h.length) (wr h m old ++ [.lst rows]) = true := by
  have e : (wr h m old ++ [MO.lst rows])[h.length]? = some (.lst rows) := by
    have : (wr h m old).length = h.length := wr_len old
    rw [List.getElem?_append_right (by omega)]
    simp [this]
  exact isTy_list (es := rows) e
theorem arm_words {op : Str} {n g m : Nat} {a : D} {p : PP} (hg : n ≤ g) (A : AR op n a p) (hm : m < h.length) {x0 x3 x4 x5 x6 x9 x10 : Option D} {rows : List D} {old : List Wd} (hz : old.length + p.1.length ≤ 16000000) (hr : rows.length < 1000) :
    ∃ y9 a', b__law_expr_words_2 (m__law_expr_words g) [x0, some (.ref m), some (.str op), x3, x4, x5, x6, some (.ref h.length), some a, x9, x10] (wr h m old ++ [.lst rows]) =
      .ok (.next [x0, some (.ref m), some (.str op), x3, x4, x5, x6, some (.ref h.length), some a, y9, x10]) (wr h m (old ++ p.1) ++ [.lst (rows ++ [a'])]) ∧ AT op n a' p ∧ ∀ k, a'.lows k = true := by
  obtain ⟨nm, vs, b, bp, ea, an, av, hv, E, rfl⟩ := A
  have i0 : ∀ k', opIx a (.int 0) k' = .ok (dS nm) k' := fun k' => by rw [ea]; exact ix0
  have i1 : ∀ k', opIx a (.int 1) k' = .ok (.tup (dSs vs)) k' := fun k' => by rw [ea]; exact ix1
  have i2 : ∀ k', opIx a (.int 2) k' = .ok b k' := fun k' => by rw [ea]; exact ix2
  obtain ⟨H, hH⟩ : ∃ H, H = h ++ [MO.lst rows] := ⟨_, rfl⟩
  have hmH : m < H.length := by rw [hH, List.length_append]; omega
  have wH : ∀ ws, wr h m ws ++ [.lst rows] = wr H m ws := fun ws => by rw [hH, wr_app hm]
  obtain ⟨δ, hδ⟩ : ∃ δ : Option D → MS, δ = fun y => [x0, some (.ref m), some (.str op), x3, x4, x5, x6, some (.ref h.length), some a, y, x10] := ⟨_, rfl⟩
  have v1 : ∀ y, (δ y)[1]? = some (some (.ref m)) := fun y => by rw [hδ]; rfl
  have v2 : ∀ y, (δ y)[2]? = some (some (.str op)) := fun y => by rw [hδ]; rfl
  have v7 : ∀ y, (δ y)[7]? = some (some (.ref h.length)) := fun y => by rw [hδ]; rfl
  have v8 : ∀ y, (δ y)[8]? = some (some a) := fun y => by rw [hδ]; rfl
  have v9 : ∀ y, (δ (some y))[9]? = some (some y) := fun y => by rw [hδ]; rfl
  have s9 : ∀ y z, mgName 9 z (δ y) = some (δ (some z)) := fun y z => by rw [hδ]; rfl
  -- the opening words
  have hlen := armP_len (op := op) (nm := nm) (vs := vs) (bp := bp)
  rw [hlen] at hz
  obtain ⟨o1, ho1⟩ : ∃ o1, o1 = old ++ [[40]] ++ (if op = "case" then [[40]] else []) := ⟨_, rfl⟩
  have l1 : o1.length = old.length + 1 + (if op = "case" then 1 else 0) := by rw [ho1]; split <;> simp
  have hz1 : o1.length + vs.length + bp.1.length + 2 + (if op = "case" then 1 else 0) ≤ 16000000 := by
    split at hz <;> simp_all <;> omega
  have p1 : mDrop (mMtd "list" fAppend (mVar 1) (mCons (mC (.str "(")) mNil)) (δ x9) (wr H m old) = .ok (.next (δ x9)) (wr H m (old ++ [[40]])) := push hmH (v1 _) rfl (by omega)
  have p2 : mIfS (mB (mOp opEq (mVar 2) (mC (.str "case")))) (mDrop (mMtd "list" fAppend (mVar 1) (mCons (mC (.str "(")) mNil))) mNext (δ x9) (wr H m (old ++ [[40]])) = .ok (.next (δ x9)) (wr H m o1) := by
    by_cases hc : op = "case"
    · rw [if_yes (v2 _) hc, ho1, if_pos hc]
      exact push hmH (v1 _) rfl (by simp; omega)
    · rw [if_no (v2 _) hc, ho1, if_neg hc, List.append_nil]
  have p3 : mDrop (mMtd "list" fAppend (mVar 1) (mCons (mOp opIx (mVar 8) (mC (.int 0))) mNil)) (δ x9) (wr H m o1) = .ok (.next (δ x9)) (wr H m (o1 ++ [nm])) := push hmH (v1 _) (by simp only [mOp_eq, mVar_eq (v8 _), mC_eq, R.bnd_ok, i0]) (by omega)
  have pp : ∀ l : List Wd, Paired (fun d p => ∃ w, d = dS w ∧ p = at1 w) (dSs l) (atoms l) := fun l => by
    induction l with
    | nil => exact .nil
    | cons x r ih => exact .cons ⟨x, rfl, rfl⟩ ih
  obtain ⟨δ', fw, y9, rfl⟩ := for_words (tgt := mgName 9) (body := b__law_expr_words_1 (m__law_expr_words g)) (fun d => ∃ y, d = δ y) (h := H) hmH (pp vs) (old := o1 ++ [nm]) (by rw [flat_atoms]; simp; omega) (fun x p d old' hx hpm ⟨y, e⟩ hz2 => by
    subst e
    obtain ⟨w, rfl, rfl⟩ := hx
    exact ⟨_, _, s9 _ _, push hmH (v1 _) (mVar_eq (v9 _)) (by simp at hz2; omega), _, rfl⟩) ⟨x9, rfl⟩
  rw [flat_atoms] at fw
  have p4 : mFor (mSrc (mOp opIx (mVar 8) (mC (.int 1)))) (mgName 9) (b__law_expr_words_1 (m__law_expr_words g)) (δ x9) (wr H m (o1 ++ [nm])) = .ok (.next (δ y9)) (wr H m (o1 ++ [nm] ++ vs)) := by
    rw [mFor_eq, mSrc_eq]
    simp only [mOp_eq, mVar_eq (v8 _), mC_eq, R.bnd_ok, i1, srcOf_tup, R.st_ok]
    exact fw
  obtain ⟨o2, ho2⟩ : ∃ o2, o2 = o1 ++ [nm] ++ vs ++ (if op = "case" then [[41]] else []) := ⟨_, rfl⟩
  have l2 : o2.length = o1.length + 1 + vs.length + (if op = "case" then 1 else 0) := by rw [ho2]; split <;> simp <;> omega
  have p5 : mIfS (mB (mOp opEq (mVar 2) (mC (.str "case")))) (mDrop (mMtd "list" fAppend (mVar 1) (mCons (mC (.str ")")) mNil))) mNext (δ y9) (wr H m (o1 ++ [nm] ++ vs)) = .ok (.next (δ y9)) (wr H m o2) := by
    by_cases hc : op = "case"
    · rw [if_yes (v2 _) hc, ho2, if_pos hc]
      exact push hmH (v1 _) rfl (by simp; omega)
    · rw [if_no (v2 _) hc, ho2, if_neg hc, List.append_nil]
  obtain ⟨d', ew, tx', lo'⟩ := E.words g hg H m o2 hmH (by omega)
  have p6 : mDrop (mMtd "list" fAppend (mVar 7) (mCons (mTup (mCons (mOp opIx (mVar 8) (mC (.int 0))) (mCons (mOp opIx (mVar 8) (mC (.int 1))) (mCons (mCall (m__law_expr_words g) (mCons (mOp opIx (mVar 8) (mC (.int 2))) (mCons (mVar 1) (mNil)))) (mNil))))) (mNil))) (δ y9) (wr H m o2) =
      .ok (.next (δ y9)) (wr h m (o2 ++ bp.1) ++ [.lst (rows ++ [.tup [dS nm, .tup (dSs vs), d']])]) := by
    have ty : isTy "list" (.ref h.length) (wr H m o2) = true := by rw [← wH]; exact rows_ty
    have ap : fAppend (.ref h.length) [.tup [dS nm, .tup (dSs vs), d']] (wr H m (o2 ++ bp.1)) = .ok .non (wr h m (o2 ++ bp.1) ++ [.lst (rows ++ [.tup [dS nm, .tup (dSs vs), d']])]) := by rw [← wH]; exact rows_app (by omega)
    rw [mDrop_eq, mMtd_eq]
    simp only [mVar_eq (v7 _), R.bnd_ok]
    rw [if_pos ty]
    simp only [mCons_eq, mTup_eq, mOp_eq, mVar_eq (v8 _), mC_eq, R.bnd_ok, i0, i1, i2, mCall_eq, mVar_eq (v1 _), mNil_eq, ew]
    rw [if_pos (by simp)]
    simp only [R.bnd_ok, ap, R.st_ok]
  obtain ⟨H2, hH2⟩ : ∃ H2, H2 = h ++ [MO.lst (rows ++ [.tup [dS nm, .tup (dSs vs), d']])] := ⟨_, rfl⟩
  have wH2 : ∀ ws, wr h m ws ++ [.lst (rows ++ [.tup [dS nm, .tup (dSs vs), d']])] = wr H2 m ws := fun ws => by rw [hH2, wr_app hm]
  have hmH2 : m < H2.length := by rw [hH2, List.length_append]; omega
  have p7 : mDrop (mMtd "list" fAppend (mVar 1) (mCons (mC (.str ")")) mNil)) (δ y9) (wr H2 m (o2 ++ bp.1)) = .ok (.next (δ y9)) (wr H2 m (o2 ++ bp.1 ++ [[41]])) := push hmH2 (v1 _) rfl (by simp; omega)
  refine ⟨y9, .tup [dS nm, .tup (dSs vs), d'], ?_, arm_text an av hv E.pc tx', lows_arm lo'⟩
  have fin : old ++ (fp (armP op nm vs bp)).1 = o2 ++ bp.1 ++ [[41]] := by
    show old ++ formW (flat (armP op nm vs bp)) = _
    rw [ho2, ho1, flat_arm]
    unfold formW
    by_cases hc : op = "case"
    · rw [if_pos hc, if_pos hc]; simp
    · rw [if_neg hc, if_neg hc]; simp
  rw [fin, wH, wH2]
  have st : ∀ y, [x0, some (.ref m), some (.str op), x3, x4, x5, x6, some (.ref h.length), some a, y, x10] = δ y := fun y => by rw [hδ]
  rw [st, st]
  unfold b__law_expr_words_2
  rw [mSeq_eq, p1, SR.seq_next, mSeq_eq, p2, SR.seq_next, mSeq_eq, p3, SR.seq_next, mSeq_eq, p4, SR.seq_next, mSeq_eq, p5, SR.seq_next, mSeq_eq, p6, SR.seq_next, wH2, p7]
end
end K05

namespace K05
open PySem PySem.Spec PyProof.Rows L2 MM
def AT' (op : Str) (n : Nat) (a : D) (p : PP) : Prop := AT op n a p ∧ ∀ k, a.lows k = true
def TX' (n : Nat) (a : D) (p : PP) : Prop := TX n a p ∧ ∀ k, a.lows k = true
theorem lows_all : ∀ {l : List D} {k : Nat}, (∀ x ∈ l, x.lows k = true) → lowsL k l = true
  | [], _, _ => rfl
  | x :: r, k, q => by show (x.lows k && lowsL k r) = true; rw [q x (by simp), lows_all fun y hy => q y (by simp [hy])]; rfl
theorem pair_left {R : D → PP → Prop} {Q : D → Prop} (hq : ∀ k p, R k p → Q k) : ∀ {ks : List D} {ps : List PP}, Paired R ks ps → ∀ k ∈ ks, Q k
  | _, _, .nil => fun _ h => nomatch h
  | _, _, .cons a r => fun p hp => by
    rcases List.mem_cons.mp hp with z | z
    · subst z; exact hq _ _ a
    · exact pair_left hq r p z
theorem intsL_int : ∀ is : List Int, intsL (is.map D.int) = some is
  | [] => rfl
  | i :: r => by
    show (intsL (r.map D.int)).map _ = _
    rw [intsL_int r]; rfl
section
variable {h : MH}
theorem fSum_int (is : List Int) : fSum [.rol (is.map D.int)] h = .ok (.int is.sum) h := by
  unfold fSum
  simp only [show lstD (.rol (is.map D.int)) h = some (is.map D.int) from rfl, Option.bind_some, intsL_int]
theorem lc_int {src : MI} {tgt : MG} {elt : ME} {vs : List Nat} {δ : MS} {h1 : MH} {ks : List D} {g : MH → Prop} (es : src δ h = .ok ⟨ks, g⟩ h1) (hg : ∀ k, g (h1 ++ k)) (hz : ks.length < 16777216)
    (step : ∀ x ∈ ks, ∃ δ1, tgt x (wipeM δ vs) = some δ1 ∧ ∀ k, ∃ i : Int, elt δ1 (h1 ++ k) = .ok (.int i) (h1 ++ k)) : ∃ is : List Int, mLc src tgt mYes elt vs δ h = .ok (.rol (is.map D.int)) h1 := by
  have t : Tm (mLc src tgt mYes elt vs δ h) (fun d h' => ∃ is : List Int, d = .rol (is.map D.int) ∧ h' = h1) NoX := by
    refine Tm_lcI (fun S h' => S = ⟨ks, g⟩ ∧ h' = h1) (.of es ⟨rfl, rfl⟩) ?_
    rintro S h' ⟨rfl, rfl⟩
    refine ⟨fun r acc k => k = h' ∧ (∃ is : List Int, acc = is.map D.int) ∧ acc.length + r.length ≤ ks.length ∧ ∀ x ∈ r, x ∈ ks, ⟨rfl, ⟨[], rfl⟩, by simp, fun x hx => hx⟩, ?_, ?_, ?_⟩
    · rintro r acc k ⟨rfl, _, hl, _⟩
      exact ⟨⟨rfl, by omega⟩, hg _⟩
    · rintro x r acc k ⟨rfl, ⟨is, rfl⟩, hl, hm⟩
      obtain ⟨δ1, e1, e2⟩ := step x (hm x (by simp))
      obtain ⟨i, e3⟩ := e2 [.lst (is.map D.int)]
      exact ⟨δ1, e1, .of e3 ⟨k, rfl, rfl, ⟨is ++ [i], by simp⟩, by simp at hl ⊢; omega, fun y hy => hm y (by simp [hy])⟩⟩
    · rintro acc k ⟨rfl, ⟨is, rfl⟩, hl, hm⟩
      exact ⟨⟨LeftOf.refl _, lows_all fun x hx => by obtain ⟨i, _, rfl⟩ := List.mem_map.mp hx; rfl⟩, is, rfl, rfl⟩
  obtain ⟨d, h', e, is, rfl, rfl⟩ := t.ex
  exact ⟨is, e⟩
theorem arms_loop {op : Str} {n g m : Nat} (hg : n ≤ g) (hm : m < h.length) {as : List D} {aps : List PP} (hp : Paired (AR op n) as aps) (hl : as.length ≤ 9) {x0 x3 x4 x5 x6 x8 x9 x10 : Option D} {old : List Wd} (hz : old.length + (flat aps).length ≤ 16000000) :
    ∃ y8 y9 rows, forM (fun _ => True) (mgName 8) (b__law_expr_words_2 (m__law_expr_words g)) as [x0, some (.ref m), some (.str op), x3, x4, x5, x6, some (.ref h.length), x8, x9, x10] (wr h m old ++ [.lst []]) =
      .ok (.next [x0, some (.ref m), some (.str op), x3, x4, x5, x6, some (.ref h.length), y8, y9, x10]) (wr h m (old ++ flat aps) ++ [.lst rows]) ∧ Paired (AT' op n) rows aps := by
  have t : TmS (forM (fun _ => True) (mgName 8) (b__law_expr_words_2 (m__law_expr_words g)) as [x0, some (.ref m), some (.str op), x3, x4, x5, x6, some (.ref h.length), x8, x9, x10] (wr h m old ++ [.lst []]))
      (fun f h' => ∃ y8 y9 rows, f = .next [x0, some (.ref m), some (.str op), x3, x4, x5, x6, some (.ref h.length), y8, y9, x10] ∧ h' = wr h m (old ++ flat aps) ++ [.lst rows] ∧ Paired (AT' op n) rows aps) NoX.s := by
    refine TmS_forN (fun r δ h' => ∃ p1 p2 y8 y9 rows, Paired (AR op n) r p2 ∧ p1 ++ p2 = aps ∧ δ = [x0, some (.ref m), some (.str op), x3, x4, x5, x6, some (.ref h.length), y8, y9, x10] ∧ h' = wr h m (old ++ flat p1) ++ [.lst rows] ∧ Paired (AT' op n) rows p1 ∧ rows.length + r.length ≤ 9) (fun _ _ _ _ => trivial) ?_ ?_
      ⟨[], aps, x8, x9, [], hp, rfl, rfl, by simp [flat], .nil, by simpa using hl⟩
    · rintro x r δ h' ⟨p1, p2, y8, y9, rows, pr, ep, rfl, rfl, py, hl'⟩
      cases pr with
      | @cons _ b _ bs rx pr =>
        have : (flat aps).length = (flat p1).length + (b.1.length + (flat bs).length) := by rw [← ep, flat_app, flat_cons]; simp
        obtain ⟨z9, a', ea, ta, la⟩ := arm_words (x0 := x0) (x3 := x3) (x4 := x4) (x5 := x5) (x6 := x6) (x9 := y9) (x10 := x10) hg rx hm (rows := rows) (old := old ++ flat p1) (by rw [List.length_append]; omega) (by simp at hl'; omega)
        refine ⟨_, rfl, ?_⟩
        show TmS (b__law_expr_words_2 (m__law_expr_words g) [x0, some (.ref m), some (.str op), x3, x4, x5, x6, some (.ref h.length), some x, y9, x10] _) _ _
        rw [ea, TmS_ok, Nx_next]
        exact ⟨p1 ++ [b], bs, some x, z9, rows ++ [a'], pr, by simp [← ep], rfl, by rw [flat_app, flat_cons]; simp [flat], py.snoc ⟨ta, la⟩, by simp at hl' ⊢; omega⟩
    · rintro δ h' ⟨p1, p2, y8, y9, rows, pr, ep, rfl, rfl, py, hl'⟩
      cases pr
      rw [List.append_nil] at ep
      subst ep
      exact ⟨y8, y9, rows, rfl, rfl, py⟩
  obtain ⟨f, h', e, y8, y9, rows, rfl, rfl, py⟩ := TmS.ex t (fun _ _ _ _ z => z)
  exact ⟨y8, y9, rows, e, py⟩
theorem HOk.nd {op : Str} {info : D} (H : HOk op info) : (¬ op = Str.ofString "int") ∧ (¬ op = Str.ofString "bool") ∧ (¬ op = Str.ofString "unit") ∧ ¬ op = Str.ofString "name" := by
  rcases H with ⟨e, _⟩ | ⟨rfl, _⟩ | ⟨rfl, _⟩ | ⟨rfl, _⟩ | ⟨rfl, _⟩ | ⟨hp, _⟩
  · rcases e with rfl | rfl <;> decide
  · decide
  · decide
  · decide
  · decide
  · unfold plainOps at hp
    simp only [List.mem_cons, List.not_mem_nil, or_false] at hp
    rcases hp with rfl | rfl | rfl | rfl | rfl | rfl | rfl | rfl | rfl | rfl | rfl | rfl | rfl | rfl | rfl | rfl | rfl | rfl | rfl | rfl | rfl <;> decide
end
end K05

namespace K05
open PySem PySem.Spec PyProof.Rows L2 MM
section
variable {h : MH}
theorem rows_at {m : Nat} {old : List Wd} {rows : List D} : (wr h m old ++ [MO.lst rows])[h.length]? = some (.lst rows) := by
  have : (wr h m old).length = h.length := wr_len old
  rw [List.getElem?_append_right (by omega)]
  simp [this]
theorem node_spec {n : Nat} {op : Str} {info : D} (HO : HOk op info) {hps : List PP} (H : HSp op info hps) {ks as : List D} {kps aps : List PP} (hk : Paired (ESp n) ks kps) (ha : Paired (AR op n) as aps) (hl : ks.length + as.length ≤ 9) :
    ESp (n + 1) (.tup [.str op, .int 0, info, .tup ks, .tup as]) (fp (hps ++ kps ++ aps)) := by
  have ak : AllPc kps := pair_all (Q := fun p => Pc p.1 p.2) (fun _ _ k => k.pc) hk
  have aa : AllPc aps := pair_all (Q := fun p => Pc p.1 p.2) (fun _ _ k => k.pc) ha
  have all : AllPc (hps ++ kps ++ aps) := all_app (all_app H.all ak) aa
  have low : ∀ (i : Int) {ks' as' : List D}, (∀ x ∈ ks', ∀ k, x.lows k = true) → (∀ x ∈ as', ∀ k, x.lows k = true) → ∀ k, (D.tup [.str op, .int i, info, .tup ks', .tup as']).lows k = true := fun i ks' as' h1 h2 k => by
    show (true && (true && (info.lows k && (lowsL k ks' && (lowsL k as' && true))))) = true
    rw [H.lo, lows_all fun x hx => h1 x hx k, lows_all fun x hx => h2 x hx k]; rfl
  have hkl := hk.length
  have hal := ha.length
  have lk := flat_le (B := EB n + 10) kps (pair_all (fun _ _ k => by have := k.sz; omega) hk)
  have la := flat_le (B := EB n + 10) aps (pair_all (fun _ _ k => k.sz) ha)
  refine ⟨Pc.form all, ?_, low 0 (pair_left (fun _ _ e => e.lo) hk) (pair_left (fun _ _ e => e.lo) ha), text_node H (Paired.mono (fun _ _ e => e.text) hk) ak (Paired.mono (fun _ _ e => AR.text e) ha) aa hl, fun f hf h m old hm hz => ?_, fun f hf h => ?_⟩
  · show (formW _).length ≤ 150 + 9 * (EB n + 10)
    unfold formW
    rw [flat_app, flat_app]
    have hs := H.sz
    have : (EB n + 10) * kps.length + (EB n + 10) * aps.length ≤ (EB n + 10) * 9 := by rw [← Nat.mul_add]; exact Nat.mul_le_mul_left _ (by omega)
    simp
    omega
  · obtain ⟨g, rfl⟩ : ∃ g, f = g + 1 := ⟨f - 1, by omega⟩
    have hz1 : old.length + ((flat hps).length + (flat kps).length + (flat aps).length + 2) ≤ 16000000 := by
      have : old.length + (formW (flat (hps ++ kps ++ aps))).length ≤ 16000000 := hz
      unfold formW at this
      rw [flat_app, flat_app] at this
      simp at this
      omega
    obtain ⟨d0, hd0⟩ : ∃ d0, d0 = D.tup [.str op, .int 0, info, .tup ks, .tup as] := ⟨_, rfl⟩
    obtain ⟨L, hL⟩ : ∃ L : Option D → Option D → Option D → Option D → Option D → MS, L = fun a b c d e => [some d0, some (.ref m), some (.str op), some (.int old.length), some info, a, some (.tup as), b, c, d, e] := ⟨_, rfl⟩
    have e1 : mAsg (mVar 0) (mgTup 5 (mgCons (mgName 2) (mgCons (mgName 3) (mgCons (mgName 4) (mgCons (mgName 5) (mgCons (mgName 6) mgNil)))))) [some d0, some (.ref m), none, none, none, none, none, none, none, none, none] (wr h m old) = .ok (.next [some d0, some (.ref m), some (.str op), some (.int 0), some info, some (.tup ks), some (.tup as), none, none, none, none]) (wr h m old) := by rw [hd0]; simp
    have e2 : mSet 3 (mCall fLen (mCons (mVar 1) mNil)) [some d0, some (.ref m), some (.str op), some (.int 0), some info, some (.tup ks), some (.tup as), none, none, none, none] (wr h m old) = .ok (.next (L (some (.tup ks)) none none none none)) (wr h m old) := by rw [hL]; simp [lenW hm]
    have v2 : ∀ a b c d e, (L a b c d e)[2]? = some (some (.str op)) := fun a b c d e => by rw [hL]; rfl
    have v0 : ∀ a b c d e, (L a b c d e)[0]? = some (some d0) := fun a b c d e => by rw [hL]; rfl
    have v1 : ∀ a b c d e, (L a b c d e)[1]? = some (some (.ref m)) := fun a b c d e => by rw [hL]; rfl
    obtain ⟨n1, n2, n3, n4⟩ := HO.nd
    have e3 : ∀ A B C E, mIfS (mB (mOp opEq (mVar 2) (mC (.str "int")))) A (mIfS (mB (mOp opEq (mVar 2) (mC (.str "bool")))) B (mIfS (mB (mOp opEq (mVar 2) (mC (.str "unit")))) C (mIfS (mB (mOp opEq (mVar 2) (mC (.str "name")))) E mNext))) (L (some (.tup ks)) none none none none) (wr h m old) = .ok (.next (L (some (.tup ks)) none none none none)) (wr h m old) := fun A B C E => by
      rw [if_no2 (v2 ..) n1, if_no2 (v2 ..) n2, if_no2 (v2 ..) n3, if_no (v2 ..) n4]
    have nl := in_h (h := wr h m old) H.nl
    have e4 : ∀ A, mIfS (mB (mOp opIn (mVar 2) (mTup (mCons (mC (.str "int")) (mCons (mC (.str "bool")) (mCons (mC (.str "unit")) (mCons (mC (.str "name")) (mNil)))))))) A mNext (L (some (.tup ks)) none none none none) (wr h m old) = .ok (.next (L (some (.tup ks)) none none none none)) (wr h m old) := fun A => by
      simp [mVar_eq (v2 (some (.tup ks)) none none none none), nl]
    have e5 : mDrop (mCall m__law_head (mCons (mVar 0) (mCons (mVar 1) mNil))) (L (some (.tup ks)) none none none none) (wr h m old) = .ok (.next (L (some (.tup ks)) none none none none)) (wr h m (old ++ ([40] :: flat hps))) := by
      have := H.head 0 (.tup ks) (.tup as) h m old hm (by omega)
      rw [← hd0] at this
      simp only [mDrop_eq, mCall_eq, mCons_eq, mVar_eq (v0 (some (.tup ks)) none none none none), mVar_eq (v1 (some (.tup ks)) none none none none), R.bnd_ok, mNil_eq, this, R.st_ok]
    obtain ⟨o1, ho1⟩ : ∃ o1, o1 = old ++ ([40] :: flat hps) := ⟨_, rfl⟩
    have l1 : o1.length = old.length + 1 + (flat hps).length := by rw [ho1]; simp; omega
    rw [← ho1] at e5
    obtain ⟨ys, ey, py⟩ := lc_words (Rp := ESp n) (Y := TX' n) (src := mSrc (mVar 5)) (tgt := mgName 10) (elt := mCall (m__law_expr_words g) (mCons (mVar 10) (mCons (mVar 1) mNil))) (vs := [10]) (δ := L (some (.tup ks)) none none none none) (m := m) (old := o1) hm (by rw [hL]; simp) hk (by omega) (by omega) (fun _ _ t => t.2) (fun x p old' acc hx hpm hz2 => by
      obtain ⟨d', ed, tx, lo⟩ := hx.words g (by omega) (h ++ [MO.lst acc]) m old' (by rw [List.length_append]; omega) hz2
      rw [wr_app hm, wr_app hm] at ed
      refine ⟨_, d', rfl, ?_, tx, lo⟩
      rw [hL]
      simp [wipeM, ed])
    have e6 : mSet 5 (mCall fTuple (mCons (mLc (mSrc (mVar 5)) (mgName 10) mYes (mCall (m__law_expr_words g) (mCons (mVar 10) (mCons (mVar 1) mNil))) [10]) mNil)) (L (some (.tup ks)) none none none none) (wr h m o1) = .ok (.next (L (some (.tup ys)) none none none none)) (wr h m (o1 ++ flat kps)) := by
      rw [mSet_eq, mCall_eq, mCons_eq, ey]
      simp only [R.bnd_ok, mNil_eq, fTuple_eq (show seqG (.rol ys) _ = some ys from rfl), R.st_ok]
      rw [hL]; rfl
    have e7 : mSet 7 (mLstN mNil) (L (some (.tup ys)) none none none none) (wr h m (o1 ++ flat kps)) = .ok (.next (L (some (.tup ys)) (some (.ref h.length)) none none none)) (wr h m (o1 ++ flat kps) ++ [.lst []]) := by
      rw [mSet_eq, mLstN_eq, mNil_eq]
      simp only [R.bnd_ok]
      rw [if_pos (by simp), R.st_ok, wr_len, hL]; rfl
    obtain ⟨y8, y9, rows, er, pr⟩ := arms_loop (x0 := some d0) (x3 := some (.int old.length)) (x4 := some info) (x5 := some (.tup ys)) (x6 := some (.tup as)) (x8 := none) (x9 := none) (x10 := none) (g := g) (by omega) hm ha (by omega) (old := o1 ++ flat kps) (by simp; omega)
    have e8 : mFor (mSrc (mVar 6)) (mgName 8) (b__law_expr_words_2 (m__law_expr_words g)) (L (some (.tup ys)) (some (.ref h.length)) none none none) (wr h m (o1 ++ flat kps) ++ [.lst []]) = .ok (.next (L (some (.tup ys)) (some (.ref h.length)) y8 y9 none)) (wr h m (o1 ++ flat kps ++ flat aps) ++ [.lst rows]) := by
      rw [mFor_eq, mSrc_eq, hL, mVar_eq (show _ = some (some (D.tup as)) from rfl), R.bnd_ok, srcOf_tup, R.st_ok]
      exact er
    obtain ⟨H2, hH2⟩ : ∃ H2, H2 = h ++ [MO.lst rows] := ⟨_, rfl⟩
    have wH2 : ∀ ws, wr h m ws ++ [.lst rows] = wr H2 m ws := fun ws => by rw [hH2, wr_app hm]
    have hmH2 : m < H2.length := by rw [hH2, List.length_append]; omega
    have e9 : mDrop (mMtd "list" fAppend (mVar 1) (mCons (mC (.str ")")) mNil)) (L (some (.tup ys)) (some (.ref h.length)) y8 y9 none) (wr h m (o1 ++ flat kps ++ flat aps) ++ [.lst rows]) = .ok (.next (L (some (.tup ys)) (some (.ref h.length)) y8 y9 none)) (wr h m (o1 ++ flat kps ++ flat aps ++ [[41]]) ++ [.lst rows]) := by
      rw [wH2, wH2]
      exact push hmH2 (v1 ..) rfl (by simp; omega)
    have fin : old ++ (fp (hps ++ kps ++ aps)).1 = o1 ++ flat kps ++ flat aps ++ [[41]] := by
      show old ++ formW (flat (hps ++ kps ++ aps)) = _
      rw [ho1, flat_app, flat_app]
      unfold formW
      simp
    obtain ⟨oF, hoF⟩ : ∃ oF, oF = o1 ++ flat kps ++ flat aps ++ [[41]] := ⟨_, rfl⟩
    rw [← hoF] at e9 fin
    have sq : seqG (.ref h.length) (wr h m oF ++ [.lst rows]) = some rows := lst?_of rows_at
    have lowN := low old.length (ks' := ys) (as' := rows) (pair_left (fun _ _ e => e.2) py) (pair_left (fun _ _ e => e.2) pr)
    refine ⟨.tup [.str op, .int old.length, info, .tup ys, .tup rows], ?_, text_node H (Paired.mono (fun _ _ e => e.1) py) ak (Paired.mono (fun _ _ e => e.1) pr) aa (by rw [py.length, pr.length]; omega), lowN⟩
    rw [m__law_expr_words_succ, fin]
    refine mFn_ret (g := [.lst rows]) rfl ?_ rfl (by rw [wr_len, wr_len]) (wr_left hm _ _) (lowN _)
    have st : mStart 11 [D.tup [.str op, .int 0, info, .tup ks, .tup as], .ref m] = [some d0, some (.ref m), none, none, none, none, none, none, none, none, none] := by rw [hd0]; rfl
    rw [st]
    unfold b__law_expr_words
    rw [mSeq_eq, e1, SR.seq_next, mSeq_eq, e2, SR.seq_next, mSeq_eq, e3, SR.seq_next, mSeq_eq, e4, SR.seq_next, mSeq_eq, e5, SR.seq_next, mSeq_eq, e6, SR.seq_next, mSeq_eq, e7, SR.seq_next, mSeq_eq, e8, SR.seq_next, mSeq_eq, e9, SR.seq_next, hL]
    simp [sq]
  · obtain ⟨g, rfl⟩ : ∃ g, f = g + 1 := ⟨f - 1, by omega⟩
    obtain ⟨d0, hd0⟩ : ∃ d0, d0 = D.tup [.str op, .int 0, info, .tup ks, .tup as] := ⟨_, rfl⟩
    obtain ⟨i1, l1⟩ := lc_int (h := h) (src := mSrc (mOp opIx (mVar 0) (mC (.int 3)))) (tgt := mgName 1) (elt := mCall (m__law_nodes g) (mCons (mVar 1) mNil)) (vs := [1]) (δ := [some d0, none, none]) (ks := ks) (g := fun _ => True) (h1 := h) (by simp [hd0, ix3]) (fun _ => trivial) (by omega) (fun x hx => ⟨_, rfl, fun k => by
      obtain ⟨i, ei⟩ := pair_left (Q := fun x => ∀ f, n ≤ f → ∀ h, ∃ i, m__law_nodes f [x] h = .ok (.int i) h) (fun _ _ e => e.nodes) hk x hx g (by omega) (h ++ k)
      exact ⟨i, by simp [wipeM, ei]⟩⟩)
    obtain ⟨i2, l2⟩ := lc_int (h := h) (src := mSrc (mOp opIx (mVar 0) (mC (.int 4)))) (tgt := mgName 2) (elt := mCall (m__law_nodes g) (mCons (mOp opIx (mVar 2) (mC (.int 2))) mNil)) (vs := [2]) (δ := [some d0, none, none]) (ks := as) (g := fun _ => True) (h1 := h) (by simp [hd0, ix4]) (fun _ => trivial) (by omega) (fun x hx => ⟨_, rfl, fun k => by
      obtain ⟨i, ei⟩ := pair_left (Q := fun x => ∀ f, n ≤ f → ∀ h, ∃ b i, opIx x (.int 2) h = .ok b h ∧ m__law_nodes f [b] h = .ok (.int i) h) (fun _ _ e => by
        obtain ⟨nm, vs, b, bp, rfl, _, _, _, E, _⟩ := e
        intro f hf h
        obtain ⟨i, ei⟩ := E.nodes f hf h
        exact ⟨b, i, ix2, ei⟩) ha x hx g (by omega) (h ++ k)
      obtain ⟨i, e1, e2⟩ := ei
      exact ⟨i, by simp [wipeM, e1, e2]⟩⟩)
    refine ⟨1 + i1.sum + i2.sum, ?_⟩
    rw [m__law_nodes_succ]
    refine mFn_pure0 rfl ?_ rfl
    have st : mStart 3 [D.tup [.str op, .int 0, info, .tup ks, .tup as]] = [some d0, none, none] := by rw [hd0]; rfl
    rw [st]
    unfold b__law_nodes
    have s1 := fSum_int (h := h) i1
    have s2 := fSum_int (h := h) i2
    generalize mLc (mSrc (mOp opIx (mVar 0) (mC (.int 3)))) _ _ _ _ = M1 at l1 ⊢
    generalize mLc (mSrc (mOp opIx (mVar 0) (mC (.int 4)))) _ _ _ _ = M2 at l2 ⊢
    simp [l1, l2, s1, s2]
theorem expr_spec : ∀ (n : Nat) (d : D), ExOk n d → ∃ p, ESp n d p
  | 0, _, h => h.elim
  | n + 1, d, h => by
    unfold ExOk at h
    rcases h with ⟨op, info, rfl, L⟩ | ⟨op, info, ks, as, rfl, HO, hl, hk, ha⟩
    · exact leaf_spec L n
    · obtain ⟨hps, H⟩ := head_spec HO
      obtain ⟨kps, pk⟩ := pair_ex (R := ESp n) ks fun k hk' => expr_spec n k (hk k hk')
      obtain ⟨aps, pa⟩ := pair_ex (R := AR op n) as fun a ha' => by
        obtain ⟨nm, vs, b, rfl, an, av, hv, E⟩ := ha a ha'
        obtain ⟨bp, e⟩ := expr_spec n b E
        exact ⟨_, nm, vs, b, bp, rfl, an, av, hv, e, rfl⟩
      exact ⟨_, node_spec HO H pk pa hl⟩
end
end K05

namespace K05
open PySem PySem.Spec PyProof.Rows L2 MM
/-! ### declarations: words, texts -/
structure DSp (d : D) (ps : List PP) (tf : List D → MH → R D) (wf : List D → MH → R D) (B : Nat) : Prop where
  all : AllPc ps
  sz : (formW (flat ps)).length ≤ B
  lo : ∀ m, d.lows m = true
  text : ∀ h, wt (flat ps) ≤ 1000000 → tf [d] h = .ok (dS (formT (txts ps))) h
  words : ∀ (h : MH) (m : Nat) (old : List Wd), m < h.length → old.length + (formW (flat ps)).length ≤ 16000000 → wf [d, .ref m] (wr h m old) = .ok .non (wr h m (old ++ formW (flat ps)))
def RowOk (r : D) : Prop := ∃ cn ks, r = .tup [dS cn, .tup ks] ∧ Atm cn ∧ ks.length ≤ 6 ∧ ∀ k ∈ ks, KOk 3 k
def DataOk (d : D) : Prop := ∃ nm rows, d = .tup [dS nm, .tup rows] ∧ Atm nm ∧ rows.length ≤ 8 ∧ ∀ r ∈ rows, RowOk r
structure RSp (r : D) (cn : Wd) (ks : List D) (kps : List PP) : Prop where
  eq : r = .tup [dS cn, .tup ks]
  a : Atm cn
  l : ks.length ≤ 6
  k : Paired (KSp 3) ks kps
def RR (r : D) (p : PP) : Prop := ∃ cn ks kps, RSp r cn ks kps ∧ p = fp (at1 cn :: kps)
theorem RSp.all {r cn ks kps} (s : RSp r cn ks kps) : AllPc (at1 cn :: kps) := all_cons (Pc.atm s.a) (pair_all (Q := fun p => Pc p.1 p.2) (fun _ _ k => k.pc) s.k)
theorem RR.pc {r p} (s : RR r p) : Pc p.1 p.2 := by
  obtain ⟨cn, ks, kps, s, rfl⟩ := s
  exact Pc.form s.all
theorem RSp.sz {r cn ks kps} (s : RSp r cn ks kps) : (flat kps).length ≤ 774 := by
  have h1 := flat_le (B := 129) kps (pair_all (fun _ _ k => k.sz) s.k)
  have := s.k.length
  have := s.l
  have : 129 * kps.length ≤ 129 * 6 := Nat.mul_le_mul_left _ (by omega)
  omega
theorem RR.sz {r p} (s : RR r p) : p.1.length ≤ 777 := by
  obtain ⟨cn, ks, kps, s, rfl⟩ := s
  have := s.sz
  show (formW (flat (at1 cn :: kps))).length ≤ _
  unfold formW
  rw [flat_cons]
  simp
  omega
theorem RR.lo {r p} (s : RR r p) (lk : ∀ k p, KSp 3 k p → ∀ m, k.lows m = true) (m : Nat) : r.lows m = true := by
  obtain ⟨cn, ks, kps, s, rfl⟩ := s
  rw [s.eq]
  show (true && (lowsL m ks && true)) = true
  rw [lows_all fun x hx => pair_left (fun _ _ e => lk _ _ e) s.k x hx m]; rfl
section
variable {h : MH}
theorem con_text {r : D} {p : PP} (s : RR r p) (hz : wt p.1 ≤ 1000000) : m__constructor_text [r] h = .ok (dS p.2) h := by
  obtain ⟨cn, ks, kps, s, rfl⟩ := s
  obtain ⟨rfl, ac, hl, hk⟩ := id s
  have hz1 := wt_fp hz
  unfold m__constructor_text
  refine mFn_pure0 rfl ?_ rfl
  have st : mStart 4 [D.tup [dS cn, .tup ks]] = [some (D.tup [dS cn, .tup ks]), none, none, none] := rfl
  rw [st]
  unfold b__constructor_text
  have lc : mLc (mSrc (mVar 2)) (mgName 3) (mYes) (mCall (m__kind_text 8) (mCons (mVar 3) (mNil))) [3] [some (D.tup [dS cn, .tup ks]), some (dS cn), some (.tup ks), none] h = .ok (.rol (kps.map fun p => dS p.2)) h :=
    lc_pair (enc := fun p : PP => dS p.2) (R := KSp 3) (ks := ks) (by simp) hk (by omega) (fun _ _ => rfl) fun x p hx hpm => ⟨_, rfl, fun k => by
      have wp : wt p.1 ≤ 1000000 := by
        have := wt_flat_le hpm
        rw [flat_cons, wt_app] at hz1
        omega
      have := hx.text 8 (by omega) (h ++ k) wp
      simp [wipeM, this]⟩
  have ff := form_ok2 (h := h) s.all hz1 (d := .rol (dS cn :: kps.map fun p => dS p.2)) (by simp [txts, seqG])
  have hkl := hk.length
  generalize mLc _ _ _ _ _ = LC at lc ⊢
  simp [lc]
  rw [opAddS_rol (by simp; omega)]
  simp only [R.bnd_ok, List.cons_append, List.nil_append, ff, R.st_ok]
theorem data_sp {nm : Wd} {rows : List D} {rps : List PP} (a : Atm nm) (hl : rows.length ≤ 8) (hr : Paired RR rows rps) (lr : ∀ x ∈ rows, ∀ m, x.lows m = true) : DSp (.tup [dS nm, .tup rows]) (at1 (tl "data") :: at1 nm :: rps) m_data_text m__law_data_words 6220 := by
  have ad : Atm (tl "data") := ⟨by decide, by decide, by decide⟩
  have all : AllPc (at1 (tl "data") :: at1 nm :: rps) := all_cons (Pc.atm ad) (all_cons (Pc.atm a) (pair_all (Q := fun p => Pc p.1 p.2) (fun _ _ s => s.pc) hr))
  have hrl := hr.length
  have hf : (flat rps).length ≤ 6216 := by
    have h1 := flat_le (B := 777) rps (pair_all (fun _ _ s => s.sz) hr)
    have : 777 * rps.length ≤ 777 * 8 := Nat.mul_le_mul_left _ (by omega)
    omega
  refine ⟨all, ?_, fun m => ?_, fun h hz => ?_, fun h m old hm hz => ?_⟩
  · unfold formW
    rw [flat_cons, flat_cons]
    simp
    omega
  · show (true && (lowsL m rows && true)) = true
    rw [lows_all fun x hx => lr x hx m]; rfl
  · unfold m_data_text
    refine mFn_pure0 rfl ?_ rfl
    have st : mStart 4 [D.tup [dS nm, .tup rows]] = [some (D.tup [dS nm, .tup rows]), none, none, none] := rfl
    rw [st]
    unfold b_data_text
    have lc : mLc (mSrc (mVar 2)) (mgName 3) (mYes) (mCall m__constructor_text (mCons (mVar 3) (mNil))) [3] [some (D.tup [dS nm, .tup rows]), some (dS nm), some (.tup rows), none] h = .ok (.rol (rps.map fun p => dS p.2)) h :=
      lc_pair (enc := fun p : PP => dS p.2) (R := RR) (ks := rows) (by simp) hr (by omega) (fun _ _ => rfl) fun x p hx hpm => ⟨_, rfl, fun k => by
        have wp : wt p.1 ≤ 1000000 := by
          have := wt_flat_le hpm
          rw [flat_cons, flat_cons, wt_app, wt_app] at hz
          omega
        have := con_text (h := h ++ k) hx wp
        simp [wipeM, this]⟩
    have ff := form_ok2 (h := h) all hz (d := .rol (.str "data" :: dS nm :: rps.map fun p => dS p.2)) (by rw [dS_tl]; simp [txts, seqG])
    generalize mLc _ _ _ _ _ = LC at lc ⊢
    simp [lc]
    rw [opAddS_rol (by simp; omega)]
    simp only [R.bnd_ok, List.cons_append, List.nil_append, ff, R.st_ok]
  · have hz1 : old.length + (flat rps).length + 4 ≤ 16000000 := by
      unfold formW at hz
      rw [flat_cons, flat_cons] at hz
      simp at hz
      omega
    obtain ⟨d0, hd0⟩ : ∃ d0, d0 = D.tup [dS nm, .tup rows] := ⟨_, rfl⟩
    have i0 : ∀ k, opIx d0 (.int 0) k = .ok (dS nm) k := fun k => by rw [hd0, ix0]
    have i1 : ∀ k, opIx d0 (.int 1) k = .ok (.tup rows) k := fun k => by rw [hd0, ix1]
    obtain ⟨L, hL⟩ : ∃ L : Option D → Option D → Option D → MS, L = fun a b c => [some d0, some (.ref m), a, b, c] := ⟨_, rfl⟩
    have v0 : ∀ a b c, (L a b c)[0]? = some (some d0) := fun a b c => by rw [hL]; rfl
    have v1 : ∀ a b c, (L a b c)[1]? = some (some (.ref m)) := fun a b c => by rw [hL]; rfl
    have v2 : ∀ a b c, (L (some a) b c)[2]? = some (some a) := fun a b c => by rw [hL]; rfl
    have v3 : ∀ a b c, (L a (some b) c)[3]? = some (some b) := fun a b c => by rw [hL]; rfl
    have v4 : ∀ a b c, (L a b (some c))[4]? = some (some c) := fun a b c => by rw [hL]; rfl
    have p1 : mDrop (mMtd "list" fAppend (mVar 1) (mCons (mC (.str "(")) mNil)) (L none none none) (wr h m old) = .ok (.next (L none none none)) (wr h m (old ++ [[40]])) := push hm (v1 ..) rfl (by omega)
    have p2 : mDrop (mMtd "list" fAppend (mVar 1) (mCons (mC (.str "data")) mNil)) (L none none none) (wr h m (old ++ [[40]])) = .ok (.next (L none none none)) (wr h m (old ++ [[40]] ++ [tl "data"])) := push hm (v1 ..) (by rw [← dS_tl]; rfl) (by simp; omega)
    have p3 : mDrop (mMtd "list" fAppend (mVar 1) (mCons (mOp opIx (mVar 0) (mC (.int 0))) mNil)) (L none none none) (wr h m (old ++ [[40]] ++ [tl "data"])) = .ok (.next (L none none none)) (wr h m (old ++ [[40]] ++ [tl "data"] ++ [nm])) := push hm (v1 ..) (by simp only [mOp_eq, mVar_eq (v0 none none none), mC_eq, R.bnd_ok, i0]) (by simp; omega)
    obtain ⟨δ', fw, ⟨y2, y3, y4, rfl⟩⟩ := for_words (tgt := mgTup 2 (mgCons (mgName 2) (mgCons (mgName 3) mgNil))) (body := b__law_data_words_2) (fun δ => ∃ a b c, δ = L a b c) (h := h) hm hr (old := old ++ [[40]] ++ [tl "data"] ++ [nm]) (by simp; omega) (fun x p δ old' hx hpm ⟨y2, y3, y4, e⟩ hz2 => by
      subst e
      obtain ⟨cn, ks, kps, s, rfl⟩ := hx
      obtain ⟨rfl, ac, hl, hk⟩ := id s
      have hz3 : old'.length + (flat kps).length + 3 ≤ 16000000 := by
        have : old'.length + (formW (flat (at1 cn :: kps))).length ≤ 16000000 := hz2
        unfold formW at this
        rw [flat_cons] at this
        simp at this
        omega
      have q1 : mDrop (mMtd "list" fAppend (mVar 1) (mCons (mC (.str "(")) mNil)) (L (some (dS cn)) (some (.tup ks)) y4) (wr h m old') = .ok (.next (L (some (dS cn)) (some (.tup ks)) y4)) (wr h m (old' ++ [[40]])) := push hm (v1 ..) rfl (by omega)
      have q2 : mDrop (mMtd "list" fAppend (mVar 1) (mCons (mVar 2) mNil)) (L (some (dS cn)) (some (.tup ks)) y4) (wr h m (old' ++ [[40]])) = .ok (.next (L (some (dS cn)) (some (.tup ks)) y4)) (wr h m (old' ++ [[40]] ++ [cn])) := push hm (v1 ..) (mVar_eq (v2 ..)) (by simp; omega)
      obtain ⟨δ2, fw2, ⟨z4, rfl⟩⟩ := for_words (tgt := mgName 4) (body := b__law_data_words_1) (fun δ => ∃ c, δ = L (some (dS cn)) (some (.tup ks)) c) (h := h) hm hk (old := old' ++ [[40]] ++ [cn]) (by simp; omega) (fun x p δ old2 hx hpm ⟨z4, e⟩ hz4 => by
        subst e
        refine ⟨L (some (dS cn)) (some (.tup ks)) (some x), L (some (dS cn)) (some (.tup ks)) (some x), by rw [hL]; rfl, ?_, ⟨some x, rfl⟩⟩
        exact kw_stmt hx hm (v1 ..) (mVar_eq (v4 ..)) hz4) ⟨y4, rfl⟩
      have q3 : mFor (mSrc (mVar 3)) (mgName 4) b__law_data_words_1 (L (some (dS cn)) (some (.tup ks)) y4) (wr h m (old' ++ [[40]] ++ [cn])) = .ok (.next (L (some (dS cn)) (some (.tup ks)) z4)) (wr h m (old' ++ [[40]] ++ [cn] ++ flat kps)) := by
        rw [mFor_eq, mSrc_eq, mVar_eq (v3 ..), R.bnd_ok, srcOf_tup, R.st_ok]
        exact fw2
      have q4 : mDrop (mMtd "list" fAppend (mVar 1) (mCons (mC (.str ")")) mNil)) (L (some (dS cn)) (some (.tup ks)) z4) (wr h m (old' ++ [[40]] ++ [cn] ++ flat kps)) = .ok (.next (L (some (dS cn)) (some (.tup ks)) z4)) (wr h m (old' ++ [[40]] ++ [cn] ++ flat kps ++ [[41]])) := push hm (v1 ..) rfl (by simp; omega)
      refine ⟨L (some (dS cn)) (some (.tup ks)) y4, L (some (dS cn)) (some (.tup ks)) z4, by rw [hL]; rfl, ?_, ⟨_, _, _, rfl⟩⟩
      unfold b__law_data_words_2
      rw [mSeq_eq, q1, SR.seq_next, mSeq_eq, q2, SR.seq_next, mSeq_eq, q3, SR.seq_next, q4]
      have : old' ++ (fp (at1 cn :: kps)).1 = old' ++ [[40]] ++ [cn] ++ flat kps ++ [[41]] := by
        show old' ++ formW (flat (at1 cn :: kps)) = _
        unfold formW
        rw [flat_cons]
        simp
      rw [this]) ⟨none, none, none, rfl⟩
    have p4 : mFor (mSrc (mOp opIx (mVar 0) (mC (.int 1)))) (mgTup 2 (mgCons (mgName 2) (mgCons (mgName 3) mgNil))) b__law_data_words_2 (L none none none) (wr h m (old ++ [[40]] ++ [tl "data"] ++ [nm])) = .ok (.next (L y2 y3 y4)) (wr h m (old ++ [[40]] ++ [tl "data"] ++ [nm] ++ flat rps)) := by
      rw [mFor_eq, mSrc_eq]
      simp only [mOp_eq, mVar_eq (v0 none none none), mC_eq, R.bnd_ok, i1, srcOf_tup, R.st_ok]
      exact fw
    have p5 : mDrop (mMtd "list" fAppend (mVar 1) (mCons (mC (.str ")")) mNil)) (L y2 y3 y4) (wr h m (old ++ [[40]] ++ [tl "data"] ++ [nm] ++ flat rps)) = .ok (.next (L y2 y3 y4)) (wr h m (old ++ [[40]] ++ [tl "data"] ++ [nm] ++ flat rps ++ [[41]])) := push hm (v1 ..) rfl (by simp; omega)
    have fin : old ++ formW (flat (at1 (tl "data") :: at1 nm :: rps)) = old ++ [[40]] ++ [tl "data"] ++ [nm] ++ flat rps ++ [[41]] := by
      unfold formW
      rw [flat_cons, flat_cons]
      simp
    rw [fin]
    unfold m__law_data_words
    refine fn_next (δ := L y2 y3 y4) rfl ?_ (by rw [wr_len, wr_len]) (wr_left hm _ _)
    have st : mStart 5 [D.tup [dS nm, .tup rows], .ref m] = L none none none := by rw [hL, hd0]; rfl
    rw [st]
    unfold b__law_data_words
    rw [mSeq_eq, p1, SR.seq_next, mSeq_eq, p2, SR.seq_next, mSeq_eq, p3, SR.seq_next, mSeq_eq, p4, SR.seq_next, p5]
end
end K05

namespace K05
open PySem PySem.Spec PyProof.Rows L2 MM
def PR (d : D) (p : PP) : Prop := ∃ w k kp, d = .tup [dS w, k] ∧ Atm w ∧ KSp 3 k kp ∧ (∀ m, k.lows m = true) ∧ p = fp [at1 w, kp]
theorem PR.pc {d p} (s : PR d p) : Pc p.1 p.2 := by
  obtain ⟨w, k, kp, rfl, a, s, _, rfl⟩ := s
  exact Pc.form (all_cons (Pc.atm a) (all_cons s.pc all_nil))
theorem flat2 {a b : PP} : flat [a, b] = a.1 ++ b.1 := by rw [flat_cons, flat_cons, flat_nil, List.append_nil]
theorem PR.sz {d p} (s : PR d p) : p.1.length ≤ 132 := by
  obtain ⟨w, k, kp, rfl, a, s, _, rfl⟩ := s
  have : kp.1.length ≤ 129 := s.sz
  show (formW (flat [at1 w, kp])).length ≤ _
  rw [flat2]
  unfold formW
  simp
  omega
theorem PR.lo {d p} (s : PR d p) (m : Nat) : d.lows m = true := by
  obtain ⟨w, k, kp, rfl, a, s, lk, rfl⟩ := s
  show (true && (k.lows m && true)) = true
  rw [lk]; rfl
abbrev fnP (nm : Wd) (pps : List PP) (rp bp : PP) : List PP := [at1 (tl "fun"), at1 nm, fp pps, rp, bp]
theorem flat_fn {nm : Wd} {pps : List PP} {rp bp : PP} : flat (fnP nm pps rp bp) = [tl "fun"] ++ ([nm] ++ (formW (flat pps) ++ (rp.1 ++ bp.1))) := by
  rw [flat_cons, flat_cons, flat_cons, flat2]
structure FSp (nm : Wd) (prs : List D) (pps : List PP) (res : D) (rp bp : PP) : Prop where
  a : Atm nm
  l : prs.length ≤ 3
  p : Paired PR prs pps
  r : KSp 3 res rp
  b : Pc bp.1 bp.2
theorem FSp.all {nm prs pps res rp bp} (s : FSp nm prs pps res rp bp) : AllPc (fnP nm pps rp bp) :=
  all_cons (Pc.atm ⟨by decide, by decide, by decide⟩) (all_cons (Pc.atm s.a) (all_cons (Pc.form (pair_all (Q := fun p => Pc p.1 p.2) (fun _ _ k => k.pc) s.p)) (all_cons s.r.pc (all_cons s.b all_nil))))
section
variable {h : MH}
theorem fun_text {nm : Wd} {prs : List D} {pps : List PP} {res : D} {rp bp : PP} (s : FSp nm prs pps res rp bp) {at' : Int} {body : D} (tb : TX 5 body bp) (hz : wt (flat (fnP nm pps rp bp)) ≤ 1000000) :
    m_function_text [.tup [dS nm, .int at', .tup prs, res, body]] h = .ok (dS (formT (txts (fnP nm pps rp bp)))) h := by
  unfold m_function_text
  refine mFn_pure0 rfl ?_ rfl
  have st : mStart 8 [D.tup [dS nm, .int at', .tup prs, res, body]] = [some (D.tup [dS nm, .int at', .tup prs, res, body]), none, none, none, none, none, none, none] := rfl
  rw [st]
  unfold b_function_text
  have hz2 : wt [tl "fun"] + (wt [nm] + (wt (formW (flat pps)) + (wt rp.1 + wt bp.1))) ≤ 1000000 := by
    rw [flat_fn, wt_app, wt_app, wt_app, wt_app] at hz
    exact hz
  have hw := wt_formW (flat pps)
  have hpl := s.p.length
  have hl3 := s.l
  have lc : mLc (mSrc (mVar 3)) (mgName 7) (mYes) (mCall m__parameter_text (mCons (mVar 7) (mNil))) [7] [some (D.tup [dS nm, .int at', .tup prs, res, body]), some (dS nm), some (.int at'), some (.tup prs), some res, some body, none, none] h = .ok (.rol (pps.map fun p => dS p.2)) h :=
    lc_pair (enc := fun p : PP => dS p.2) (R := PR) (ks := prs) (by simp) s.p (by omega) (fun _ _ => rfl) fun x p hx hpm => ⟨_, rfl, fun k => by
      have wp : wt p.1 ≤ 1000000 := by
        have := wt_flat_le hpm
        omega
      obtain ⟨w, k', kp, rfl, a, sk, _, rfl⟩ := hx
      have := param_ok (h := h ++ k) a sk (wt_fp wp)
      simp [wipeM, this]⟩
  have f1 := form_ok2 (h := h) (ps := pps) (pair_all (Q := fun p => Pc p.1 p.2) (fun _ _ k => k.pc) s.p) (by omega) (d := .rol (pps.map fun p => dS p.2)) (by simp [txts, seqG])
  have kt := s.r.text 8 (by omega) h (by omega)
  have et := tb 12 (by omega) h (by omega)
  have f2 := form_ok2 (h := h) s.all hz (d := .rol [.str "fun", dS nm, dS (formT (txts pps)), dS rp.2, dS bp.2]) (by rw [dS_tl]; rfl)
  generalize mLc _ _ _ _ _ = LC at lc ⊢
  simp [lc, f1, kt, et, f2]
theorem fun_words {nm : Wd} {prs : List D} {pps : List PP} {res : D} {rp bp : PP} (s : FSp nm prs pps res rp bp) (lres : ∀ m, res.lows m = true) {body : D} (eb : ESp 5 body bp) {m : Nat} {old : List Wd} (hm : m < h.length) (hz : old.length + (formW (flat (fnP nm pps rp bp))).length ≤ 16000000) :
    ∃ d', m__law_function_words [.tup [dS nm, .int 0, .tup prs, res, body], .ref m] (wr h m old) = .ok d' (wr h m (old ++ formW (flat (fnP nm pps rp bp)))) ∧ (∀ h, wt (flat (fnP nm pps rp bp)) ≤ 1000000 → m_function_text [d'] h = .ok (dS (formT (txts (fnP nm pps rp bp)))) h) ∧ ∀ k, d'.lows k = true := by
  have hz1 : old.length + (flat pps).length + rp.1.length + bp.1.length + 6 ≤ 16000000 := by
    rw [flat_fn] at hz
    unfold formW at hz
    simp at hz
    omega
  obtain ⟨d0, hd0⟩ : ∃ d0, d0 = D.tup [dS nm, .int 0, .tup prs, res, body] := ⟨_, rfl⟩
  obtain ⟨L, hL⟩ : ∃ L : D → D → Option D → MS, L = fun a b c => [some d0, some (.ref m), some (dS nm), some a, some (.tup prs), some res, some b, c] := ⟨_, rfl⟩
  have v1 : ∀ a b c, (L a b c)[1]? = some (some (.ref m)) := fun a b c => by rw [hL]; rfl
  have v2 : ∀ a b c, (L a b c)[2]? = some (some (dS nm)) := fun a b c => by rw [hL]; rfl
  have v4 : ∀ a b c, (L a b c)[4]? = some (some (.tup prs)) := fun a b c => by rw [hL]; rfl
  have v5 : ∀ a b c, (L a b c)[5]? = some (some res) := fun a b c => by rw [hL]; rfl
  have v6 : ∀ a b c, (L a b c)[6]? = some (some b) := fun a b c => by rw [hL]; rfl
  have v7 : ∀ a b c, (L a b (some c))[7]? = some (some c) := fun a b c => by rw [hL]; rfl
  have e0 : mAsg (mVar 0) (mgTup 5 (mgCons (mgName 2) (mgCons (mgName 3) (mgCons (mgName 4) (mgCons (mgName 5) (mgCons (mgName 6) (mgNil))))))) [some d0, some (.ref m), none, none, none, none, none, none] (wr h m old) = .ok (.next (L (.int 0) body none)) (wr h m old) := by rw [hL, hd0]; simp
  have p1 : mDrop (mMtd "list" fAppend (mVar 1) (mCons (mC (.str "(")) mNil)) (L (.int 0) body none) (wr h m old) = .ok (.next (L (.int 0) body none)) (wr h m (old ++ [[40]])) := push hm (v1 ..) rfl (by omega)
  have p2 : mDrop (mMtd "list" fAppend (mVar 1) (mCons (mC (.str "fun")) mNil)) (L (.int 0) body none) (wr h m (old ++ [[40]])) = .ok (.next (L (.int 0) body none)) (wr h m (old ++ [[40]] ++ [tl "fun"])) := push hm (v1 ..) (by rw [← dS_tl]; rfl) (by simp; omega)
  obtain ⟨i, hi⟩ : ∃ i : Int, i = ((old ++ [[40]] ++ [tl "fun"]).length : Nat) := ⟨_, rfl⟩
  have p3 : mSet 3 (mCall fLen (mCons (mVar 1) mNil)) (L (.int 0) body none) (wr h m (old ++ [[40]] ++ [tl "fun"])) = .ok (.next (L (.int i) body none)) (wr h m (old ++ [[40]] ++ [tl "fun"])) := by
    have := lenW hm (old ++ [[40]] ++ [tl "fun"])
    rw [mSet_eq, mCall_eq, mCons_eq, mVar_eq (v1 ..), R.bnd_ok, mNil_eq, R.bnd_ok, R.bnd_ok, this, R.st_ok, hi, hL]; rfl
  obtain ⟨o1, ho1⟩ : ∃ o1, o1 = old ++ [[40]] ++ [tl "fun"] := ⟨_, rfl⟩
  have l1 : o1.length = old.length + 2 := by rw [ho1]; simp
  rw [← ho1] at p2 p3
  have p4 : mDrop (mMtd "list" fAppend (mVar 1) (mCons (mVar 2) mNil)) (L (.int i) body none) (wr h m o1) = .ok (.next (L (.int i) body none)) (wr h m (o1 ++ [nm])) := push hm (v1 ..) (mVar_eq (v2 ..)) (by omega)
  have p5 : mDrop (mMtd "list" fAppend (mVar 1) (mCons (mC (.str "(")) mNil)) (L (.int i) body none) (wr h m (o1 ++ [nm])) = .ok (.next (L (.int i) body none)) (wr h m (o1 ++ [nm] ++ [[40]])) := push hm (v1 ..) rfl (by simp; omega)
  obtain ⟨δ', fw, ⟨y7, rfl⟩⟩ := for_words (tgt := mgName 7) (body := b__law_function_words_1) (fun δ => ∃ c, δ = L (.int i) body c) (h := h) hm s.p (old := o1 ++ [nm] ++ [[40]]) (by simp; omega) (fun x p δ old' hx hpm ⟨y7, e⟩ hz2 => by
    subst e
    obtain ⟨w, k, kp, rfl, a, sk, _, rfl⟩ := hx
    have hz3 : old'.length + kp.1.length + 3 ≤ 16000000 := by
      have : old'.length + (formW (flat [at1 w, kp])).length ≤ 16000000 := hz2
      unfold formW at this
      rw [flat2] at this
      simp at this
      omega
    have q1 : mDrop (mMtd "list" fAppend (mVar 1) (mCons (mC (.str "(")) mNil)) (L (.int i) body (some (.tup [dS w, k]))) (wr h m old') = .ok (.next (L (.int i) body (some (.tup [dS w, k])))) (wr h m (old' ++ [[40]])) := push hm (v1 ..) rfl (by omega)
    have q2 : mDrop (mMtd "list" fAppend (mVar 1) (mCons (mOp opIx (mVar 7) (mC (.int 0))) mNil)) (L (.int i) body (some (.tup [dS w, k]))) (wr h m (old' ++ [[40]])) = .ok (.next (L (.int i) body (some (.tup [dS w, k])))) (wr h m (old' ++ [[40]] ++ [w])) := push hm (v1 ..) (by simp only [mOp_eq, mVar_eq (v7 (.int i) body (.tup [dS w, k])), mC_eq, R.bnd_ok, ix0]) (by simp; omega)
    have q3 := kw_stmt sk (a := mOp opIx (mVar 7) (mC (.int 1))) (δ := L (.int i) body (some (.tup [dS w, k]))) (old := old' ++ [[40]] ++ [w]) hm (v1 ..) (by simp only [mOp_eq, mVar_eq (v7 (.int i) body (.tup [dS w, k])), mC_eq, R.bnd_ok, ix1]) (by simp; omega)
    have q4 : mDrop (mMtd "list" fAppend (mVar 1) (mCons (mC (.str ")")) mNil)) (L (.int i) body (some (.tup [dS w, k]))) (wr h m (old' ++ [[40]] ++ [w] ++ kp.1)) = .ok (.next (L (.int i) body (some (.tup [dS w, k])))) (wr h m (old' ++ [[40]] ++ [w] ++ kp.1 ++ [[41]])) := push hm (v1 ..) rfl (by simp; omega)
    refine ⟨L (.int i) body (some (.tup [dS w, k])), L (.int i) body (some (.tup [dS w, k])), by rw [hL]; rfl, ?_, ⟨_, rfl⟩⟩
    unfold b__law_function_words_1
    rw [mSeq_eq, q1, SR.seq_next, mSeq_eq, q2, SR.seq_next, mSeq_eq, q3, SR.seq_next, q4]
    have : old' ++ (fp [at1 w, kp]).1 = old' ++ [[40]] ++ [w] ++ kp.1 ++ [[41]] := by
      show old' ++ formW (flat [at1 w, kp]) = _
      rw [flat2]
      unfold formW
      simp
    rw [this]) ⟨none, rfl⟩
  have p6 : mFor (mSrc (mVar 4)) (mgName 7) b__law_function_words_1 (L (.int i) body none) (wr h m (o1 ++ [nm] ++ [[40]])) = .ok (.next (L (.int i) body y7)) (wr h m (o1 ++ [nm] ++ [[40]] ++ flat pps)) := by
    rw [mFor_eq, mSrc_eq, mVar_eq (v4 ..), R.bnd_ok, srcOf_tup, R.st_ok]
    exact fw
  have p7 : mDrop (mMtd "list" fAppend (mVar 1) (mCons (mC (.str ")")) mNil)) (L (.int i) body y7) (wr h m (o1 ++ [nm] ++ [[40]] ++ flat pps)) = .ok (.next (L (.int i) body y7)) (wr h m (o1 ++ [nm] ++ [[40]] ++ flat pps ++ [[41]])) := push hm (v1 ..) rfl (by simp; omega)
  obtain ⟨o2, ho2⟩ : ∃ o2, o2 = o1 ++ [nm] ++ [[40]] ++ flat pps ++ [[41]] := ⟨_, rfl⟩
  have l2 : o2.length = old.length + (flat pps).length + 5 := by rw [ho2]; simp; omega
  rw [← ho2] at p7
  have p8 := kw_stmt s.r (a := mVar 5) (δ := L (.int i) body y7) (old := o2) hm (v1 ..) (mVar_eq (v5 ..)) (by omega)
  obtain ⟨d', ew, tx', lo'⟩ := eb.words 8 (by omega) h m (o2 ++ rp.1) hm (by simp; omega)
  have p9 : mSet 6 (mCall (m__law_expr_words 8) (mCons (mVar 6) (mCons (mVar 1) mNil))) (L (.int i) body y7) (wr h m (o2 ++ rp.1)) = .ok (.next (L (.int i) d' y7)) (wr h m (o2 ++ rp.1 ++ bp.1)) := by
    rw [mSet_eq, mCall_eq, mCons_eq, mVar_eq (v6 ..), R.bnd_ok, mCons_eq, mVar_eq (v1 ..), R.bnd_ok, mNil_eq, R.bnd_ok, R.bnd_ok, R.bnd_ok, ew, R.st_ok, hL]; rfl
  have p10 : mDrop (mMtd "list" fAppend (mVar 1) (mCons (mC (.str ")")) mNil)) (L (.int i) d' y7) (wr h m (o2 ++ rp.1 ++ bp.1)) = .ok (.next (L (.int i) d' y7)) (wr h m (o2 ++ rp.1 ++ bp.1 ++ [[41]])) := push hm (v1 ..) rfl (by simp; omega)
  have fin : old ++ formW (flat (fnP nm pps rp bp)) = o2 ++ rp.1 ++ bp.1 ++ [[41]] := by
    rw [flat_fn, ho2, ho1]
    unfold formW
    simp
  have lowN : ∀ k, (D.tup [dS nm, .int i, .tup prs, res, d']).lows k = true := fun k => by
    show (true && (true && (lowsL k prs && (res.lows k && (d'.lows k && true))))) = true
    rw [lows_all fun x hx => pair_left (fun _ _ e => PR.lo e) s.p x hx k, lres, lo']; rfl
  refine ⟨.tup [dS nm, .int i, .tup prs, res, d'], ?_, fun h hz => fun_text s tx' hz, lowN⟩
  rw [fin]
  unfold m__law_function_words
  refine mFn_ret (g := []) rfl ?_ (by rw [List.append_nil]) (by rw [wr_len, wr_len]) (wr_left hm _ _) (lowN _)
  have st : mStart 8 [D.tup [dS nm, .int 0, .tup prs, res, body], .ref m] = [some d0, some (.ref m), none, none, none, none, none, none] := by rw [hd0]; rfl
  rw [st]
  unfold b__law_function_words
  rw [mSeq_eq, e0, SR.seq_next, mSeq_eq, p1, SR.seq_next, mSeq_eq, p2, SR.seq_next, mSeq_eq, p3, SR.seq_next, mSeq_eq, p4, SR.seq_next, mSeq_eq, p5, SR.seq_next, mSeq_eq, p6, SR.seq_next, mSeq_eq, p7, SR.seq_next, mSeq_eq, p8, SR.seq_next, mSeq_eq, p9, SR.seq_next, mSeq_eq, p10, SR.seq_next, hL]
  simp
end
end K05

namespace K05
open PySem PySem.Spec PyProof.Rows L2 MM
theorem lcN_pair {α : Type} {Rl : D → α → Prop} {enc : α → D} {src : MI} {tgt : MG} {elt : ME} {vs : List Nat} {δ : MS} {h h1 : MH} {ks : List D} {as : List α} (es : src δ h = .ok ⟨ks, fun _ => True⟩ h1) (hp : Paired Rl ks as) (hz : ks.length < 16777216)
    (step : ∀ x a, Rl x a → a ∈ as → ∃ δ1, tgt x (wipeM δ vs) = some δ1 ∧ ∀ k, elt δ1 (h1 ++ k) = .ok (enc a) (h1 ++ k)) : mLcN src tgt mYes elt vs δ h = .ok (.ref h1.length) (h1 ++ [.lst (as.map enc)]) := by
  have t : Tm (compM (fun _ => True) tgt mYes elt h1.length (wipeM δ vs) ks (h1 ++ [.lst []])) (fun _ h' => h' = h1 ++ [.lst (as.map enc)]) NoX := by
    refine comp_t (fun r acc k => k = h1 ∧ ∃ a1 a2, Paired Rl r a2 ∧ acc = a1.map enc ∧ a1 ++ a2 = as ∧ acc.length + r.length ≤ ks.length) ?_ ?_ ?_ ?_ ⟨rfl, [], as, hp, rfl, rfl, by simp⟩
    · rintro r acc k ⟨rfl, a1, a2, _, _, _, hl⟩
      exact ⟨rfl, by omega⟩
    · intros; trivial
    · rintro x r acc k ⟨rfl, a1, a2, p, rfl, ea, hl⟩
      cases p with
      | @cons _ b _ bs rx pr =>
        obtain ⟨δ1, e1, e2⟩ := step x b rx (by rw [← ea]; simp)
        refine ⟨δ1, e1, ?_⟩
        show Tm (R.ok true _) _ NoX
        rw [Tm_ok, if_pos rfl]
        exact .of (e2 _) ⟨k, rfl, rfl, a1 ++ [b], bs, pr, by simp, by simp [← ea], by simp at hl ⊢; omega⟩
    · rintro acc k ⟨rfl, a1, a2, p, rfl, ea, hl⟩
      cases p
      rw [List.append_nil] at ea
      subst ea
      rfl
  obtain ⟨_, h', e, rfl⟩ := t.ex
  unfold mLcN
  rw [es, R.bnd_ok]
  simp only [e, R.bnd_ok]
  rw [show lst? (h1 ++ [MO.lst (as.map enc)]) h1.length = some (as.map enc) from lst?_of (by simp)]
theorem cutD_hi {ds : List D} {k : Nat} : MM.cutD ds (some (k : Int)) none = ds.drop k := by
  unfold MM.cutD
  rw [HT.sIx_none, HT.sIx_nat]
  rcases Nat.le_total k ds.length with q | q
  · rw [Nat.min_eq_left q, List.take_of_length_le (by simp)]
  · rw [Nat.min_eq_right q, List.drop_eq_nil_of_le q]; simp
/-! ### trees -/
def Tp (p : PP) : Prop := ∃ ps, AllPc ps ∧ p = fp ps
def lines (P : List PP) : Wd := P.flatMap fun p => p.2 ++ [10]
theorem run_top : ∀ (P : List PP), (∀ p ∈ P, Tp p) → ∀ (text before : Wd), ∃ b', run (flat P) (text, 0, before) = (text ++ lines P, 0, b')
  | [], _, text, before => ⟨before, by simp [flat, lines, run]⟩
  | p :: r, hP, text, before => by
    obtain ⟨ps, all, rfl⟩ := hP p (by simp)
    rw [flat_cons, run_app]
    have e1 := run_form all text 0 before (Int.le_refl _)
    obtain ⟨b', e2⟩ := run_top r (fun q hq => hP q (by simp [hq])) (text ++ (formT (txts ps) ++ [10])) [41]
    refine ⟨b', ?_⟩
    show run (flat r) (run (formW (flat ps)) (text, 0, before)) = _
    rw [e1]
    simp only [show ¬ ((0 : Int) < 0 ∧ before ≠ [40]) from fun z => absurd z.1 (by decide), if_false, if_true, List.nil_append]
    rw [e2]
    simp [lines]
def DRel (d : D) (p : PP) : Prop := ∃ ps, p = fp ps ∧ DSp d ps m_data_text m__law_data_words 6220
def excP (w : Wd) : PP := fp [at1 (tl "exception"), at1 w]
def ERel (d : D) (p : PP) : Prop := ∃ w, d = dS w ∧ Atm w ∧ p = excP w
def FRel (d : D) (p : PP) : Prop := ∃ nm prs pps res rp bp body, d = .tup [dS nm, .int 0, .tup prs, res, body] ∧ FSp nm prs pps res rp bp ∧ ESp 5 body bp ∧ (∀ m, res.lows m = true) ∧ p = fp (fnP nm pps rp bp)
def FTx (d : D) (p : PP) : Prop := Tp p ∧ (∀ h, wt p.1 ≤ 1000000 → m_function_text [d] h = .ok (dS p.2) h) ∧ ∀ m, d.lows m = true
theorem DRel.top {d p} (s : DRel d p) : Tp p := by obtain ⟨ps, rfl, s⟩ := s; exact ⟨ps, s.all, rfl⟩
theorem exc_all {w : Wd} (a : Atm w) : AllPc [at1 (tl "exception"), at1 w] := all_cons (Pc.atm ⟨by decide, by decide, by decide⟩) (all_cons (Pc.atm a) all_nil)
theorem ERel.top {d p} (s : ERel d p) : Tp p := by obtain ⟨w, rfl, a, rfl⟩ := s; exact ⟨_, exc_all a, rfl⟩
theorem FRel.top {d p} (s : FRel d p) : Tp p := by obtain ⟨nm, prs, pps, res, rp, bp, body, rfl, s, _, _, rfl⟩ := s; exact ⟨_, s.all, rfl⟩
theorem FRel.tx {d p} (s : FRel d p) : FTx d p := by
  refine ⟨s.top, ?_⟩
  obtain ⟨nm, prs, pps, res, rp, bp, body, rfl, s, e, lr, rfl⟩ := s
  refine ⟨fun h hz => fun_text s e.text (wt_fp hz), fun m => ?_⟩
  show (true && (true && (lowsL m prs && (res.lows m && (body.lows m && true))))) = true
  rw [lows_all fun x hx => pair_left (fun _ _ e => PR.lo e) s.p x hx m, lr, e.lo]; rfl
abbrev treeD (ds es fs : List D) : D := .tup [.tup ds, .tup (.str "Div" :: .str "Index" :: .str "Size" :: es), .tup fs]
theorem lines_app (a b : List PP) : lines (a ++ b) = lines a ++ lines b := List.flatMap_append
theorem jl_nil : ∀ ls : List Wd, jl [] ls = ls.flatten
  | [] => rfl
  | [a] => by simp [jl]
  | a :: b :: r => by
    show a ++ [] ++ jl [] (b :: r) = _
    rw [jl_nil (b :: r)]
    simp
section
variable {h : MH}
theorem exc_text {w : Wd} (a : Atm w) (hz : wt (excP w).1 ≤ 1000000) : m_exception_text [dS w] h = .ok (dS (excP w).2) h := by
  unfold m_exception_text
  refine mFn_pure0 rfl ?_ rfl
  have st : mStart 1 [dS w] = [some (dS w)] := rfl
  rw [st]
  unfold b_exception_text
  have ff := form_ok2 (h := h) (exc_all a) (wt_fp hz) (d := .rol [.str "exception", dS w]) (by rw [dS_tl]; rfl)
  simp [ff]
  rfl
/-- the written text -/
theorem write_ok {ds es fs : List D} {dp ep fpp : List PP} (hd : Paired DRel ds dp) (he : Paired ERel es ep) (hf : Paired FTx fs fpp) (hz : wt (flat (dp ++ ep ++ fpp)) ≤ 400000) (hl : ds.length ≤ 10 ∧ es.length ≤ 10 ∧ fs.length ≤ 10) (top : ∀ p ∈ dp ++ ep ++ fpp, Tp p) :
    m_write_program [treeD ds es fs] h = .ok (dS (lines (dp ++ ep ++ fpp))) h := by
  have w1 : ∀ p ∈ dp ++ ep ++ fpp, wt p.1 ≤ 1000000 := fun p hp => by have := wt_flat_le hp; omega
  obtain ⟨d0, hd0⟩ : ∃ d0, d0 = treeD ds es fs := ⟨_, rfl⟩
  obtain ⟨L, hL⟩ : ∃ L : Option D → MS, L = fun a => [some d0, some (.tup ds), some (.tup (.str "Div" :: .str "Index" :: .str "Size" :: es)), some (.tup fs), a, none, none, none, none] := ⟨_, rfl⟩
  have hdl := hd.length
  have hel := he.length
  have hfl := hf.length
  have e0 : mAsg (mVar 0) (mgTup 3 (mgCons (mgName 1) (mgCons (mgName 2) (mgCons (mgName 3) mgNil)))) [some d0, none, none, none, none, none, none, none, none] h = .ok (.next (L none)) h := by rw [hL, hd0]; simp
  have tD : ∀ x p, DRel x p → wt p.1 ≤ 1000000 → ∀ k, m_data_text [x] k = .ok (dS p.2) k := fun x p s hz k => by
    obtain ⟨ps, rfl, s⟩ := s
    exact s.text k (wt_fp hz)
  have e1 : mSet 4 (mLcN (mSrc (mVar 1)) (mgName 5) (mYes) (mCall m_data_text (mCons (mVar 5) (mNil))) [5]) (L none) h = .ok (.next (L (some (.ref h.length)))) (h ++ [.lst (dSs (txts dp))]) := by
    have := lcN_pair (enc := fun p : PP => dS p.2) (Rl := DRel) (src := mSrc (mVar 1)) (tgt := mgName 5) (elt := mCall m_data_text (mCons (mVar 5) mNil)) (vs := [5]) (δ := L none) (h := h) (h1 := h) (ks := ds) (by rw [hL]; simp) hd (by omega) (fun x p hx hpm => ⟨_, rfl, fun k => by
      have := tD x p hx (w1 p (by simp [hpm])) (h ++ k)
      rw [hL]
      simp [wipeM, this]⟩)
    rw [mSet_eq, this, R.st_ok, hL]
    simp [txts]
  have h1 : ∀ x, lst? (h ++ [MO.lst x]) h.length = some x := fun x => lst?_of (by simp)
  have s1 : ∀ x y, (h ++ [MO.lst x]).set h.length (.lst y) = h ++ [.lst y] := fun x y => by simp
  have v4 : (L (some (.ref h.length)))[4]? = some (some (.ref h.length)) := by rw [hL]; rfl
  have ext : ∀ (M : ME) (a b : List Wd), M (L (some (.ref h.length))) (h ++ [.lst (dSs a)]) = .ok (.rol (dSs b)) (h ++ [.lst (dSs a)]) → a.length + b.length ≤ 16777216 → mDrop (mMtd "list" fExtend (mVar 4) (mCons M mNil)) (L (some (.ref h.length))) (h ++ [.lst (dSs a)]) = .ok (.next (L (some (.ref h.length)))) (h ++ [.lst (dSs (a ++ b))]) := fun M a b eM hz => by
    have fe : fExtend (.ref h.length) [.rol (dSs b)] (h ++ [.lst (dSs a)]) = .ok .non (h ++ [.lst (dSs (a ++ b))]) := by
      unfold fExtend
      simp only [h1, show seqG (.rol (dSs b)) (h ++ [.lst (dSs a)]) = some (dSs b) from rfl]
      rw [if_pos (by simp; omega), s1]
      simp
    simp only [mDrop_eq, mMtd_eq, mVar_eq v4, R.bnd_ok]
    rw [if_pos (isTy_list (h := h ++ [MO.lst (dSs a)]) (n := h.length) (es := dSs a) (by simp))]
    simp only [mCons_eq, eM, R.bnd_ok, mNil_eq, fe]
    rfl
  have sl : mSl opSl (mVar 2) (mPart (mCall fLen (mCons (mC c_FIRST_EXCEPTIONS) mNil))) mNoP (L (some (.ref h.length))) (h ++ [.lst (dSs (txts dp))]) = .ok (.tup es) (h ++ [.lst (dSs (txts dp))]) := by
    have c3 : fLen [c_FIRST_EXCEPTIONS] (h ++ [MO.lst (dSs (txts dp))]) = .ok (.int 3) (h ++ [.lst (dSs (txts dp))]) := rfl
    have ct := cutD_hi (ds := .str "Div" :: .str "Index" :: .str "Size" :: es) (k := 3)
    rw [hL]
    simp [mSl, mPart, mNoP, c3, opSl, slG]
    exact ct
  have l2 := lc_pair (enc := fun p : PP => dS p.2) (R := ERel) (src := mSrc (mSl opSl (mVar 2) (mPart (mCall fLen (mCons (mC c_FIRST_EXCEPTIONS) (mNil)))) (mNoP))) (tgt := mgName 6) (elt := mCall m_exception_text (mCons (mVar 6) mNil)) (vs := [6]) (δ := L (some (.ref h.length))) (h := h ++ [.lst (dSs (txts dp))]) (h1 := h ++ [.lst (dSs (txts dp))]) (ks := es) (by rw [mSrc_eq, sl]; rfl) he (by omega) (fun _ _ => rfl) (fun x p hx hpm => ⟨_, rfl, fun k => by
    obtain ⟨w, rfl, a, rfl⟩ := hx
    have := exc_text (h := h ++ [MO.lst (dSs (txts dp))] ++ k) a (w1 _ (by simp [hpm]))
    rw [hL]
    simp [wipeM] at this ⊢
    simp [this]⟩)
  have e2 := ext _ (txts dp) (txts ep) (l2.trans (by simp [txts])) (by simp [txts]; omega)
  have l3 := lc_pair (enc := fun p : PP => dS p.2) (R := FTx) (src := mSrc (mVar 3)) (tgt := mgName 7) (elt := mCall m_function_text (mCons (mVar 7) mNil)) (vs := [7]) (δ := L (some (.ref h.length))) (h := h ++ [.lst (dSs (txts dp ++ txts ep))]) (h1 := h ++ [.lst (dSs (txts dp ++ txts ep))]) (ks := fs) (by rw [hL]; simp) hf (by omega) (fun _ _ => rfl) (fun x p hx hpm => ⟨_, rfl, fun k => by
    have := hx.2.1 (h ++ [MO.lst (dSs (txts dp ++ txts ep))] ++ k) (w1 _ (by simp [hpm]))
    rw [hL]
    simp [wipeM] at this ⊢
    simp [this]⟩)
  have e3 := ext _ (txts dp ++ txts ep) (txts fpp) (l3.trans (by simp [txts])) (by simp [txts]; omega)
  obtain ⟨T, hT⟩ : ∃ T, T = txts (dp ++ ep ++ fpp) := ⟨_, rfl⟩
  have eT : txts dp ++ txts ep ++ txts fpp = T := by rw [hT, txts_app, txts_app]
  rw [eT] at e3
  have tl' : ∀ p ∈ dp ++ ep ++ fpp, p.2.length ≤ wt p.1 := fun p hp => by
    obtain ⟨ps, all, rfl⟩ := top p hp
    have := (Pc.form all).len
    show (formT (txts ps)).length ≤ wt (formW (flat ps))
    omega
  have tsum : ∀ P : List PP, (∀ p ∈ P, p.2.length ≤ wt p.1) → ((txts P).map (·.length)).sum ≤ wt (flat P) := fun P => by
    induction P with
    | nil => intro _; exact Nat.zero_le _
    | cons p r ih =>
      intro q
      rw [flat_cons, wt_app]
      exact Nat.add_le_add (q p (by simp)) (ih fun x hx => q x (by simp [hx]))
  have hs := tsum _ tl'
  rw [← hT] at hs
  have hTl : T.length ≤ 30 := by rw [hT]; simp [txts]; omega
  have one : ∀ t ∈ T, t.length ≤ 400000 := fun t ht => by
    have : ∀ l : List Wd, t ∈ l → t.length ≤ (l.map (·.length)).sum := fun l => by
      induction l with
      | nil => intro z; cases z
      | cons a r ih =>
        intro z
        rcases List.mem_cons.mp z with y | y
        · subst y; simp
        · have := ih y; simp; omega
    have := this T ht
    omega
  have l4 : mLc (mSrc (mVar 4)) (mgName 8) (mYes) (mOp opAddS (mVar 8) (mC (.str "\n"))) [8] (L (some (.ref h.length))) (h ++ [.lst (dSs T)]) = .ok (.rol (T.map fun t => dS (t ++ [10]))) (h ++ [.lst (dSs T)]) := by
    have es : mSrc (mVar 4) (L (some (.ref h.length))) (h ++ [.lst (dSs T)]) = .ok ⟨dSs T, fun h' => lstD (.ref h.length) h' = some (dSs T)⟩ (h ++ [.lst (dSs T)]) := by
      rw [mSrc_eq, mVar_eq v4, R.bnd_ok]
      unfold srcOf srcG
      simp only [lstD_ref, h1]
      rfl
    have := mLc_map (src := mSrc (mVar 4)) (tgt := mgName 8) (elt := mOp opAddS (mVar 8) (mC (.str "\n"))) (vs := [8]) (δ := L (some (.ref h.length))) (fun d => match d with | .str s => .str (s ++ tx [10]) | d => .non) es (fun k => by
      show lstD (.ref h.length) (h ++ [.lst (dSs T)] ++ k) = _
      rw [lstD_ref]
      exact lst?_of (by simp)) (by simp; omega) (fun x hx => by
      obtain ⟨t, ht, rfl⟩ := List.mem_map.mp hx
      refine ⟨_, rfl, fun k => ?_⟩
      have z : (tx t).length + (tx [10]).length ≤ 16777216 := by rw [tx_len, tx_len]; have := one t ht; simp; omega
      rw [hL]
      simp only [mOp_eq, s10]
      rw [mVar_eq (show _ = some (some (dS t)) from rfl), R.bnd_ok, mC_eq, R.bnd_ok, opAddS_str z]) (fun x hx => by
      obtain ⟨t, ht, rfl⟩ := List.mem_map.mp hx
      rfl)
    rw [this, List.map_map]
    congr 2
    apply List.map_congr_left
    intro t ht
    show D.str (tx t ++ tx [10]) = _
    rw [tx_app]
  have lsum : ∀ l : List Wd, ((l.map fun t => t ++ [10]).map (·.length)).sum = (l.map (·.length)).sum + l.length := fun l => by
    induction l with
    | nil => rfl
    | cons a r ih => simp only [List.map_cons, List.sum_cons, ih, List.length_append, List.length_cons, List.length_nil]; omega
  have ej := join_ok (s := []) (ls := T.map fun t => t ++ [10]) (d := .rol (T.map fun t => dS (t ++ [10]))) (h := h ++ [.lst (dSs T)]) (by rw [List.map_map]; rfl) (by
    have := lsum T
    simp only [List.length_nil, Nat.mul_zero, Nat.add_zero]
    exact Nat.le_trans (Nat.le_of_eq this) (by omega))
  have el : jl [] (T.map fun t => t ++ [10]) = lines (dp ++ ep ++ fpp) := by
    rw [jl_nil, hT]
    unfold lines txts
    rw [List.map_map, List.flatMap_def]
    rfl
  rw [el] at ej
  unfold m_write_program
  refine mFn_pure (g := [.lst (dSs T)]) rfl ?_ rfl
  have st : mStart 9 [treeD ds es fs] = [some d0, none, none, none, none, none, none, none, none] := by rw [hd0]; rfl
  rw [st]
  unfold b_write_program
  rw [mSeq_eq, e0, SR.seq_next, mSeq_eq, e1, SR.seq_next, mSeq_eq, e2, SR.seq_next, mSeq_eq, e3, SR.seq_next, mRet_eq, mMtd_eq, mC_eq, R.bnd_ok, if_pos (show isTy "str" (.str "") _ = true from rfl), mCons_eq, l4]
  simp only [R.bnd_ok, mNil_eq, s0, ej, R.st_ok]
end
end K05

namespace K05
open PySem PySem.Spec PyProof.Rows L2 MM
section
variable {h : MH}
theorem pp_atoms (l : List Wd) : Paired (fun d p => ∃ w, d = dS w ∧ p = at1 w) (dSs l) (atoms l) := by
  induction l with
  | nil => exact .nil
  | cons x r ih => exact .cons ⟨x, rfl, rfl⟩ ih
theorem tree_lows {ds es fs : List D} (h1 : ∀ x ∈ ds, ∀ k, x.lows k = true) (h2 : ∀ x ∈ es, ∀ k, x.lows k = true) (h3 : ∀ x ∈ fs, ∀ k, x.lows k = true) (k : Nat) : (treeD ds es fs).lows k = true := by
  show (lowsL k ds && ((true && (true && (true && lowsL k es))) && (lowsL k fs && true))) = true
  rw [lows_all fun x hx => h1 x hx k, lows_all fun x hx => h2 x hx k, lows_all fun x hx => h3 x hx k]; rfl
theorem words_ok {ds es fs : List D} {dp ep fpp : List PP} (hd : Paired DRel ds dp) (he : Paired ERel es ep) (hf : Paired FRel fs fpp) (hl : fs.length ≤ 10) (hz : (flat (dp ++ ep ++ fpp)).length ≤ 16000000) {m : Nat} (hm : m < h.length) :
    ∃ fs', m__law_words [treeD ds es fs, .ref m] (wr h m []) = .ok (treeD ds es fs') (wr h m (flat (dp ++ ep ++ fpp))) ∧ Paired FTx fs' fpp := by
  have hz1 : (flat dp).length + (flat ep).length + (flat fpp).length ≤ 16000000 := by
    rw [flat_app, flat_app] at hz
    simp at hz
    omega
  obtain ⟨d0, hd0⟩ : ∃ d0, d0 = treeD ds es fs := ⟨_, rfl⟩
  have i0 : ∀ k, opIx d0 (.int 0) k = .ok (.tup ds) k := fun k => by rw [hd0, ix0]
  have i1 : ∀ k, opIx d0 (.int 1) k = .ok (.tup (.str "Div" :: .str "Index" :: .str "Size" :: es)) k := fun k => by rw [hd0, ix1]
  have i2 : ∀ k, opIx d0 (.int 2) k = .ok (.tup fs) k := fun k => by rw [hd0, ix2]
  obtain ⟨L, hL⟩ : ∃ L : Option D → Option D → Option D → MS, L = fun a b c => [some d0, some (.ref m), a, b, c, none] := ⟨_, rfl⟩
  have v0 : ∀ a b c, (L a b c)[0]? = some (some d0) := fun a b c => by rw [hL]; rfl
  have v1 : ∀ a b c, (L a b c)[1]? = some (some (.ref m)) := fun a b c => by rw [hL]; rfl
  have v2 : ∀ a b c, (L (some a) b c)[2]? = some (some a) := fun a b c => by rw [hL]; rfl
  have v3 : ∀ a b c, (L a (some b) c)[3]? = some (some b) := fun a b c => by rw [hL]; rfl
  have v4 : ∀ a b c, (L a b (some c))[4]? = some (some c) := fun a b c => by rw [hL]; rfl
  obtain ⟨δ1, f1, ⟨y2, rfl⟩⟩ := for_words (tgt := mgName 2) (body := b__law_words_1) (fun δ => ∃ a, δ = L a none none) (h := h) hm hd (old := []) (by simp; omega) (fun x p δ old' hx hpm ⟨y2, e⟩ hz2 => by
    subst e
    obtain ⟨ps, rfl, s⟩ := hx
    have := s.words h m old' hm hz2
    refine ⟨L (some x) none none, L (some x) none none, by rw [hL]; rfl, ?_, ⟨_, rfl⟩⟩
    unfold b__law_words_1
    rw [mDrop_eq, mCall_eq, mCons_eq, mVar_eq (v2 ..), R.bnd_ok, mCons_eq, mVar_eq (v1 ..), R.bnd_ok, mNil_eq, R.bnd_ok, R.bnd_ok, R.bnd_ok, this, R.st_ok]) ⟨none, rfl⟩
  have p1 : mFor (mSrc (mOp opIx (mVar 0) (mC (.int 0)))) (mgName 2) b__law_words_1 (L none none none) (wr h m []) = .ok (.next (L y2 none none)) (wr h m (flat dp)) := by
    rw [mFor_eq, mSrc_eq]
    simp only [mOp_eq, mVar_eq (v0 none none none), mC_eq, R.bnd_ok, i0, srcOf_tup, R.st_ok]
    exact f1
  obtain ⟨δ2, f2, ⟨y3, y4, rfl⟩⟩ := for_words (tgt := mgName 3) (body := b__law_words_3) (fun δ => ∃ b c, δ = L y2 b c) (h := h) hm he (old := flat dp) (by omega) (fun x p δ old' hx hpm ⟨y3, y4, e⟩ hz2 => by
    subst e
    obtain ⟨w, rfl, a, rfl⟩ := hx
    have ew : (excP w).1 = flat (atoms [[40], tl "exception", w, [41]]) := by
      rw [flat_atoms]
      show formW (flat [at1 (tl "exception"), at1 w]) = _
      rw [flat2]
      rfl
    rw [ew] at hz2 ⊢
    obtain ⟨δ2, fw2, ⟨z4, rfl⟩⟩ := for_words (tgt := mgName 4) (body := b__law_words_2) (fun δ => ∃ c, δ = L y2 (some (dS w)) c) (h := h) hm (pp_atoms [[40], tl "exception", w, [41]]) (old := old') hz2 (fun x p δ old2 hx hpm ⟨z4, e⟩ hz4 => by
      subst e
      obtain ⟨u, rfl, rfl⟩ := hx
      exact ⟨L y2 (some (dS w)) (some (dS u)), L y2 (some (dS w)) (some (dS u)), by rw [hL]; rfl, push hm (v1 ..) (mVar_eq (v4 ..)) (by simp at hz4; omega), ⟨_, rfl⟩⟩) ⟨y4, rfl⟩
    refine ⟨L y2 (some (dS w)) y4, L y2 (some (dS w)) z4, by rw [hL]; rfl, ?_, ⟨_, _, rfl⟩⟩
    unfold b__law_words_3
    rw [mFor_eq, mSrc_eq, mTup_eq]
    simp only [mCons_eq, mC_eq, R.bnd_ok, mVar_eq (v3 y2 (dS w) y4), mNil_eq]
    rw [if_pos (by simp), R.bnd_ok, srcOf_tup, R.st_ok]
    have e4 : [D.str "(", .str "exception", dS w, .str ")"] = dSs [[40], tl "exception", w, [41]] := by
      rw [s40, s41, dS_tl]; rfl
    rw [e4]
    exact fw2) ⟨none, none, rfl⟩
  have p2 : mFor (mSrc (mSl opSl (mOp opIx (mVar 0) (mC (.int 1))) (mPart (mC (.int 3))) mNoP)) (mgName 3) b__law_words_3 (L y2 none none) (wr h m (flat dp)) = .ok (.next (L y2 y3 y4)) (wr h m (flat dp ++ flat ep)) := by
    have ct := cutD_hi (ds := .str "Div" :: .str "Index" :: .str "Size" :: es) (k := 3)
    have sl : mSl opSl (mOp opIx (mVar 0) (mC (.int 1))) (mPart (mC (.int 3))) mNoP (L y2 none none) (wr h m (flat dp)) = .ok (.tup es) (wr h m (flat dp)) := by
      simp [mSl, mPart, mNoP, opSl, slG, mVar_eq (v0 y2 none none), i1]
      exact ct
    rw [mFor_eq, mSrc_eq, sl, R.bnd_ok, srcOf_tup, R.st_ok]
    exact f2
  obtain ⟨ys, ey, py⟩ := lc_words (h := h) (Rp := FRel) (Y := FTx) (src := mSrc (mOp opIx (mVar 0) (mC (.int 2)))) (tgt := mgName 5) (elt := mCall m__law_function_words (mCons (mVar 5) (mCons (mVar 1) mNil))) (vs := [5]) (δ := L y2 y3 y4) (m := m) (old := flat dp ++ flat ep) (ks := fs) hm (by
      rw [mSrc_eq]
      simp only [mOp_eq, mVar_eq (v0 y2 y3 y4), mC_eq, R.bnd_ok, i2, srcOf_tup]) hf (by omega) (by simp; omega) (fun _ _ t => t.2.2) (fun x p old' acc hx hpm hz2 => by
    have tp := hx.top
    obtain ⟨nm, prs, pps, res, rp, bp, body, rfl, s, e, lr, rfl⟩ := hx
    obtain ⟨d', ed, tx, lo⟩ := fun_words (h := h ++ [MO.lst acc]) s lr e (m := m) (old := old') (by rw [List.length_append]; omega) hz2
    rw [wr_app hm, wr_app hm] at ed
    refine ⟨_, d', rfl, ?_, ⟨tp, fun h hz => tx h (wt_fp hz), lo⟩⟩
    rw [hL]
    simp [wipeM, ed])
  have eF : flat (dp ++ ep ++ fpp) = flat dp ++ flat ep ++ flat fpp := by rw [flat_app, flat_app]
  have lowT := tree_lows (ds := ds) (es := es) (fs := ys) (pair_left (fun _ _ e => by obtain ⟨_, _, s⟩ := e; exact s.lo) hd) (pair_left (fun _ _ e => by obtain ⟨_, rfl, _⟩ := e; exact fun _ => rfl) he) (pair_left (fun _ _ e => e.2.2) py)
  refine ⟨ys, ?_, py⟩
  rw [eF]
  unfold m__law_words
  refine mFn_ret (g := []) rfl ?_ (by rw [List.append_nil]) (by rw [wr_len, wr_len]) (wr_left hm _ _) (lowT _)
  have st : mStart 6 [treeD ds es fs, .ref m] = L none none none := by rw [hL, hd0]; rfl
  rw [st]
  unfold b__law_words
  rw [mSeq_eq, p1, SR.seq_next, mSeq_eq, p2, SR.seq_next]
  simp only [mRet_eq, mTup_eq, mCons_eq, mOp_eq, mVar_eq (v0 y2 y3 y4), mC_eq, R.bnd_ok, i0, i1, mCall_eq, ey, mNil_eq, fTuple_eq (show seqG (.rol ys) _ = some ys from rfl)]
  rw [if_pos (by simp)]
  rfl
end
end K05

namespace K05
open PySem PySem.Spec PyProof.Rows L2 MM
/-! ### heaps told by what stands in them -/
abbrev Lw (d : D) : Prop := ∀ m, d.lows m = true
inductive Ty where
  | st | rm | ls (P : D → Prop) (k : Nat) | any (o : MO)
def Ty.ok : Ty → MO → Prop
  | .st, o => ∃ s : DS, s.Ok ∧ o = s.enc
  | .rm, o => ∃ i : Int, o = .lst [.int i]
  | .ls P k, o => ∃ ds, o = .lst ds ∧ (∀ d ∈ ds, P d ∧ Lw d) ∧ ds.length ≤ k
  | .any o', o => o = o'
structure HT (Γ : List Ty) (h : MH) : Prop where
  len : h.length = Γ.length
  at' : ∀ (j : Nat) (t : Ty), Γ[j]? = some t → ∃ o, h[j]? = some o ∧ t.ok o
def Sb (Γ Γ2 : List Ty) : Prop := Γ.length ≤ Γ2.length ∧ ∀ (j : Nat) (o : MO), j < Γ.length → Γ2[j]? = some (.any o) → Γ[j]? = some (.any o)
theorem Sb.refl (Γ : List Ty) : Sb Γ Γ := ⟨Nat.le_refl _, fun _ _ _ e => e⟩
theorem Sb.app {Γ Γ2 : List Ty} (s : Sb Γ Γ2) (Δ : List Ty) : Sb Γ (Γ2 ++ Δ) := by
  refine ⟨by rw [List.length_append]; have := s.1; omega, fun j o hj e => s.2 j o hj ?_⟩
  rwa [List.getElem?_append_left (by have := s.1; omega)] at e
theorem Sb.set {Γ Γ2 : List Ty} (s : Sb Γ Γ2) {n : Nat} {P : D → Prop} {k : Nat} : Sb Γ (Γ2.set n (.ls P k)) := by
  refine ⟨by rw [List.length_set]; exact s.1, fun j o hj e => s.2 j o hj ?_⟩
  by_cases z : n = j
  · subst z
    rw [List.getElem?_set_self (by have := s.1; omega)] at e
    cases e
  · rwa [List.getElem?_set_ne z] at e
theorem lowsL_all : ∀ {l : List D} {k : Nat}, (∀ x ∈ l, x.lows k = true) → lowsL k l = true := lows_all
theorem Ty.lows {t : Ty} {o : MO} (a : t.ok o) (n : Nat) : (∃ o', t = .any o') ∨ o.lows n = true := by
  cases t with
  | st => obtain ⟨s, _, rfl⟩ := a; exact .inr (s.enc_lows _)
  | rm => obtain ⟨i, rfl⟩ := a; exact .inr rfl
  | ls P k => obtain ⟨ds, rfl, h, _⟩ := a; exact .inr (lows_all fun x hx => (h x hx).2 n)
  | any o' => exact .inl ⟨o', rfl⟩
section
variable {Γ Γ2 : List Ty} {h h' k : MH} {n : Nat}
theorem HT.left (a : HT Γ h) (b : HT Γ2 h') (s : Sb Γ Γ2) : LeftOf h h' := by
  refine ⟨by rw [a.len, b.len]; exact s.1, fun j u hj e => ?_⟩
  have hj' : j < Γ2.length := by have := s.1; rw [a.len] at hj; omega
  obtain ⟨o, e1, ok⟩ := b.at' j _ (List.getElem?_eq_getElem hj')
  rw [e] at e1
  cases e1
  rcases Ty.lows ok h.length with ⟨o', z⟩ | z
  · have e2 := s.2 j o' (by rw [a.len] at hj; exact hj) (by rw [List.getElem?_eq_getElem hj', z])
    obtain ⟨o3, e3, ok3⟩ := a.at' j _ e2
    rw [z] at ok
    have q1 : u = o' := ok
    have q2 : o3 = o' := ok3
    rw [q1, ← q2]
    exact .inl e3
  · exact .inr z
theorem HT.app (a : HT Γ h) {t : Ty} {o : MO} (ok : t.ok o) : HT (Γ ++ [t]) (h ++ [o]) := by
  refine ⟨by simp [a.len], fun j u e => ?_⟩
  by_cases z : j < Γ.length
  · rw [List.getElem?_append_left z] at e
    rw [List.getElem?_append_left (by rw [a.len]; exact z)]
    exact a.at' j u e
  · have zl : j = Γ.length := by
      have := (List.getElem?_eq_some_iff.mp e).1
      simp at this
      omega
    subst zl
    simp at e
    subst e
    exact ⟨o, by rw [← a.len]; simp, ok⟩
theorem HT.cut (a : HT (Γ ++ Γ2) k) : HT Γ (k.take Γ.length) := by
  have hl := a.len
  simp at hl
  refine ⟨by rw [List.length_take]; omega, fun j u e => ?_⟩
  have hj := (List.getElem?_eq_some_iff.mp e).1
  obtain ⟨o, e1, ok⟩ := a.at' j u (by rw [List.getElem?_append_left hj]; exact e)
  exact ⟨o, by rw [List.getElem?_take_of_lt hj]; exact e1, ok⟩
theorem HT.cut1 {o : MO} (a : HT (Γ ++ [.any o]) k) : ∃ k', k = k' ++ [o] ∧ HT Γ k' := by
  have hl := a.len
  simp at hl
  refine ⟨k.take Γ.length, ?_, a.cut⟩
  obtain ⟨o', e1, ok⟩ := a.at' Γ.length (.any o) (by simp)
  have : o' = o := ok
  subst this
  apply List.ext_getElem?
  intro j
  by_cases hj : j < Γ.length
  · rw [List.getElem?_append_left (by rw [List.length_take]; omega), List.getElem?_take_of_lt hj]
  · by_cases z : j = Γ.length
    · subst z
      rw [e1, List.getElem?_append_right (by rw [List.length_take]; omega)]
      simp [hl]
    · rw [List.getElem?_eq_none (by omega), List.getElem?_eq_none (by simp; omega)]
theorem HT.set (a : HT Γ h) {t : Ty} {o : MO} (ok : t.ok o) : HT (Γ.set n t) (h.set n o) := by
  refine ⟨by rw [List.length_set, List.length_set, a.len], fun j u e => ?_⟩
  by_cases z : n = j
  · subst z
    have hn : n < Γ.length := by
      have := (List.getElem?_eq_some_iff.mp e).1
      rwa [List.length_set] at this
    rw [List.getElem?_set_self hn] at e
    cases e
    exact ⟨o, List.getElem?_set_self (by rw [a.len]; exact hn), ok⟩
  · rw [List.getElem?_set_ne z] at e ⊢
    exact a.at' j u e
theorem HT.set_same (a : HT Γ h) {t : Ty} {o : MO} (e : Γ[n]? = some t) (ok : t.ok o) : HT Γ (h.set n o) := by
  have := a.set (n := n) ok
  obtain ⟨hn, e2⟩ := List.getElem?_eq_some_iff.mp e
  rwa [← e2, List.set_getElem_self] at this
theorem HT.lt {t : Ty} (a : HT Γ h) (e : Γ[n]? = some t) : n < h.length := by rw [a.len]; exact (List.getElem?_eq_some_iff.mp e).1
theorem draw_t {many : Int} {P : D → MH → Prop} {E : XP} (a : HT Γ h) (e : Γ[n]? = some .st) (h0 : 0 < many) (h1 : many < 2 ^ 64) (g : ∀ (v : Int) (h' : MH), 0 ≤ v → v < many → HT Γ h' → P (.int v) h') : Tm (m__law_draw [.ref n, .int many] h) P E := by
  obtain ⟨o, e1, s, ok, rfl⟩ := a.at' n _ e
  obtain ⟨v, s', v0, v1, ok', _, r⟩ := draw_ok (h := h) (n := n) (s := s) e1 ok h0 h1
  exact .of (show m__law_draw [.ref n, .int many] h = _ from r) (g v _ v0 v1 (a.set_same e ⟨s', ok', rfl⟩))
/-- in a def that ends well -/
theorem gen_fn {a0 N : Nat} {ms : MSt} {ds : List D} {P : D → MH → Prop} {E : XP} (e : ds.length = a0) (a : HT Γ h)
    (t : TmS (ms (mStart N ds) h) (fun f h' => ∃ d Γ3, f = .ret d ∧ Lw d ∧ HT (Γ2 ++ Γ3) h' ∧ Γ2.length = Γ.length ∧ Sb Γ Γ2 ∧ ∀ k, HT Γ2 k → P d k) NoX.s) : Tm (mFn a0 N ms ds h) P E := by
  have : Tm (mFn a0 N ms ds h) P NoX := by
    refine Tm_fn e ?_
    cases hs : ms (mStart N ds) h with
    | stuck => rw [hs] at t; exact t.elim
    | exc c fs δ k => rw [hs] at t; exact t.elim
    | ok f k =>
      rw [hs] at t
      obtain ⟨d, Γ3, rfl, lo, hk, hl, sb, p⟩ := t
      refine ⟨⟨a.left hk (sb.app Γ3), lo _⟩, p _ ?_⟩
      rw [a.len, ← hl]
      exact hk.cut
  exact this.use fun _ _ z => z
end
/-- a comprehension whose elements draw -/
theorem gen_lc {Γf : Nat → List Ty} {tgt : MG} {elt : ME} {vs : List Nat} {δ : MS} {h : MH} {src : MI} {P : D → MH → Prop} {E : XP} (Q : D → Prop) (lo : Nat) (hN : ∀ i, (Γf i).length = (Γf 0).length) (sb : ∀ i, Sb (Γf 0) (Γf i))
    (xs : List D) (hx : xs.length ≤ 1000)
    (ts : Tm (src δ h) (fun S h1 => ∃ xs' : List D, S = ⟨xs', fun _ => True⟩ ∧ (lo ≤ xs'.length ∧ xs'.length ≤ xs.length) ∧ (∀ x ∈ xs', x ∈ xs) ∧ HT (Γf 0) h1) E)
    (tg : ∀ x ∈ xs, ∃ δ1, tgt x (wipeM δ vs) = some δ1 ∧ ∀ (acc : List D) g, acc.length < 1000 → HT (Γf acc.length ++ [.any (.lst acc)]) g → Tm (elt δ1 g) (fun y g' => (Q y ∧ Lw y) ∧ HT (Γf (acc.length + 1) ++ [.any (.lst acc)]) g') NoX)
    (fin : ∀ (acc : List D) h', lo ≤ acc.length ∧ acc.length ≤ xs.length → (∀ y ∈ acc, Q y ∧ Lw y) → HT (Γf acc.length) h' → P (.rol acc) h') : Tm (mLc src tgt mYes elt vs δ h) P E := by
  refine Tm_lcI _ ts ?_
  rintro S h1 ⟨xs', rfl, hl', hs', a⟩
  refine ⟨fun r acc k => HT (Γf acc.length) k ∧ (∀ y ∈ acc, Q y ∧ Lw y) ∧ (lo ≤ acc.length + r.length ∧ acc.length + r.length ≤ xs.length) ∧ ∀ x ∈ r, x ∈ xs, ⟨a, (fun _ hh => nomatch hh), by simpa using hl', hs'⟩, ?_, ?_, ?_⟩
  · rintro r acc k ⟨b, _, hl, _⟩
    exact ⟨⟨by rw [b.len, hN, a.len], by omega⟩, trivial⟩
  · rintro x r acc k ⟨b, hq, hl, hm⟩
    obtain ⟨δ1, e1, e2⟩ := tg x (hm x (by simp))
    refine ⟨δ1, e1, (e2 acc _ (by simp at hl; omega) (b.app (t := .any (.lst acc)) rfl)).imp fun y g' ⟨q, hg⟩ => ?_⟩
    obtain ⟨k', rfl, hk⟩ := hg.cut1
    exact ⟨k', rfl, by rw [List.length_append]; exact hk, fun z hz => by rcases List.mem_append.mp hz with w | w; exact hq z w; rw [List.mem_singleton.mp w]; exact q, by simp at hl ⊢; omega, fun z hz => hm z (by simp [hz])⟩
  · rintro acc k ⟨b, hq, hl, _⟩
    exact ⟨⟨a.left b (sb _), lows_all fun x hx => (hq x hx).2 _⟩, fin acc k (by simpa using hl) hq b⟩
end K05

namespace K05
open PySem PySem.Spec PyProof.Rows L2 MM
def Nm (w : Wd) : Prop := ∃ c r, w = c :: r ∧ c ≠ 40 ∧ c ≠ 41 ∧ r.length ≤ 30
theorem Nm.atm {w : Wd} (a : Nm w) : Atm w := by
  obtain ⟨c, r, rfl, h1, h2, h3⟩ := a
  exact ⟨fun e => h1 (List.cons.inj e).1, fun e => h2 (List.cons.inj e).1, by simp, by simp; omega⟩
def LET : Wd := (List.range 26).map (97 + ·)
def UPP : Wd := (List.range 26).map (65 + ·)
def DIG : Wd := [48, 49, 50, 51, 52, 53, 54, 55, 56, 57, 95]
theorem let_eq : (Str.ofString "abcdefghijklmnopqrstuvwxyz") = tx LET := by decide +kernel
theorem dig_eq : (Str.ofString "0123456789_") = tx DIG := by decide +kernel
theorem und_eq : (Str.ofString "_") = tx [95] := by decide +kernel
theorem upp_eq : Txt.upper (tx LET) = tx UPP := by decide +kernel
theorem up1 : ∀ i : Fin 26, Txt.upper (tx [97 + i.val]) = tx [65 + i.val] := by decide +kernel
abbrev Nx0 (J : MS → MH → Prop) : Fl → MH → Prop := Nx J
section
variable {Γ Γ2 : List Ty} {h h' k : MH} {n : Nat}
def RetG (Γ Γ2 : List Ty) (P : D → MH → Prop) : Fl → MH → Prop := fun f h' => ∃ d Γ3, f = .ret d ∧ Lw d ∧ HT (Γ2 ++ Γ3) h' ∧ Γ2.length = Γ.length ∧ Sb Γ Γ2 ∧ ∀ k, HT Γ2 k → P d k
theorem RetG.mk0 {P : D → MH → Prop} {d : D} (lo : Lw d) (a : HT Γ h') (p : ∀ k, HT Γ k → P d k) : RetG Γ Γ P (.ret d) h' := ⟨d, [], rfl, lo, by rw [List.append_nil]; exact a, rfl, Sb.refl _, p⟩
theorem reserved_ok : ∃ rs : List Str, ∀ h, m__law_reserved [] h = .ok (.rol (rs.map D.str)) h := by
  refine ⟨Txt.split (Str.ofString "data exception fun tuple get let if case fn apply ref deref set array at put len raise handle" ++ Str.ofString " print seq add sub mul div rem equal less true false int bool unit") (Str.ofString " "), fun h => ?_⟩
  unfold m__law_reserved
  refine mFn_pure0 rfl ?_ (lows_all fun x hx => by obtain ⟨s, _, rfl⟩ := List.mem_map.mp hx; rfl)
  have st : mStart 1 [] = [none] := rfl
  rw [st]
  unfold b__law_reserved
  have z : ∀ s t : Str, s.length + t.length ≤ 16777216 → ∀ h, opAddS (.str s) (.str t) h = .ok (.str (s ++ t)) h := fun s t e h => opAddS_str e
  have z1 : (Str.ofString "data exception fun tuple get let if case fn apply ref deref set array at put len raise handle").length + (Str.ofString " print seq add sub mul div rem equal less true false int bool unit").length ≤ 16777216 := by decide +kernel
  simp only [mSeq_eq, mSet_eq, mC_eq, R.st_ok, SR.seq_next, mOp_eq, R.bnd_ok, List.set_cons_zero]
  rw [mVar_eq (show _ = some (some (D.str _)) from rfl), R.bnd_ok, z _ _ z1]
  simp only [R.st_ok, SR.seq_next, List.set_cons_zero, mRet_eq, mMtd_eq]
  rw [mVar_eq (show _ = some (some (D.str _)) from rfl), R.bnd_ok, if_pos (show isTy "str" (.str _) h = true from rfl)]
  simp only [mCons_eq, mC_eq, R.bnd_ok, mNil_eq]
  have z2 : ((Str.ofString " ").length == 0) = false ∧ (Str.ofString "data exception fun tuple get let if case fn apply ref deref set array at put len raise handle" ++ Str.ofString " print seq add sub mul div rem equal less true false int bool unit").length + 2 ≤ 16777216 := by decide +kernel
  have z3 : ∀ h, fSplit (.str (Str.ofString "data exception fun tuple get let if case fn apply ref deref set array at put len raise handle" ++ Str.ofString " print seq add sub mul div rem equal less true false int bool unit")) [.str (Str.ofString " ")] h = .ok (.rol ((Txt.split (Str.ofString "data exception fun tuple get let if case fn apply ref deref set array at put len raise handle" ++ Str.ofString " print seq add sub mul div rem equal less true false int bool unit") (Str.ofString " ")).map D.str)) h := fun h => by
    unfold fSplit
    exact if_pos z2
  rw [z3, R.st_ok]
theorem in_strs {s : Str} {rs : List Str} : ∃ b, ∀ h, opIn (.str s) (.rol (rs.map D.str)) h = .ok (.bl b) h := by
  refine ⟨decide (s ∈ rs), fun h => ?_⟩
  unfold opIn inG
  simp only [show lstD (.rol (rs.map D.str)) h = some (rs.map D.str) from rfl, Option.bind_some, flatL_strs, show flatD (.str s) = some (.str s) from rfl, Option.map_some, inV_strs]
theorem ones_of : ∀ {acc : List D}, (∀ y ∈ acc, (∃ c : Nat, y = dS [c]) ∧ Lw y) → ∃ l : List Nat, acc = l.map fun c => D.str (tx [c])
  | [], _ => ⟨[], rfl⟩
  | y :: r, h => by
    obtain ⟨c, e⟩ := (h y (by simp)).1
    obtain ⟨l, e2⟩ := ones_of fun z hz => h z (List.mem_cons_of_mem _ hz)
    exact ⟨c :: l, by rw [e, e2]; rfl⟩
theorem range_lc {v : Int} (h0 : 0 ≤ v) (h1 : v ≤ 1000) {E : XP} {g : MH} (a : HT Γ g) {N lo : Nat} (hv : lo ≤ v ∧ v ≤ N) : Tm (fRange1 [.int v] g) (fun S h1 => ∃ xs' : List D, S = ⟨xs', fun _ => True⟩ ∧ (lo ≤ xs'.length ∧ xs'.length ≤ ((List.range N).map fun (i : Nat) => D.int i).length) ∧ (∀ x ∈ xs', x ∈ (List.range N).map fun (i : Nat) => D.int i) ∧ HT Γ h1) E := by
  rw [fRange1_eq (by omega) (by omega), Tm_ok]
  refine ⟨_, rfl, by simp; omega, fun x hx => ?_, a⟩
  obtain ⟨i, hi, rfl⟩ := List.mem_map.mp hx
  exact List.mem_map.mpr ⟨i, by simp at hi ⊢; omega, rfl⟩
noncomputable def nmTail : MSt := mSeq (mSet 6 (mOp opAddS (mVar 4) (mMtd "str" fJoin (mC (.str "")) (mCons (mLc (mCallI fRange1 (mCons (mVar 5) (mNil))) (mgName 7) (mYes) (mOp opIx (mVar 3) (mCall m__law_draw (mCons (mVar 0) (mCons (mCall fLen (mCons (mVar 3) (mNil))) (mNil))))) [7]) (mNil))))) (mSeq (mIfS (mB (mOp opIn (mVar 6) (mCall m__law_reserved mNil))) (mRet (mOp opAddS (mVar 6) (mC (.str "_")))) (mNext)) (mRet (mVar 6)))
theorem nm_tail {P : D → MH → Prop} (e : Γ[n]? = some .st) (p : ∀ w k, Nm w → HT Γ k → P (dS w) k) {c : Nat} (c1 : c ≠ 40) (c2 : c ≠ 41) {Rs : Wd} (r0 : 0 < Rs.length) (r1 : Rs.length ≤ 100) {v : Int} (v0 : 0 ≤ v) (v1 : v ≤ 12) {x1 x2 x6 x7 : Option D} (a : HT Γ h) :
    TmS (nmTail [some (.ref n), x1, x2, some (dS Rs), some (dS [c]), some (.int v), x6, x7] h) (RetG Γ Γ P) NoX.s := by
  unfold nmTail
  rw [mSeq_eq, TmS_seq, mSet_eq, TmS_st, mOp_eq, mVar_eq (show _ = some (some (dS [c])) from rfl), R.bnd_ok, Tm_bnd, mMtd_eq, mC_eq, R.bnd_ok, if_pos (show isTy "str" (.str "") h = true from rfl), Tm_bnd, mCons_eq, Tm_bnd]
  refine gen_lc (Γf := fun _ => Γ) (fun y => ∃ c : Nat, y = dS [c]) 0 (fun _ => rfl) (fun _ => Sb.refl _) ((List.range 12).map fun (i : Nat) => D.int i) (by simp) ?_ ?_ ?_
  · rw [mCallI_eq, mCons_eq, mVar_eq (show _ = some (some (D.int v)) from rfl), R.bnd_ok, mNil_eq, R.bnd_ok, R.bnd_ok]
    exact range_lc v0 (by omega) a (by omega)
  · intro x hx
    refine ⟨_, rfl, fun acc g hl ag => ?_⟩
    have en : (Γ ++ [Ty.any (.lst acc)])[n]? = some .st := by rw [List.getElem?_append_left (List.getElem?_eq_some_iff.mp e).1]; exact e
    have e3 : (List.set (wipeM [some (.ref n), x1, x2, some (dS Rs), some (dS [c]), some (.int v), x6, x7] [7]) 7 (some x))[3]? = some (some (dS Rs)) := rfl
    have e0 : (List.set (wipeM [some (.ref n), x1, x2, some (dS Rs), some (dS [c]), some (.int v), x6, x7] [7]) 7 (some x))[0]? = some (some (.ref n)) := rfl
    rw [mOp_eq, mVar_eq e3, R.bnd_ok, Tm_bnd, mCall_eq, mCons_eq, mVar_eq e0, R.bnd_ok, mCons_eq, mCall_eq, mCons_eq, mVar_eq e3, R.bnd_ok, mNil_eq, R.bnd_ok, R.bnd_ok]
    rw [fLen_str (show (tx Rs).length ≤ 16777216 by rw [tx_len]; omega)]
    simp only [R.bnd_ok, mNil_eq, tx_len]
    refine draw_t ag en (by omega) (by omega) fun u g' u0 u1 ag' => ?_
    have hu : u.toNat < Rs.length := by omega
    rw [ix_tx (c := Rs[u.toNat]) (by omega) u0 (List.getElem?_eq_getElem hu), Tm_ok]
    exact ⟨⟨⟨_, rfl⟩, fun _ => rfl⟩, ag'⟩
  · intro acc h' hl hq ah
    obtain ⟨l, rfl⟩ := ones_of hq
    have hl' : l.length ≤ 12 := by simpa using hl.2
    rw [mNil_eq, R.bnd_ok, Tm_ok, join_ones (l := l) rfl (by omega), Tm_ok]
    have z : (tx [c]).length + (tx l).length ≤ 16777216 := by rw [tx_len, tx_len]; simp; omega
    rw [opAddS_str z, Tm_ok, TmS_ok, SeqP_next, tx_app]
    obtain ⟨rs, er⟩ := reserved_ok
    obtain ⟨b, eb⟩ := in_strs (s := tx ([c] ++ l)) (rs := rs)
    have e6 : (List.set [some (.ref n), x1, x2, some (dS Rs), some (dS [c]), some (.int v), x6, x7] 6 (some (dS ([c] ++ l))))[6]? = some (some (dS ([c] ++ l))) := rfl
    rw [mSeq_eq, TmS_seq, mIfS_eq, mB_eq, mOp_eq, mVar_eq e6, R.bnd_ok, mCall_eq, mNil_eq, R.bnd_ok, er, R.bnd_ok, eb, R.bnd_ok]
    have nm1 : Nm ([c] ++ l) := ⟨c, l, rfl, c1, c2, by omega⟩
    have nm2 : Nm ([c] ++ l ++ [95]) := ⟨c, l ++ [95], by simp, c1, c2, by simp; omega⟩
    cases b with
    | true =>
      have z2 : (tx ([c] ++ l)).length + (tx [95]).length ≤ 16777216 := by rw [tx_len, tx_len]; simp; omega
      show TmS (mRet (mOp opAddS (mVar 6) (mC (.str "_"))) _ _) _ _
      rw [mRet_eq, mOp_eq, mVar_eq e6, R.bnd_ok, mC_eq, R.bnd_ok, und_eq, opAddS_str z2, R.st_ok, TmS_ok, SeqP_ret, tx_app]
      exact RetG.mk0 (fun _ => rfl) ah fun k hk => p _ _ nm2 hk
    | false =>
      show TmS (SR.ok (.next _) _) _ _
      rw [TmS_ok, SeqP_next, mRet_eq, mVar_eq e6, R.st_ok, TmS_ok]
      exact RetG.mk0 (fun _ => rfl) ah fun k hk => p _ _ nm1 hk
end
end K05

namespace K05
open PySem PySem.Spec PyProof.Rows L2 MM
section
variable {Γ Γ2 : List Ty} {h h' k : MH} {n : Nat}
theorem name_t {P : D → MH → Prop} {E : XP} {great : Bool} (a : HT Γ h) (e : Γ[n]? = some .st) (p : ∀ w k, Nm w → HT Γ k → P (dS w) k) : Tm (m__law_name [.ref n, .bl great] h) P E := by
  unfold m__law_name
  refine gen_fn rfl a (Γ2 := Γ) ?_
  show TmS _ (RetG Γ Γ P) _
  have st : mStart 8 [D.ref n, .bl great] = [some (.ref n), some (.bl great), none, none, none, none, none, none] := rfl
  rw [st]
  have hb : b__law_name = mSeq (mSet 2 (mC (.str "abcdefghijklmnopqrstuvwxyz"))) (mSeq (mSet 3 (mOp opAddS (mVar 2) (mC (.str "0123456789_")))) (mSeq (mSet 4 (mOp opIx (mVar 2) (mCall m__law_draw (mCons (mVar 0) (mCons (mC (.int 26)) (mNil)))))) (mSeq (mSet 5 (mCall m__law_draw (mCons (mVar 0) (mCons (mC (.int 4)) (mNil))))) (mSeq (mIfS (mB (mOp opEq (mCall m__law_draw (mCons (mVar 0) (mCons (mC (.int 8)) (mNil)))) (mC (.int 7)))) (mSet 5 (mCall m__law_draw (mCons (mVar 0) (mCons (mC (.int 12)) (mNil))))) (mNext)) (mSeq (mIfS (mTru (mVar 1)) (mSeq (mSet 3 (mOp opAddS (mVar 3) (mMtd "str" fUpper (mVar 2) mNil))) (mSet 4 (mMtd "str" fUpper (mVar 4) mNil))) (mNext)) nmTail))))) := rfl
  rw [hb]
  generalize hP : RetG Γ Γ P = PR
  have e1 : ∀ h, opAddS (.str (tx LET)) (.str (tx DIG)) h = .ok (.str (tx (LET ++ DIG))) h := fun h => by rw [opAddS_str (by decide +kernel), tx_app]
  have e2 : ∀ h, opAddS (.str (tx (LET ++ DIG))) (.str (tx UPP)) h = .ok (.str (tx (LET ++ DIG ++ UPP))) h := fun h => by rw [opAddS_str (by decide +kernel), tx_app]
  have e3 : ∀ h, fUpper (.str (tx LET)) [] h = .ok (.str (tx UPP)) h := fun h => by
    unfold fUpper
    simp only []
    rw [if_pos (by decide +kernel), upp_eq]
  have fin : ∀ (v w : Int) (g : MH), 0 ≤ v → v < 26 → 0 ≤ w → w ≤ 12 → HT Γ g → TmS (mSeq (mIfS (mTru (mVar 1)) (mSeq (mSet 3 (mOp opAddS (mVar 3) (mMtd "str" fUpper (mVar 2) mNil))) (mSet 4 (mMtd "str" fUpper (mVar 4) mNil))) (mNext)) nmTail [some (.ref n), some (.bl great), some (.str (tx LET)), some (.str (tx (LET ++ DIG))), some (dS [97 + v.toNat]), some (.int w), none, none] g) PR NoX.s := by
    intro v w g v0 v1 w0 w1 ag
    cases great with
    | false =>
      rw [mSeq_eq, mIfS_eq, mTru_eq, mVar_eq (show _ = some (some (D.bl false)) from rfl), R.bnd_ok, show truD (.bl false) g = .ok false g from rfl, R.st_ok, if_neg (by decide)]
      show TmS (nmTail _ g) _ _
      subst hP
      exact nm_tail e p (by omega) (by omega) (by decide) (by decide) w0 w1 ag
    | true =>
      rw [mSeq_eq, mIfS_eq, mTru_eq, mVar_eq (show _ = some (some (D.bl true)) from rfl), R.bnd_ok, show truD (.bl true) g = .ok true g from rfl, R.st_ok, if_pos rfl]
      have e4 : fUpper (dS [97 + v.toNat]) [] g = .ok (dS [65 + v.toNat]) g := by
        unfold fUpper
        simp only []
        rw [if_pos (by rw [tx_len]; simp)]
        have := up1 ⟨v.toNat, by omega⟩
        rw [this]
      have : mSeq (mSet 3 (mOp opAddS (mVar 3) (mMtd "str" fUpper (mVar 2) mNil))) (mSet 4 (mMtd "str" fUpper (mVar 4) mNil)) [some (.ref n), some (.bl true), some (.str (tx LET)), some (.str (tx (LET ++ DIG))), some (dS [97 + v.toNat]), some (.int w), none, none] g =
          .ok (.next [some (.ref n), some (.bl true), some (.str (tx LET)), some (.str (tx (LET ++ DIG ++ UPP))), some (dS [65 + v.toNat]), some (.int w), none, none]) g := by
        rw [mSeq_eq, mSet_eq, mOp_eq, mVar_eq (show _ = some (some (D.str (tx (LET ++ DIG)))) from rfl), R.bnd_ok, mMtd_eq, mVar_eq (show _ = some (some (D.str (tx LET))) from rfl), R.bnd_ok, if_pos (show isTy "str" (.str (tx LET)) g = true from rfl), mNil_eq, R.bnd_ok, e3, R.bnd_ok, e2, R.st_ok, SR.seq_next, mSet_eq, mMtd_eq]
        rw [mVar_eq (show _ = some (some (dS [97 + v.toNat])) from rfl), R.bnd_ok, if_pos (show isTy "str" (dS [97 + v.toNat]) g = true from rfl), mNil_eq, R.bnd_ok, e4, R.st_ok]
        rfl
      rw [this, SR.seq_next]
      subst hP
      exact nm_tail e p (by omega) (by omega) (by decide) (by decide) w0 w1 ag
  rw [mSeq_eq, mSet_eq, mC_eq, R.st_ok, SR.seq_next, mSeq_eq, mSet_eq, mOp_eq, let_eq, mVar_eq (show _ = some (some (D.str (tx LET))) from rfl), R.bnd_ok, mC_eq, R.bnd_ok, dig_eq, e1, R.st_ok, SR.seq_next]
  rw [mSeq_eq, TmS_seq, mSet_eq, TmS_st, mOp_eq, mVar_eq (show _ = some (some (D.str (tx LET))) from rfl), R.bnd_ok, Tm_bnd, mCall_eq, mCons_eq, mVar_eq (show _ = some (some (D.ref n)) from rfl), R.bnd_ok, mCons_eq, mC_eq, R.bnd_ok, mNil_eq, R.bnd_ok, R.bnd_ok, R.bnd_ok]
  refine draw_t a e (by omega) (by decide) fun v g v0 v1 ag => ?_
  have ll : LET.length = 26 := by decide
  have lv : LET[v.toNat]? = some (97 + v.toNat) := by
    unfold LET
    rw [List.getElem?_map, List.getElem?_range (by omega)]
    rfl
  rw [ix_tx (c := 97 + v.toNat) (by omega) v0 lv, Tm_ok, TmS_ok, SeqP_next]
  rw [mSeq_eq, TmS_seq, mSet_eq, TmS_st, mCall_eq, mCons_eq, mVar_eq (show _ = some (some (D.ref n)) from rfl), R.bnd_ok, mCons_eq, mC_eq, R.bnd_ok, mNil_eq, R.bnd_ok, R.bnd_ok, R.bnd_ok]
  refine draw_t ag e (by omega) (by decide) fun w g2 w0 w1 ag2 => ?_
  rw [TmS_ok, SeqP_next]
  rw [mSeq_eq, TmS_seq, mIfS_eq, TmS_st, mB_eq, Tm_bnd, mOp_eq, Tm_bnd, mCall_eq, mCons_eq, mVar_eq (show _ = some (some (D.ref n)) from rfl), R.bnd_ok, mCons_eq, mC_eq, R.bnd_ok, mNil_eq, R.bnd_ok, R.bnd_ok, R.bnd_ok]
  refine draw_t ag2 e (by omega) (by decide) fun u g3 u0 u1 ag3 => ?_
  rw [mC_eq, R.bnd_ok, opEq_int, Tm_ok]
  show Tm (R.ok (decide (u = 7)) g3) _ _
  rw [Tm_ok]
  by_cases hu : u = 7
  · rw [if_pos (by simp [hu]), mSet_eq, TmS_st, mCall_eq, mCons_eq, mVar_eq (show _ = some (some (D.ref n)) from rfl), R.bnd_ok, mCons_eq, mC_eq, R.bnd_ok, mNil_eq, R.bnd_ok, R.bnd_ok, R.bnd_ok]
    refine draw_t ag3 e (by omega) (by decide) fun z g4 z0 z1 ag4 => ?_
    rw [TmS_ok, SeqP_next]
    exact fin v z g4 v0 v1 z0 (by omega) ag4
  · rw [if_neg (by simp [hu])]
    show TmS (SR.ok (.next _) g3) _ _
    rw [TmS_ok, SeqP_next]
    exact fin v w g3 v0 v1 w0 (by omega) ag3
def NmP (d : D) : Prop := ∃ w, d = dS w ∧ Nm w
theorem strs_of : ∀ {ds : List D}, (∀ d ∈ ds, NmP d ∧ Lw d) → ∃ ss : List Str, ds = ss.map D.str
  | [], _ => ⟨[], rfl⟩
  | y :: r, h => by
    obtain ⟨w, e, _⟩ := (h y (by simp)).1
    obtain ⟨l, e2⟩ := strs_of fun z hz => h z (List.mem_cons_of_mem _ hz)
    exact ⟨tx w :: l, by rw [e, e2]; rfl⟩
theorem in_ref {s : Str} {j : Nat} {ss : List Str} (el : lst? h j = some (ss.map D.str)) : ∃ b, opIn (.str s) (.ref j) h = .ok (.bl b) h := by
  refine ⟨decide (s ∈ ss), ?_⟩
  unfold opIn inG
  simp only [lstD_ref, el, Option.bind_some, flatL_strs, show flatD (.str s) = some (.str s) from rfl, Option.map_some, inV_strs]
theorem sl9 {w : Wd} (hw : w.length ≤ 600) : opSl (dS w) none (some 9) h = .ok (dS (w.take 9)) h := by
  unfold opSl slG
  simp only []
  rw [if_pos (by rw [tx_len]; omega)]
  have := cut_take w 9
  rw [show ((9 : Nat) : Int) = 9 from rfl] at this
  rw [this]
theorem numW_len {i : Int} (b : i.natAbs < 10 ^ 20) : (numW i).length ≤ 21 := by
  have hl := TL.numL_len (n := i.natAbs) (k := 20) (by decide) b
  unfold numW
  split
  · simp; omega
  · omega
theorem fresh_t {P : D → MH → Prop} {E : XP} {great : Bool} {j m : Nat} (a : HT Γ h) (e : Γ[n]? = some .st) (ej : Γ[j]? = some (.ls NmP m)) (hm : m < 1000) (p : ∀ w k, Nm w → HT (Γ.set j (.ls NmP (m + 1))) k → P (dS w) k) : Tm (m__law_fresh [.ref n, .bl great, .ref j] h) P E := by
  unfold m__law_fresh
  refine gen_fn rfl a (Γ2 := Γ.set j (.ls NmP (m + 1))) ?_
  have st : mStart 5 [D.ref n, .bl great, .ref j] = [some (.ref n), some (.bl great), some (.ref j), none, none] := rfl
  rw [st]
  unfold b__law_fresh
  rw [mSeq_eq, TmS_seq, mSet_eq, TmS_st, mCall_eq, mCons_eq, mVar_eq (show _ = some (some (D.ref n)) from rfl), R.bnd_ok, mCons_eq, mVar_eq (show _ = some (some (D.bl great)) from rfl), R.bnd_ok, mNil_eq, R.bnd_ok, R.bnd_ok, R.bnd_ok]
  refine name_t a e fun w g nw ag => ?_
  rw [TmS_ok, SeqP_next]
  obtain ⟨o, eo, ds, rfl, hds, hdl⟩ := ag.at' j _ ej
  obtain ⟨ss, rfl⟩ := strs_of hds
  have el : lst? g j = some (ss.map D.str) := lst?_of eo
  rw [mSeq_eq, TmS_seq, mFor_eq, TmS_st, mCallI_eq, mCons_eq, mC_eq, R.bnd_ok, mNil_eq, R.bnd_ok, R.bnd_ok, fRange1_eq (by decide) (by decide), Tm_ok]
  obtain ⟨I, hI⟩ : ∃ I : List D → MS → MH → Prop, I = fun r δ k => k = g ∧ (∃ w x4, Nm w ∧ δ = [some (.ref n), some (.bl great), some (.ref j), some (dS w), x4]) ∧ ∀ x ∈ r, ∃ i : Int, x = .int i ∧ i.natAbs < 10 ^ 20 := ⟨_, rfl⟩
  refine TmS_forN I (fun _ _ _ _ => trivial) ?_ ?_ (by
    rw [hI]
    refine ⟨rfl, ⟨w, none, nw, rfl⟩, fun x hx => ?_⟩
    obtain ⟨i, hi, rfl⟩ := List.mem_map.mp hx
    simp at hi
    exact ⟨i, rfl, Nat.lt_of_lt_of_le (show (i : Int).natAbs < 60 by omega) (by decide)⟩)
  · intro x r δ k i
    rw [hI] at i
    obtain ⟨rfl, ⟨w, x4, nw, rfl⟩, hr⟩ := i
    obtain ⟨i, rfl, hi⟩ := hr x (by simp)
    refine ⟨_, rfl, ?_⟩
    obtain ⟨b, eb⟩ := in_ref (s := tx w) el
    unfold b__law_fresh_1
    rw [mIfS_eq, mB_eq, mOp_eq, mVar_eq (show _ = some (some (dS w)) from rfl), R.bnd_ok, mVar_eq (show _ = some (some (D.ref j)) from rfl), R.bnd_ok, eb, R.bnd_ok]
    cases b with
    | true =>
      obtain ⟨c, rr, rfl, c1, c2, c3⟩ := id nw
      have nl := numW_len hi
      have z : (tx ((c :: rr).take 9)).length + (tx (numW i)).length ≤ 16777216 := by rw [tx_len, tx_len, List.length_take]; omega
      show TmS (mSet 3 _ _ _) _ _
      rw [mSet_eq, mOp_eq]
      have es : mSl opSl (mVar 3) mNoP (mPart (mC (.int 9))) [some (.ref n), some (.bl great), some (.ref j), some (dS (c :: rr)), some (.int i)] k = .ok (dS ((c :: rr).take 9)) k := by
        unfold mSl mNoP mPart
        rw [mVar_eq (show _ = some (some (dS (c :: rr))) from rfl), R.bnd_ok, R.bnd_ok]
        simp only [mC_eq, R.bnd_ok]
        exact sl9 (by simp; omega)
      show TmS ((((mSl opSl (mVar 3) mNoP (mPart (mC (.int 9))) [some (.ref n), some (.bl great), some (.ref j), some (dS (c :: rr)), some (.int i)] k)).bnd _).st _ _) _ _
      rw [es, R.bnd_ok, mCall_eq, mCons_eq]
      rw [mVar_eq (show _ = some (some (D.int i)) from rfl), R.bnd_ok, mNil_eq, R.bnd_ok, R.bnd_ok, numW_ok hi, R.bnd_ok, opAddS_str z, R.st_ok, TmS_ok, Nx_next, tx_app, hI]
      refine ⟨rfl, ⟨(c :: rr).take 9 ++ numW i, some (.int i), ⟨c, rr.take 8 ++ numW i, by simp, c1, c2, ?_⟩, rfl⟩, fun y hy => hr y (by simp [hy])⟩
      rw [List.length_append, List.length_take]; omega
    | false =>
      show TmS (SR.ok (.next _) k) _ _
      rw [TmS_ok, Nx_next, hI]
      exact ⟨rfl, ⟨w, some (.int i), nw, rfl⟩, fun y hy => hr y (by simp [hy])⟩
  · intro δ k i
    rw [hI] at i
    obtain ⟨rfl, ⟨w, x4, nw, rfl⟩, hr⟩ := i
    rw [SeqP_next]
    have ap := app_ok (x := dS w) eo (by omega)
    rw [mSeq_eq, TmS_seq, mDrop_eq, mMtd_eq, mVar_eq (show _ = some (some (D.ref j)) from rfl), R.bnd_ok, if_pos (isTy_list eo), mCons_eq, mVar_eq (show _ = some (some (dS w)) from rfl), R.bnd_ok, mNil_eq, R.bnd_ok, R.bnd_ok, ap, R.st_ok, TmS_ok, SeqP_next, mRet_eq, mVar_eq (show _ = some (some (dS w)) from rfl), R.st_ok, TmS_ok]
    refine ⟨dS w, [], rfl, fun _ => rfl, ?_, List.length_set .., (Sb.refl Γ).set, fun k hk => p w k nw hk⟩
    rw [List.append_nil]
    refine ag.set ⟨_, rfl, fun d hd => ?_, by simp at hdl ⊢; omega⟩
    rcases List.mem_append.mp hd with z | z
    · exact hds d z
    · rw [List.mem_singleton.mp z]
      exact ⟨⟨w, rfl, nw⟩, fun _ => rfl⟩
end
end K05

namespace K05
open PySem PySem.Spec PyProof.Rows L2 MM
def KSelf (self : List D → MH → R D) (dn : Nat) : Prop := ∀ {Γ : List Ty} {h : MH} {n : Nat} {P : D → MH → Prop} {E : XP}, HT Γ h → Γ[n]? = some .st → (∀ d k, KOk (dn + 1) d → HT Γ k → P d k) → Tm (self [.ref n, .int dn] h) P E
section
variable {Γ Γ2 : List Ty} {h h' k : MH} {n : Nat}
theorem st_app {t : Ty} {Δ : List Ty} (e : Γ[n]? = some t) : (Γ ++ Δ)[n]? = some t := by rw [List.getElem?_append_left (List.getElem?_eq_some_iff.mp e).1]; exact e
theorem all_tup {acc : List D} {Q : D → Prop} (h : ∀ y ∈ acc, Q y ∧ Lw y) (m : Nat) : lowsL m acc = true := lows_all fun x hx => (h x hx).2 m
theorem ixr {ds : List D} {i : Int} {d : D} (e : L2.atI ds i = some d) : opIx (.rol ds) (.int i) h = .ok d h := opIx_of (by rw [ixG_rol]; exact e)
theorem mod_ok {i many : Int} (h0 : 0 < many) : opMod (.int i) (.int many) h = .ok (.int (i % many)) h := if_pos h0
theorem kind_body {self : List D → MH → R D} {dn : Nat} (hs : ∀ j, dn = j + 1 → KSelf self j) : KSelf (mFn 2 4 (b__law_kind self)) dn := by
  intro Γ h n P E a e p
  refine gen_fn rfl a (Γ2 := Γ) ?_
  show TmS _ (RetG Γ Γ P) _
  have st : mStart 4 [D.ref n, .int dn] = [some (.ref n), some (.int dn), none, none] := rfl
  rw [st]
  unfold b__law_kind
  rw [mSeq_eq, TmS_seq, mSet_eq, TmS_st, mCall_eq, mCons_eq, mVar_eq (show _ = some (some (D.ref n)) from rfl), R.bnd_ok, mCons_eq, mC_eq, R.bnd_ok, mNil_eq, R.bnd_ok, R.bnd_ok, R.bnd_ok]
  refine draw_t a e (by omega) (by decide) fun v g v0 v1 ag => ?_
  rw [TmS_ok, SeqP_next]
  show TmS (mSeq _ _ [some (.ref n), some (.int dn), some (.int v), none] g) _ _
  have em : opMod (.int v) (.int 3) g = .ok (.int (v % 3)) g := mod_ok (by decide)
  have em2 : opMod (.int v) (.int 2) g = .ok (.int (v % 2)) g := mod_ok (by decide)
  by_cases hb : (dn : Int) < 1 ∨ v < 3
  · have ec : mOr (mB (mOp opLt (mVar 1) (mC (.int 1)))) (mB (mOp opLt (mVar 2) (mC (.int 3)))) [some (.ref n), some (.int dn), some (.int v), none] g = .ok true g := by
      rcases hb with z | z
      · simp [z]
      · by_cases y : (dn : Int) < 1 <;> simp [y, z]
    rw [mSeq_eq, mIfS_eq, ec, R.st_ok, if_pos rfl]
    obtain ⟨s, es, hs'⟩ : ∃ s : Str, opIx (.rol [.str "int", .str "bool", .str "unit"]) (.int (v % 3)) g = .ok (.str s) g ∧ (s = "int" ∨ s = "bool" ∨ s = "unit") := by
      rcases (show v % 3 = 0 ∨ v % 3 = 1 ∨ v % 3 = 2 by omega) with z | z | z <;> rw [z]
      · exact ⟨"int", ixr rfl, .inl rfl⟩
      · exact ⟨"bool", ixr rfl, .inr (.inl rfl)⟩
      · exact ⟨"unit", ixr rfl, .inr (.inr rfl)⟩
    have er : mRet (mTup (mCons (mOp opIx (mLst (mCons (mC (.str "int")) (mCons (mC (.str "bool")) (mCons (mC (.str "unit")) (mNil))))) (mOp opMod (mVar 2) (mC (.int 3)))) (mCons (mTup (mNil)) (mCons (mC (.int 0)) (mNil))))) [some (.ref n), some (.int dn), some (.int v), none] g = .ok (.ret (.tup [.str s, .tup [], .int 0])) g := by
      simp [em, es]
    rw [er, SR.seq_ret, TmS_ok]
    exact RetG.mk0 (fun _ => rfl) ag fun k hk => p _ k (.inl ⟨s, rfl, hs'⟩) hk
  · have hd : ¬ (dn : Int) < 1 := fun z => hb (.inl z)
    have hv : ¬ v < 3 := fun z => hb (.inr z)
    obtain ⟨j, rfl⟩ : ∃ j, dn = j + 1 := ⟨dn - 1, by omega⟩
    have S : KSelf self j := hs j rfl
    have ej : ((j + 1 : Nat) : Int) - 1 = j := by omega
    have ec : mOr (mB (mOp opLt (mVar 1) (mC (.int 1)))) (mB (mOp opLt (mVar 2) (mC (.int 3)))) [some (.ref n), some (.int (j + 1 : Nat)), some (.int v), none] g = .ok false g := by
      have hd' : ¬ ((j : Int) + 1 < 1) := by omega
      simp [hd', hv]
    rw [mSeq_eq, mIfS_eq, ec, R.st_ok, if_neg (by decide)]
    show TmS ((SR.ok (.next [some (.ref n), some (.int (j + 1 : Nat)), some (.int v), none]) g).seq _) _ _
    rw [SR.seq_next]
    have sub : ∀ (δ : MS) (g : MH), δ[0]? = some (some (.ref n)) → δ[1]? = some (some (.int (j + 1 : Nat))) → mCall self (mCons (mVar 0) (mCons (mOp opSub (mVar 1) (mC (.int 1))) mNil)) δ g = self [.ref n, .int j] g := fun δ g z0 z1 => by
      simp only [mCall_eq, mCons_eq, mVar_eq z0, R.bnd_ok, mOp_eq, mVar_eq z1, mC_eq, mNil_eq]
      show ((((opSub (.int (j + 1 : Nat)) (.int 1) g).bnd _).bnd _).bnd _) = _
      rw [show opSub (.int (j + 1 : Nat)) (.int 1) g = .ok (.int (((j + 1 : Nat) : Int) - 1)) g from rfl, ej]
      rfl
    have iff1 : ∀ (c : Int) (A B : MSt), mSeq (mIfS (mB (mOp opEq (mVar 2) (mC (.int c)))) A mNext) B [some (.ref n), some (.int (j + 1 : Nat)), some (.int v), none] g = if v = c then (A [some (.ref n), some (.int (j + 1 : Nat)), some (.int v), none] g).seq B else B [some (.ref n), some (.int (j + 1 : Nat)), some (.int v), none] g := fun c A B => by
      rw [mSeq_eq, mIfS_eq, mB_eq, mOp_eq, mVar_eq (show _ = some (some (D.int v)) from rfl), R.bnd_ok, mC_eq, R.bnd_ok, opEq_int, R.bnd_ok]
      show (((R.ok (decide (v = c)) g).st _ _).seq B) = _
      rw [R.st_ok]
      by_cases z : v = c
      · rw [if_pos (decide_eq_true z), if_pos z]
      · rw [if_neg (by simp [z]), if_neg z]; rfl
    have w0 : ∀ k, mVar 0 [some (.ref n), some (.int (j + 1 : Nat)), some (.int v), none] k = .ok (.ref n) k := fun _ => rfl
    have sub' : ∀ k, mCall self (mCons (mVar 0) (mCons (mOp opSub (mVar 1) (mC (.int 1))) mNil)) [some (.ref n), some (.int (j + 1 : Nat)), some (.int v), none] k = self [.ref n, .int j] k := fun k => sub _ _ rfl rfl
    rw [iff1]
    by_cases h3 : v = 3
    · rw [if_pos h3, TmS_seq, mRet_eq, TmS_st]
      simp only [mTup_eq, mCons_eq, mC_eq, R.bnd_ok, Tm_bnd, Tm_ok, mCall_eq, mOp_eq, w0, mNil_eq, opAddS_int, TmS_ok, SeqP_ret, List.length_cons, List.length_nil]
      refine name_t ag e fun w g2 nw ag2 => ?_
      simp only [mTup_eq, mCons_eq, mC_eq, R.bnd_ok, Tm_bnd, Tm_ok, mCall_eq, mOp_eq, w0, mNil_eq, opAddS_int, TmS_ok, SeqP_ret, List.length_cons, List.length_nil]
      rw [if_pos (by decide)]
      simp only [Tm_ok, TmS_ok, SeqP_ret]
      exact RetG.mk0 (fun _ => rfl) ag2 fun k hk => p _ k (.inr (.inl ⟨w, rfl, nw.atm⟩)) hk
    · rw [if_neg h3, iff1]
      by_cases h4 : v = 4
      · rw [if_pos h4, TmS_seq, mRet_eq, TmS_st]
        simp only [mTup_eq, mCons_eq, mC_eq, R.bnd_ok, Tm_bnd, Tm_ok, mCall_eq, mOp_eq, w0, mNil_eq, opAddS_int, TmS_ok, SeqP_ret, List.length_cons, List.length_nil]
        refine gen_lc (Γf := fun _ => Γ) (KOk (j + 1)) 2 (fun _ => rfl) (fun _ => Sb.refl _) ((List.range 6).map fun (i : Nat) => D.int i) (by simp) ?_ ?_ ?_
        · rw [mCallI_eq]
          simp only [mTup_eq, mCons_eq, mC_eq, R.bnd_ok, Tm_bnd, Tm_ok, mCall_eq, mOp_eq, w0, mNil_eq, opAddS_int, TmS_ok, SeqP_ret, List.length_cons, List.length_nil]
          refine draw_t ag e (by omega) (by decide) fun u g2 u0 u1 ag2 => ?_
          simp only [mTup_eq, mCons_eq, mC_eq, R.bnd_ok, Tm_bnd, Tm_ok, mCall_eq, mOp_eq, w0, mNil_eq, opAddS_int, TmS_ok, SeqP_ret, List.length_cons, List.length_nil]
          exact range_lc (by omega) (by omega) ag2 (by omega)
        · intro x hx
          refine ⟨_, rfl, fun acc g2 hl ag2 => ?_⟩
          rw [sub _ _ rfl rfl]
          exact S ag2 (st_app e) fun d k hd hk => ⟨⟨hd, fun m => hd.lows m⟩, hk⟩
        · intro acc g2 hl hq ag2
          simp only [mTup_eq, mCons_eq, mC_eq, R.bnd_ok, Tm_bnd, Tm_ok, mCall_eq, mOp_eq, w0, mNil_eq, opAddS_int, TmS_ok, SeqP_ret, List.length_cons, List.length_nil, fTuple_eq (show seqG (.rol acc) g2 = some acc from rfl)]
          rw [if_pos (by decide)]
          simp only [Tm_ok, TmS_ok, SeqP_ret]
          refine RetG.mk0 (fun m => ?_) ag2 fun k hk => p _ k (.inr (.inr ⟨"tuple", acc, rfl, .inl rfl, fun z => ?_, ?_, fun y hy => (hq y hy).1⟩)) hk
          · show (true && (lowsL m acc && (true && true))) = true
            rw [all_tup hq]; rfl
          · rw [z] at hl; simp at hl
          · simpa using hl.2
      · rw [if_neg h4, iff1]
        by_cases h5 : v = 5
        · rw [if_pos h5, TmS_seq, mRet_eq, TmS_st]
          simp only [mTup_eq, mCons_eq, mC_eq, R.bnd_ok, Tm_bnd, Tm_ok, w0, mNil_eq, sub']
          refine S ag e fun d1 g2 k1 ag2 => ?_
          simp only [mTup_eq, mCons_eq, mC_eq, R.bnd_ok, Tm_bnd, Tm_ok, w0, mNil_eq, sub']
          refine S ag2 e fun d2 g3 k2 ag3 => ?_
          simp only [mTup_eq, mCons_eq, mC_eq, R.bnd_ok, Tm_bnd, Tm_ok, mCall_eq, mOp_eq, w0, mNil_eq, opAddS_int, TmS_ok, SeqP_ret, List.length_cons, List.length_nil]
          rw [if_pos (by decide)]
          simp only [mTup_eq, mCons_eq, mC_eq, R.bnd_ok, Tm_bnd, Tm_ok, mCall_eq, mOp_eq, w0, mNil_eq, opAddS_int, TmS_ok, SeqP_ret, List.length_cons, List.length_nil]
          rw [if_pos (by decide)]
          simp only [Tm_ok, TmS_ok, SeqP_ret]
          refine RetG.mk0 (fun m => ?_) ag3 fun k hk => p _ k (.inr (.inr ⟨"fn", [d1, d2], rfl, .inr (.inl rfl), by simp, by simp, fun y hy => ?_⟩)) hk
          · show (true && ((d1.lows m && (d2.lows m && true)) && (true && true))) = true
            rw [k1.lows m, k2.lows m]; rfl
          · simp at hy
            rcases hy with z | z
            · rw [z]; exact k1
            · rw [z]; exact k2
        · rw [if_neg h5, mRet_eq, TmS_st]
          obtain ⟨s, es, hs'⟩ : ∃ s : Str, opIx (.rol [.str "ref", .str "array"]) (.int (v % 2)) g = .ok (.str s) g ∧ (s = "ref" ∨ s = "array") := by
            rcases (show v % 2 = 0 ∨ v % 2 = 1 by omega) with z | z <;> rw [z]
            · exact ⟨"ref", ixr rfl, .inl rfl⟩
            · exact ⟨"array", ixr rfl, .inr rfl⟩
          have e0 : mOp opIx (mLst (mCons (mC (.str "ref")) (mCons (mC (.str "array")) mNil))) (mOp opMod (mVar 2) (mC (.int 2))) [some (.ref n), some (.int (j + 1 : Nat)), some (.int v), none] g = .ok (.str s) g := by
            simp [em2, es]
          simp only [mTup_eq, mCons_eq, mC_eq, R.bnd_ok, Tm_bnd, Tm_ok, w0, mNil_eq, sub', e0]
          refine S ag e fun d1 g2 k1 ag2 => ?_
          simp only [mTup_eq, mCons_eq, mC_eq, R.bnd_ok, Tm_bnd, Tm_ok, mCall_eq, mOp_eq, w0, mNil_eq, opAddS_int, TmS_ok, SeqP_ret, List.length_cons, List.length_nil]
          rw [if_pos (by decide)]
          simp only [mTup_eq, mCons_eq, mC_eq, R.bnd_ok, Tm_bnd, Tm_ok, mCall_eq, mOp_eq, w0, mNil_eq, opAddS_int, TmS_ok, SeqP_ret, List.length_cons, List.length_nil]
          rw [if_pos (by decide)]
          simp only [Tm_ok, TmS_ok]
          refine RetG.mk0 (fun m => ?_) ag2 fun k hk => p _ k (.inr (.inr ⟨s, [d1], rfl, .inr (.inr hs'), by simp, by simp, fun y hy => ?_⟩)) hk
          · show (true && ((d1.lows m && true) && (true && true))) = true
            rw [k1.lows m]; rfl
          · simp at hy
            rw [hy]; exact k1
theorem kind_t (dn : Nat) : ∀ f, dn < f → KSelf (m__law_kind f) dn := by
  induction dn with
  | zero =>
    intro f hf
    obtain ⟨f, rfl⟩ : ∃ g, f = g + 1 := ⟨f - 1, by omega⟩
    exact kind_body fun j z => by omega
  | succ m ih =>
    intro f hf
    obtain ⟨f, rfl⟩ : ∃ g, f = g + 1 := ⟨f - 1, by omega⟩
    refine kind_body fun j z => ?_
    cases (show m = j by omega)
    exact ih f (by omega)
theorem exc_t {P : D → MH → Prop} {E : XP} (a : HT Γ h) (e : Γ[n]? = some .st) (p : ∀ w k, Nm w → HT Γ k → P (dS w) k) : Tm (m__law_exception [.ref n] h) P E := by
  unfold m__law_exception
  refine gen_fn rfl a (Γ2 := Γ) ?_
  show TmS _ (RetG Γ Γ P) _
  have st : mStart 2 [D.ref n] = [some (.ref n), none] := rfl
  rw [st]
  unfold b__law_exception
  rw [mSeq_eq, TmS_seq, mSet_eq, TmS_st, mCall_eq, mCons_eq, mVar_eq (show _ = some (some (D.ref n)) from rfl), R.bnd_ok, mCons_eq, mC_eq, R.bnd_ok, mNil_eq, R.bnd_ok, R.bnd_ok, R.bnd_ok]
  refine draw_t a e (by omega) (by decide) fun v g v0 v1 ag => ?_
  rw [TmS_ok, SeqP_next]
  show TmS (mSeq _ _ [some (.ref n), some (.int v)] g) _ _
  by_cases h3 : v < 3
  · obtain ⟨w, es, nw⟩ : ∃ w : Wd, opIx (.rol [.str "Div", .str "Index", .str "Size"]) (.int v) g = .ok (dS w) g ∧ Nm w := by
      rcases (show v = 0 ∨ v = 1 ∨ v = 2 by omega) with z | z | z <;> rw [z]
      · exact ⟨tl "Div", ixr (by rw [← dS_tl]; rfl), 68, tl "iv", by decide, by decide, by decide, by decide⟩
      · exact ⟨tl "Index", ixr (by rw [← dS_tl]; rfl), 73, tl "ndex", by decide, by decide, by decide, by decide⟩
      · exact ⟨tl "Size", ixr (by rw [← dS_tl]; rfl), 83, tl "ize", by decide, by decide, by decide, by decide⟩
    have : mSeq (mIfS (mB (mOp opLt (mVar 1) (mC (.int 3)))) (mRet (mOp opIx (mLst (mCons (mC (.str "Div")) (mCons (mC (.str "Index")) (mCons (mC (.str "Size")) (mNil))))) (mVar 1))) (mNext)) (mRet (mCall m__law_name (mCons (mVar 0) (mCons (mC (.bl false)) (mNil))))) [some (.ref n), some (.int v)] g = .ok (.ret (dS w)) g := by
      rw [mSeq_eq]
      simp [h3, es]
    rw [this, TmS_ok]
    exact RetG.mk0 (fun _ => rfl) ag fun k hk => p _ k nw hk
  · have : ∀ A B, mSeq (mIfS (mB (mOp opLt (mVar 1) (mC (.int 3)))) A (mNext)) B [some (.ref n), some (.int v)] g = B [some (.ref n), some (.int v)] g := fun A B => by
      rw [mSeq_eq]
      simp [h3]
    rw [this, mRet_eq, TmS_st, mCall_eq, mCons_eq, mVar_eq (show _ = some (some (D.ref n)) from rfl), R.bnd_ok, mCons_eq, mC_eq, R.bnd_ok, mNil_eq, R.bnd_ok, R.bnd_ok, R.bnd_ok]
    refine name_t ag e fun w g2 nw ag2 => ?_
    rw [TmS_ok]
    exact RetG.mk0 (fun _ => rfl) ag2 fun k hk => p _ k nw hk
end
end K05

namespace K05
open PySem PySem.Spec PyProof.Rows L2 MM
section
variable {Γ Γ2 : List Ty} {h h' k : MH} {n : Nat}
theorem ifv {i : Nat} {c v : Int} {δ : MS} {g : MH} {A B : MSt} (w : δ[i]? = some (some (.int v))) : mSeq (mIfS (mB (mOp opEq (mVar i) (mC (.int c)))) A mNext) B δ g = if v = c then (A δ g).seq B else B δ g := by
  rw [mSeq_eq, mIfS_eq, mB_eq, mOp_eq, mVar_eq w, R.bnd_ok, mC_eq, R.bnd_ok, opEq_int, R.bnd_ok]
  show (((R.ok (decide (v = c)) g).st _ _).seq B) = _
  rw [R.st_ok]
  by_cases z : v = c
  · rw [if_pos (decide_eq_true z), if_pos z]
  · rw [if_neg (by simp [z]), if_neg z]; rfl
theorem leaf_t {P : D → MH → Prop} {E : XP} (a : HT Γ h) (e : Γ[n]? = some .st) (p : ∀ op info k, LOk op info → HT Γ k → P (.tup [.str op, .int 0, info, .tup [], .tup []]) k) : Tm (m__law_leaf [.ref n] h) P E := by
  unfold m__law_leaf
  refine gen_fn rfl a (Γ2 := Γ) ?_
  show TmS _ (RetG Γ Γ P) _
  have st : mStart 2 [D.ref n] = [some (.ref n), none] := rfl
  rw [st]
  unfold b__law_leaf
  rw [mSeq_eq, TmS_seq, mSet_eq, TmS_st]
  have w0 : ∀ (x : Option D) k, mVar 0 [some (.ref n), x] k = .ok (.ref n) k := fun _ _ => rfl
  simp only [mCons_eq, mC_eq, R.bnd_ok, Tm_bnd, Tm_ok, mCall_eq, mOp_eq, w0, mNil_eq]
  refine draw_t a e (by omega) (by decide) fun v g v0 v1 ag => ?_
  rw [TmS_ok, SeqP_next]
  show TmS (mSeq _ _ [some (.ref n), some (.int v)] g) _ _
  have fin : ∀ op info (g : MH), LOk op info → Lw info → HT Γ g → RetG Γ Γ P (.ret (.tup [.str op, .int 0, info, .tup [], .tup []])) g := fun op info g L lo ag => RetG.mk0 (fun m => by
    show (true && (true && (info.lows m && (true && (true && true))))) = true
    rw [lo]; rfl) ag fun k hk => p _ _ k L hk
  have w1 : mVar 1 [some (.ref n), some (.int v)] g = .ok (.int v) g := rfl
  rw [mSeq_eq, mIfS_eq, mB_eq, mOp_eq, w1, R.bnd_ok, mC_eq, R.bnd_ok]
  by_cases h3 : v < 3
  · have ec : opLt (.int v) (.int 3) g = .ok (.bl true) g := by simp [h3]
    rw [ec, R.bnd_ok, show isB (.bl true) g = .ok true g from rfl, R.st_ok, if_pos rfl, TmS_seq, mRet_eq, TmS_st]
    simp only [mTup_eq, mCons_eq, mC_eq, R.bnd_ok, Tm_bnd, Tm_ok, mCall_eq, mOp_eq, w0, mNil_eq, mLst_eq]
    have un : ∀ i : Int, ∀ k, mUn opNeg (mC (.int i)) [some (.ref n), some (.int v)] k = .ok (.int (-i)) k := fun i k => rfl
    simp only [un, R.bnd_ok, Tm_ok, Tm_bnd, List.length_cons, List.length_nil]
    rw [if_pos (by decide), Tm_ok]
    simp only [mCons_eq, mC_eq, R.bnd_ok, Tm_bnd, Tm_ok, mCall_eq, w0, mNil_eq]
    refine draw_t ag e (by omega) (by decide) fun u g2 u0 u1 ag2 => ?_
    obtain ⟨i, ei, hi⟩ : ∃ i : Int, opIx (.rol [.int 0, .int 1, .int (-1), .int 2147483647, .int (-2147483648), .int 10, .int 6]) (.int u) g2 = .ok (.int i) g2 ∧ i.natAbs < 10 ^ 20 := by
      rcases (show u = 0 ∨ u = 1 ∨ u = 2 ∨ u = 3 ∨ u = 4 ∨ u = 5 ∨ u = 6 by omega) with z | z | z | z | z | z | z <;> rw [z]
      · exact ⟨0, ixr rfl, by decide⟩
      · exact ⟨1, ixr rfl, by decide⟩
      · exact ⟨-1, ixr rfl, by decide⟩
      · exact ⟨2147483647, ixr rfl, by decide⟩
      · exact ⟨-2147483648, ixr rfl, by decide⟩
      · exact ⟨10, ixr rfl, by decide⟩
      · exact ⟨6, ixr rfl, by decide⟩
    rw [ei]
    simp only [mTup_eq, mCons_eq, mNil_eq, R.bnd_ok, Tm_ok, Tm_bnd, List.length_nil, List.length_cons]
    rw [if_pos (by decide)]
    simp only [mTup_eq, mCons_eq, mNil_eq, R.bnd_ok, Tm_ok, Tm_bnd, List.length_nil, List.length_cons]
    rw [if_pos (by decide)]
    simp only [mTup_eq, mCons_eq, mNil_eq, R.bnd_ok, Tm_ok, Tm_bnd, List.length_nil, List.length_cons]
    rw [if_pos (by decide), Tm_ok, TmS_ok, SeqP_ret]
    exact fin _ _ _ (.inl ⟨rfl, i, rfl, hi⟩) (fun _ => rfl) ag2
  · have ec : opLt (.int v) (.int 3) g = .ok (.bl false) g := by simp [h3]
    rw [ec, R.bnd_ok, show isB (.bl false) g = .ok false g from rfl, R.st_ok, if_neg (by decide)]
    show TmS ((SR.ok (.next [some (.ref n), some (.int v)]) g).seq _) _ _
    rw [SR.seq_next, ifv rfl]
    by_cases h4 : v = 3
    · rw [if_pos h4, TmS_seq, mRet_eq, TmS_st]
      simp only [mTup_eq, mCons_eq, mC_eq, R.bnd_ok, Tm_bnd, Tm_ok, mCall_eq, mOp_eq, w0, mNil_eq, mLst_eq]
      refine draw_t ag e (by omega) (by decide) fun u g2 u0 u1 ag2 => ?_
      rw [show opSub (.int u) (.int 2147483648) g2 = .ok (.int (u - 2147483648)) g2 from rfl]
      simp only [mTup_eq, mCons_eq, mNil_eq, R.bnd_ok, Tm_ok, Tm_bnd, List.length_nil, List.length_cons]
      rw [if_pos (by decide)]
      simp only [mTup_eq, mCons_eq, mNil_eq, R.bnd_ok, Tm_ok, Tm_bnd, List.length_nil, List.length_cons]
      rw [if_pos (by decide)]
      simp only [mTup_eq, mCons_eq, mNil_eq, R.bnd_ok, Tm_ok, Tm_bnd, List.length_nil, List.length_cons]
      rw [if_pos (by decide), Tm_ok, TmS_ok, SeqP_ret]
      exact fin _ _ _ (.inl ⟨rfl, _, rfl, Nat.lt_of_lt_of_le (show (u - 2147483648).natAbs < 4294967296 by omega) (by decide)⟩) (fun _ => rfl) ag2
    · rw [if_neg h4, ifv rfl]
      by_cases h5 : v = 4
      · rw [if_pos h5, TmS_seq, mRet_eq, TmS_st]
        simp only [mTup_eq, mCons_eq, mC_eq, R.bnd_ok, Tm_bnd, Tm_ok, mCall_eq, mOp_eq, w0, mNil_eq, mLst_eq]
        refine draw_t ag e (by omega) (by decide) fun u g2 u0 u1 ag2 => ?_
        rw [opEq_int]
        simp only [mTup_eq, mCons_eq, mNil_eq, R.bnd_ok, Tm_ok, Tm_bnd, List.length_nil, List.length_cons]
        rw [if_pos (by decide)]
        simp only [mTup_eq, mCons_eq, mNil_eq, R.bnd_ok, Tm_ok, Tm_bnd, List.length_nil, List.length_cons]
        rw [if_pos (by decide)]
        simp only [mTup_eq, mCons_eq, mNil_eq, R.bnd_ok, Tm_ok, Tm_bnd, List.length_nil, List.length_cons]
        rw [if_pos (by decide), Tm_ok, TmS_ok, SeqP_ret]
        exact fin _ _ _ (.inr (.inl ⟨rfl, _, rfl⟩)) (fun _ => rfl) ag2
      · rw [if_neg h5, ifv rfl]
        by_cases h6 : v = 5
        · rw [if_pos h6]
          have : mRet (mTup (mCons (mC (.str "unit")) (mCons (mC (.int 0)) (mCons (mC .non) (mCons (mTup (mNil)) (mCons (mTup (mNil)) (mNil))))))) [some (.ref n), some (.int v)] g = .ok (.ret (.tup [.str "unit", .int 0, .non, .tup [], .tup []])) g := by simp
          rw [this, SR.seq_ret, TmS_ok]
          exact fin _ _ _ (.inr (.inr (.inl ⟨rfl, rfl⟩))) (fun _ => rfl) ag
        · rw [if_neg h6, mRet_eq, TmS_st]
          simp only [mTup_eq, mCons_eq, mC_eq, R.bnd_ok, Tm_bnd, Tm_ok, mCall_eq, mOp_eq, w0, mNil_eq, mLst_eq]
          refine name_t ag e fun w g2 nw ag2 => ?_
          simp only [mTup_eq, mCons_eq, mNil_eq, R.bnd_ok, Tm_ok, Tm_bnd, List.length_nil, List.length_cons]
          rw [if_pos (by decide)]
          simp only [mTup_eq, mCons_eq, mNil_eq, R.bnd_ok, Tm_ok, Tm_bnd, List.length_nil, List.length_cons]
          rw [if_pos (by decide)]
          simp only [mTup_eq, mCons_eq, mNil_eq, R.bnd_ok, Tm_ok, Tm_bnd, List.length_nil, List.length_cons]
          rw [if_pos (by decide), Tm_ok, TmS_ok]
          exact fin _ _ _ (.inr (.inr (.inr ⟨rfl, w, rfl, nw.atm⟩))) (fun _ => rfl) ag2
end
end K05

namespace K05
open PySem PySem.Spec PyProof.Rows L2 MM
def ArmOk (m : Nat) (a : D) : Prop := ∃ nm vs b, a = .tup [dS nm, .tup (dSs vs), b] ∧ Atm nm ∧ (∀ v ∈ vs, Atm v) ∧ vs.length ≤ 3 ∧ ExOk m b
def ESelf (self : List D → MH → R D) (dn : Nat) : Prop := ∀ {Γ : List Ty} {h : MH} {n r : Nat} {P : D → MH → Prop} {E : XP}, HT Γ h → Γ[n]? = some .st → Γ[r]? = some .rm → (∀ d k, ExOk (dn + 1) d → Lw d → HT Γ k → P d k) → Tm (self [.ref n, .int dn, .ref r] h) P E
def ASelf (self : List D → MH → R D) (dn : Nat) : Prop := ∀ {Γ : List Ty} {h : MH} {n r : Nat} {op : Str} {P : D → MH → Prop} {E : XP}, HT Γ h → Γ[n]? = some .st → Γ[r]? = some .rm →
  (∀ as k, as.length ≤ 8 → (op ≠ "case" → op ≠ "handle" → as = []) → (∀ a ∈ as, ArmOk (dn + 1) a ∧ Lw a) → HT Γ k → P (.tup as) k) → Tm (self [.ref n, .str op, .int (dn + 1 : Nat), .ref r] h) P E
section
variable {Γ Γ2 : List Ty} {h h' k : MH} {n : Nat}
theorem cnt_t {A B : Int} (hA : 0 < A ∧ A ≤ 100) (hB : 0 < B ∧ B ≤ A) {δ : MS} {P : D → MH → Prop} {E : XP} (a : HT Γ h) (e : Γ[n]? = some .st) (v0 : δ[0]? = some (some (.ref n))) (p : ∀ (v : Int) k, 0 ≤ v → v < A → HT Γ k → P (.int v) k) :
    Tm (mCall m__law_draw (mCons (mVar 0) (mCons (mIf (mB (mOp opEq (mCall m__law_draw (mCons (mVar 0) (mCons (mC (.int 8)) (mNil)))) (mC (.int 7)))) (mC (.int A)) (mC (.int B))) (mNil))) δ h) P E := by
  have w0 : ∀ k, mVar 0 δ k = .ok (.ref n) k := fun _ => mVar_eq v0
  rw [mCall_eq, mCons_eq, w0, R.bnd_ok, Tm_bnd, Tm_bnd, mCons_eq, Tm_bnd]
  show Tm ((mB (mOp opEq (mCall m__law_draw (mCons (mVar 0) (mCons (mC (.int 8)) (mNil)))) (mC (.int 7))) δ h).bnd fun c h1 => if c then mC (.int A) δ h1 else mC (.int B) δ h1) _ _
  rw [Tm_bnd, mB_eq, Tm_bnd, mOp_eq, Tm_bnd]
  simp only [mCons_eq, mC_eq, R.bnd_ok, Tm_bnd, Tm_ok, mCall_eq, w0, mNil_eq]
  refine draw_t a e (by omega) (by decide) fun u g u0 u1 ag => ?_
  rw [opEq_int, Tm_ok]
  show Tm (R.ok (decide (u = 7)) g) _ _
  rw [Tm_ok]
  by_cases hu : u = 7
  · rw [if_pos (by simp [hu])]
    simp only [mCons_eq, mC_eq, R.bnd_ok, Tm_bnd, Tm_ok, mCall_eq, w0, mNil_eq]
    exact draw_t ag e (by omega) (by omega) fun v g2 v0 v1 ag2 => p v g2 v0 (by omega) ag2
  · rw [if_neg (by simp [hu])]
    simp only [mCons_eq, mC_eq, R.bnd_ok, Tm_bnd, Tm_ok, mCall_eq, w0, mNil_eq]
    exact draw_t ag e (by omega) (by omega) fun v g2 v0 v1 ag2 => p v g2 v0 (by omega) ag2
theorem set_mid {Γ Δ : List Ty} {t u : Ty} : (Γ ++ t :: Δ).set Γ.length u = Γ ++ u :: Δ := by simp
theorem get_mid {Γ Δ : List Ty} {t : Ty} : (Γ ++ t :: Δ)[Γ.length]? = some t := by simp
theorem mid_lst {P : D → Prop} {m : Nat} {Δ : List Ty} (a : HT (Γ ++ .ls P m :: Δ) k) : ∃ ds, k[Γ.length]? = some (.lst ds) ∧ (∀ d ∈ ds, P d ∧ Lw d) ∧ ds.length ≤ m := by
  obtain ⟨o, eo, ds, rfl, q⟩ := a.at' Γ.length _ get_mid
  exact ⟨ds, eo, q⟩
theorem app_mid {P : D → Prop} {m : Nat} {Δ : List Ty} (a : HT (Γ ++ .ls P m :: Δ) k) (hm : m < 1000) {x : D} (px : P x) (lx : Lw x) : ∃ k', isTy "list" (.ref Γ.length) k = true ∧ fAppend (.ref Γ.length) [x] k = .ok .non k' ∧ HT (Γ ++ .ls P (m + 1) :: Δ) k' := by
  obtain ⟨ds, eo, h1, h2⟩ := mid_lst a
  refine ⟨_, isTy_list eo, app_ok eo (by omega), ?_⟩
  have := a.set (n := Γ.length) (t := .ls P (m + 1)) (o := .lst (ds ++ [x])) ⟨_, rfl, fun d hd => by
    rcases List.mem_append.mp hd with z | z
    · exact h1 d z
    · rw [List.mem_singleton.mp z]; exact ⟨px, lx⟩, by simp; omega⟩
  rwa [set_mid] at this
/-- names that are not there yet -/
theorem names_t {Γ : List Ty} {h : MH} {δ : MS} {P : D → MH → Prop} {E : XP} {vi ti : Nat} (a : HT (Γ ++ [.ls NmP 0]) h) (e : Γ[n]? = some .st) (c : Int) (c0 : 0 < c ∧ c ≤ 4) (v0 : δ[0]? = some (some (.ref n))) (v0' : ∀ x, (List.set (wipeM δ [vi]) vi (some x))[0]? = some (some (.ref n))) (v6 : ∀ x, (List.set (wipeM δ [vi]) vi (some x))[ti]? = some (some (.ref Γ.length)))
    (p : ∀ vs k i, vs.length ≤ 3 → (∀ v ∈ vs, Nm v) → HT (Γ ++ [.ls NmP i]) k → P (.rol (dSs vs)) k) :
    Tm (mLc (mCallI fRange1 (mCons (mCall m__law_draw (mCons (mVar 0) (mCons (mC (.int c)) (mNil)))) (mNil))) (mgName vi) (mYes) (mCall m__law_fresh (mCons (mVar 0) (mCons (mC (.bl false)) (mCons (mVar ti) (mNil))))) [vi] δ h) P E := by
  refine gen_lc (Γf := fun i => Γ ++ [.ls NmP i]) NmP 0 (fun _ => by simp) (fun i => ?_) ((List.range 3).map fun (i : Nat) => D.int i) (by simp) ?_ ?_ ?_
  · have := (Sb.refl (Γ ++ [Ty.ls NmP 0])).set (n := Γ.length) (P := NmP) (k := i)
    rwa [set_mid] at this
  · rw [mCallI_eq]
    have w0 : ∀ k, mVar 0 δ k = .ok (.ref n) k := fun _ => mVar_eq v0
    simp only [mCons_eq, mC_eq, R.bnd_ok, Tm_bnd, Tm_ok, mCall_eq, w0, mNil_eq]
    refine draw_t a (st_app e) c0.1 (by omega) fun v g v0 v1 ag => ?_
    simp only [mCons_eq, mC_eq, R.bnd_ok, Tm_bnd, Tm_ok, mNil_eq]
    exact range_lc v0 (by omega) ag (by omega)
  · intro x hx
    refine ⟨_, rfl, fun acc g hl ag => ?_⟩
    rw [mCall_eq, mCons_eq, mVar_eq (v0' x), R.bnd_ok, mCons_eq, mC_eq, R.bnd_ok, mCons_eq, mVar_eq (v6 x), R.bnd_ok, mNil_eq, R.bnd_ok, R.bnd_ok, R.bnd_ok, R.bnd_ok]
    refine fresh_t (m := acc.length) ag (st_app (st_app e)) (by simp) hl fun w k nw hk => ⟨⟨⟨w, rfl, nw⟩, fun _ => rfl⟩, ?_⟩
    rw [List.append_assoc, List.singleton_append, set_mid] at hk
    rw [List.append_assoc]
    exact hk
  · intro acc h' hl hq ah
    have : ∀ {l : List D}, (∀ y ∈ l, NmP y ∧ Lw y) → ∃ vs : List Wd, l = dSs vs ∧ ∀ v ∈ vs, Nm v := fun {l} q => by
      induction l with
      | nil => exact ⟨[], rfl, fun _ z => nomatch z⟩
      | cons y r ih =>
        obtain ⟨w, e, nw⟩ := (q y (by simp)).1
        obtain ⟨vs, e2, h2⟩ := ih fun z hz => q z (List.mem_cons_of_mem _ hz)
        exact ⟨w :: vs, by rw [e, e2]; rfl, fun v hv => by rcases List.mem_cons.mp hv with z | z; rw [z]; exact nw; exact h2 v z⟩
    obtain ⟨vs, rfl, hv⟩ := this hq
    exact p vs h' _ (by simpa using hl.2) hv ah
theorem arm1 {sa se : List D → MH → R D} {dn m r : Nat} {op : Str} (S : ESelf se dn) {Δ : List Ty} (e : Γ[n]? = some .st) (er : Γ[r]? = some .rm) (a : HT (Γ ++ .ls (ArmOk (dn + 1)) m :: Δ) h) (hm : m < 1000) {x5 x6 x7 x8 : Option D} {J : MS → MH → Prop}
    (fin : ∀ Δ' y6 y7 y8 k, HT (Γ ++ .ls (ArmOk (dn + 1)) (m + 1) :: Δ') k → J [some (.ref n), some (.str op), some (.int (dn + 1 : Nat)), some (.ref r), some (.ref Γ.length), x5, y6, y7, y8] k) :
    TmS (b__law_arms_1 sa se [some (.ref n), some (.str op), some (.int (dn + 1 : Nat)), some (.ref r), some (.ref Γ.length), x5, x6, x7, x8] h) (Nx J) NoX.s := by
  unfold b__law_arms_1
  obtain ⟨Γ', hΓ'⟩ : ∃ Γ', Γ' = Γ ++ Ty.ls (ArmOk (dn + 1)) m :: Δ := ⟨_, rfl⟩
  rw [← hΓ'] at a
  have e' : Γ'[n]? = some .st := by rw [hΓ']; exact st_app e
  have er' : Γ'[r]? = some .rm := by rw [hΓ']; exact st_app er
  have e1 : mSet 6 (mLstN mNil) [some (.ref n), some (.str op), some (.int (dn + 1 : Nat)), some (.ref r), some (.ref Γ.length), x5, x6, x7, x8] h = .ok (.next [some (.ref n), some (.str op), some (.int (dn + 1 : Nat)), some (.ref r), some (.ref Γ.length), x5, some (.ref Γ'.length), x7, x8]) (h ++ [.lst []]) := by
    simp [a.len]
  rw [mSeq_eq, e1, SR.seq_next]
  have a1 : HT (Γ' ++ [.ls NmP 0]) (h ++ [.lst []]) := a.app ⟨[], rfl, (fun _ z => nomatch z), Nat.le_refl _⟩
  generalize hNJ : Nx J = NJ
  rw [mSeq_eq, TmS_seq, mSet_eq, TmS_st, mCall_eq, Tm_bnd, mCons_eq, Tm_bnd]
  refine names_t (n := n) a1 e' 4 (by omega) rfl (fun _ => rfl) (fun _ => rfl) fun vs k i hl hv ak => ?_
  simp only [mNil_eq, R.bnd_ok, Tm_ok, fTuple_eq (show seqG (.rol (dSs vs)) k = some (dSs vs) from rfl), TmS_ok, SeqP_next]
  show TmS (mDrop _ [some (.ref n), some (.str op), some (.int (dn + 1 : Nat)), some (.ref r), some (.ref Γ.length), x5, some (.ref Γ'.length), some (.tup (dSs vs)), x8] k) _ _
  obtain ⟨Δ2, hΔ2⟩ : ∃ Δ2, Δ2 = Δ ++ [Ty.ls NmP i] := ⟨_, rfl⟩
  have eΓ : Γ' ++ [.ls NmP i] = Γ ++ .ls (ArmOk (dn + 1)) m :: Δ2 := by rw [hΓ', hΔ2]; simp
  rw [eΓ] at ak
  obtain ⟨k0, ty, _, _⟩ := app_mid ak hm (x := .tup [dS [97], .tup (dSs []), .tup [.str "unit", .int 0, .non, .tup [], .tup []]]) ⟨[97], [], _, rfl, ⟨by decide, by decide, by decide⟩, (fun _ z => nomatch z), by simp, .inl ⟨"unit", .non, rfl, .inr (.inr (.inl ⟨rfl, rfl⟩))⟩⟩ (fun _ => rfl)
  have w0 : ∀ g, mVar 0 [some (.ref n), some (.str op), some (.int (dn + 1 : Nat)), some (.ref r), some (.ref Γ.length), x5, some (.ref Γ'.length), some (.tup (dSs vs)), x8] g = .ok (.ref n) g := fun _ => rfl
  have w2 : ∀ g, mVar 2 [some (.ref n), some (.str op), some (.int (dn + 1 : Nat)), some (.ref r), some (.ref Γ.length), x5, some (.ref Γ'.length), some (.tup (dSs vs)), x8] g = .ok (.int (dn + 1 : Nat)) g := fun _ => rfl
  have w3 : ∀ g, mVar 3 [some (.ref n), some (.str op), some (.int (dn + 1 : Nat)), some (.ref r), some (.ref Γ.length), x5, some (.ref Γ'.length), some (.tup (dSs vs)), x8] g = .ok (.ref r) g := fun _ => rfl
  have w4 : ∀ g, mVar 4 [some (.ref n), some (.str op), some (.int (dn + 1 : Nat)), some (.ref r), some (.ref Γ.length), x5, some (.ref Γ'.length), some (.tup (dSs vs)), x8] g = .ok (.ref Γ.length) g := fun _ => rfl
  have w7 : ∀ g, mVar 7 [some (.ref n), some (.str op), some (.int (dn + 1 : Nat)), some (.ref r), some (.ref Γ.length), x5, some (.ref Γ'.length), some (.tup (dSs vs)), x8] g = .ok (.tup (dSs vs)) g := fun _ => rfl
  have sb : ∀ g, opSub (.int (dn + 1 : Nat)) (.int 1) g = .ok (.int dn) g := fun g => by
    show R.ok (D.int (((dn + 1 : Nat) : Int) - 1)) g = _
    rw [show ((dn + 1 : Nat) : Int) - 1 = dn by omega]
  rw [mDrop_eq, mMtd_eq, w4, R.bnd_ok, if_pos ty]
  simp only [mTup_eq, mCons_eq, mC_eq, R.bnd_ok, Tm_bnd, Tm_ok, mCall_eq, w0, mNil_eq, TmS_st]
  refine name_t ak (st_app e) fun w g nw ag => ?_
  simp only [mCons_eq, mC_eq, R.bnd_ok, Tm_bnd, Tm_ok, mCall_eq, w0, w7, w2, w3, mOp_eq, sb, mNil_eq]
  refine S ag (st_app e) (st_app er) fun d g2 hd ld ag2 => ?_
  simp only [mCons_eq, mC_eq, R.bnd_ok, Tm_bnd, Tm_ok, mNil_eq, List.length_cons, List.length_nil]
  rw [if_pos (by decide)]
  have ao : ArmOk (dn + 1) (.tup [dS w, .tup (dSs vs), d]) := ⟨w, vs, d, rfl, nw.atm, fun v hv' => (hv v hv').atm, hl, hd⟩
  obtain ⟨k1, _, ap, hk1⟩ := app_mid ag2 hm ao (lows_arm ld)
  simp only [R.bnd_ok, Tm_ok, mNil_eq, ap]
  rw [TmS_ok]
  subst hNJ
  rw [Nx_next]
  exact fin _ _ _ _ _ hk1
theorem arm2 {sa se : List D → MH → R D} {dn m r : Nat} {op : Str} (S : ESelf se dn) {Δ : List Ty} (e : Γ[n]? = some .st) (er : Γ[r]? = some .rm) (a : HT (Γ ++ .ls (ArmOk (dn + 1)) m :: Δ) h) (hm : m < 1000) {x5 x6 x7 x8 : Option D} {J : MS → MH → Prop}
    (fin : ∀ Δ' y6 y7 y8 k, HT (Γ ++ .ls (ArmOk (dn + 1)) (m + 1) :: Δ') k → J [some (.ref n), some (.str op), some (.int (dn + 1 : Nat)), some (.ref r), some (.ref Γ.length), x5, y6, y7, y8] k) :
    TmS (b__law_arms_2 sa se [some (.ref n), some (.str op), some (.int (dn + 1 : Nat)), some (.ref r), some (.ref Γ.length), x5, x6, x7, x8] h) (Nx J) NoX.s := by
  unfold b__law_arms_2
  generalize hNJ : Nx J = NJ
  obtain ⟨k0, ty, _, _⟩ := app_mid a hm (x := .tup [dS [97], .tup (dSs []), .tup [.str "unit", .int 0, .non, .tup [], .tup []]]) ⟨[97], [], _, rfl, ⟨by decide, by decide, by decide⟩, (fun _ z => nomatch z), by simp, .inl ⟨"unit", .non, rfl, .inr (.inr (.inl ⟨rfl, rfl⟩))⟩⟩ (fun _ => rfl)
  have w0 : ∀ g, mVar 0 [some (.ref n), some (.str op), some (.int (dn + 1 : Nat)), some (.ref r), some (.ref Γ.length), x5, x6, x7, x8] g = .ok (.ref n) g := fun _ => rfl
  have w2 : ∀ g, mVar 2 [some (.ref n), some (.str op), some (.int (dn + 1 : Nat)), some (.ref r), some (.ref Γ.length), x5, x6, x7, x8] g = .ok (.int (dn + 1 : Nat)) g := fun _ => rfl
  have w3 : ∀ g, mVar 3 [some (.ref n), some (.str op), some (.int (dn + 1 : Nat)), some (.ref r), some (.ref Γ.length), x5, x6, x7, x8] g = .ok (.ref r) g := fun _ => rfl
  have w4 : ∀ g, mVar 4 [some (.ref n), some (.str op), some (.int (dn + 1 : Nat)), some (.ref r), some (.ref Γ.length), x5, x6, x7, x8] g = .ok (.ref Γ.length) g := fun _ => rfl
  have sb : ∀ g, opSub (.int (dn + 1 : Nat)) (.int 1) g = .ok (.int dn) g := fun g => by
    show R.ok (D.int (((dn + 1 : Nat) : Int) - 1)) g = _
    rw [show ((dn + 1 : Nat) : Int) - 1 = dn by omega]
  rw [mDrop_eq, mMtd_eq, w4, R.bnd_ok, if_pos ty]
  simp only [mTup_eq, mCons_eq, mC_eq, R.bnd_ok, Tm_bnd, Tm_ok, mCall_eq, w0, mNil_eq, TmS_st]
  refine exc_t a (st_app e) fun w g nw ag => ?_
  simp only [mTup_eq, mCons_eq, mC_eq, R.bnd_ok, Tm_bnd, Tm_ok, mCall_eq, w0, mNil_eq]
  refine name_t ag (st_app e) fun u g1 nu ag1 => ?_
  simp only [mCons_eq, mC_eq, R.bnd_ok, Tm_bnd, Tm_ok, mNil_eq, List.length_cons, List.length_nil]
  rw [if_pos (by decide)]
  simp only [mCons_eq, mC_eq, R.bnd_ok, Tm_bnd, Tm_ok, mCall_eq, w0, w2, w3, mOp_eq, sb, mNil_eq]
  refine S ag1 (st_app e) (st_app er) fun d g2 hd ld ag2 => ?_
  simp only [mCons_eq, mC_eq, R.bnd_ok, Tm_bnd, Tm_ok, mNil_eq, List.length_cons, List.length_nil]
  rw [if_pos (by decide)]
  have ao : ArmOk (dn + 1) (.tup [dS w, .tup (dSs [u]), d]) := ⟨w, [u], d, rfl, nw.atm, fun v hv' => by rw [List.mem_singleton.mp hv']; exact nu.atm, by simp, hd⟩
  obtain ⟨k1, _, ap, hk1⟩ := app_mid ag2 hm ao (lows_arm ld)
  have ap' : fAppend (.ref Γ.length) [.tup [dS w, .tup [dS u], d]] g2 = .ok .non k1 := ap
  simp only [R.bnd_ok, Tm_ok, mNil_eq, ap']
  rw [TmS_ok]
  subst hNJ
  rw [Nx_next]
  exact fin _ _ _ _ _ hk1
end
end K05

namespace K05
open PySem PySem.Spec PyProof.Rows L2 MM
section
variable {Γ Γ2 : List Ty} {h h' k : MH} {n : Nat}
theorem range_for {v : Int} (h0 : 0 ≤ v) (h1 : v ≤ 1000) {g : MH} : fRange1 [.int v] g = .ok ⟨(List.range v.toNat).map fun (i : Nat) => .int i, fun _ => True⟩ g := fRange1_eq (by omega) (by omega)
theorem arms_body {sa se : List D → MH → R D} {dn : Nat} (S : ESelf se dn) : ASelf (mFn 4 9 (b__law_arms sa se)) dn := by
  intro Γ h n r op P E a e er p
  refine gen_fn rfl a (Γ2 := Γ) ?_
  show TmS _ (RetG Γ Γ P) _
  have st : mStart 9 [D.ref n, .str op, .int (dn + 1 : Nat), .ref r] = [some (.ref n), some (.str op), some (.int (dn + 1 : Nat)), some (.ref r), none, none, none, none, none] := rfl
  rw [st]
  unfold b__law_arms
  obtain ⟨L, hL⟩ : ∃ L : Option D → Option D → Option D → Option D → MS, L = fun a b c d => [some (.ref n), some (.str op), some (.int (dn + 1 : Nat)), some (.ref r), some (.ref Γ.length), a, b, c, d] := ⟨_, rfl⟩
  have e1 : mSet 4 (mLstN mNil) [some (.ref n), some (.str op), some (.int (dn + 1 : Nat)), some (.ref r), none, none, none, none, none] h = .ok (.next (L none none none none)) (h ++ [.lst []]) := by
    rw [hL]
    simp [a.len]
  rw [mSeq_eq, e1, SR.seq_next]
  have a1 : HT (Γ ++ .ls (ArmOk (dn + 1)) 0 :: []) (h ++ [.lst []]) := a.app ⟨[], rfl, (fun _ z => nomatch z), Nat.le_refl _⟩
  generalize h ++ [MO.lst []] = h1 at a1
  generalize hPR : RetG Γ Γ P = PR
  have v0 : ∀ a b c d, (L a b c d)[0]? = some (some (.ref n)) := fun a b c d => by rw [hL]; rfl
  have v1 : ∀ a b c d g, mVar 1 (L a b c d) g = .ok (.str op) g := fun a b c d g => by rw [hL]; rfl
  have v4 : ∀ a b c d g, mVar 4 (L a b c d) g = .ok (.ref Γ.length) g := fun a b c d g => by rw [hL]; rfl
  have ifop : ∀ (s : Str) (A B : MSt) a b c d g, mSeq (mIfS (mB (mOp opEq (mVar 1) (mC (.str s)))) A mNext) B (L a b c d) g = if op = s then (A (L a b c d) g).seq B else B (L a b c d) g := fun s A B a b c d g => by
    rw [mSeq_eq, mIfS_eq, mB_eq, mOp_eq, v1, R.bnd_ok, mC_eq, R.bnd_ok, opEq_str, R.bnd_ok]
    show (((R.ok (decide (op = s)) g).st _ _).seq B) = _
    rw [R.st_ok]
    by_cases z : op = s
    · rw [if_pos (decide_eq_true z), if_pos z]
    · rw [if_neg (by simp [z]), if_neg z]; rfl
  have fin : ∀ m Δ x5 x6 x7 x8 k, HT (Γ ++ .ls (ArmOk (dn + 1)) m :: Δ) k → m ≤ 8 → (op ≠ "case" → op ≠ "handle" → m = 0) → TmS (mRet (mCall fTuple (mCons (mVar 4) mNil)) (L x5 x6 x7 x8) k) PR NoX.s := by
    intro m Δ x5 x6 x7 x8 k hk hm hz
    obtain ⟨ds, eo, h1, h2⟩ := mid_lst hk
    rw [mRet_eq, mCall_eq, mCons_eq, v4, R.bnd_ok, mNil_eq, R.bnd_ok, R.bnd_ok, fTuple_eq (show seqG (.ref Γ.length) k = some ds from lst?_of eo), R.st_ok, TmS_ok]
    subst hPR
    refine ⟨.tup ds, .ls (ArmOk (dn + 1)) m :: Δ, rfl, fun j => ?_, hk, rfl, Sb.refl _, fun k' hk' => p ds k' (by omega) (fun z1 z2 => ?_) h1 hk'⟩
    · show lowsL j ds = true
      exact lows_all fun x hx => (h1 x hx).2 j
    · have := hz z1 z2
      exact List.eq_nil_of_length_eq_zero (by omega)
  have loop : ∀ (body : MSt) (bound : Nat) (K : MSt), bound ≤ 8 →
      (∀ (Δ : List Ty) (m : Nat) (x5 x6 x7 x8 : Option D) (k : MH) (J : MS → MH → Prop), HT (Γ ++ .ls (ArmOk (dn + 1)) m :: Δ) k → m < 1000 → (∀ Δ' y6 y7 y8 k', HT (Γ ++ .ls (ArmOk (dn + 1)) (m + 1) :: Δ') k' → J (L x5 y6 y7 y8) k') → TmS (body (L x5 x6 x7 x8) k) (Nx J) NoX.s) →
      (∀ m Δ x5 x6 x7 x8 k, HT (Γ ++ .ls (ArmOk (dn + 1)) m :: Δ) k → m ≤ bound → TmS (K (L x5 x6 x7 x8) k) PR NoX.s) →
      ∀ (v : Int) (k : MH) (Δ : List Ty) x5 x6 x7 x8, 0 ≤ v → v ≤ bound → HT (Γ ++ .ls (ArmOk (dn + 1)) 0 :: Δ) k →
      TmS (forM (fun _ => True) (mgName 5) body ((List.range v.toNat).map fun (i : Nat) => D.int i) (L x5 x6 x7 x8) k) (SeqP K PR NoX.s) NoX.s := by
    intro body bound K hb hbody hK v k Δ x5 x6 x7 x8 h0 h1 hk
    obtain ⟨I, hI⟩ : ∃ I : List D → MS → MH → Prop, I = fun rr δ k => ∃ m Δ x5 x6 x7 x8, δ = L x5 x6 x7 x8 ∧ HT (Γ ++ .ls (ArmOk (dn + 1)) m :: Δ) k ∧ m + rr.length ≤ bound := ⟨_, rfl⟩
    refine TmS_forN I (fun _ _ _ _ => trivial) ?_ ?_ (by rw [hI]; exact ⟨0, Δ, x5, x6, x7, x8, rfl, hk, by simp; omega⟩)
    · intro x rr δ g i
      rw [hI] at i
      obtain ⟨m, Δ, x5, x6, x7, x8, rfl, hg, hl⟩ := i
      refine ⟨L (some x) x6 x7 x8, by rw [hL]; rfl, ?_⟩
      refine hbody Δ m _ _ _ _ g _ hg (by simp at hl; omega) fun Δ' y6 y7 y8 k' hk' => ?_
      rw [hI]
      exact ⟨m + 1, Δ', _, _, _, _, rfl, hk', by simp at hl; omega⟩
    · intro δ g i
      rw [hI] at i
      obtain ⟨m, Δ, x5, x6, x7, x8, rfl, hg, hl⟩ := i
      rw [SeqP_next]
      exact hK m Δ _ _ _ _ g hg (by simpa using hl)
  rw [ifop]
  by_cases hc : op = "case"
  · have nh : ¬ op = Str.ofString "handle" := by rw [hc]; decide
    rw [if_pos hc, TmS_seq, mFor_eq, TmS_st, mCallI_eq, Tm_bnd, mCons_eq, Tm_bnd, mOp_eq, mC_eq, R.bnd_ok, Tm_bnd]
    refine cnt_t (by omega) (by omega) a1 (st_app e) (v0 ..) fun v g v0' v1' ag => ?_
    simp only [opAddS_int, R.bnd_ok, Tm_ok, mNil_eq]
    rw [range_for (by omega) (by omega), Tm_ok]
    refine loop _ 8 _ (Nat.le_refl _) (fun Δ m x5 x6 x7 x8 k J hk hm hJ => ?_) (fun m Δ x5 x6 x7 x8 k hk hm => ?_) (1 + v) g _ none none none none (by omega) (by omega) ag
    · have := arm1 (sa := sa) (op := op) S e er hk hm (x5 := x5) (x6 := x6) (x7 := x7) (x8 := x8) (J := J) (fun Δ' y6 y7 y8 k' hk' => by have := hJ Δ' y6 y7 y8 k' hk'; rwa [hL] at this)
      rwa [hL]
    · rw [ifop, if_neg nh]
      exact fin m Δ _ _ _ _ k hk hm fun z => absurd hc z
  · rw [if_neg hc, ifop]
    by_cases hh : op = "handle"
    · rw [if_pos hh, TmS_seq, mFor_eq, TmS_st, mCallI_eq, Tm_bnd, mCons_eq, Tm_bnd]
      refine cnt_t (by omega) (by omega) a1 (st_app e) (v0 ..) fun v g v0' v1' ag => ?_
      simp only [R.bnd_ok, Tm_ok, mNil_eq]
      rw [range_for (by omega) (by omega), Tm_ok]
      refine loop _ 8 _ (Nat.le_refl _) (fun Δ m x5 x6 x7 x8 k J hk hm hJ => ?_) (fun m Δ x5 x6 x7 x8 k hk hm => ?_) v g _ none none none none (by omega) (by omega) ag
      · have := arm2 (sa := sa) (op := op) S e er hk hm (x5 := x5) (x6 := x6) (x7 := x7) (x8 := x8) (J := J) (fun Δ' y6 y7 y8 k' hk' => by have := hJ Δ' y6 y7 y8 k' hk'; rwa [hL] at this)
        rwa [hL]
      · exact fin m Δ _ _ _ _ k hk hm fun _ z => absurd hh z
    · rw [if_neg hh]
      exact fin 0 _ _ _ _ _ _ a1 (by omega) fun _ _ => rfl
end
end K05

namespace K05
open PySem PySem.Spec PyProof.Rows L2 MM
def KV : List (Str × Int) := [("tuple", 2), ("get", 1), ("let", 2), ("if", 3), ("fn", 1), ("apply", 2), ("raise", 1), ("ref", 1), ("deref", 1), ("len", 1), ("print", 1), ("set", 2), ("array", 2), ("at", 2), ("seq", 2), ("put", 3), ("add", 2), ("sub", 2), ("mul", 2), ("div", 2), ("rem", 2), ("equal", 2), ("less", 2), ("call", 0), ("make", 0), ("case", 1), ("handle", 1)]
def CT : D := .rdc (KV.map fun p => Sum.inr p.1) (KV.map fun p => D.int p.2)
def KS : List Str := KV.map (·.1)
def OC (op : Str) (c : Int) : Prop := ((op = "call" ∨ op = "make") ∧ c = 0) ∨ (op = "tuple" ∧ c = 2) ∨ (op = "let" ∧ c = 2) ∨ (op = "get" ∧ c = 1) ∨ (op = "fn" ∧ c = 1) ∨ (op = "raise" ∧ c = 1) ∨
  (op ∈ plainOps ∧ op ≠ "tuple" ∧ (0 ≤ c ∧ c ≤ 3) ∧ ((op = "case" ∨ op = "handle") → c = 1))
section
variable {Γ Γ2 : List Ty} {h h' k : MH} {n : Nat}
theorem counts_ok : m__law_counts [] h = .ok CT h := by
  unfold m__law_counts
  exact mFn_pure0 rfl rfl (lows_all fun x hx => by obtain ⟨p, _, rfl⟩ := List.mem_map.mp hx; rfl)
theorem sorted_ok : fSorted [CT] h = .ok (.rol ((KS.mergeSort leS).map D.str)) h := by
  unfold fSorted CT
  have : strKeys (KV.map fun p => Sum.inr p.1) = some KS := rfl
  simp only [this]
  rw [if_pos (by decide)]
theorem opc {op : Str} (m : op ∈ KS) : ∃ c : Int, (∀ h, opIx CT (.str op) h = .ok (.int c) h) ∧ OC op c := by
  unfold KS KV at m
  simp only [List.map_cons, List.map_nil, List.mem_cons, List.not_mem_nil, or_false] at m
  have pl : ∀ {s : Str} {c : Int}, s ∈ plainOps ∧ s ≠ "tuple" ∧ (0 ≤ c ∧ c ≤ 3) ∧ ((s = "case" ∨ s = "handle") → c = 1) → OC s c := fun h => .inr (.inr (.inr (.inr (.inr (.inr h)))))
  rcases m with rfl | rfl | rfl | rfl | rfl | rfl | rfl | rfl | rfl | rfl | rfl | rfl | rfl | rfl | rfl | rfl | rfl | rfl | rfl | rfl | rfl | rfl | rfl | rfl | rfl | rfl | rfl
  · exact ⟨2, fun _ => rfl, .inr (.inl ⟨rfl, rfl⟩)⟩
  · exact ⟨1, fun _ => rfl, .inr (.inr (.inr (.inl ⟨rfl, rfl⟩)))⟩
  · exact ⟨2, fun _ => rfl, .inr (.inr (.inl ⟨rfl, rfl⟩))⟩
  · exact ⟨3, fun _ => rfl, pl (by decide)⟩
  · exact ⟨1, fun _ => rfl, .inr (.inr (.inr (.inr (.inl ⟨rfl, rfl⟩))))⟩
  · exact ⟨2, fun _ => rfl, pl (by decide)⟩
  · exact ⟨1, fun _ => rfl, .inr (.inr (.inr (.inr (.inr (.inl ⟨rfl, rfl⟩)))))⟩
  · exact ⟨1, fun _ => rfl, pl (by decide)⟩
  · exact ⟨1, fun _ => rfl, pl (by decide)⟩
  · exact ⟨1, fun _ => rfl, pl (by decide)⟩
  · exact ⟨1, fun _ => rfl, pl (by decide)⟩
  · exact ⟨2, fun _ => rfl, pl (by decide)⟩
  · exact ⟨2, fun _ => rfl, pl (by decide)⟩
  · exact ⟨2, fun _ => rfl, pl (by decide)⟩
  · exact ⟨2, fun _ => rfl, pl (by decide)⟩
  · exact ⟨3, fun _ => rfl, pl (by decide)⟩
  · exact ⟨2, fun _ => rfl, pl (by decide)⟩
  · exact ⟨2, fun _ => rfl, pl (by decide)⟩
  · exact ⟨2, fun _ => rfl, pl (by decide)⟩
  · exact ⟨2, fun _ => rfl, pl (by decide)⟩
  · exact ⟨2, fun _ => rfl, pl (by decide)⟩
  · exact ⟨2, fun _ => rfl, pl (by decide)⟩
  · exact ⟨2, fun _ => rfl, pl (by decide)⟩
  · exact ⟨0, fun _ => rfl, .inl ⟨.inl rfl, rfl⟩⟩
  · exact ⟨0, fun _ => rfl, .inl ⟨.inr rfl, rfl⟩⟩
  · exact ⟨1, fun _ => rfl, pl (by decide)⟩
  · exact ⟨1, fun _ => rfl, pl (by decide)⟩
theorem aug_rm {r : Nat} {δ : MS} (a : HT Γ h) (er : Γ[r]? = some .rm) (v : δ[2]? = some (some (.ref r))) : ∃ h', mAugIx opSub (mVar 2) (mC (.int 0)) (mC (.int 1)) δ h = .ok (.next δ) h' ∧ HT Γ h' := by
  obtain ⟨o, eo, i, rfl⟩ := a.at' r _ er
  have el : lst? h r = some [D.int i] := lst?_of eo
  refine ⟨h.set r (.lst [.int (i - 1)]), ?_, a.set_same er ⟨_, rfl⟩⟩
  unfold mAugIx
  rw [mVar_eq v, R.st_ok, mC_eq, R.st_ok]
  simp only [lstD_ref, el, Option.bind_some]
  rw [show L2.atI [D.int i] 0 = some (.int i) from rfl]
  simp only [mC_eq, R.st_ok]
  rw [show opSub (.int i) (.int 1) h = .ok (.int (i - 1)) h from rfl, R.st_ok]
  have : setG (.ref r) (.int 0) (.int (i - 1)) h = some (h.set r (.lst [.int (i - 1)])) := by
    show (lst? h r).bind _ = _
    rw [el]; rfl
  simp only [this]
theorem room_ix {r : Nat} (a : HT Γ h) (er : Γ[r]? = some .rm) : ∃ i : Int, opIx (.ref r) (.int 0) h = .ok (.int i) h := by
  obtain ⟨o, eo, i, rfl⟩ := a.at' r _ er
  exact ⟨i, opIx_of (by rw [ixG_ref, lst?_of eo]; rfl)⟩
theorem cnt_t2 {A B : Int} {X : ME} {δ : MS} (hX : ∀ g, X δ g = .ok (.int A) g) (hA : 0 < A ∧ A ≤ 100) (hB : 0 < B ∧ B ≤ A) {P : D → MH → Prop} {E : XP} (a : HT Γ h) (e : Γ[n]? = some .st) (v0 : δ[0]? = some (some (.ref n))) (p : ∀ (v : Int) k, 0 ≤ v → v < A → HT Γ k → P (.int v) k) :
    Tm (mCall m__law_draw (mCons (mVar 0) (mCons (mIf (mB (mOp opEq (mCall m__law_draw (mCons (mVar 0) (mCons (mC (.int 8)) (mNil)))) (mC (.int 7)))) X (mC (.int B))) (mNil))) δ h) P E := by
  have w0 : ∀ k, mVar 0 δ k = .ok (.ref n) k := fun _ => mVar_eq v0
  rw [mCall_eq, mCons_eq, w0, R.bnd_ok, Tm_bnd, Tm_bnd, mCons_eq, Tm_bnd]
  show Tm ((mB (mOp opEq (mCall m__law_draw (mCons (mVar 0) (mCons (mC (.int 8)) (mNil)))) (mC (.int 7))) δ h).bnd fun c h1 => if c then X δ h1 else mC (.int B) δ h1) _ _
  rw [Tm_bnd, mB_eq, Tm_bnd, mOp_eq, Tm_bnd]
  simp only [mCons_eq, mC_eq, R.bnd_ok, Tm_bnd, Tm_ok, mCall_eq, w0, mNil_eq]
  refine draw_t a e (by omega) (by decide) fun u g u0 u1 ag => ?_
  rw [opEq_int, Tm_ok]
  show Tm (R.ok (decide (u = 7)) g) _ _
  rw [Tm_ok]
  by_cases hu : u = 7
  · rw [if_pos (by simp [hu])]
    simp only [mCons_eq, mC_eq, hX, R.bnd_ok, Tm_bnd, Tm_ok, mCall_eq, w0, mNil_eq]
    exact draw_t ag e (by omega) (by omega) fun v g2 v0 v1 ag2 => p v g2 v0 (by omega) ag2
  · rw [if_neg (by simp [hu])]
    simp only [mCons_eq, mC_eq, R.bnd_ok, Tm_bnd, Tm_ok, mCall_eq, w0, mNil_eq]
    exact draw_t ag e (by omega) (by omega) fun v g2 v0 v1 ag2 => p v g2 v0 (by omega) ag2
noncomputable def kidS (sa se : List D → MH → R D) : MSt := mSeq (mSet 9 (mCall fTuple (mCons (mLc (mCallI fRange1 (mCons (mVar 7) (mNil))) (mgName 10) (mYes) (mCall se (mCons (mVar 0) (mCons (mOp opSub (mVar 1) (mC (.int 1))) (mCons (mVar 2) (mNil))))) [10]) (mNil)))) (mRet (mTup (mCons (mVar 6) (mCons (mC (.int 0)) (mCons (mVar 8) (mCons (mVar 9) (mCons (mCall sa (mCons (mVar 0) (mCons (mVar 6) (mCons (mVar 1) (mCons (mVar 2) (mNil)))))) (mNil))))))))
abbrev eL (n r j : Nat) (v c : Int) (op : Str) (info x9 x10 : Option D) : MS := [some (.ref n), some (.int (j + 1 : Nat)), some (.ref r), some CT, some (.rol ((KS.mergeSort leS).map D.str)), some (.int v), some (.str op), some (.int c), info, x9, x10]
theorem kid_t {sa se : List D → MH → R D} {j r : Nat} (S : ESelf se j) (A : ASelf sa j) {P : D → MH → Prop} (a : HT Γ h) (e : Γ[n]? = some .st) (er : Γ[r]? = some .rm) {op : Str} {info : D} (HO : HOk op info) (li : Lw info) {v c : Int} (c0 : 0 ≤ c) (c1 : c ≤ 6) (hc : (op = "case" ∨ op = "handle") → c = 1)
    (p : ∀ d k, ExOk (j + 1 + 1) d → Lw d → HT Γ k → P d k) : TmS (kidS sa se (eL n r j v c op (some info) none none) h) (RetG Γ Γ P) NoX.s := by
  unfold kidS
  have sb : ∀ g, opSub (.int (j + 1 : Nat)) (.int 1) g = .ok (.int j) g := fun g => by
    show R.ok (D.int (((j + 1 : Nat) : Int) - 1)) g = _
    rw [show ((j + 1 : Nat) : Int) - 1 = j by omega]
  rw [mSeq_eq, TmS_seq, mSet_eq, TmS_st, mCall_eq, Tm_bnd, mCons_eq, Tm_bnd]
  refine gen_lc (Γf := fun _ => Γ) (ExOk (j + 1)) 0 (fun _ => rfl) (fun _ => Sb.refl _) ((List.range c.toNat).map fun (i : Nat) => D.int i) (by simp; omega) ?_ ?_ ?_
  · rw [mCallI_eq, mCons_eq, mVar_eq (show _ = some (some (D.int c)) from rfl), R.bnd_ok, mNil_eq, R.bnd_ok, R.bnd_ok]
    exact range_lc c0 (by omega) a (by omega)
  · intro x hx
    refine ⟨_, rfl, fun acc g hl ag => ?_⟩
    have w0 : mVar 0 (List.set (wipeM (eL n r j v c op (some info) none none) [10]) 10 (some x)) g = .ok (.ref n) g := rfl
    have w1 : mVar 1 (List.set (wipeM (eL n r j v c op (some info) none none) [10]) 10 (some x)) g = .ok (.int (j + 1 : Nat)) g := rfl
    have w2 : mVar 2 (List.set (wipeM (eL n r j v c op (some info) none none) [10]) 10 (some x)) g = .ok (.ref r) g := rfl
    simp only [mCall_eq, mCons_eq, w0, w1, w2, R.bnd_ok, mOp_eq, mC_eq, sb, mNil_eq]
    exact S ag (st_app e) (st_app er) fun d k hd ld hk => ⟨⟨hd, ld⟩, hk⟩
  · intro acc g hl hq ag
    have hl' : acc.length ≤ c.toNat := by simpa using hl.2
    simp only [mNil_eq, R.bnd_ok, Tm_ok, fTuple_eq (show seqG (.rol acc) g = some acc from rfl), TmS_ok, SeqP_next]
    show TmS (mRet _ (eL n r j v c op (some info) (some (.tup acc)) none) g) _ _
    have w : ∀ g, mVar 0 (eL n r j v c op (some info) (some (.tup acc)) none) g = .ok (.ref n) g ∧ mVar 1 (eL n r j v c op (some info) (some (.tup acc)) none) g = .ok (.int (j + 1 : Nat)) g ∧ mVar 2 (eL n r j v c op (some info) (some (.tup acc)) none) g = .ok (.ref r) g ∧ mVar 6 (eL n r j v c op (some info) (some (.tup acc)) none) g = .ok (.str op) g ∧ mVar 8 (eL n r j v c op (some info) (some (.tup acc)) none) g = .ok info g ∧ mVar 9 (eL n r j v c op (some info) (some (.tup acc)) none) g = .ok (.tup acc) g := fun _ => ⟨rfl, rfl, rfl, rfl, rfl, rfl⟩
    rw [mRet_eq, TmS_st]
    simp only [mTup_eq, mCons_eq, (w _).1, (w _).2.1, (w _).2.2.1, (w _).2.2.2.1, (w _).2.2.2.2.1, (w _).2.2.2.2.2, mC_eq, R.bnd_ok, Tm_bnd, Tm_ok, mCall_eq, mNil_eq]
    refine A ag e er fun as k hal hax has hk => ?_
    simp only [R.bnd_ok, Tm_ok, Tm_bnd, mNil_eq, List.length_cons, List.length_nil]
    rw [if_pos (by decide), Tm_ok, TmS_ok]
    have lo : Lw (.tup [.str op, .int 0, info, .tup acc, .tup as]) := fun m => by
      show (true && (true && (info.lows m && (lowsL m acc && (lowsL m as && true))))) = true
      rw [li, lows_all fun x hx => (hq x hx).2 m, lows_all fun x hx => (has x hx).2 m]; rfl
    refine RetG.mk0 lo hk fun k' hk' => p _ k' (.inr ⟨op, info, acc, as, rfl, HO, ?_, fun y hy => (hq y hy).1, fun y hy => (has y hy).1⟩) lo hk'
    by_cases z : op = "case" ∨ op = "handle"
    · have := hc z
      omega
    · have : as = [] := hax (fun y => z (.inl y)) fun y => z (.inr y)
      rw [this]
      simp
      omega
end
end K05

namespace K05
open PySem PySem.Spec PyProof.Rows L2 MM
noncomputable def infoS (K : MSt) : MSt := mSeq (mSet 8 (mC .non)) (mSeq (mIfS (mOr (mB (mOp opEq (mVar 6) (mC (.str "call")))) (mB (mOp opEq (mVar 6) (mC (.str "let"))))) (mSet 8 (mCall m__law_name (mCons (mVar 0) (mCons (mC (.bl false)) (mNil))))) (mNext)) (mSeq (mIfS (mB (mOp opEq (mVar 6) (mC (.str "make")))) (mSet 8 (mCall m__law_name (mCons (mVar 0) (mCons (mC (.bl true)) (mNil))))) (mNext)) (mSeq (mIfS (mB (mOp opEq (mVar 6) (mC (.str "get")))) (mSet 8 (mCall m__law_draw (mCons (mVar 0) (mCons (mC (.int 6)) (mNil))))) (mNext)) (mSeq (mIfS (mB (mOp opEq (mVar 6) (mC (.str "fn")))) (mSet 8 (mTup (mCons (mCall m__law_name (mCons (mVar 0) (mCons (mC (.bl false)) (mNil)))) (mCons (mCall (m__law_kind 8) (mCons (mVar 0) (mCons (mC (.int 2)) (mNil)))) (mNil))))) (mNext)) (mSeq (mIfS (mB (mOp opEq (mVar 6) (mC (.str "raise")))) (mSet 8 (mTup (mCons (mCall m__law_exception (mCons (mVar 0) (mNil))) (mCons (mCall (m__law_kind 8) (mCons (mVar 0) (mCons (mC (.int 2)) (mNil)))) (mNil))))) (mNext)) K)))))
section
variable {Γ Γ2 : List Ty} {h h' k : MH} {n : Nat}
theorem info_t {j r : Nat} {op : Str} {c c' v : Int} (oc : OC op c) (a : HT Γ h) (e : Γ[n]? = some .st) {K : MSt} {PS' : Fl → MH → Prop} (p : ∀ info g, HOk op info → Lw info → HT Γ g → TmS (K (eL n r j v c' op (some info) none none) g) PS' NoX.s) :
    TmS (infoS K (eL n r j v c' op none none none) h) PS' NoX.s := by
  unfold infoS
  have e8 : mSet 8 (mC .non) (eL n r j v c' op none none none) h = .ok (.next (eL n r j v c' op (some .non) none none)) h := rfl
  rw [mSeq_eq, e8, SR.seq_next]
  have w6 : ∀ i g, mVar 6 (eL n r j v c' op i none none) g = .ok (.str op) g := fun _ _ => rfl
  have w0 : ∀ i g, mVar 0 (eL n r j v c' op i none none) g = .ok (.ref n) g := fun _ _ => rfl
  have ifo : ∀ (s : Str) (A B : MSt) i g, mSeq (mIfS (mB (mOp opEq (mVar 6) (mC (.str s)))) A mNext) B (eL n r j v c' op i none none) g = if op = s then (A (eL n r j v c' op i none none) g).seq B else B (eL n r j v c' op i none none) g := fun s A B i g => by
    rw [mSeq_eq, mIfS_eq, mB_eq, mOp_eq, w6, R.bnd_ok, mC_eq, R.bnd_ok, opEq_str, R.bnd_ok]
    show (((R.ok (decide (op = s)) g).st _ _).seq B) = _
    rw [R.st_ok]
    by_cases z : op = s
    · rw [if_pos (decide_eq_true z), if_pos z]
    · rw [if_neg (by simp [z]), if_neg z]; rfl
  have ifor : ∀ (A B : MSt) i g, mSeq (mIfS (mOr (mB (mOp opEq (mVar 6) (mC (.str "call")))) (mB (mOp opEq (mVar 6) (mC (.str "let"))))) A mNext) B (eL n r j v c' op i none none) g = if op = "call" ∨ op = "let" then (A (eL n r j v c' op i none none) g).seq B else B (eL n r j v c' op i none none) g := fun A B i g => by
    have : mOr (mB (mOp opEq (mVar 6) (mC (.str "call")))) (mB (mOp opEq (mVar 6) (mC (.str "let")))) (eL n r j v c' op i none none) g = .ok (decide (op = "call" ∨ op = "let")) g := by
      by_cases z : op = Str.ofString "call"
      · simp [w6, z]
      · by_cases y : op = Str.ofString "let"
        · have : ¬ (Str.ofString "let" = Str.ofString "call") := by decide
          simp [w6, y, this]
        · simp [w6, z, y]
    rw [mSeq_eq, mIfS_eq, this, R.st_ok]
    by_cases z : op = "call" ∨ op = "let"
    · rw [if_pos (decide_eq_true z), if_pos z]
    · rw [if_neg (by simpa using z), if_neg z]; rfl
  have nm : ∀ (b : Bool) (K : MSt) g, HT Γ g → (∀ w k, Nm w → HT Γ k → TmS (K (eL n r j v c' op (some (dS w)) none none) k) PS' NoX.s) → TmS ((mSet 8 (mCall m__law_name (mCons (mVar 0) (mCons (mC (.bl b)) (mNil)))) (eL n r j v c' op (some .non) none none) g).seq K) PS' NoX.s := fun b K g ag q => by
    rw [TmS_seq, mSet_eq, TmS_st, mCall_eq, mCons_eq, w0, R.bnd_ok, mCons_eq, mC_eq, R.bnd_ok, mNil_eq, R.bnd_ok, R.bnd_ok, R.bnd_ok]
    refine name_t ag e fun w k nw hk => ?_
    rw [TmS_ok, SeqP_next]
    exact q w k nw hk
  have kd : ∀ (F : ME) (K : MSt) g, HT Γ g → (∀ (E : XP) (P : D → MH → Prop), (∀ w k, Nm w → HT Γ k → P (dS w) k) → Tm (F (eL n r j v c' op (some .non) none none) g) P E) → (∀ w kk k, Nm w → KOk 3 kk → HT Γ k → TmS (K (eL n r j v c' op (some (.tup [dS w, kk])) none none) k) PS' NoX.s) →
      TmS ((mSet 8 (mTup (mCons F (mCons (mCall (m__law_kind 8) (mCons (mVar 0) (mCons (mC (.int 2)) (mNil)))) (mNil)))) (eL n r j v c' op (some .non) none none) g).seq K) PS' NoX.s := fun F K g ag hF q => by
    rw [TmS_seq, mSet_eq, TmS_st, mTup_eq, Tm_bnd, mCons_eq, Tm_bnd]
    refine hF _ _ fun w k nw hk => ?_
    rw [Tm_bnd, mCons_eq, Tm_bnd, mCall_eq, mCons_eq, w0, R.bnd_ok, mCons_eq, mC_eq, R.bnd_ok, mNil_eq, R.bnd_ok, R.bnd_ok, R.bnd_ok]
    have kt : KSelf (m__law_kind 8) 2 := kind_t 2 8 (by decide)
    refine kt hk e fun d k2 hd hk2 => ?_
    simp only [mNil_eq, R.bnd_ok, Tm_ok, List.length_cons, List.length_nil]
    rw [if_pos (by decide), Tm_ok, TmS_ok, SeqP_next]
    exact q w d k2 nw hd hk2
  rcases oc with ⟨ho, _⟩ | ⟨ho, _⟩ | ⟨ho, _⟩ | ⟨ho, _⟩ | ⟨ho, _⟩ | ⟨ho, _⟩ | ⟨hp, _, _, _⟩
  · rcases ho with ho | ho
    · rw [ifor, if_pos (.inl ho)]
      refine nm _ _ _ a fun w k nw hk => ?_
      rw [ifo, if_neg (by rw [ho]; decide), ifo, if_neg (by rw [ho]; decide), ifo, if_neg (by rw [ho]; decide), ifo, if_neg (by rw [ho]; decide)]
      exact p _ _ (.inl ⟨.inl ho, w, rfl, nw.atm⟩) (fun _ => rfl) hk
    · rw [ifor, if_neg (by rw [ho]; decide), ifo, if_pos ho]
      refine nm _ _ _ a fun w k nw hk => ?_
      rw [ifo, if_neg (by rw [ho]; decide), ifo, if_neg (by rw [ho]; decide), ifo, if_neg (by rw [ho]; decide)]
      exact p _ _ (.inl ⟨.inr ho, w, rfl, nw.atm⟩) (fun _ => rfl) hk
  · rw [ifor, if_neg (by rw [ho]; decide), ifo, if_neg (by rw [ho]; decide), ifo, if_neg (by rw [ho]; decide), ifo, if_neg (by rw [ho]; decide), ifo, if_neg (by rw [ho]; decide)]
    exact p _ _ (.inr (.inr (.inr (.inr (.inr ⟨by rw [ho]; decide, rfl⟩))))) (fun _ => rfl) a
  · rw [ifor, if_pos (.inr ho)]
    refine nm _ _ _ a fun w k nw hk => ?_
    rw [ifo, if_neg (by rw [ho]; decide), ifo, if_neg (by rw [ho]; decide), ifo, if_neg (by rw [ho]; decide), ifo, if_neg (by rw [ho]; decide)]
    exact p _ _ (.inr (.inr (.inl ⟨ho, w, rfl, nw.atm⟩))) (fun _ => rfl) hk
  · rw [ifor, if_neg (by rw [ho]; decide), ifo, if_neg (by rw [ho]; decide), ifo, if_pos ho]
    rw [TmS_seq, mSet_eq, TmS_st, mCall_eq, mCons_eq, w0, R.bnd_ok, mCons_eq, mC_eq, R.bnd_ok, mNil_eq, R.bnd_ok, R.bnd_ok, R.bnd_ok]
    refine draw_t a e (by omega) (by decide) fun u k u0 u1 hk => ?_
    rw [TmS_ok, SeqP_next]
    show TmS (mSeq _ _ (eL n r j v c' op (some (.int u)) none none) k) _ _
    rw [ifo, if_neg (by rw [ho]; decide), ifo, if_neg (by rw [ho]; decide)]
    exact p _ _ (.inr (.inl ⟨ho, u, rfl, u0, u1⟩)) (fun _ => rfl) hk
  · rw [ifor, if_neg (by rw [ho]; decide), ifo, if_neg (by rw [ho]; decide), ifo, if_neg (by rw [ho]; decide), ifo, if_pos ho]
    refine kd _ _ _ a (fun E P q => ?_) fun w kk k nw hkk hk => ?_
    · rw [mCall_eq, mCons_eq, w0, R.bnd_ok, mCons_eq, mC_eq, R.bnd_ok, mNil_eq, R.bnd_ok, R.bnd_ok, R.bnd_ok]
      exact name_t a e q
    · rw [ifo, if_neg (by rw [ho]; decide)]
      exact p _ _ (.inr (.inr (.inr (.inl ⟨ho, w, kk, rfl, nw.atm, hkk⟩)))) (fun m => by show (true && (kk.lows m && true)) = true; rw [hkk.lows m]; rfl) hk
  · rw [ifor, if_neg (by rw [ho]; decide), ifo, if_neg (by rw [ho]; decide), ifo, if_neg (by rw [ho]; decide), ifo, if_neg (by rw [ho]; decide), ifo, if_pos ho]
    refine kd _ _ _ a (fun E P q => ?_) fun w kk k nw hkk hk => ?_
    · rw [mCall_eq, mCons_eq, w0, R.bnd_ok, mNil_eq, R.bnd_ok, R.bnd_ok]
      exact exc_t a e q
    · exact p _ _ (.inr (.inr (.inr (.inr (.inl ⟨ho, w, kk, rfl, nw.atm, hkk⟩))))) (fun m => by show (true && (kk.lows m && true)) = true; rw [hkk.lows m]; rfl) hk
  · have F := opf_plain hp
    have n3 : ¬ op = Str.ofString "fn" := fun z => Bool.false_ne_true (F.f.mp z)
    have n4 : ¬ op = Str.ofString "raise" := fun z => Bool.false_ne_true (F.r.mp z)
    have n1 : ¬ op = Str.ofString "get" := fun z => Bool.false_ne_true (F.g.mp z)
    have n2 : ¬ op = Str.ofString "let" := fun z => Bool.false_ne_true (F.l.mp z)
    have n5 : ¬ op = Str.ofString "call" := fun z => by rw [z] at hp; exact absurd hp (by decide)
    have n6 : ¬ op = Str.ofString "make" := fun z => by rw [z] at hp; exact absurd hp (by decide)
    rw [ifor, if_neg (fun z => z.elim n5 n2), ifo, if_neg n6, ifo, if_neg n1, ifo, if_neg n3, ifo, if_neg n4]
    exact p _ _ (.inr (.inr (.inr (.inr (.inr ⟨hp, rfl⟩))))) (fun _ => rfl) a
theorem expr_body {sa se : List D → MH → R D} {dn : Nat} (hs : ∀ j, dn = j + 1 → ESelf se j ∧ ASelf sa j) : ESelf (mFn 3 11 (b__law_expr sa se)) dn := by
  intro Γ h n r P E a e er p
  refine gen_fn rfl a (Γ2 := Γ) ?_
  show TmS _ (RetG Γ Γ P) _
  have st : mStart 11 [D.ref n, .int dn, .ref r] = [some (.ref n), some (.int dn), some (.ref r), none, none, none, none, none, none, none, none] := rfl
  rw [st]
  have hb : b__law_expr sa se = mSeq (mAugIx opSub (mVar 2) (mC (.int 0)) (mC (.int 1))) (mSeq (mSet 3 (mCall m__law_counts mNil)) (mSeq (mSet 4 (mCall fSorted (mCons (mVar 3) (mNil)))) (mSeq (mSet 5 (mCall m__law_draw (mCons (mVar 0) (mCons (mC (.int 36)) (mNil))))) (mSeq (mIfS (mOr (mB (mOp opLt (mVar 1) (mC (.int 1)))) (mOr (mB (mOp opLt (mOp opIx (mVar 2) (mC (.int 0))) (mC (.int 1)))) (mB (mOp opGe (mVar 5) (mCall fLen (mCons (mVar 4) (mNil))))))) (mRet (mCall m__law_leaf (mCons (mVar 0) (mNil)))) (mNext)) (mSeq (mSet 6 (mOp opIx (mVar 4) (mVar 5))) (mSeq (mSet 7 (mOp opIx (mVar 3) (mVar 6))) (mSeq (mIfS (mB (mOp opIn (mVar 6) (mTup (mCons (mC (.str "call")) (mCons (mC (.str "make")) (mCons (mC (.str "tuple")) (mNil))))))) (mAug 7 opAddI (mCall m__law_draw (mCons (mVar 0) (mCons (mIf (mB (mOp opEq (mCall m__law_draw (mCons (mVar 0) (mCons (mC (.int 8)) (mNil)))) (mC (.int 7)))) (mOp opSub (mC (.int 7)) (mVar 7)) (mC (.int 3))) (mNil))))) (mNext)) (infoS (kidS sa se))))))))) := rfl
  rw [hb]
  obtain ⟨h1, e1, a1⟩ := aug_rm (δ := [some (.ref n), some (.int dn), some (.ref r), none, none, none, none, none, none, none, none]) a er rfl
  generalize hPR : RetG Γ Γ P = PR
  rw [mSeq_eq, e1, SR.seq_next, mSeq_eq, mSet_eq, mCall_eq, mNil_eq, R.bnd_ok, counts_ok, R.st_ok, SR.seq_next]
  rw [mSeq_eq, mSet_eq, mCall_eq, mCons_eq, mVar_eq (show _ = some (some CT) from rfl), R.bnd_ok, mNil_eq, R.bnd_ok, R.bnd_ok, sorted_ok, R.st_ok, SR.seq_next]
  rw [mSeq_eq, TmS_seq, mSet_eq, TmS_st, mCall_eq, mCons_eq, mVar_eq (show _ = some (some (D.ref n)) from rfl), R.bnd_ok, mCons_eq, mC_eq, R.bnd_ok, mNil_eq, R.bnd_ok, R.bnd_ok, R.bnd_ok]
  refine draw_t a1 e (by omega) (by decide) fun v g v0 v1 ag => ?_
  rw [TmS_ok, SeqP_next]
  obtain ⟨L, hL⟩ : ∃ L : MS, L = [some (.ref n), some (.int dn), some (.ref r), some CT, some (.rol ((KS.mergeSort leS).map D.str)), some (.int v), none, none, none, none, none] := ⟨_, rfl⟩
  show TmS (mSeq _ _ [some (.ref n), some (.int dn), some (.ref r), some CT, some (.rol ((KS.mergeSort leS).map D.str)), some (.int v), none, none, none, none, none] g) _ _
  rw [← hL]
  have w0 : ∀ g, mVar 0 L g = .ok (.ref n) g := fun g => by rw [hL]; rfl
  have w1 : ∀ g, mVar 1 L g = .ok (.int dn) g := fun g => by rw [hL]; rfl
  have w2 : ∀ g, mVar 2 L g = .ok (.ref r) g := fun g => by rw [hL]; rfl
  have w4 : ∀ g, mVar 4 L g = .ok (.rol ((KS.mergeSort leS).map D.str)) g := fun g => by rw [hL]; rfl
  have w5 : ∀ g, mVar 5 L g = .ok (.int v) g := fun g => by rw [hL]; rfl
  have len : (KS.mergeSort leS).length = 27 := by rw [List.length_mergeSort]; rfl
  obtain ⟨i, ri⟩ := room_ix ag er
  obtain ⟨b, ec, hbf⟩ : ∃ b, mOr (mB (mOp opLt (mVar 1) (mC (.int 1)))) (mOr (mB (mOp opLt (mOp opIx (mVar 2) (mC (.int 0))) (mC (.int 1)))) (mB (mOp opGe (mVar 5) (mCall fLen (mCons (mVar 4) (mNil)))))) L g = .ok b g ∧ (b = false → 1 ≤ dn ∧ v < 27) := by
    by_cases z1 : (dn : Int) < 1
    · exact ⟨true, by simp [w1, z1], fun z => by cases z⟩
    · by_cases z2 : i < 1
      · exact ⟨true, by simp [w1, w2, z1, ri, z2], fun z => by cases z⟩
      · by_cases z3 : v ≥ 27
        · exact ⟨true, by simp [w1, w2, w4, w5, z1, ri, z2, len, z3], fun z => by cases z⟩
        · exact ⟨false, by simp [w1, w2, w4, w5, z1, ri, z2, len, z3], fun _ => ⟨by omega, by omega⟩⟩
  rw [mSeq_eq, mIfS_eq, ec, R.st_ok]
  cases b with
  | true =>
    rw [if_pos rfl, TmS_seq, mRet_eq, TmS_st, mCall_eq, mCons_eq, w0, R.bnd_ok, mNil_eq, R.bnd_ok, R.bnd_ok]
    refine leaf_t ag e fun op info k L' hk => ?_
    rw [TmS_ok, SeqP_ret]
    subst hPR
    have li : Lw info := by
      rcases L' with ⟨_, i, rfl, _⟩ | ⟨_, b, rfl⟩ | ⟨_, rfl⟩ | ⟨_, w, rfl, _⟩ <;> exact fun _ => rfl
    have lo : Lw (.tup [.str op, .int 0, info, .tup [], .tup []]) := fun m => by
      show (true && (true && (info.lows m && (true && (true && true))))) = true
      rw [li]; rfl
    exact RetG.mk0 lo hk fun k' hk' => p _ k' (.inl ⟨op, info, rfl, L'⟩) lo hk'
  | false =>
    obtain ⟨d1, v2⟩ := hbf rfl
    obtain ⟨j, rfl⟩ : ∃ j, dn = j + 1 := ⟨dn - 1, by omega⟩
    obtain ⟨S, A⟩ := hs j rfl
    rw [if_neg (by decide)]
    show TmS ((SR.ok (.next L) g).seq _) _ _
    rw [SR.seq_next]
    have hv : v.toNat < (KS.mergeSort leS).length := by omega
    obtain ⟨op, hop⟩ : ∃ op, op = (KS.mergeSort leS)[v.toNat] := ⟨_, rfl⟩
    have hm : op ∈ KS := by
      have : op ∈ KS.mergeSort leS := by rw [hop]; exact List.getElem_mem hv
      rwa [List.mem_mergeSort] at this
    obtain ⟨c, ecc, oc⟩ := opc hm
    have eo : opIx (.rol ((KS.mergeSort leS).map D.str)) (.int v) g = .ok (.str op) g := ixr (atI_ok v0 (by rw [List.getElem?_map, List.getElem?_eq_getElem hv, hop]; rfl))
    rw [mSeq_eq, mSet_eq, mOp_eq, w4, R.bnd_ok, w5, R.bnd_ok, eo, R.st_ok, SR.seq_next, hL]
    rw [mSeq_eq, mSet_eq, mOp_eq, mVar_eq (show _ = some (some CT) from rfl), R.bnd_ok, mVar_eq (show _ = some (some (D.str op)) from rfl), R.bnd_ok, ecc, R.st_ok, SR.seq_next]
    show TmS (mSeq _ _ (eL n r j v c op none none none) g) _ _
    have fin : ∀ (c' : Int) k, 0 ≤ c' → c' ≤ 6 → ((op = "case" ∨ op = "handle") → c' = 1) → HT Γ k → TmS (infoS (kidS sa se) (eL n r j v c' op none none none) k) PR NoX.s := fun c' k h0 h6 hc hk => by
      refine info_t oc hk e fun info g2 HO li hg => ?_
      subst hPR
      exact kid_t S A hg e er HO li h0 h6 hc p
    have aug : opIn (.str op) (.tup [.str "call", .str "make", .str "tuple"]) g = .ok (.bl true) g → (0 ≤ c ∧ c ≤ 2) → (¬ (op = "case" ∨ op = "handle")) → TmS (mSeq (mIfS (mB (mOp opIn (mVar 6) (mTup (mCons (mC (.str "call")) (mCons (mC (.str "make")) (mCons (mC (.str "tuple")) (mNil))))))) (mAug 7 opAddI (mCall m__law_draw (mCons (mVar 0) (mCons (mIf (mB (mOp opEq (mCall m__law_draw (mCons (mVar 0) (mCons (mC (.int 8)) (mNil)))) (mC (.int 7)))) (mOp opSub (mC (.int 7)) (mVar 7)) (mC (.int 3))) (mNil))))) (mNext)) (infoS (kidS sa se)) (eL n r j v c op none none none) g) PR NoX.s := fun ei hc2 hno => by
      have et : mB (mOp opIn (mVar 6) (mTup (mCons (mC (.str "call")) (mCons (mC (.str "make")) (mCons (mC (.str "tuple")) (mNil)))))) (eL n r j v c op none none none) g = .ok true g := by
        rw [mB_eq, mOp_eq, mVar_eq (show _ = some (some (D.str op)) from rfl), R.bnd_ok, mTup_eq]
        simp [ei]
      rw [mSeq_eq, mIfS_eq, et, R.st_ok, if_pos rfl, TmS_seq, mAug_eq (show _ = some (some (D.int c)) from rfl), TmS_st]
      refine cnt_t2 (A := 7 - c) (fun _ => rfl) (by omega) (by omega) ag e rfl fun u k u0 u1 hk => ?_
      rw [opAddI_int, R.st_ok, TmS_ok, SeqP_next]
      show TmS (infoS (kidS sa se) (eL n r j v (c + u) op none none none) k) _ _
      exact fin (c + u) k (by omega) (by omega) (fun z => absurd z hno) hk
    have noaug : opIn (.str op) (.tup [.str "call", .str "make", .str "tuple"]) g = .ok (.bl false) g → (0 ≤ c ∧ c ≤ 6) → ((op = "case" ∨ op = "handle") → c = 1) → TmS (mSeq (mIfS (mB (mOp opIn (mVar 6) (mTup (mCons (mC (.str "call")) (mCons (mC (.str "make")) (mCons (mC (.str "tuple")) (mNil))))))) (mAug 7 opAddI (mCall m__law_draw (mCons (mVar 0) (mCons (mIf (mB (mOp opEq (mCall m__law_draw (mCons (mVar 0) (mCons (mC (.int 8)) (mNil)))) (mC (.int 7)))) (mOp opSub (mC (.int 7)) (mVar 7)) (mC (.int 3))) (mNil))))) (mNext)) (infoS (kidS sa se)) (eL n r j v c op none none none) g) PR NoX.s := fun ei hc2 hc3 => by
      have et : mB (mOp opIn (mVar 6) (mTup (mCons (mC (.str "call")) (mCons (mC (.str "make")) (mCons (mC (.str "tuple")) (mNil)))))) (eL n r j v c op none none none) g = .ok false g := by
        rw [mB_eq, mOp_eq, mVar_eq (show _ = some (some (D.str op)) from rfl), R.bnd_ok, mTup_eq]
        simp [ei]
      rw [mSeq_eq, mIfS_eq, et, R.st_ok, if_neg (by decide)]
      show TmS ((SR.ok (.next (eL n r j v c op none none none)) g).seq _) _ _
      rw [SR.seq_next]
      exact fin c g hc2.1 hc2.2 hc3 ag
    have oc' := oc
    rcases oc' with ⟨ho, hc⟩ | ⟨ho, hc⟩ | ⟨ho, hc⟩ | ⟨ho, hc⟩ | ⟨ho, hc⟩ | ⟨ho, hc⟩ | ⟨hp, hnt, hc, hcc⟩
    · rcases ho with ho | ho
      · exact aug (by rw [ho]; rfl) (by omega) (by rw [ho]; decide)
      · exact aug (by rw [ho]; rfl) (by omega) (by rw [ho]; decide)
    · exact aug (by rw [ho]; rfl) (by omega) (by rw [ho]; decide)
    · exact noaug (by rw [ho]; rfl) (by omega) (fun z => absurd z (by rw [ho]; decide))
    · exact noaug (by rw [ho]; rfl) (by omega) (fun z => absurd z (by rw [ho]; decide))
    · exact noaug (by rw [ho]; rfl) (by omega) (fun z => absurd z (by rw [ho]; decide))
    · exact noaug (by rw [ho]; rfl) (by omega) (fun z => absurd z (by rw [ho]; decide))
    · refine noaug ?_ (by omega) hcc
      unfold plainOps at hp
      simp only [List.mem_cons, List.not_mem_nil, or_false] at hp
      rcases hp with z | hp
      · exact absurd z hnt
      · rcases hp with rfl | rfl | rfl | rfl | rfl | rfl | rfl | rfl | rfl | rfl | rfl | rfl | rfl | rfl | rfl | rfl | rfl | rfl | rfl | rfl <;> rfl
theorem expr_t (dn : Nat) : ∀ f, 2 * dn < f → ESelf (m__law_expr f) dn := by
  induction dn with
  | zero =>
    intro f hf
    obtain ⟨f, rfl⟩ : ∃ g, f = g + 1 := ⟨f - 1, by omega⟩
    exact expr_body fun j z => by omega
  | succ m ih =>
    intro f hf
    obtain ⟨f, rfl⟩ : ∃ g, f = g + 1 := ⟨f - 1, by omega⟩
    refine expr_body fun j z => ?_
    cases (show m = j by omega)
    refine ⟨ih f (by omega), ?_⟩
    obtain ⟨f, rfl⟩ : ∃ g, f = g + 1 := ⟨f - 1, by omega⟩
    exact arms_body (ih f (by omega))
end
end K05

namespace K05
open PySem PySem.Spec PyProof.Rows L2 MM
theorem ExOk.succ : ∀ {n : Nat} {d : D}, ExOk n d → ExOk (n + 1) d
  | 0, _, h => h.elim
  | n + 1, d, h => by
    unfold ExOk at h ⊢
    rcases h with h | ⟨op, info, ks, as, rfl, HO, hl, hk, ha⟩
    · exact .inl h
    · refine .inr ⟨op, info, ks, as, rfl, HO, hl, fun k hk' => (hk k hk').succ, fun a ha' => ?_⟩
      obtain ⟨nm, vs, b, e, x1, x2, x3, x4⟩ := ha a ha'
      exact ⟨nm, vs, b, e, x1, x2, x3, x4.succ⟩
theorem ExOk.mono {n m : Nat} {d : D} (h : ExOk n d) (l : n ≤ m) : ExOk m d := by
  induction l with
  | refl => exact h
  | step _ ih => exact ih.succ
def FnOk (d : D) : Prop := ∃ nm prs res body, d = .tup [dS nm, .int 0, .tup prs, res, body] ∧ Atm nm ∧ prs.length ≤ 3 ∧ (∀ p ∈ prs, ∃ w k, p = .tup [dS w, k] ∧ Atm w ∧ KOk 3 k) ∧ KOk 3 res ∧ ExOk 5 body
section
variable {Γ Δ : List Ty} {h h' k : MH} {n : Nat}
theorem set_d {i : Nat} {t : Ty} : (Γ ++ Δ).set (Γ.length + i) t = Γ ++ Δ.set i t := by
  rw [List.set_append_right _ _ (by omega)]
  simp
theorem get_d {i : Nat} {t : Ty} (e : Δ[i]? = some t) : (Γ ++ Δ)[Γ.length + i]? = some t := by
  rw [List.getElem?_append_right (by omega)]
  simpa using e
theorem fresh_d {P : D → MH → Prop} {E : XP} {great : Bool} {i m : Nat} (a : HT (Γ ++ Δ) h) (e : Γ[n]? = some .st) (ej : Δ[i]? = some (.ls NmP m)) (hm : m < 1000) (p : ∀ w k, Nm w → HT (Γ ++ Δ.set i (.ls NmP (m + 1))) k → P (dS w) k) : Tm (m__law_fresh [.ref n, .bl great, .ref (Γ.length + i)] h) P E :=
  fresh_t a (st_app e) (get_d ej) hm fun w k nw hk => p w k nw (by rwa [set_d] at hk)
theorem app_d {P : D → Prop} {i m : Nat} (a : HT (Γ ++ Δ) k) (ej : Δ[i]? = some (.ls P m)) (hm : m < 1000) {x : D} (px : P x) (lx : Lw x) : ∃ k', fAppend (.ref (Γ.length + i)) [x] k = .ok .non k' ∧ HT (Γ ++ Δ.set i (.ls P (m + 1))) k' := by
  obtain ⟨o, eo, ds, rfl, h1, h2⟩ := a.at' _ _ (get_d ej)
  refine ⟨_, app_ok eo (by omega), ?_⟩
  have := a.set (n := Γ.length + i) (t := .ls P (m + 1)) (o := .lst (ds ++ [x])) ⟨_, rfl, fun d hd => by
    rcases List.mem_append.mp hd with z | z
    · exact h1 d z
    · rw [List.mem_singleton.mp z]; exact ⟨px, lx⟩, by simp; omega⟩
  rwa [set_d] at this
theorem ty_d {P : D → Prop} {i m : Nat} (a : HT (Γ ++ Δ) k) (ej : Δ[i]? = some (.ls P m)) : isTy "list" (.ref (Γ.length + i)) k = true := by
  obtain ⟨o, eo, ds, rfl, h1, h2⟩ := a.at' _ _ (get_d ej)
  exact isTy_list eo
theorem seq_d {P : D → Prop} {i m : Nat} (a : HT (Γ ++ Δ) k) (ej : Δ[i]? = some (.ls P m)) : ∃ ds, seqG (.ref (Γ.length + i)) k = some ds ∧ (∀ d ∈ ds, P d ∧ Lw d) ∧ ds.length ≤ m := by
  obtain ⟨o, eo, ds, rfl, h1, h2⟩ := a.at' _ _ (get_d ej)
  exact ⟨ds, lst?_of eo, h1, h2⟩
theorem new_d (P : D → Prop) (a : HT (Γ ++ Δ) k) : HT (Γ ++ (Δ ++ [.ls P 0])) (k ++ [.lst []]) := by
  rw [← List.append_assoc]
  exact a.app ⟨[], rfl, (fun _ z => nomatch z), Nat.le_refl _⟩
theorem len_d (a : HT (Γ ++ Δ) k) : k.length = Γ.length + Δ.length := by rw [a.len, List.length_append]
theorem get_set {i j : Nat} {t u : Ty} (e : Δ[j]? = some u) (hij : i ≠ j) : (Δ.set i t)[j]? = some u := by rw [List.getElem?_set_ne hij]; exact e
theorem get_self {i : Nat} {t u : Ty} (e : Δ[i]? = some u) : (Δ.set i t)[i]? = some t := List.getElem?_set_self (List.getElem?_eq_some_iff.mp e).1
theorem lt_d {i : Nat} {t : Ty} (e : Δ[i]? = some t) : i < Δ.length := (List.getElem?_eq_some_iff.mp e).1
theorem get_app {i : Nat} {t : Ty} {Δ2 : List Ty} (e : Δ[i]? = some t) : (Δ ++ Δ2)[i]? = some t := by rw [List.getElem?_append_left (lt_d e)]; exact e
/-- kinds drawn in a comprehension -/
theorem kinds_t {G : List Ty} {δ : MS} {P : D → MH → Prop} {E : XP} {vi N : Nat} {src : MI} (a : HT G h) (e : G[n]? = some .st) (hN : N ≤ 100)
    (ts : Tm (src δ h) (fun S h1 => ∃ xs' : List D, S = ⟨xs', fun _ => True⟩ ∧ (0 ≤ xs'.length ∧ xs'.length ≤ ((List.range N).map fun (i : Nat) => D.int i).length) ∧ (∀ x ∈ xs', x ∈ (List.range N).map fun (i : Nat) => D.int i) ∧ HT G h1) E)
    {elt : ME} (el : ∀ x g (acc : List D), HT (G ++ [.any (.lst acc)]) g → ∀ Q : D → MH → Prop, (∀ d k, KOk 3 d → HT (G ++ [.any (.lst acc)]) k → Q d k) → Tm (elt (List.set (wipeM δ [vi]) vi (some x)) g) Q NoX)
    (p : ∀ acc k, acc.length ≤ N → (∀ y ∈ acc, KOk 3 y ∧ Lw y) → HT G k → P (.rol acc) k) : Tm (mLc src (mgName vi) mYes elt [vi] δ h) P E := by
  refine gen_lc (Γf := fun _ => G) (KOk 3) 0 (fun _ => rfl) (fun _ => Sb.refl _) ((List.range N).map fun (i : Nat) => D.int i) (by simp; omega) ts (fun x hx => ⟨_, rfl, fun acc g hl ag => ?_⟩) fun acc k hl hq hk => p acc k (by simpa using hl.2) hq hk
  exact el x g acc ag _ fun d k hd hk => ⟨⟨hd, fun m => hd.lows m⟩, hk⟩
theorem wipe_ne {δ : MS} {i j : Nat} (hij : j ≠ i) : (wipeM δ [i])[j]? = δ[j]? := by
  show (List.set δ i none)[j]? = _
  exact List.getElem?_set_ne (Ne.symm hij)
/-- a constructor's row -/
theorem row_t {m c q : Nat} (a : HT (Γ ++ Δ) h) (e : Γ[n]? = some .st) (eR : Δ[q]? = some (.ls RowOk m)) (e1 : Δ[1]? = some (.ls NmP c)) (hR : q ≠ 1) (hm : m < 1000) (hc : c < 1000) {δ : MS} (v0 : δ[0]? = some (some (.ref n))) (v2 : δ[2]? = some (some (.ref (Γ.length + 1)))) (v7 : δ[7]? = some (some (.ref (Γ.length + q)))) (hlen : 17 < δ.length) {J : MS → MH → Prop}
    (fin : ∀ y k, HT (Γ ++ (Δ.set 1 (.ls NmP (c + 1))).set q (.ls RowOk (m + 1))) k → J (δ.set 9 (some y)) k) : TmS (b__law_tree_1 δ h) (Nx J) NoX.s := by
  unfold b__law_tree_1
  generalize hNJ : Nx J = NJ
  have w0 : ∀ g, mVar 0 δ g = .ok (.ref n) g := fun _ => mVar_eq v0
  rw [mSeq_eq, TmS_seq, mSet_eq, TmS_st, mCall_eq, Tm_bnd, mCons_eq, Tm_bnd]
  refine kinds_t (N := 6) a (st_app e) (by omega) ?_ (fun x g acc ag Q hQ => ?_) fun acc g hl hq ag => ?_
  · rw [mCallI_eq, Tm_bnd, mCons_eq, Tm_bnd]
    refine cnt_t (by omega) (by omega) a (st_app e) v0 fun v k v0' v1' hk => ?_
    simp only [R.bnd_ok, Tm_ok, mNil_eq]
    exact range_lc v0' (by omega) hk (by omega)
  · have s0 : (List.set (wipeM δ [17]) 17 (some x))[0]? = some (some (.ref n)) := by
      rw [List.getElem?_set_ne (by omega)]
      exact (wipe_ne (by omega)).trans v0
    rw [mCall_eq, mCons_eq, mVar_eq s0, R.bnd_ok, mCons_eq, mC_eq, R.bnd_ok, mNil_eq, R.bnd_ok, R.bnd_ok, R.bnd_ok]
    have kt : KSelf (m__law_kind 8) 2 := kind_t 2 8 (by decide)
    exact kt ag (st_app (st_app e)) hQ
  · simp only [mNil_eq, R.bnd_ok, Tm_ok, fTuple_eq (show seqG (.rol acc) g = some acc from rfl), TmS_ok, SeqP_next]
    have l9 : 9 < δ.length := by omega
    have u0 : ∀ g, mVar 0 (δ.set 9 (some (.tup acc))) g = .ok (.ref n) g := fun _ => mVar_eq (by rw [List.getElem?_set_ne (by omega)]; exact v0)
    have u2 : ∀ g, mVar 2 (δ.set 9 (some (.tup acc))) g = .ok (.ref (Γ.length + 1)) g := fun _ => mVar_eq (by rw [List.getElem?_set_ne (by omega)]; exact v2)
    have u7 : ∀ g, mVar 7 (δ.set 9 (some (.tup acc))) g = .ok (.ref (Γ.length + q)) g := fun _ => mVar_eq (by rw [List.getElem?_set_ne (by omega)]; exact v7)
    have u9 : ∀ g, mVar 9 (δ.set 9 (some (.tup acc))) g = .ok (.tup acc) g := fun _ => mVar_eq (List.getElem?_set_self l9)
    rw [mDrop_eq, mMtd_eq, u7, R.bnd_ok, if_pos (ty_d ag eR), TmS_st, Tm_bnd, mCons_eq, Tm_bnd, mTup_eq, Tm_bnd, mCons_eq, Tm_bnd, mCall_eq, mCons_eq, u0, R.bnd_ok, mCons_eq, mC_eq, R.bnd_ok, mCons_eq, u2, R.bnd_ok, mNil_eq, R.bnd_ok, R.bnd_ok, R.bnd_ok, R.bnd_ok]
    refine fresh_d ag e e1 hc fun w k nw hk => ?_
    simp only [mCons_eq, u9, R.bnd_ok, Tm_ok, Tm_bnd, mNil_eq, List.length_cons, List.length_nil]
    rw [if_pos (by decide)]
    obtain ⟨k2, ap, hk2⟩ := app_d hk (get_set eR (Ne.symm hR)) hm (x := .tup [dS w, .tup acc]) ⟨w, acc, rfl, nw.atm, hl, fun y hy => (hq y hy).1⟩ (fun m => by
      show (true && (lowsL m acc && true)) = true
      rw [lows_all fun x hx => (hq x hx).2 m]; rfl)
    simp only [R.bnd_ok, Tm_ok, mNil_eq, ap]
    rw [TmS_ok]
    subst hNJ
    rw [Nx_next]
    exact fin _ _ hk2
end
end K05

namespace K05
open PySem PySem.Spec PyProof.Rows L2 MM
structure Kp (g n : Nat) (δ : MS) : Prop where
  len : δ.length = 19
  s0 : δ[0]? = some (some (.ref n))
  s1 : δ[1]? = some (some (.ref (g + 0)))
  s2 : δ[2]? = some (some (.ref (g + 1)))
  s3 : δ[3]? = some (some (.ref (g + 2)))
  s4 : δ[4]? = some (some (.ref (g + 3)))
theorem Kp.set {g n i : Nat} {δ : MS} (K : Kp g n δ) (hi : 5 ≤ i) (x : Option D) : Kp g n (δ.set i x) :=
  ⟨by rw [List.length_set]; exact K.len, by rw [List.getElem?_set_ne (by omega)]; exact K.s0, by rw [List.getElem?_set_ne (by omega)]; exact K.s1, by rw [List.getElem?_set_ne (by omega)]; exact K.s2, by rw [List.getElem?_set_ne (by omega)]; exact K.s3, by rw [List.getElem?_set_ne (by omega)]; exact K.s4⟩
/-- what the tree's lists hold meanwhile -/
structure Tl (Δ : List Ty) (s c m d : Nat) : Prop where
  t0 : Δ[0]? = some (.ls NmP s)
  t1 : Δ[1]? = some (.ls NmP c)
  t2 : Δ[2]? = some (.ls NmP m)
  t3 : Δ[3]? = some (.ls DataOk d)
section
variable {Γ Δ : List Ty} {h h' k : MH} {n : Nat}
theorem data_t {s c m d : Nat} (T : Tl Δ s c m d) (hs : s < 500 ∧ c < 500 ∧ d < 500) (a : HT (Γ ++ Δ) h) (e : Γ[n]? = some .st) {δ : MS} (K : Kp Γ.length n δ) {J : MS → MH → Prop}
    (fin : ∀ δ' Δ' k c', Kp Γ.length n δ' → HT (Γ ++ Δ') k → c' ≤ c + 8 → Tl Δ' (s + 1) c' m (d + 1) → J δ' k) : TmS (b__law_tree_2 δ h) (Nx J) NoX.s := by
  unfold b__law_tree_2
  generalize hNJ : Nx J = NJ
  rw [mSeq_eq, TmS_seq, mSet_eq, TmS_st, mCall_eq, mCons_eq, mVar_eq K.s0, R.bnd_ok, mCons_eq, mC_eq, R.bnd_ok, mCons_eq, mVar_eq K.s1, R.bnd_ok, mNil_eq, R.bnd_ok, R.bnd_ok, R.bnd_ok, R.bnd_ok]
  refine fresh_d a e T.t0 (by omega) fun w k nw hk => ?_
  rw [TmS_ok, SeqP_next]
  obtain ⟨Δ1, hΔ1⟩ : ∃ Δ1, Δ1 = Δ.set 0 (.ls NmP (s + 1)) := ⟨_, rfl⟩
  rw [← hΔ1] at hk
  have T1 : Tl Δ1 (s + 1) c m d := by rw [hΔ1]; exact ⟨get_self T.t0, get_set T.t1 (by omega), get_set T.t2 (by omega), get_set T.t3 (by omega)⟩
  have K1 := K.set (i := 6) (by omega) (some (dS w))
  obtain ⟨δ1, hδ1⟩ : ∃ δ1, δ1 = δ.set 6 (some (dS w)) := ⟨_, rfl⟩
  have s6 : δ1[6]? = some (some (dS w)) := by rw [hδ1]; exact List.getElem?_set_self (by rw [K.len]; omega)
  rw [← hδ1] at K1 ⊢
  have e2 : mSet 7 (mLstN mNil) δ1 k = .ok (.next (δ1.set 7 (some (.ref (Γ.length + Δ1.length))))) (k ++ [.lst []]) := by
    rw [mSet_eq, mLstN_eq, mNil_eq, R.bnd_ok, if_pos (by simp), R.st_ok, len_d hk]
  rw [mSeq_eq, e2, SR.seq_next]
  have hk2 := new_d RowOk hk
  have K2 := K1.set (i := 7) (by omega) (some (.ref (Γ.length + Δ1.length)))
  obtain ⟨δ2, hδ2⟩ : ∃ δ2, δ2 = δ1.set 7 (some (.ref (Γ.length + Δ1.length))) := ⟨_, rfl⟩
  have z6 : δ2[6]? = some (some (dS w)) := by rw [hδ2, List.getElem?_set_ne (by omega)]; exact s6
  have z7 : δ2[7]? = some (some (.ref (Γ.length + Δ1.length))) := by rw [hδ2]; exact List.getElem?_set_self (by rw [K1.len]; omega)
  rw [← hδ2] at K2 ⊢
  obtain ⟨q, hq⟩ : ∃ q, q = Δ1.length := ⟨_, rfl⟩
  have q4 : 4 ≤ q := by have := lt_d T1.t3; omega
  rw [← hq] at z7
  have T2 : Tl (Δ1 ++ [.ls RowOk 0]) (s + 1) c m d := ⟨get_app T1.t0, get_app T1.t1, get_app T1.t2, get_app T1.t3⟩
  have tq : (Δ1 ++ [Ty.ls RowOk 0])[q]? = some (.ls RowOk 0) := by rw [hq]; simp
  generalize Δ1 ++ [Ty.ls RowOk 0] = Δ2 at hk2 T2 tq
  rw [mSeq_eq, TmS_seq, mFor_eq, TmS_st, mCallI_eq, Tm_bnd, mCons_eq, Tm_bnd, mOp_eq, mC_eq, R.bnd_ok, Tm_bnd]
  refine cnt_t (by omega) (by omega) hk2 (st_app e) K2.s0 fun v g v0 v1 hg => ?_
  simp only [opAddS_int, R.bnd_ok, Tm_ok, mNil_eq]
  rw [range_for (by omega) (by omega), Tm_ok]
  obtain ⟨I, hI⟩ : ∃ I : List D → MS → MH → Prop, I = fun rr δ k => ∃ Δ' c' r', Kp Γ.length n δ ∧ δ[6]? = some (some (dS w)) ∧ δ[7]? = some (some (.ref (Γ.length + q))) ∧ HT (Γ ++ Δ') k ∧ Tl Δ' (s + 1) c' m d ∧ Δ'[q]? = some (.ls RowOk r') ∧ c' + rr.length ≤ c + 8 ∧ r' + rr.length ≤ 8 := ⟨_, rfl⟩
  refine TmS_forN I (fun _ _ _ _ => trivial) ?_ ?_ (by rw [hI]; exact ⟨Δ2, c, 0, K2, z6, z7, hg, T2, tq, by simp; omega, by simp; omega⟩)
  · intro x rr δ k i
    rw [hI] at i
    obtain ⟨Δ', c', r', Kd, d6, d7, hk', T', tq', hc, hr⟩ := i
    refine ⟨δ.set 8 (some x), rfl, ?_⟩
    have K8 := Kd.set (i := 8) (by omega) (some x)
    refine row_t hk' e tq' T'.t1 (by omega) (by simp at hr; omega) (by simp at hc; omega) K8.s0 K8.s2 (by rw [List.getElem?_set_ne (by omega)]; exact d7) (by rw [K8.len]; omega) fun y k2 hk2 => ?_
    rw [hI]
    refine ⟨_, c' + 1, r' + 1, K8.set (by omega) _, by rw [List.getElem?_set_ne (by omega), List.getElem?_set_ne (by omega)]; exact d6, by rw [List.getElem?_set_ne (by omega), List.getElem?_set_ne (by omega)]; exact d7, hk2, ?_, get_self (get_set tq' (by omega)), by simp at hc; omega, by simp at hr; omega⟩
    exact ⟨get_set (get_set T'.t0 (by omega)) (by omega), get_set (get_self T'.t1) (by omega), get_set (get_set T'.t2 (by omega)) (by omega), get_set (get_set T'.t3 (by omega)) (by omega)⟩
  · intro δ k i
    rw [hI] at i
    obtain ⟨Δ', c', r', Kd, d6, d7, hk', T', tq', hc, hr⟩ := i
    rw [SeqP_next]
    obtain ⟨ds, es, hds, hdl⟩ := seq_d hk' tq'
    obtain ⟨k2, ap, hk2⟩ := app_d hk' T'.t3 (by omega) (x := .tup [dS w, .tup ds]) ⟨w, ds, rfl, nw.atm, by simp at hr; omega, fun r hr' => (hds r hr').1⟩ (fun m => by
      show (true && (lowsL m ds && true)) = true
      rw [lows_all fun x hx => (hds x hx).2 m]; rfl)
    rw [mDrop_eq, mMtd_eq, mVar_eq Kd.s4, R.bnd_ok, if_pos (ty_d hk' T'.t3), mCons_eq, mTup_eq, mCons_eq, mVar_eq d6, R.bnd_ok, mCons_eq, mCall_eq, mCons_eq, mVar_eq d7, R.bnd_ok, mNil_eq, R.bnd_ok, R.bnd_ok, fTuple_eq es, R.bnd_ok]
    simp only [mNil_eq, R.bnd_ok, List.length_cons, List.length_nil]
    rw [if_pos (by decide)]
    simp only [R.bnd_ok, mNil_eq, ap, R.st_ok]
    rw [TmS_ok]
    subst hNJ
    rw [Nx_next]
    exact fin _ _ _ c' Kd hk2 (by simp at hc; omega) ⟨get_set T'.t0 (by omega), get_set T'.t1 (by omega), get_set T'.t2 (by omega), get_self T'.t3⟩
end
end K05

namespace K05
open PySem PySem.Spec PyProof.Rows L2 MM
abbrev intK : D := .tup [.str "int", .tup [], .int 0]
theorem intK_ok : KOk 3 intK := .inl ⟨"int", rfl, .inl rfl⟩
section
variable {Γ Δ : List Ty} {h h' k : MH} {n : Nat}
theorem kc_t {G : List Ty} {δ : MS} {g : MH} {i mm : Int} {P : D → MH → Prop} {E : XP} (a : HT G g) (e : G[n]? = some .st) (v0 : δ[0]? = some (some (.ref n))) (v5 : δ[5]? = some (some (.int i))) (v12 : δ[12]? = some (some (.int mm))) (p : ∀ d k, KOk 3 d → HT G k → P d k) :
    Tm (mIf (mB (mOp opEq (mVar 5) (mVar 12))) (mTup (mCons (mC (.str "int")) (mCons (mTup (mNil)) (mCons (mC (.int 0)) (mNil))))) (mCall (m__law_kind 8) (mCons (mVar 0) (mCons (mC (.int 2)) (mNil)))) δ g) P E := by
  show Tm ((mB (mOp opEq (mVar 5) (mVar 12)) δ g).bnd fun c h1 => if c then mTup (mCons (mC (.str "int")) (mCons (mTup (mNil)) (mCons (mC (.int 0)) (mNil)))) δ h1 else mCall (m__law_kind 8) (mCons (mVar 0) (mCons (mC (.int 2)) (mNil))) δ h1) _ _
  have et : mB (mOp opEq (mVar 5) (mVar 12)) δ g = .ok (decide (i = mm)) g := by
    rw [mB_eq, mOp_eq, mVar_eq v5, R.bnd_ok, mVar_eq v12, R.bnd_ok, opEq_int]; rfl
  rw [et, R.bnd_ok]
  by_cases z : i = mm
  · rw [if_pos (by simp [z])]
    have : mTup (mCons (mC (.str "int")) (mCons (mTup (mNil)) (mCons (mC (.int 0)) (mNil)))) δ g = .ok intK g := by simp
    rw [this, Tm_ok]
    exact p _ _ intK_ok a
  · rw [if_neg (by simp [z]), mCall_eq, mCons_eq, mVar_eq v0, R.bnd_ok, mCons_eq, mC_eq, R.bnd_ok, mNil_eq, R.bnd_ok, R.bnd_ok, R.bnd_ok]
    have kt : KSelf (m__law_kind 8) 2 := kind_t 2 8 (by decide)
    exact kt a e p
def PrOk (y : D) : Prop := ∃ w k, y = .tup [dS w, k] ∧ Nm w ∧ KOk 3 k
theorem func_t {s c m d q f : Nat} (T : Tl Δ s c m d) (tq : Δ[q]? = some (.ls FnOk f)) (hq : 4 ≤ q) (hs : m < 500 ∧ f < 500) (a : HT (Γ ++ Δ) h) (e : Γ[n]? = some .st) {δ : MS} (K : Kp Γ.length n δ) {i mm : Int} (s5 : δ[5]? = some (some (.int i))) (s11 : δ[11]? = some (some (.ref (Γ.length + q)))) (s12 : δ[12]? = some (some (.int mm))) {v10 : D} (s10 : δ[10]? = some (some v10)) {p10 : Nat} {ty : Ty} (tp : Δ[p10]? = some ty) (hp : p10 ≠ 2 ∧ p10 ≠ q) {J : MS → MH → Prop}
    (fin : ∀ δ' Δ' k m', Kp Γ.length n δ' → δ'[11]? = some (some (.ref (Γ.length + q))) → δ'[12]? = some (some (.int mm)) → HT (Γ ++ Δ') k → m' ≤ m + 1 → Tl Δ' s c m' d → Δ'[q]? = some (.ls FnOk (f + 1)) → δ'[10]? = some (some v10) → Δ'[p10]? = some ty → J δ' k) : TmS (b__law_tree_4 δ h) (Nx J) NoX.s := by
  unfold b__law_tree_4
  generalize hNJ : Nx J = NJ
  obtain ⟨t, ht⟩ : ∃ t, t = Δ.length := ⟨_, rfl⟩
  have e1 : mSet 13 (mLstN mNil) δ h = .ok (.next (δ.set 13 (some (.ref (Γ.length + t))))) (h ++ [.lst []]) := by
    rw [mSet_eq, mLstN_eq, mNil_eq, R.bnd_ok, if_pos (by simp), R.st_ok, len_d a, ht]
  have a1 := new_d NmP a
  have T1 : Tl (Δ ++ [.ls NmP 0]) s c m d := ⟨get_app T.t0, get_app T.t1, get_app T.t2, get_app T.t3⟩
  have tq1 : (Δ ++ [Ty.ls NmP 0])[q]? = some (.ls FnOk f) := get_app tq
  have tt1 : (Δ ++ [Ty.ls NmP 0])[t]? = some (.ls NmP 0) := by rw [ht]; simp
  have qt : q < t := by rw [ht]; exact lt_d tq
  have tp1 : (Δ ++ [Ty.ls NmP 0])[p10]? = some ty := get_app tp
  have pt : p10 < t := by rw [ht]; exact lt_d tp
  generalize Δ ++ [Ty.ls NmP 0] = Δ1 at a1 T1 tq1 tt1 tp1
  generalize h ++ [MO.lst []] = h1 at e1 a1
  have e2 : mSet 6 (mC (.str "main")) (δ.set 13 (some (.ref (Γ.length + t)))) h1 = .ok (.next ((δ.set 13 (some (.ref (Γ.length + t)))).set 6 (some (dS (tl "main"))))) h1 := by
    rw [mSet_eq, mC_eq, R.st_ok, dS_tl]
  rw [mSeq_eq, e1, SR.seq_next, mSeq_eq, e2, SR.seq_next]
  have K1 := (K.set (i := 13) (by omega) (some (.ref (Γ.length + t)))).set (i := 6) (by omega) (some (dS (tl "main")))
  have ln := K.len
  have x5 : ((δ.set 13 (some (.ref (Γ.length + t)))).set 6 (some (dS (tl "main"))))[5]? = some (some (.int i)) := by rw [List.getElem?_set_ne (by omega), List.getElem?_set_ne (by omega)]; exact s5
  have x11 : ((δ.set 13 (some (.ref (Γ.length + t)))).set 6 (some (dS (tl "main"))))[11]? = some (some (.ref (Γ.length + q))) := by rw [List.getElem?_set_ne (by omega), List.getElem?_set_ne (by omega)]; exact s11
  have x12 : ((δ.set 13 (some (.ref (Γ.length + t)))).set 6 (some (dS (tl "main"))))[12]? = some (some (.int mm)) := by rw [List.getElem?_set_ne (by omega), List.getElem?_set_ne (by omega)]; exact s12
  have x10 : ((δ.set 13 (some (.ref (Γ.length + t)))).set 6 (some (dS (tl "main"))))[10]? = some (some v10) := by rw [List.getElem?_set_ne (by omega), List.getElem?_set_ne (by omega)]; exact s10
  have x13 : ((δ.set 13 (some (.ref (Γ.length + t)))).set 6 (some (dS (tl "main"))))[13]? = some (some (.ref (Γ.length + t))) := by rw [List.getElem?_set_ne (by omega)]; exact List.getElem?_set_self (by omega)
  have x6 : ((δ.set 13 (some (.ref (Γ.length + t)))).set 6 (some (dS (tl "main"))))[6]? = some (some (dS (tl "main"))) := List.getElem?_set_self (by rw [List.length_set]; omega)
  generalize (δ.set 13 (some (.ref (Γ.length + t)))).set 6 (some (dS (tl "main"))) = δ1 at K1 x5 x11 x12 x13 x6 x10
  -- what follows the name
  have rest : ∀ (w : Wd) (δ1 : MS) (Δ1 : List Ty) (g : MH) (m' : Nat), Nm w → Kp Γ.length n δ1 → δ1[5]? = some (some (.int i)) → δ1[11]? = some (some (.ref (Γ.length + q))) → δ1[12]? = some (some (.int mm)) → δ1[13]? = some (some (.ref (Γ.length + t))) → δ1[6]? = some (some (dS w)) → HT (Γ ++ Δ1) g → Tl Δ1 s c m' d → Δ1[q]? = some (.ls FnOk f) → Δ1[t]? = some (.ls NmP 0) → m' ≤ m + 1 → δ1[10]? = some (some v10) → Δ1[p10]? = some ty →
      TmS (mSeq (mSet 14 (mLc (mCallI fRange1 (mCons (mCall m__law_draw (mCons (mVar 0) (mCons (mC (.int 4)) (mNil)))) (mNil))) (mgName 8) (mYes) (mIf (mB (mOp opEq (mVar 5) (mVar 12))) (mTup (mCons (mC (.str "int")) (mCons (mTup (mNil)) (mCons (mC (.int 0)) (mNil))))) (mCall (m__law_kind 8) (mCons (mVar 0) (mCons (mC (.int 2)) (mNil))))) [8])) (mSeq (mSet 15 (mCall fTuple (mCons (mLc (mSrc (mVar 14)) (mgName 18) (mYes) (mTup (mCons (mCall m__law_fresh (mCons (mVar 0) (mCons (mC (.bl false)) (mCons (mVar 13) (mNil))))) (mCons (mVar 18) (mNil)))) [18]) (mNil)))) (mSeq (mSet 16 (mIf (mB (mOp opEq (mVar 5) (mVar 12))) (mTup (mCons (mC (.str "int")) (mCons (mTup (mNil)) (mCons (mC (.int 0)) (mNil))))) (mCall (m__law_kind 8) (mCons (mVar 0) (mCons (mC (.int 2)) (mNil)))))) (mDrop (mMtd "list" fAppend (mVar 11) (mCons (mTup (mCons (mVar 6) (mCons (mC (.int 0)) (mCons (mVar 15) (mCons (mVar 16) (mCons (mCall (m__law_expr 12) (mCons (mVar 0) (mCons (mOp opAddS (mC (.int 1)) (mCall m__law_draw (mCons (mVar 0) (mCons (mC (.int 4)) (mNil))))) (mCons (mLstN (mCons (mC (.int 40)) (mNil))) (mNil))))) (mNil))))))) (mNil)))))) δ1 g) NJ NoX.s := by
    intro w δ1 Δ1 g m' nw K1 x5 x11 x12 x13 x6 a1 T1 tq1 tt1 hm' x10 tp1
    rw [mSeq_eq, TmS_seq, mSet_eq, TmS_st]
    refine kinds_t (N := 3) a1 (st_app e) (by omega) ?_ (fun x g acc ag Q hQ => ?_) fun acc g hl hqk ag => ?_
    · rw [mCallI_eq, Tm_bnd, mCons_eq, mCall_eq, mCons_eq, mVar_eq K1.s0, R.bnd_ok, mCons_eq, mC_eq, R.bnd_ok, mNil_eq, R.bnd_ok, R.bnd_ok, R.bnd_ok, Tm_bnd]
      refine draw_t a1 (st_app e) (by omega) (by decide) fun v k v0' v1' hk => ?_
      simp only [mNil_eq, R.bnd_ok, Tm_ok]
      exact range_lc v0' (by omega) hk (by omega)
    · refine kc_t (i := i) (mm := mm) ag (st_app (st_app e)) ?_ ?_ ?_ hQ
      · rw [List.getElem?_set_ne (by omega)]; exact (wipe_ne (by omega)).trans K1.s0
      · rw [List.getElem?_set_ne (by omega)]; exact (wipe_ne (by omega)).trans x5
      · rw [List.getElem?_set_ne (by omega)]; exact (wipe_ne (by omega)).trans x12
    · rw [TmS_ok, SeqP_next]
      have ln := K1.len
      have K2 := K1.set (i := 14) (by omega) (some (.rol acc))
      have y5 : (δ1.set 14 (some (.rol acc)))[5]? = some (some (.int i)) := by rw [List.getElem?_set_ne (by omega)]; exact x5
      have y6 : (δ1.set 14 (some (.rol acc)))[6]? = some (some (dS w)) := by rw [List.getElem?_set_ne (by omega)]; exact x6
      have y11 : (δ1.set 14 (some (.rol acc)))[11]? = some (some (.ref (Γ.length + q))) := by rw [List.getElem?_set_ne (by omega)]; exact x11
      have y12 : (δ1.set 14 (some (.rol acc)))[12]? = some (some (.int mm)) := by rw [List.getElem?_set_ne (by omega)]; exact x12
      have y10 : (δ1.set 14 (some (.rol acc)))[10]? = some (some v10) := by rw [List.getElem?_set_ne (by omega)]; exact x10
      have y13 : (δ1.set 14 (some (.rol acc)))[13]? = some (some (.ref (Γ.length + t))) := by rw [List.getElem?_set_ne (by omega)]; exact x13
      have y14 : (δ1.set 14 (some (.rol acc)))[14]? = some (some (.rol acc)) := List.getElem?_set_self (by omega)
      generalize δ1.set 14 (some (.rol acc)) = δ2 at K2 y5 y6 y11 y12 y13 y14 y10
      rw [mSeq_eq, TmS_seq, mSet_eq, TmS_st, mCall_eq, Tm_bnd, mCons_eq, Tm_bnd]
      have same : Δ1.set t (.ls NmP 0) = Δ1 := by
        obtain ⟨hn, e2⟩ := List.getElem?_eq_some_iff.mp tt1
        rw [← e2, List.set_getElem_self]
      refine gen_lc (Γf := fun i => Γ ++ Δ1.set t (.ls NmP i)) PrOk 0 (fun _ => by simp) (fun i => ?_) acc (by omega) ?_ ?_ ?_
      · have := (Sb.refl (Γ ++ Δ1.set t (.ls NmP 0))).set (n := Γ.length + t) (P := NmP) (k := i)
        rwa [set_d, List.set_set] at this
      · rw [mSrc_eq, mVar_eq y14, R.bnd_ok, srcOf_rol, Tm_ok]
        exact ⟨acc, rfl, ⟨Nat.zero_le _, Nat.le_refl _⟩, fun x hx => hx, by rw [same]; exact ag⟩
      · intro x hx
        refine ⟨_, rfl, fun acc2 g2 hl2 ag2 => ?_⟩
        have z0 : (List.set (wipeM δ2 [18]) 18 (some x))[0]? = some (some (.ref n)) := by rw [List.getElem?_set_ne (by omega)]; exact (wipe_ne (by omega)).trans K2.s0
        have z13 : (List.set (wipeM δ2 [18]) 18 (some x))[13]? = some (some (.ref (Γ.length + t))) := by rw [List.getElem?_set_ne (by omega)]; exact (wipe_ne (by omega)).trans y13
        have z18 : (List.set (wipeM δ2 [18]) 18 (some x))[18]? = some (some x) := List.getElem?_set_self (by show 18 < (List.set δ2 18 none).length; rw [List.length_set, K2.len]; omega)
        have tl' : t < Δ1.length := lt_d tt1
        rw [mTup_eq, Tm_bnd, mCons_eq, Tm_bnd, mCall_eq, mCons_eq, mVar_eq z0, R.bnd_ok, mCons_eq, mC_eq, R.bnd_ok, mCons_eq, mVar_eq z13, R.bnd_ok, mNil_eq, R.bnd_ok, R.bnd_ok, R.bnd_ok, R.bnd_ok]
        rw [List.append_assoc] at ag2
        refine fresh_d (m := acc2.length) ag2 e (get_app (get_self tt1)) hl2 fun u k nu hk => ?_
        rw [List.set_append_left _ _ (by rw [List.length_set]; exact tl'), List.set_set] at hk
        simp only [mCons_eq, mVar_eq z18, R.bnd_ok, Tm_ok, Tm_bnd, mNil_eq, List.length_cons, List.length_nil]
        rw [if_pos (by decide), Tm_ok, List.append_assoc]
        exact ⟨⟨⟨u, x, rfl, nu, (hqk x hx).1⟩, fun m => by show (true && (x.lows m && true)) = true; rw [(hqk x hx).2]; rfl⟩, hk⟩
      · intro prs g2 hl2 hpr ag2
        simp only [mNil_eq, R.bnd_ok, Tm_ok, fTuple_eq (show seqG (.rol prs) g2 = some prs from rfl), TmS_ok, SeqP_next]
        have T2 : Tl (Δ1.set t (.ls NmP prs.length)) s c m' d := ⟨get_set T1.t0 (by omega), get_set T1.t1 (by omega), get_set T1.t2 (by omega), get_set T1.t3 (by omega)⟩
        have tq2 : (Δ1.set t (.ls NmP prs.length))[q]? = some (.ls FnOk f) := get_set tq1 (by omega)
        have tp2 : (Δ1.set t (.ls NmP prs.length))[p10]? = some ty := get_set tp1 (by omega)
        generalize Δ1.set t (.ls NmP prs.length) = Δ2 at ag2 T2 tq2 tp2
        have ln2 := K2.len
        have K3 := K2.set (i := 15) (by omega) (some (.tup prs))
        have r5 : (δ2.set 15 (some (.tup prs)))[5]? = some (some (.int i)) := by rw [List.getElem?_set_ne (by omega)]; exact y5
        have r6 : (δ2.set 15 (some (.tup prs)))[6]? = some (some (dS w)) := by rw [List.getElem?_set_ne (by omega)]; exact y6
        have r11 : (δ2.set 15 (some (.tup prs)))[11]? = some (some (.ref (Γ.length + q))) := by rw [List.getElem?_set_ne (by omega)]; exact y11
        have r12 : (δ2.set 15 (some (.tup prs)))[12]? = some (some (.int mm)) := by rw [List.getElem?_set_ne (by omega)]; exact y12
        have r10 : (δ2.set 15 (some (.tup prs)))[10]? = some (some v10) := by rw [List.getElem?_set_ne (by omega)]; exact y10
        have r15 : (δ2.set 15 (some (.tup prs)))[15]? = some (some (.tup prs)) := List.getElem?_set_self (by omega)
        generalize δ2.set 15 (some (.tup prs)) = δ3 at K3 r5 r6 r11 r12 r15 r10
        rw [mSeq_eq, TmS_seq, mSet_eq, TmS_st]
        refine kc_t ag2 (st_app e) K3.s0 r5 r12 fun res g3 kr ag3 => ?_
        rw [TmS_ok, SeqP_next]
        have ln3 := K3.len
        have K4 := K3.set (i := 16) (by omega) (some res)
        have q6 : (δ3.set 16 (some res))[6]? = some (some (dS w)) := by rw [List.getElem?_set_ne (by omega)]; exact r6
        have q11 : (δ3.set 16 (some res))[11]? = some (some (.ref (Γ.length + q))) := by rw [List.getElem?_set_ne (by omega)]; exact r11
        have q12 : (δ3.set 16 (some res))[12]? = some (some (.int mm)) := by rw [List.getElem?_set_ne (by omega)]; exact r12
        have q10 : (δ3.set 16 (some res))[10]? = some (some v10) := by rw [List.getElem?_set_ne (by omega)]; exact r10
        have q15 : (δ3.set 16 (some res))[15]? = some (some (.tup prs)) := by rw [List.getElem?_set_ne (by omega)]; exact r15
        have q16 : (δ3.set 16 (some res))[16]? = some (some res) := List.getElem?_set_self (by omega)
        generalize δ3.set 16 (some res) = δ4 at K4 q6 q11 q12 q15 q16 q10
        rw [mDrop_eq, mMtd_eq, mVar_eq q11, R.bnd_ok, if_pos (ty_d ag3 tq2), TmS_st, Tm_bnd, mCons_eq, Tm_bnd, mTup_eq, Tm_bnd, mCons_eq, mVar_eq q6, R.bnd_ok, mCons_eq, mC_eq, R.bnd_ok, mCons_eq, mVar_eq q15, R.bnd_ok, mCons_eq, mVar_eq q16, R.bnd_ok, mCons_eq]
        simp only [Tm_bnd]
        rw [mCall_eq, mCons_eq, mVar_eq K4.s0, R.bnd_ok, mCons_eq, mOp_eq, mC_eq, R.bnd_ok, mCall_eq, mCons_eq, mVar_eq K4.s0, R.bnd_ok, mCons_eq, mC_eq, R.bnd_ok, mNil_eq, R.bnd_ok, R.bnd_ok, R.bnd_ok]
        simp only [Tm_bnd]
        refine draw_t ag3 (st_app e) (by omega) (by decide) fun u g4 u0 u1 ag4 => ?_
        obtain ⟨dn, hdn⟩ : ∃ dn : Nat, 1 + u = dn := ⟨(1 + u).toNat, by omega⟩
        have rm1 : HT ((Γ ++ Δ2) ++ [.rm]) (g4 ++ [.lst [.int 40]]) := ag4.app ⟨40, rfl⟩
        have el : mCons (mLstN (mCons (mC (.int 40)) mNil)) mNil δ4 g4 = .ok [.ref (Γ ++ Δ2).length] (g4 ++ [.lst [.int 40]]) := by
          simp [ag4.len]
        simp only [opAddS_int, Tm_ok, hdn, el]
        have et : ESelf (m__law_expr 12) dn := expr_t dn 12 (by omega)
        refine et rm1 (st_app (st_app e)) (by simp) fun body g5 hbd lb ag5 => ?_
        simp only [mNil_eq, R.bnd_ok, Tm_ok, List.length_cons, List.length_nil]
        rw [if_pos (by decide)]
        simp only [R.bnd_ok, Tm_ok, mNil_eq]
        rw [List.append_assoc] at ag5
        obtain ⟨g6, ap, hg6⟩ := app_d ag5 (get_app tq2) (by omega) (x := .tup [dS w, .int 0, .tup prs, res, body]) ⟨w, prs, res, body, rfl, nw.atm, by omega, fun y hy => by
          obtain ⟨u, k, rfl, nu, hk⟩ := (hpr y hy).1
          exact ⟨u, k, rfl, nu.atm, hk⟩, kr, hbd.mono (by omega)⟩ (fun m => by
          show (true && (true && (lowsL m prs && (res.lows m && (body.lows m && true))))) = true
          rw [lows_all fun x hx => (hpr x hx).2 m, kr.lows m, lb]; rfl)
        refine .of ap ?_
        rw [TmS_ok]
        subst hNJ
        rw [Nx_next]
        exact fin _ _ _ m' K4 q11 q12 hg6 hm' ⟨get_set (get_app T2.t0) (by omega), get_set (get_app T2.t1) (by omega), get_set (get_app T2.t2) (by omega), get_set (get_app T2.t3) (by omega)⟩ (get_self (get_app tq2)) q10 (get_set (get_app tp2) (by omega))
  have nmain : Nm (tl "main") := ⟨109, tl "ain", by decide, by decide, by decide, by decide⟩
  rw [mSeq_eq, TmS_seq, mIfS_eq, mB_eq, mOp_eq, mVar_eq x5, R.bnd_ok, mVar_eq x12, R.bnd_ok]
  by_cases z : i < mm
  · have ec : opLt (.int i) (.int mm) h1 = .ok (.bl true) h1 := by simp [z]
    rw [ec, R.bnd_ok, show isB (.bl true) h1 = .ok true h1 from rfl, R.st_ok, if_pos rfl, mSet_eq, TmS_st, mCall_eq, mCons_eq, mVar_eq K1.s0, R.bnd_ok, mCons_eq, mC_eq, R.bnd_ok, mCons_eq, mVar_eq K1.s3, R.bnd_ok, mNil_eq, R.bnd_ok, R.bnd_ok, R.bnd_ok, R.bnd_ok]
    refine fresh_d a1 e T1.t2 (by omega) fun w k nw hk => ?_
    rw [TmS_ok, SeqP_next]
    have ln1 := K1.len
    exact rest w _ _ k (m + 1) nw (K1.set (by omega) _) (by rw [List.getElem?_set_ne (by omega)]; exact x5) (by rw [List.getElem?_set_ne (by omega)]; exact x11) (by rw [List.getElem?_set_ne (by omega)]; exact x12) (by rw [List.getElem?_set_ne (by omega)]; exact x13) (List.getElem?_set_self (by omega)) hk
      ⟨get_set T1.t0 (by omega), get_set T1.t1 (by omega), get_self T1.t2, get_set T1.t3 (by omega)⟩ (get_set tq1 (by omega)) (get_set tt1 (by omega)) (Nat.le_refl _) (by rw [List.getElem?_set_ne (by omega)]; exact x10) (get_set tp1 (by omega))
  · have ec : opLt (.int i) (.int mm) h1 = .ok (.bl false) h1 := by simp [z]
    rw [ec, R.bnd_ok, show isB (.bl false) h1 = .ok false h1 from rfl, R.st_ok, if_neg (by decide)]
    show TmS (SR.ok (.next δ1) h1) _ _
    rw [TmS_ok, SeqP_next]
    exact rest _ _ _ h1 m nmain K1 x5 x11 x12 x13 x6 a1 T1 tq1 tt1 (by omega) x10 tp1
end
end K05

namespace K05
open PySem PySem.Spec PyProof.Rows L2 MM
def TreeOk (t : D) : Prop := ∃ ds es fs, t = treeD ds es fs ∧ (ds.length ≤ 10 ∧ es.length ≤ 10 ∧ fs.length ≤ 3) ∧ (∀ d ∈ ds, DataOk d ∧ Lw d) ∧ (∀ d ∈ es, NmP d ∧ Lw d) ∧ ∀ d ∈ fs, FnOk d ∧ Lw d
section
variable {Γ Δ : List Ty} {h h' k : MH} {n : Nat}
theorem tree_t {P : D → MH → Prop} {E : XP} (a : HT Γ h) (e : Γ[n]? = some .st) (p : ∀ t k, TreeOk t → HT Γ k → P t k) : Tm (m__law_tree [.ref n] h) P E := by
  unfold m__law_tree
  refine gen_fn rfl a (Γ2 := Γ) ?_
  show TmS _ (RetG Γ Γ P) _
  generalize hPR : RetG Γ Γ P = PR
  have st : mStart 19 [D.ref n] = [some (.ref n), none, none, none, none, none, none, none, none, none, none, none, none, none, none, none, none, none, none] := rfl
  rw [st]
  unfold b__law_tree
  have a0 : HT (Γ ++ []) h := by rw [List.append_nil]; exact a
  have l0 := len_d a0
  have e1 : mSet 1 (mLstN mNil) [some (.ref n), none, none, none, none, none, none, none, none, none, none, none, none, none, none, none, none, none, none] h = .ok (.next [some (.ref n), some (.ref (Γ.length + 0)), none, none, none, none, none, none, none, none, none, none, none, none, none, none, none, none, none]) (h ++ [.lst []]) := by
    rw [mSet_eq, mLstN_eq, mNil_eq, R.bnd_ok, if_pos (by simp), R.st_ok, l0]; rfl
  have a1 := new_d NmP a0
  have l1 := len_d a1
  have e2 : mSet 2 (mLstN mNil) [some (.ref n), some (.ref (Γ.length + 0)), none, none, none, none, none, none, none, none, none, none, none, none, none, none, none, none, none] (h ++ [.lst []]) = .ok (.next [some (.ref n), some (.ref (Γ.length + 0)), some (.ref (Γ.length + 1)), none, none, none, none, none, none, none, none, none, none, none, none, none, none, none, none]) (h ++ [.lst []] ++ [.lst []]) := by
    rw [mSet_eq, mLstN_eq, mNil_eq, R.bnd_ok, if_pos (by simp), R.st_ok, l1]; rfl
  have a2 := new_d NmP a1
  have l2 := len_d a2
  have e3 : mSet 3 (mLstN (mCons (mC (.str "main")) mNil)) [some (.ref n), some (.ref (Γ.length + 0)), some (.ref (Γ.length + 1)), none, none, none, none, none, none, none, none, none, none, none, none, none, none, none, none] (h ++ [.lst []] ++ [.lst []]) = .ok (.next [some (.ref n), some (.ref (Γ.length + 0)), some (.ref (Γ.length + 1)), some (.ref (Γ.length + 2)), none, none, none, none, none, none, none, none, none, none, none, none, none, none, none]) (h ++ [.lst []] ++ [.lst []] ++ [.lst [dS (tl "main")]]) := by
    rw [mSet_eq, mLstN_eq, mCons_eq, mC_eq, R.bnd_ok, mNil_eq, R.bnd_ok, R.bnd_ok, if_pos (by simp), R.st_ok, l2, dS_tl]; rfl
  have nmain : Nm (tl "main") := ⟨109, tl "ain", by decide, by decide, by decide, by decide⟩
  have a3 : HT (Γ ++ ([.ls NmP 0, .ls NmP 0] ++ [.ls NmP 1])) (h ++ [.lst []] ++ [.lst []] ++ [.lst [dS (tl "main")]]) := by
    rw [← List.append_assoc]
    exact HT.app a2 ⟨[dS (tl "main")], rfl, fun d hd => by rw [List.mem_singleton.mp hd]; exact ⟨⟨_, rfl, nmain⟩, fun _ => rfl⟩, by simp⟩
  have l3 := len_d a3
  have e4 : mSet 4 (mLstN mNil) [some (.ref n), some (.ref (Γ.length + 0)), some (.ref (Γ.length + 1)), some (.ref (Γ.length + 2)), none, none, none, none, none, none, none, none, none, none, none, none, none, none, none] (h ++ [.lst []] ++ [.lst []] ++ [.lst [dS (tl "main")]]) = .ok (.next [some (.ref n), some (.ref (Γ.length + 0)), some (.ref (Γ.length + 1)), some (.ref (Γ.length + 2)), some (.ref (Γ.length + 3)), none, none, none, none, none, none, none, none, none, none, none, none, none, none]) (h ++ [.lst []] ++ [.lst []] ++ [.lst [dS (tl "main")]] ++ [.lst []]) := by
    rw [mSet_eq, mLstN_eq, mNil_eq, R.bnd_ok, if_pos (by simp), R.st_ok, l3]; rfl
  have a4 := new_d DataOk a3
  rw [mSeq_eq, e1, SR.seq_next, mSeq_eq, e2, SR.seq_next, mSeq_eq, e3, SR.seq_next, mSeq_eq, e4, SR.seq_next]
  have K0 : Kp Γ.length n [some (.ref n), some (.ref (Γ.length + 0)), some (.ref (Γ.length + 1)), some (.ref (Γ.length + 2)), some (.ref (Γ.length + 3)), none, none, none, none, none, none, none, none, none, none, none, none, none, none] := ⟨rfl, rfl, rfl, rfl, rfl, rfl⟩
  have T0 : Tl ([.ls NmP 0, .ls NmP 0] ++ [.ls NmP 1] ++ [.ls DataOk 0]) 0 0 1 0 := ⟨rfl, rfl, rfl, rfl⟩
  replace a4 : HT (Γ ++ ([.ls NmP 0, .ls NmP 0] ++ [.ls NmP 1] ++ [.ls DataOk 0])) (h ++ [.lst []] ++ [.lst []] ++ [.lst [dS (tl "main")]] ++ [.lst []]) := a4
  generalize ([Ty.ls NmP 0, .ls NmP 0] ++ [.ls NmP 1] ++ [.ls DataOk 0] : List Ty) = Δ0 at a4 T0
  generalize h ++ [MO.lst []] ++ [.lst []] ++ [.lst [dS (tl "main")]] ++ [.lst []] = h4 at a4
  generalize ([some (.ref n), some (.ref (Γ.length + 0)), some (.ref (Γ.length + 1)), some (.ref (Γ.length + 2)), some (.ref (Γ.length + 3)), none, none, none, none, none, none, none, none, none, none, none, none, none, none] : MS) = δ0 at K0
  have dr : ∀ (δ : MS) (c : Int) g (P : D → MH → Prop) (E : XP) (Δ : List Ty), Kp Γ.length n δ → HT (Γ ++ Δ) g → 0 < c ∧ c ≤ 1000 → (∀ v k, 0 ≤ v → v < c → HT (Γ ++ Δ) k → P (.int v) k) → Tm (mCall m__law_draw (mCons (mVar 0) (mCons (mC (.int c)) mNil)) δ g) P E := fun δ c g P E Δ K ag hc q => by
    rw [mCall_eq, mCons_eq, mVar_eq K.s0, R.bnd_ok, mCons_eq, mC_eq, R.bnd_ok, mNil_eq, R.bnd_ok, R.bnd_ok, R.bnd_ok]
    exact draw_t ag (st_app e) hc.1 (by omega) q
  -- data declarations
  rw [mSeq_eq, TmS_seq, mFor_eq, TmS_st, mCallI_eq, Tm_bnd, mCons_eq, Tm_bnd]
  refine dr _ _ _ _ _ _ K0 a4 (by omega) fun v g v0 v1 hg => ?_
  simp only [R.bnd_ok, Tm_ok, mNil_eq]
  rw [range_for v0 (by omega), Tm_ok]
  obtain ⟨I, hI⟩ : ∃ I : List D → MS → MH → Prop, I = fun rr δ k => ∃ Δ' s c d, Kp Γ.length n δ ∧ HT (Γ ++ Δ') k ∧ Tl Δ' s c 1 d ∧ s + rr.length ≤ 2 ∧ c + 8 * rr.length ≤ 16 ∧ d + rr.length ≤ 2 := ⟨_, rfl⟩
  refine TmS_forN I (fun _ _ _ _ => trivial) ?_ ?_ (by rw [hI]; exact ⟨Δ0, 0, 0, 0, K0, hg, T0, by simp; omega, by simp; omega, by simp; omega⟩)
  · intro x rr δ k i
    rw [hI] at i
    obtain ⟨Δ', s, c, d, K, hk, T, h1, h2, h3⟩ := i
    refine ⟨δ.set 5 (some x), rfl, ?_⟩
    simp at h1 h2 h3
    refine data_t T (by omega) hk e (K.set (by omega) _) fun δ' Δ'' k' c' K' hk' hc' T' => ?_
    rw [hI]
    exact ⟨Δ'', s + 1, c', d + 1, K', hk', T', by omega, by omega, by omega⟩
  intro δ k i
  rw [hI] at i
  obtain ⟨Δ1, s, c, d, K1, hk, T1, h1, h2, h3⟩ := i
  rw [SeqP_next]
  clear hI I
  -- exceptions
  have e10 : mSet 10 (mLstN mNil) δ k = .ok (.next (δ.set 10 (some (.ref (Γ.length + Δ1.length))))) (k ++ [.lst []]) := by
    rw [mSet_eq, mLstN_eq, mNil_eq, R.bnd_ok, if_pos (by simp), R.st_ok, len_d hk]
  rw [mSeq_eq, e10, SR.seq_next]
  have hk2 := new_d NmP hk
  have ln1 := K1.len
  have K2 := K1.set (i := 10) (by omega) (some (.ref (Γ.length + Δ1.length)))
  have s10 : (δ.set 10 (some (.ref (Γ.length + Δ1.length))))[10]? = some (some (.ref (Γ.length + Δ1.length))) := List.getElem?_set_self (by omega)
  obtain ⟨p10, hp10⟩ : ∃ p10, p10 = Δ1.length := ⟨_, rfl⟩
  have p4 : 4 ≤ p10 := by have := lt_d T1.t3; omega
  have T2 : Tl (Δ1 ++ [.ls NmP 0]) s c 1 d := ⟨get_app T1.t0, get_app T1.t1, get_app T1.t2, get_app T1.t3⟩
  have tp : (Δ1 ++ [Ty.ls NmP 0])[p10]? = some (.ls NmP 0) := by rw [hp10]; simp
  rw [← hp10] at s10
  rw [← hp10] at K2
  rw [← hp10]
  generalize Δ1 ++ [Ty.ls NmP 0] = Δ2 at hk2 T2 tp
  generalize δ.set 10 (some (.ref (Γ.length + p10))) = δ2 at K2 s10
  generalize k ++ [MO.lst []] = k2 at hk2
  rw [mSeq_eq, TmS_seq, mFor_eq, TmS_st, mCallI_eq, Tm_bnd, mCons_eq, Tm_bnd]
  refine dr _ _ _ _ _ _ K2 hk2 (by omega) fun v g v0 v1 hg => ?_
  simp only [R.bnd_ok, Tm_ok, mNil_eq]
  rw [range_for v0 (by omega), Tm_ok]
  obtain ⟨I, hI⟩ : ∃ I : List D → MS → MH → Prop, I = fun rr δ k => ∃ Δ' x, Kp Γ.length n δ ∧ δ[10]? = some (some (.ref (Γ.length + p10))) ∧ HT (Γ ++ Δ') k ∧ Tl Δ' s c 1 d ∧ Δ'[p10]? = some (.ls NmP x) ∧ x + rr.length ≤ 2 := ⟨_, rfl⟩
  refine TmS_forN I (fun _ _ _ _ => trivial) ?_ ?_ (by rw [hI]; exact ⟨Δ2, 0, K2, s10, hg, T2, tp, by simp; omega⟩)
  · intro x rr δ k i
    rw [hI] at i
    obtain ⟨Δ', xx, K, s10, hk, T, tp, hx⟩ := i
    refine ⟨δ.set 5 (some x), rfl, ?_⟩
    simp at hx
    have K5 := K.set (i := 5) (by omega) (some x)
    have z10 : (δ.set 5 (some x))[10]? = some (some (.ref (Γ.length + p10))) := by rw [List.getElem?_set_ne (by omega)]; exact s10
    unfold b__law_tree_3
    rw [mDrop_eq, mCall_eq, mCons_eq, mVar_eq K5.s0, R.bnd_ok, mCons_eq, mC_eq, R.bnd_ok, mCons_eq, mVar_eq z10, R.bnd_ok, mNil_eq, R.bnd_ok, R.bnd_ok, R.bnd_ok, R.bnd_ok, TmS_st]
    refine fresh_d hk e tp (by omega) fun w k' nw hk' => ?_
    rw [TmS_ok, Nx_next, hI]
    exact ⟨_, xx + 1, K5, z10, hk', ⟨get_set T.t0 (by omega), get_set T.t1 (by omega), get_set T.t2 (by omega), get_set T.t3 (by omega)⟩, get_self tp, by omega⟩
  intro δ k i
  rw [hI] at i
  obtain ⟨Δ3, xx, K3, s10, hk, T3, tp, hx⟩ := i
  rw [SeqP_next]
  clear hI I
  simp at hx
  -- functions
  have e11 : mSet 11 (mLstN mNil) δ k = .ok (.next (δ.set 11 (some (.ref (Γ.length + Δ3.length))))) (k ++ [.lst []]) := by
    rw [mSet_eq, mLstN_eq, mNil_eq, R.bnd_ok, if_pos (by simp), R.st_ok, len_d hk]
  rw [mSeq_eq, e11, SR.seq_next]
  have hk2 := new_d FnOk hk
  have ln3 := K3.len
  have K4 := K3.set (i := 11) (by omega) (some (.ref (Γ.length + Δ3.length)))
  have s11 : (δ.set 11 (some (.ref (Γ.length + Δ3.length))))[11]? = some (some (.ref (Γ.length + Δ3.length))) := List.getElem?_set_self (by omega)
  have z10 : (δ.set 11 (some (.ref (Γ.length + Δ3.length))))[10]? = some (some (.ref (Γ.length + p10))) := by rw [List.getElem?_set_ne (by omega)]; exact s10
  obtain ⟨q, hq⟩ : ∃ q, q = Δ3.length := ⟨_, rfl⟩
  have pq : p10 < q := by rw [hq]; exact lt_d tp
  have T4 : Tl (Δ3 ++ [.ls FnOk 0]) s c 1 d := ⟨get_app T3.t0, get_app T3.t1, get_app T3.t2, get_app T3.t3⟩
  have tp4 : (Δ3 ++ [Ty.ls FnOk 0])[p10]? = some (.ls NmP xx) := get_app tp
  have tq : (Δ3 ++ [Ty.ls FnOk 0])[q]? = some (.ls FnOk 0) := by rw [hq]; simp
  rw [← hq] at s11 z10 K4
  rw [← hq]
  generalize Δ3 ++ [Ty.ls FnOk 0] = Δ4 at hk2 T4 tp4 tq
  generalize δ.set 11 (some (.ref (Γ.length + q))) = δ4 at K4 s11 z10
  generalize k ++ [MO.lst []] = k4 at hk2
  rw [mSeq_eq, TmS_seq, mSet_eq, TmS_st]
  refine dr _ _ _ _ _ _ K4 hk2 (by omega) fun mm g m0 m1 hg => ?_
  rw [TmS_ok, SeqP_next]
  have ln4 := K4.len
  have K5 := K4.set (i := 12) (by omega) (some (.int mm))
  have y10 : (δ4.set 12 (some (.int mm)))[10]? = some (some (.ref (Γ.length + p10))) := by rw [List.getElem?_set_ne (by omega)]; exact z10
  have y11 : (δ4.set 12 (some (.int mm)))[11]? = some (some (.ref (Γ.length + q))) := by rw [List.getElem?_set_ne (by omega)]; exact s11
  have y12 : (δ4.set 12 (some (.int mm)))[12]? = some (some (.int mm)) := List.getElem?_set_self (by omega)
  generalize δ4.set 12 (some (.int mm)) = δ5 at K5 y10 y11 y12
  rw [mSeq_eq, TmS_seq, mFor_eq, mCallI_eq, mCons_eq, mOp_eq, mVar_eq y12, R.bnd_ok, mC_eq, R.bnd_ok, opAddS_int, R.bnd_ok, mNil_eq, R.bnd_ok, R.bnd_ok, range_for (by omega) (by omega), R.st_ok]
  obtain ⟨I, hI⟩ : ∃ I : List D → MS → MH → Prop, I = fun rr δ k => ∃ Δ' m' f, Kp Γ.length n δ ∧ δ[10]? = some (some (.ref (Γ.length + p10))) ∧ δ[11]? = some (some (.ref (Γ.length + q))) ∧ δ[12]? = some (some (.int mm)) ∧ HT (Γ ++ Δ') k ∧ Tl Δ' s c m' d ∧ Δ'[p10]? = some (.ls NmP xx) ∧ Δ'[q]? = some (.ls FnOk f) ∧ m' + rr.length ≤ 4 ∧ f + rr.length ≤ 3 ∧ ∀ x ∈ rr, ∃ i : Int, x = .int i := ⟨_, rfl⟩
  refine TmS_forN I (fun _ _ _ _ => trivial) ?_ ?_ (by
    rw [hI]
    refine ⟨Δ4, 1, 0, K5, y10, y11, y12, hg, T4, tp4, tq, by simp; omega, by simp; omega, fun x hx => ?_⟩
    obtain ⟨i, _, rfl⟩ := List.mem_map.mp hx
    exact ⟨i, rfl⟩)
  · intro x rr δ k i
    rw [hI] at i
    obtain ⟨Δ', m', f, K, s10, s11, s12, hk, T, tp, tq, hm, hf, hi⟩ := i
    obtain ⟨i, rfl⟩ := hi x (by simp)
    refine ⟨δ.set 5 (some (.int i)), rfl, ?_⟩
    simp at hm hf
    have ln := K.len
    refine func_t T tq (by omega) (by omega) hk e (K.set (by omega) _) (i := i) (List.getElem?_set_self (by omega)) (by rw [List.getElem?_set_ne (by omega)]; exact s11) (by rw [List.getElem?_set_ne (by omega)]; exact s12) (by rw [List.getElem?_set_ne (by omega)]; exact s10) tp (by omega) fun δ' Δ'' k' m'' K' d11 d12 hk' hm' T' tq' d10 tp' => ?_
    rw [hI]
    exact ⟨Δ'', m'', f + 1, K', d10, d11, d12, hk', T', tp', tq', by omega, by omega, fun y hy => hi y (by simp [hy])⟩
  intro δ k i
  rw [hI] at i
  obtain ⟨Δ5, m', f, K, s10, s11, s12, hk, T, tp, tq, hm, hf, hi⟩ := i
  rw [SeqP_next]
  simp at hm hf h1 h2 h3
  obtain ⟨ds, qs, hds, dl⟩ := seq_d hk T.t3
  obtain ⟨es, qe, hes, el⟩ := seq_d hk tp
  obtain ⟨fs, qf, hfs, fl⟩ := seq_d hk tq
  rw [mRet_eq, mTup_eq, mCons_eq, mCall_eq, mCons_eq, mVar_eq K.s4, R.bnd_ok, mNil_eq, R.bnd_ok, R.bnd_ok, fTuple_eq qs, R.bnd_ok, mCons_eq, mOp_eq]
  have ef : mTup (mCons (mC (.str "Div")) (mCons (mC (.str "Index")) (mCons (mC (.str "Size")) mNil))) δ k = .ok (.tup [.str "Div", .str "Index", .str "Size"]) k := by simp
  rw [ef, R.bnd_ok, mCall_eq, mCons_eq, mVar_eq s10, R.bnd_ok, mNil_eq, R.bnd_ok, R.bnd_ok, fTuple_eq qe, R.bnd_ok, opAddS_tup (by simp; omega), R.bnd_ok, mCons_eq, mCall_eq, mCons_eq, mVar_eq s11, R.bnd_ok, mNil_eq, R.bnd_ok, R.bnd_ok, fTuple_eq qf, R.bnd_ok]
  simp only [mNil_eq, R.bnd_ok, List.length_cons, List.length_nil]
  rw [if_pos (by decide), R.st_ok, TmS_ok]
  subst hPR
  refine ⟨treeD ds es fs, Δ5, rfl, tree_lows (fun x hx => (hds x hx).2) (fun x hx => (hes x hx).2) (fun x hx => (hfs x hx).2), hk, rfl, Sb.refl _, fun k' hk' => p _ _ ⟨ds, es, fs, rfl, ⟨by omega, by omega, by omega⟩, hds, hes, hfs⟩ hk'⟩
end
end K05

namespace K05
open PySem PySem.Spec PyProof.Rows L2 MM
theorem row_rr {r : D} (h : RowOk r) : ∃ p, RR r p := by
  obtain ⟨cn, ks, rfl, a, l, hk⟩ := h
  obtain ⟨kps, pk⟩ := pair_ex (R := KSp 3) ks fun k hk' => kind_spec 3 k (hk k hk')
  exact ⟨_, cn, ks, kps, ⟨rfl, a, l, pk⟩, rfl⟩
theorem data_rel {d : D} (h : DataOk d) : ∃ p, DRel d p := by
  obtain ⟨nm, rows, rfl, a, l, hr⟩ := h
  obtain ⟨rps, pr⟩ := pair_ex (R := RR) rows fun r hr' => row_rr (hr r hr')
  refine ⟨_, _, rfl, data_sp a l pr fun x hx m => ?_⟩
  obtain ⟨cn, ks, rfl, _, _, hk⟩ := hr x hx
  show (true && (lowsL m ks && true)) = true
  rw [lows_all fun y hy => (hk y hy).lows m]; rfl
theorem fn_rel {d : D} (h : FnOk d) : ∃ p, FRel d p ∧ p.1.length ≤ 1773000 := by
  obtain ⟨nm, prs, res, body, rfl, a, l, hp, kr, eb⟩ := h
  obtain ⟨pps, pp⟩ := pair_ex (R := PR) prs fun y hy => by
    obtain ⟨w, k, rfl, aw, kk⟩ := hp y hy
    obtain ⟨kp, sk⟩ := kind_spec 3 k kk
    exact ⟨_, w, k, kp, rfl, aw, sk, fun m => kk.lows m, rfl⟩
  obtain ⟨rp, sr⟩ := kind_spec 3 res kr
  obtain ⟨bp, se⟩ := expr_spec 5 body eb
  refine ⟨_, ⟨nm, prs, pps, res, rp, bp, body, rfl, ⟨a, l, pp, sr, se.pc⟩, se, fun m => kr.lows m, rfl⟩, ?_⟩
  show (formW (flat (fnP nm pps rp bp))).length ≤ _
  rw [flat_fn]
  have h1 := flat_le (B := 132) pps (pair_all (fun _ _ s => PR.sz s) pp)
  have h2 := pp.length
  have h3 : rp.1.length ≤ 129 := sr.sz
  have h4 : bp.1.length ≤ 1771440 := se.sz
  have h5 : 132 * pps.length ≤ 132 * 3 := Nat.mul_le_mul_left _ (by omega)
  unfold formW
  simp
  omega
theorem pair_ex2 {R : D → PP → Prop} {B : Nat} : ∀ (ks : List D), (∀ k ∈ ks, ∃ p, R k p ∧ p.1.length ≤ B) → ∃ ps, Paired R ks ps ∧ (flat ps).length ≤ B * ks.length
  | [], _ => ⟨[], .nil, Nat.zero_le _⟩
  | k :: r, h => by
    obtain ⟨p, hp, hl⟩ := h k (by simp)
    obtain ⟨ps, hps, hl2⟩ := pair_ex2 r fun x hx => h x (by simp [hx])
    refine ⟨p :: ps, .cons hp hps, ?_⟩
    rw [flat_cons, List.length_append, List.length_cons, Nat.mul_succ]; omega
theorem run_len : ∀ (ws : List Wd) (st : CS), (run ws st).1.length ≤ st.1.length + wt ws
  | [], st => Nat.le_refl _
  | w :: r, st => by
    have := run_len r (stp st w)
    have := stp_len st w
    show (run r (stp st w)).1.length ≤ _
    rw [wt_cons]; omega
def sl (ws : List Wd) : Nat := (ws.map (·.length)).sum
theorem wt_sl : ∀ {ws : List Wd}, (∀ w ∈ ws, w ≠ []) → wt ws ≤ 2 * sl ws
  | [], _ => Nat.le_refl _
  | w :: r, h => by
    have h1 := h w (by simp)
    have h2 : 0 < w.length := List.length_pos_iff.mpr h1
    have ih := wt_sl (ws := r) fun x hx => h x (by simp [hx])
    have : sl (w :: r) = w.length + sl r := by simp [sl]
    rw [wt_cons]; omega
theorem sum_cast : ∀ ws : List Wd, (ws.map fun w => (w.length : Int)).sum = (sl ws : Int)
  | [] => rfl
  | w :: r => by
    have : sl (w :: r) = w.length + sl r := by simp [sl]
    rw [List.map_cons, List.sum_cons, sum_cast r, this]; omega
theorem flat_mem {P : List PP} (h : ∀ p ∈ P, Tp p) : ∀ w ∈ flat P, w ≠ [] ∧ w.length ≤ 1000 := fun w hw => by
  obtain ⟨p, hp, hw'⟩ := List.mem_flatMap.mp hw
  obtain ⟨ps, all, rfl⟩ := h p hp
  exact (Pc.form all).ne w hw'
theorem lens_lc {h : MH} {n : Nat} {ws : List Wd} (e : h[n]? = some (.lst (dSs ws))) (hw : ∀ w ∈ ws, w.length ≤ 1000) (hz : ws.length < 16777216) {δ : MS} (v3 : δ[3]? = some (some (.ref n))) (hl : δ.length = 8) :
    mLc (mSrc (mVar 3)) (mgName 7) (mYes) (mCall fLen (mCons (mVar 7) (mNil))) [7] δ h = .ok (.rol ((ws.map fun w => (w.length : Int)).map D.int)) h := by
  have el : lst? h n = some (dSs ws) := lst?_of e
  have es : mSrc (mVar 3) δ h = .ok ⟨dSs ws, fun h' => lstD (.ref n) h' = some (dSs ws)⟩ h := by
    rw [mSrc_eq, mVar_eq v3, R.bnd_ok]
    unfold srcOf srcG
    simp only [lstD_ref, el]
    rfl
  have := mLc_map (src := mSrc (mVar 3)) (tgt := mgName 7) (elt := mCall fLen (mCons (mVar 7) mNil)) (vs := [7]) (δ := δ) (fun d => match d with | .str s => .int s.length | d => .non) es (fun k => by
    show lstD (.ref n) (h ++ k) = _
    rw [lstD_ref]
    exact lst?_of (by rw [List.getElem?_append_left (List.getElem?_eq_some_iff.mp e).1]; exact e)) (by simpa using hz) (fun x hx => by
    obtain ⟨w, hw', rfl⟩ := List.mem_map.mp hx
    refine ⟨_, rfl, fun k => ?_⟩
    have z7 : (List.set (wipeM δ [7]) 7 (some (dS w)))[7]? = some (some (dS w)) := List.getElem?_set_self (by show 7 < (List.set δ 7 none).length; rw [List.length_set]; omega)
    rw [mCall_eq, mCons_eq, mVar_eq z7, R.bnd_ok, mNil_eq, R.bnd_ok, R.bnd_ok, fLen_str (by rw [tx_len]; have := hw w hw'; omega)]) (fun x hx => by
    obtain ⟨w, _, rfl⟩ := List.mem_map.mp hx
    rfl)
  rw [this]
  simp only [List.map_map]
  congr 2
end K05

namespace K05
open PySem PySem.Spec PyProof.Rows L2 MM
theorem law_true (ns : List Int) (hl : ns.length ≤ 63) : ∃ h', m_law [.rol (ns.map D.int)] [] = .ok (.bl true) h' := by
  have t : Tm (m_law [.rol (ns.map D.int)] []) (fun d _ => d = .bl true) NoX := by
    refine Tm_fn rfl ?_
    generalize hE : EndX ([] : MH) NoX = EE
    generalize hP : EndP ([] : MH) _ = PPP
    have st : mStart 8 [D.rol (ns.map D.int)] = [some (.rol (ns.map D.int)), none, none, none, none, none, none, none] := rfl
    rw [st]
    have okT : ∀ k, PPP (.ret (.bl true)) k := fun k => by
      subst hP
      exact ⟨⟨⟨Nat.zero_le _, fun n o hn => absurd hn (Nat.not_lt_zero _)⟩, rfl⟩, rfl⟩
    unfold b_law
    obtain ⟨s, so, _, es⟩ := start_ok (ns := ns) (h := [])
    have es' : m__law_start [.rol (ns.map D.int)] [] = .ok (.ref 0) [s.enc] := es
    rw [mSeq_eq, mSet_eq, mCall_eq, mCons_eq, mVar_eq (show _ = some (some (D.rol (ns.map D.int))) from rfl), R.bnd_ok, mNil_eq, R.bnd_ok, R.bnd_ok, es', R.st_ok, SR.seq_next]
    have a0 : HT [.st] [s.enc] := by
      have e : HT [] [] := ⟨rfl, fun j t e => by simp at e⟩
      exact e.app (t := .st) ⟨s, so, rfl⟩
    rw [mSeq_eq, TmS_seq, mSet_eq, TmS_st, mCall_eq, mCons_eq, mVar_eq (show _ = some (some (D.ref 0)) from rfl), R.bnd_ok, mNil_eq, R.bnd_ok, R.bnd_ok]
    refine tree_t a0 rfl fun t g ht ag => ?_
    rw [TmS_ok, SeqP_next]
    obtain ⟨ds, es, fs, rfl, ⟨l1, l2, l3⟩, hd, he, hf⟩ := ht
    obtain ⟨dp, pd⟩ := pair_ex (R := DRel) ds fun d hd' => data_rel (hd d hd').1
    obtain ⟨ep, pe⟩ := pair_ex (R := ERel) es fun d hd' => by
      obtain ⟨w, rfl, nw⟩ := (he d hd').1
      exact ⟨_, w, rfl, nw.atm, rfl⟩
    obtain ⟨fpp, pf, lf⟩ := pair_ex2 (R := FRel) (B := 1773000) fs fun d hd' => fn_rel (hf d hd').1
    have ld := flat_le (B := 6220) dp (pair_all (Q := fun p => p.1.length ≤ 6220) (fun _ _ s => by obtain ⟨ps, rfl, s⟩ := s; exact s.sz) pd)
    have le := flat_le (B := 4) ep (pair_all (Q := fun p => p.1.length ≤ 4) (fun _ _ s => by
      obtain ⟨w, rfl, a, rfl⟩ := s
      show (formW (flat [at1 (tl "exception"), at1 w])).length ≤ 4
      rw [flat2]
      unfold formW
      simp) pe)
    have hdl := pd.length
    have hel := pe.length
    obtain ⟨Ps, hPs⟩ : ∃ Ps, Ps = dp ++ ep ++ fpp := ⟨_, rfl⟩
    have top : ∀ p ∈ Ps, Tp p := fun p hp => by
      rw [hPs] at hp
      rcases List.mem_append.mp hp with hp | hp
      · rcases List.mem_append.mp hp with hp | hp
        · exact pair_all (fun _ _ s => DRel.top s) pd p hp
        · exact pair_all (fun _ _ s => ERel.top s) pe p hp
      · exact pair_all (fun _ _ s => FRel.top s) pf p hp
    have hz : (flat Ps).length ≤ 16000000 := by
      rw [hPs, flat_app, flat_app, List.length_append, List.length_append]
      have q1 : 6220 * dp.length ≤ 6220 * 10 := Nat.mul_le_mul_left _ (by omega)
      have q2 : 4 * ep.length ≤ 4 * 10 := Nat.mul_le_mul_left _ (by omega)
      have q3 : 1773000 * fs.length ≤ 1773000 * 3 := Nat.mul_le_mul_left _ l3
      omega
    have gl : g.length = 1 := ag.len
    obtain ⟨H, hH⟩ : ∃ H, H = g ++ [MO.lst (dSs [])] := ⟨_, rfl⟩
    have hm : 1 < H.length := by rw [hH]; simp [gl]
    have w0 : wr H 1 [] = H := wr_of (by rw [hH, List.getElem?_append_right (by omega)]; simp [gl])
    have wS : ∀ ws, wr H 1 ws = g ++ [.lst (dSs ws)] := fun ws => by
      rw [hH]
      unfold wr
      rw [List.set_append_right _ _ (by omega)]
      simp [gl]
    have e3 : mSet 3 (mLstN mNil) [some (.rol (ns.map D.int)), some (.ref 0), some (treeD ds es fs), none, none, none, none, none] g = .ok (.next [some (.rol (ns.map D.int)), some (.ref 0), some (treeD ds es fs), some (.ref 1), none, none, none, none]) (wr H 1 []) := by
      rw [w0, hH, mSet_eq, mLstN_eq, mNil_eq, R.bnd_ok, if_pos (by simp), R.st_ok, gl]; rfl
    show TmS (mSeq _ _ [some (.rol (ns.map D.int)), some (.ref 0), some (treeD ds es fs), none, none, none, none, none] g) _ _
    rw [mSeq_eq, e3, SR.seq_next]
    obtain ⟨fs', ew, pf'⟩ := words_ok (h := H) pd pe pf (by omega) (by rw [← hPs]; exact hz) hm
    rw [← hPs] at ew
    obtain ⟨ws, hws⟩ : ∃ ws, ws = flat Ps := ⟨_, rfl⟩
    rw [← hws] at ew hz
    have e4 : mSet 4 (mCall m__law_words (mCons (mVar 2) (mCons (mVar 3) mNil))) [some (.rol (ns.map D.int)), some (.ref 0), some (treeD ds es fs), some (.ref 1), none, none, none, none] (wr H 1 []) = .ok (.next [some (.rol (ns.map D.int)), some (.ref 0), some (treeD ds es fs), some (.ref 1), some (treeD ds es fs'), none, none, none]) (wr H 1 ws) := by
      rw [mSet_eq, mCall_eq, mCons_eq, mVar_eq (show _ = some (some (treeD ds es fs)) from rfl), R.bnd_ok, mCons_eq, mVar_eq (show _ = some (some (D.ref 1)) from rfl), R.bnd_ok, mNil_eq, R.bnd_ok, R.bnd_ok, R.bnd_ok, ew, R.st_ok]; rfl
    rw [mSeq_eq, e4, SR.seq_next]
    have hw := flat_mem top
    rw [← hws] at hw
    have eW : (wr H 1 ws)[1]? = some (.lst (dSs ws)) := wr_at hm ws
    obtain ⟨δ, hδ⟩ : ∃ δ : Option D → MS, δ = fun t => [some (.rol (ns.map D.int)), some (.ref 0), t, some (.ref 1), some (treeD ds es fs'), none, none, none] := ⟨_, rfl⟩
    have hδ2 : [some (.rol (ns.map D.int)), some (.ref 0), some (treeD ds es fs), some (.ref 1), some (treeD ds es fs'), none, none, none] = δ (some (treeD ds es fs)) := by rw [hδ]
    rw [hδ2]
    have v3 : ∀ t, (δ t)[3]? = some (some (.ref 1)) := fun t => by rw [hδ]; rfl
    obtain ⟨is, ei⟩ := lc_int (h := wr H 1 ws) (src := mSrc (mOp opIx (mVar 2) (mC (.int 2)))) (tgt := mgName 6) (elt := mCall (m__law_nodes 8) (mCons (mOp opIx (mVar 6) (mC (.int 4))) mNil)) (vs := [6]) (δ := δ (some (treeD ds es fs))) (ks := fs) (g := fun _ => True) (h1 := wr H 1 ws) (by rw [hδ]; simp [ix2]) (fun _ => trivial) (by omega) (fun x hx => ⟨_, rfl, fun k => by
      obtain ⟨nm, prs, pps, res, rp, bp, body, rfl, sF, eb, lr, _⟩ := pair_left (Q := fun x => ∃ nm prs pps res rp bp body, x = .tup [dS nm, .int 0, .tup prs, res, body] ∧ FSp nm prs pps res rp bp ∧ ESp 5 body bp ∧ (∀ m, res.lows m = true) ∧ True) (fun _ _ s => by
        obtain ⟨nm, prs, pps, res, rp, bp, body, e1, e2, e3, e4, _⟩ := s
        exact ⟨nm, prs, pps, res, rp, bp, body, e1, e2, e3, e4, trivial⟩) pf x hx
      obtain ⟨i, en⟩ := eb.nodes 8 (by omega) (wr H 1 ws ++ k)
      refine ⟨i, ?_⟩
      rw [hδ]
      simp [wipeM, ix4, en]⟩)
    have el := lens_lc (h := wr H 1 ws) (n := 1) (ws := ws) eW (fun w h => (hw w h).2) (by omega) (δ := δ (some (treeD ds es fs))) (v3 _) (by rw [hδ]; rfl)
    have sI := fSum_int (h := wr H 1 ws) is
    have sL := fSum_int (h := wr H 1 ws) (ws.map fun w => (w.length : Int))
    rw [sum_cast] at sL
    obtain ⟨LL, hLL⟩ : ∃ LL, LL = (ws.map fun w => (w.length : Int)).map D.int := ⟨_, rfl⟩
    rw [← hLL] at el sL
    obtain ⟨IL, hIL⟩ : ∃ IL, IL = is.map D.int := ⟨_, rfl⟩
    rw [← hIL] at ei sI
    have cond : mOr (mB (mOp opGt (mCall fSum (mCons (mLc (mSrc (mOp opIx (mVar 2) (mC (.int 2)))) (mgName 6) (mYes) (mCall (m__law_nodes 8) (mCons (mOp opIx (mVar 6) (mC (.int 4))) (mNil))) [6]) (mNil))) (mC (.int 400)))) (mB (mOp opGt (mCall fSum (mCons (mLc (mSrc (mVar 3)) (mgName 7) (mYes) (mCall fLen (mCons (mVar 7) (mNil))) [7]) (mNil))) (mC (.int 6000)))) (δ (some (treeD ds es fs))) (wr H 1 ws) = .ok (decide (400 < is.sum) || decide (6000 < (sl ws : Int))) (wr H 1 ws) := by
      generalize mLc (mSrc (mOp opIx (mVar 2) (mC (.int 2)))) _ _ _ _ = M1 at ei ⊢
      generalize mLc (mSrc (mVar 3)) _ _ _ _ = M2 at el ⊢
      by_cases z : 400 < is.sum
      · simp [ei, sI, z]
      · simp [ei, el, sI, sL, z]
    rw [mSeq_eq, TmS_seq, mIfS_eq, cond, R.st_ok]
    by_cases z : (decide (400 < is.sum) || decide (6000 < (sl ws : Int))) = true
    · rw [if_pos z, mRet_eq, mC_eq, R.st_ok, TmS_ok, SeqP_ret]
      exact okT _
    rw [if_neg z]
    show TmS (SR.ok (.next (δ (some (treeD ds es fs)))) (wr H 1 ws)) _ _
    rw [TmS_ok, SeqP_next]
    have zs : sl ws ≤ 6000 := by
      simp at z
      omega
    have wz := wt_sl (ws := ws) fun w h => (hw w h).1
    obtain ⟨b', er⟩ := run_top Ps top [] [40]
    rw [← hws] at er
    have eC : (run ws ([], 0, [40])).1 = lines Ps := by rw [er]; rfl
    have cz := run_len ws ([], 0, [40])
    rw [eC] at cz
    have can : ∀ k n, k[n]? = some (.lst (dSs ws)) → m__law_canonical [.ref n] k = .ok (dS (lines Ps)) k := fun k n e => by
      rw [can_ok e (by omega), eC]
    have fl : fLen [dS (lines Ps)] (wr H 1 ws) = .ok (.int (lines Ps).length) (wr H 1 ws) := by
      rw [fLen_str (by rw [tx_len]; simp at cz; omega), tx_len]
    have cond2 : mB (mOp opGt (mCall fLen (mCons (mCall m__law_canonical (mCons (mVar 3) mNil)) mNil)) (mC (.int 6000))) (δ (some (treeD ds es fs))) (wr H 1 ws) = .ok (decide (6000 < ((lines Ps).length : Int))) (wr H 1 ws) := by
      have := can (wr H 1 ws) 1 eW
      rw [mB_eq, mOp_eq, mCall_eq, mCons_eq, mCall_eq, mCons_eq, mVar_eq (v3 _)]
      simp only [R.bnd_ok, mNil_eq, this, fl, mC_eq]
      by_cases y : 6000 < ((lines Ps).length : Int)
      · simp [y]
      · simp [y]
    rw [mSeq_eq, TmS_seq, mIfS_eq, cond2, R.st_ok]
    by_cases y : (decide (6000 < ((lines Ps).length : Int))) = true
    · rw [if_pos y, mRet_eq, mC_eq, R.st_ok, TmS_ok, SeqP_ret]
      exact okT _
    rw [if_neg y]
    show TmS (SR.ok (.next (δ (some (treeD ds es fs)))) (wr H 1 ws)) _ _
    rw [TmS_ok, SeqP_next]
    have aW : HT ([.st] ++ [.any (.lst (dSs ws))]) (wr H 1 ws) := by rw [wS]; exact ag.app rfl
    -- the end, for either tree
    have fin : ∀ (F : List D) (k : MH), Paired FTx F fpp → k[1]? = some (.lst (dSs ws)) → TmS (mSeq (mSet 5 (mCall m_write_program (mCons (mVar 2) (mNil)))) (mRet (mAndV (mCall fIsi (mCons (mVar 5) (mCons (mC (.ty "str")) (mNil)))) (mOp opEq (mVar 5) (mCall m__law_canonical (mCons (mVar 3) (mNil)))))) (δ (some (treeD ds es F))) k) PPP EE := by
      intro F k pF ek
      have hfl := pF.length
      have hfl2 := pf.length
      have wo := write_ok (h := k) pd pe pF (by rw [← hPs, ← hws]; omega) ⟨by omega, by omega, by omega⟩ (by rw [← hPs]; exact top)
      rw [← hPs] at wo
      have e5 : mSet 5 (mCall m_write_program (mCons (mVar 2) mNil)) (δ (some (treeD ds es F))) k = .ok (.next [some (.rol (ns.map D.int)), some (.ref 0), some (treeD ds es F), some (.ref 1), some (treeD ds es fs'), some (dS (lines Ps)), none, none]) k := by
        rw [hδ, mSet_eq, mCall_eq, mCons_eq, mVar_eq (show _ = some (some (treeD ds es F)) from rfl), R.bnd_ok, mNil_eq, R.bnd_ok, R.bnd_ok, wo, R.st_ok]; rfl
      have isi : fIsi [dS (lines Ps), .ty "str"] k = .ok (.bl true) k := by
        show (if "str" = "NoneType" then R.stuck else _) = _
        rfl
      have cn := can k 1 ek
      rw [mSeq_eq, e5, SR.seq_next, mRet_eq, mAndV_eq, mCall_eq, mCons_eq, mVar_eq (show _ = some (some (dS (lines Ps))) from rfl), R.bnd_ok, mCons_eq, mC_eq, R.bnd_ok, mNil_eq, R.bnd_ok, R.bnd_ok, R.bnd_ok, isi, R.bnd_ok, show isB (.bl true) k = .ok true k from rfl, R.bnd_ok, if_pos rfl, mOp_eq, mVar_eq (show _ = some (some (dS (lines Ps))) from rfl), R.bnd_ok, mCall_eq, mCons_eq, mVar_eq (show _ = some (some (D.ref 1)) from rfl), R.bnd_ok, mNil_eq, R.bnd_ok, R.bnd_ok, cn, R.bnd_ok, opEq_str, decide_eq_true rfl, R.st_ok, TmS_ok]
      exact okT _
    rw [mSeq_eq, TmS_seq, mIfS_eq, TmS_st, mB_eq, Tm_bnd, mOp_eq, Tm_bnd, mCall_eq, mCons_eq, mVar_eq (show (δ (some (treeD ds es fs)))[1]? = some (some (D.ref 0)) by rw [hδ]; rfl), R.bnd_ok, mCons_eq, mC_eq, R.bnd_ok, mNil_eq, R.bnd_ok, R.bnd_ok, R.bnd_ok]
    refine draw_t aW rfl (by omega) (by decide) fun v k v0 v1 ak => ?_
    rw [mC_eq, R.bnd_ok, opEq_int, Tm_ok]
    show Tm (R.ok (decide (v = 1)) k) _ _
    rw [Tm_ok]
    obtain ⟨k', rfl, ak'⟩ := ak.cut1
    have kl : k'.length = 1 := ak'.len
    have ek : (k' ++ [MO.lst (dSs ws)])[1]? = some (.lst (dSs ws)) := by rw [List.getElem?_append_right (by omega)]; simp [kl]
    by_cases hv : v = 1
    · have e2 : mSet 2 (mVar 4) (δ (some (treeD ds es fs))) (k' ++ [.lst (dSs ws)]) = .ok (.next (δ (some (treeD ds es fs')))) (k' ++ [.lst (dSs ws)]) := by rw [hδ]; rfl
      rw [if_pos (decide_eq_true hv), e2, TmS_ok, SeqP_next]
      exact fin fs' _ pf' ek
    · rw [if_neg (by simp [hv])]
      show TmS (SR.ok (.next (δ (some (treeD ds es fs)))) _) _ _
      rw [TmS_ok, SeqP_next]
      exact fin fs _ (Paired.mono (fun _ _ s => FRel.tx s) pf) ek
  obtain ⟨d, h', e, rfl⟩ := t.ex
  exact ⟨h', e⟩
end K05

open PySem PySem.W PyProof.Rows
set_option maxHeartbeats 0 in
theorem PySem.Challenge.cw_escheat_k05_write_a_program_holds : PySem.Challenge.rw_escheat_k05_write_a_program.Holds := by
  w_on; o_law; k_head; (case hw => w_witness2)
  k_fill
  refine L2.walk_of (l := PySem.Challenge.rw_escheat_k05_write_a_program) (n := 63) (k := 26) (x := "script") (CX := fun w => L2N.CX PySem.Challenge.rw_escheat_k05_write_a_program.prog w) (sp := fun w => MM.spOf _ K05.m_law) rfl (by decide) rfl ⟨rfl, by decide, by decide⟩ (fun w h Y => PySem.W.kIn_of Y) ?F (fun _ _ a ns hl _ hS => MM.law_end hS (K05.law_true ns hl)) (fun _ _ _ _ _ q => MM.no_exc q)
  case F =>
    intro w mg fa h KX G hmg
    refine' K05.law_facts KX G hmg ?a0 ?l0 ?c0 ?k0 ?a1 ?l1 ?c1 ?k1 ?a2 ?l2 ?c2 ?k2 ?a3 ?l3 ?c3 ?k3 ?a4 ?l4 ?c4 ?k4 ?a5 ?l5 ?c5 ?k5 ?a6 ?l6 ?c6 ?k6 ?a7 ?l7 ?c7 ?k7 ?a8 ?l8 ?c8 ?k8 ?a9 ?l9 ?c9 ?k9 ?a10 ?l10 ?c10 ?k10 ?a11 ?l11 ?c11 ?k11 ?a12 ?l12 ?c12 ?k12 ?a13 ?l13 ?c13 ?k13 ?a14 ?l14 ?c14 ?k14 ?a15 ?l15 ?c15 ?k15 ?a16 ?l16 ?c16 ?k16 ?a17 ?l17 ?c17 ?k17 ?a18 ?l18 ?c18 ?k18 ?a19 ?l19 ?c19 ?k19 ?a20 ?l20 ?c20 ?k20 ?a21 ?l21 ?c21 ?k21 ?a22 ?l22 ?c22 ?k22 ?a23 ?l23 ?c23 ?k23 ?a24 ?l24 ?c24 ?k24 ?a25 ?l25 ?c25 ?k25 ?a26 ?l26 ?c26 ?k26 ?a27 ?l27 ?c27 ?k27 ?a28 ?l28 ?c28 ?k28 ?a29 ?l29 ?c29 ?k29 ?a30 ?l30 ?c30 ?k30 ?a31 ?l31 ?c31 ?k31 ?a32 ?l32 ?c32 ?k32 ?z_str ?z_len ?z_int ?z_list ?z_abs ?z_range ?z_tuple ?z_sorted ?z_sum ?z_isinstance ?g_FIRST_EXCEPTIONS ?r_FIRST_EXCEPTIONS
    (case a0 => k_is); (case l0 => k_is); (case c0 => k_is); (case k0 => k_is); (case a1 => k_is); (case l1 => k_is); (case c1 => k_is); (case k1 => k_is); (case a2 => k_is); (case l2 => k_is); (case c2 => k_is); (case k2 => k_is); (case a3 => k_is); (case l3 => k_is); (case c3 => k_is); (case k3 => k_is); (case a4 => k_is); (case l4 => k_is); (case c4 => k_is); (case k4 => k_is); (case a5 => k_is); (case l5 => k_is); (case c5 => k_is); (case k5 => k_is); (case a6 => k_is); (case l6 => k_is); (case c6 => k_is); (case k6 => k_is); (case a7 => k_is); (case l7 => k_is); (case c7 => k_is); (case k7 => k_is); (case a8 => k_is); (case l8 => k_is); (case c8 => k_is); (case k8 => k_is); (case a9 => k_is); (case l9 => k_is); (case c9 => k_is); (case k9 => k_is); (case a10 => k_is); (case l10 => k_is); (case c10 => k_is); (case k10 => k_is); (case a11 => k_is); (case l11 => k_is); (case c11 => k_is); (case k11 => k_is); (case a12 => k_is); (case l12 => k_is); (case c12 => k_is); (case k12 => k_is); (case a13 => k_is); (case l13 => k_is); (case c13 => k_is); (case k13 => k_is); (case a14 => k_is); (case l14 => k_is); (case c14 => k_is); (case k14 => k_is); (case a15 => k_is); (case l15 => k_is); (case c15 => k_is); (case k15 => k_is); (case a16 => k_is); (case l16 => k_is); (case c16 => k_is); (case k16 => k_is); (case a17 => k_is); (case l17 => k_is); (case c17 => k_is); (case k17 => k_is); (case a18 => k_is); (case l18 => k_is); (case c18 => k_is); (case k18 => k_is); (case a19 => k_is); (case l19 => k_is); (case c19 => k_is); (case k19 => k_is); (case a20 => k_is); (case l20 => k_is); (case c20 => k_is); (case k20 => k_is); (case a21 => k_is); (case l21 => k_is); (case c21 => k_is); (case k21 => k_is); (case a22 => k_is); (case l22 => k_is); (case c22 => k_is); (case k22 => k_is); (case a23 => k_is); (case l23 => k_is); (case c23 => k_is); (case k23 => k_is); (case a24 => k_is); (case l24 => k_is); (case c24 => k_is); (case k24 => k_is); (case a25 => k_is); (case l25 => k_is); (case c25 => k_is); (case k25 => k_is); (case a26 => k_is); (case l26 => k_is); (case c26 => k_is); (case k26 => k_is); (case a27 => k_is); (case l27 => k_is); (case c27 => k_is); (case k27 => k_is); (case a28 => k_is); (case l28 => k_is); (case c28 => k_is); (case k28 => k_is); (case a29 => k_is); (case l29 => k_is); (case c29 => k_is); (case k29 => k_is); (case a30 => k_is); (case l30 => k_is); (case c30 => k_is); (case k30 => k_is); (case a31 => k_is); (case l31 => k_is); (case c31 => k_is); (case k31 => k_is); (case a32 => k_is); (case l32 => k_is); (case c32 => k_is); (case k32 => k_is); (case z_str => k_is); (case z_len => k_is); (case z_int => k_is); (case z_list => k_is); (case z_abs => k_is); (case z_range => k_is); (case z_tuple => k_is); (case z_sorted => k_is); (case z_sum => k_is); (case z_isinstance => k_is); (case g_FIRST_EXCEPTIONS => k_is); (case r_FIRST_EXCEPTIONS => kernel_rfl)

