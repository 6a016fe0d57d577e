import PyProof.Rows.All
import Wide.All
import OpenK.AllK
import Wide.FinOn
import PySem.Challenge.RW_escheat_k18_shared_cells
import HandS.ForMost
import HandS.ForExc
import HandS.Walk
import HandS.Flow
import HandS.IsInst
import HandS.StrMore
import HandS.ExcCtx
import HandS.HotCalls
import HandS.Wide
import HandS.TupAny
import HandS.Zip
import HandS.Codes
import HandS.ExcOwn
import PyProof.AutoSeq1
import HandS.More
import KE.IntTextLaws
import HandS.Star
import HandS.Small
import HandS.SortInts
import HandS.RaiseMore
import PyProof.DictUpdate
import PyProof.DictDisplay
import PyProof.ZipIter
import PyProof.ListNew
import HandS.Conv
import HandS.ExcValue
import HandS.TupLe
import HandS.FStr
import KE.KSuper
import KE.KExcSuper
import HandS.ExcInit
import HandS.Nested
import HandS.ExcField
import HandS.ExcIs
import KE.KExcIs
import HandS.ExcInitHot
import KE.GoesMore
import HandS.Property
import HandS.Dict
import HandS.GenList
import HandS.OwnIter
import PyProof.RulesDelMore
import HandS.DictComp
import HandS.CallSlots
import HandS.MakeKwOnly
import HandS.Rev
import PyProof.CallStr
import HandS.Iter
set_option Elab.async false
set_option linter.all false
set_option maxRecDepth 100000
set_option exponentiation.threshold 3000
namespace MM
open PySem PySem.Spec PyProof.Rows L2
inductive D where
  | non | bl (b : Bool) | int (i : Int) | str (s : Str) | tup (ds : List D) | rol (ds : List D) | ref (n : Nat) | obj (a : Addr) | ty (n : String) | kon (n : Str) | rdc (ks : List Key) (ds : List D) | xo (a d : Addr) (fl : List Str) (ds : List D)
deriving Inhabited
inductive MO where
  | lst (ds : List D) | dic (kvs : List (Key × D)) | ldc (kvs : List (Key × D)) | ins (C : Str) (fs : List (Str × D)) | dead
abbrev MH := List MO
abbrev MS := List (Option D)
abbrev TL := List (Option Addr)
def EV (K : PySem.W.Frag) (c : Str) (v : Value) : Prop := ∃ a, v = .ref a ∧ PySem.W.nsIn K mainGlobals c = some (some (.ref a))

def NL (L : TL) (a : Addr) : Prop := ∀ n : Nat, L[n]? ≠ some (some a)
def KL (K : PySem.W.Frag) (a : Addr) (xs : List V) : Prop :=
  ∃ (o : Obj) (its : Array Value) (n : Nat), K.lookup a = some o ∧ o.cls = .type "list" ∧ o.dict = none ∧ o.data = .seq its n ∧ its.size ≤ sizeLine ∧ Vals xs its.toList
def KT (K : PySem.W.Frag) (a : Addr) (xs : List V) : Prop :=
  ∃ (o : Obj) (its : Array Value) (n : Nat), K.lookup a = some o ∧ o.cls = .type "tuple" ∧ o.data = .seq its n ∧ its.size ≤ sizeLine ∧ Vals xs its.toList
def SF (K : PySem.W.Frag) (L : TL) (H : Hp) (a : Addr) (xs : List V) : Prop := (Rd H a (.lst xs) ∧ NL L a) ∨ KL K a xs
def SU (K : PySem.W.Frag) (L : TL) (H : Hp) (a : Addr) (xs : List V) : Prop := (Rd H a (.tup xs) ∧ NL L a) ∨ KT K a xs

section
variable (K : PySem.W.Frag) (L : TL) (H : Hp)
mutual
def Rep : D → V → Prop
  | .non, v => v = .non
  | .bl b, v => v = .bl b
  | .int i, v => v = .int i
  | .str s, v => v = .str s
  | .obj a, v => v = .ref a
  | .ty n, v => v = .ty n
  | .kon n, v => ∃ a, v = .ref a ∧ PySem.W.nsIn K mainGlobals n = some (some (.ref a))
  | .rdc ks ds, v => ∃ a xs, v = .ref a ∧ Rd H a (.dK (ks.zip xs)) ∧ NL L a ∧ (ks.length = ds.length ∧ ks ≠ []) ∧ RepL ds xs
  | .xo a d fl ds, v => v = .ref a ∧ ∃ xs, Rd H d (.xd (fl.zip xs)) ∧ NL L d ∧ fl.length = ds.length ∧ RepL ds xs
  | .tup ds, v => ∃ a xs, v = .ref a ∧ SU K L H a xs ∧ RepL ds xs
  | .rol ds, v => ∃ a xs, v = .ref a ∧ SF K L H a xs ∧ RepL ds xs
  | .ref n, v => ∃ a, v = .ref a ∧ (L[n]? = some (some a) ∨ L[n]? = some none)
def RepL : List D → List V → Prop
  | [], xs => xs = []
  | d :: ds, xs => ∃ v vs, xs = v :: vs ∧ Rep d v ∧ RepL ds vs
end
def RepK : List (Key × D) → List (Key × V) → Prop
  | [], xs => xs = []
  | d :: ds, xs => ∃ v vs, xs = (d.1, v) :: vs ∧ Rep K L H d.2 v ∧ RepK ds vs
def RepF : List (Str × D) → List (Str × V) → Prop
  | [], xs => xs = []
  | d :: ds, xs => ∃ v vs, xs = (d.1, v) :: vs ∧ Rep K L H d.2 v ∧ RepF ds vs
structure RepS (δ : MS) (σ : L2.St) : Prop where
  len : δ.length = σ.length
  at' : ∀ (i : Nat) (d : D), δ[i]? = some (some d) → ∃ v, σ[i]? = some (some v) ∧ Rep K L H d v
def OAt (l : Option (Option Addr)) : MO → Prop
  | .dead => l = some none
  | .lst ds => ∃ a xs, l = some (some a) ∧ H a = some (.lst xs) ∧ RepL K L H ds xs
  | .dic kvs => ∃ a ws, l = some (some a) ∧ H a = some (.dK ws) ∧ RepK K L H kvs ws
  | .ldc kvs => ∃ a o ws, l = some (some a) ∧ H a = some (.frz o (.dK ws)) ∧ RepK K L H kvs ws
  | .ins C fs => ∃ a dx Ca ws, l = some (some a) ∧ H a = some (.ins Ca dx ws) ∧ RepF K L H fs ws ∧ PySem.W.nsIn K mainGlobals C = some (some (.ref Ca))
structure Rel (h : MH) : Prop where
  len : L.length = h.length
  at' : ∀ (n : Nat) (o : MO), h[n]? = some o → OAt K L H L[n]? o
  inj : ∀ (n m : Nat) (a : Addr), L[n]? = some (some a) → L[m]? = some (some a) → n = m
end
structure Ext (L : TL) (H : Hp) (L' : TL) (H' : Hp) : Prop where
  live : ∀ (n : Nat) (o : Option Addr), L[n]? = some o → L'[n]? = some o ∨ L'[n]? = some none
  kept : ∀ a o, H a = some o → NL L a → H' a = some o ∧ NL L' a
  lkd : ∀ a o u, H a = some (.frz o u) → H' a = some (.frz o u)
section
variable {K : PySem.W.Frag} {L L' : TL} {H H' : Hp} {h h' : MH} {a p : Addr}
theorem Ext.refl (L : TL) (H : Hp) : Ext L H L H := ⟨fun _ _ e => .inl e, fun _ _ e n => ⟨e, n⟩, fun _ _ _ e => e⟩
theorem Ext.trans {L₁ L₂ L₃ : TL} {H₁ H₂ H₃ : Hp} (x : Ext L₁ H₁ L₂ H₂) (y : Ext L₂ H₂ L₃ H₃) : Ext L₁ H₁ L₃ H₃ := by
  refine ⟨fun n o e => ?_, fun a o e n => ?_, fun a o u e => y.lkd a o u (x.lkd a o u e)⟩
  · rcases x.live n o e with e1 | e1
    · exact y.live n o e1
    · rcases y.live n _ e1 with e2 | e2 <;> exact .inr e2
  · obtain ⟨e1, n1⟩ := x.kept a o e n
    exact y.kept a o e1 n1
theorem Ext.rd (x : Ext L H L' H') {u : HO} (r : Rd H a u) (n : NL L a) : Rd H' a u ∧ NL L' a := by
  rcases r with r | ⟨o, r⟩
  · obtain ⟨e, m⟩ := x.kept a _ r n
    exact ⟨.inl e, m⟩
  · obtain ⟨e, m⟩ := x.kept a _ r n
    exact ⟨.inr ⟨o, e⟩, m⟩
theorem Ext.sf (x : Ext L H L' H') {xs : List V} (r : SF K L H a xs) : SF K L' H' a xs := by
  rcases r with ⟨r, n⟩ | r
  · exact .inl (x.rd r n)
  · exact .inr r
theorem Ext.su (x : Ext L H L' H') {xs : List V} (r : SU K L H a xs) : SU K L' H' a xs := by
  rcases r with ⟨r, n⟩ | r
  · exact .inl (x.rd r n)
  · exact .inr r
mutual
theorem Rep.mono (x : Ext L H L' H') : ∀ {d : D} {v : V}, Rep K L H d v → Rep K L' H' d v
  | .non, _, r => by unfold Rep at r ⊢; exact r
  | .bl _, _, r => by unfold Rep at r ⊢; exact r
  | .int _, _, r => by unfold Rep at r ⊢; exact r
  | .str _, _, r => by unfold Rep at r ⊢; exact r
  | .obj _, _, r => by unfold Rep at r ⊢; exact r
  | .ty _, _, r => by unfold Rep at r ⊢; exact r
  | .kon _, _, r => by unfold Rep at r ⊢; exact r
  | .rdc ks ds, _, r => by
    unfold Rep at r ⊢
    obtain ⟨a, xs, e, s, n, l, q⟩ := r
    exact ⟨a, xs, e, (x.rd s n).1, (x.rd s n).2, l, RepL.mono x q⟩
  | .xo a d fl ds, _, r => by
    unfold Rep at r ⊢
    obtain ⟨e, xs, s, n, l, q⟩ := r
    exact ⟨e, xs, (x.rd s n).1, (x.rd s n).2, l, RepL.mono x q⟩
  | .tup ds, _, r => by
    unfold Rep at r ⊢
    obtain ⟨a, xs, e, s, q⟩ := r
    exact ⟨a, xs, e, x.su s, RepL.mono x q⟩
  | .rol ds, _, r => by
    unfold Rep at r ⊢
    obtain ⟨a, xs, e, s, q⟩ := r
    exact ⟨a, xs, e, x.sf s, RepL.mono x q⟩
  | .ref n, _, r => by
    unfold Rep at r ⊢
    obtain ⟨a, e, q⟩ := r
    refine ⟨a, e, ?_⟩
    rcases q with q | q
    · exact x.live n _ q
    · rcases x.live n _ q with z | z <;> exact .inr z
theorem RepL.mono (x : Ext L H L' H') : ∀ {ds : List D} {vs : List V}, RepL K L H ds vs → RepL K L' H' ds vs
  | [], _, r => by unfold RepL at r ⊢; exact r
  | d :: ds, _, r => by
    unfold RepL at r ⊢
    obtain ⟨v, vs, e, q, w⟩ := r
    exact ⟨v, vs, e, Rep.mono x q, RepL.mono x w⟩
end
theorem RepK.mono (x : Ext L H L' H') : ∀ {ds : List (Key × D)} {vs}, RepK K L H ds vs → RepK K L' H' ds vs
  | [], _, r => r
  | d :: ds, _, ⟨v, vs, e, q, w⟩ => ⟨v, vs, e, q.mono x, RepK.mono x w⟩
theorem RepF.mono (x : Ext L H L' H') : ∀ {ds : List (Str × D)} {vs}, RepF K L H ds vs → RepF K L' H' ds vs
  | [], _, r => r
  | d :: ds, _, ⟨v, vs, e, q, w⟩ => ⟨v, vs, e, q.mono x, RepF.mono x w⟩
theorem RepS.mono {δ : MS} {σ : L2.St} (x : Ext L H L' H') (r : RepS K L H δ σ) : RepS K L' H' δ σ :=
  ⟨r.len, fun i d e => let ⟨v, e1, q⟩ := r.at' i d e; ⟨v, e1, q.mono x⟩⟩
theorem RepS.set {δ : MS} {σ : L2.St} {i : Nat} {d : D} {v : V} (r : RepS K L H δ σ) (q : Rep K L H d v) : RepS K L H (δ.set i (some d)) (σ.set i (some v)) := by
  refine ⟨by rw [List.length_set, List.length_set]; exact r.len, fun j c e => ?_⟩
  by_cases hj : i = j
  · subst hj
    have hi : i < δ.length := by
      have := (List.getElem?_eq_some_iff.mp e).1
      rwa [List.length_set] at this
    rw [List.getElem?_set_self hi] at e
    cases e
    exact ⟨v, List.getElem?_set_self (by rw [← r.len]; exact hi), q⟩
  · rw [List.getElem?_set_ne hj] at e
    rw [List.getElem?_set_ne hj]
    exact r.at' j c e
theorem RepS.setNone {δ : MS} {σ : L2.St} {i : Nat} (r : RepS K L H δ σ) : RepS K L H (δ.set i none) (σ.set i none) := by
  refine ⟨by rw [List.length_set, List.length_set]; exact r.len, fun j c e => ?_⟩
  by_cases hj : i = j
  · subst hj
    have hi : i < δ.length := by
      have := (List.getElem?_eq_some_iff.mp e).1
      rwa [List.length_set] at this
    rw [List.getElem?_set_self hi] at e
    cases e
  · rw [List.getElem?_set_ne hj] at e
    rw [List.getElem?_set_ne hj]
    exact r.at' j c e

theorem RepL.length : ∀ {ds : List D} {vs : List V}, RepL K L H ds vs → ds.length = vs.length
  | [], _, r => by unfold RepL at r; subst r; rfl
  | d :: ds, _, r => by
    unfold RepL at r
    obtain ⟨v, vs, rfl, _, w⟩ := r
    rw [List.length_cons, List.length_cons, RepL.length w]
theorem RepL.nil : RepL K L H [] [] := by unfold RepL; rfl
theorem RepL.cons {d : D} {v : V} {ds vs} (q : Rep K L H d v) (r : RepL K L H ds vs) : RepL K L H (d :: ds) (v :: vs) := by
  unfold RepL; exact ⟨v, vs, rfl, q, r⟩
theorem RepL.cons_inv {d : D} {ds vs} (r : RepL K L H (d :: ds) vs) : ∃ v ws, vs = v :: ws ∧ Rep K L H d v ∧ RepL K L H ds ws := by
  unfold RepL at r; exact r
theorem RepL.nil_inv {vs} (r : RepL K L H [] vs) : vs = [] := by unfold RepL at r; exact r
theorem RepL.get : ∀ {ds : List D} {vs : List V} {i : Nat} {d : D}, RepL K L H ds vs → ds[i]? = some d → ∃ v, vs[i]? = some v ∧ Rep K L H d v
  | [], _, _, _, _, e => by simp at e
  | d :: ds, _, 0, _, r, e => by
    obtain ⟨v, ws, rfl, q, _⟩ := r.cons_inv
    simp at e; subst e
    exact ⟨v, rfl, q⟩
  | d :: ds, _, i + 1, _, r, e => by
    obtain ⟨v, ws, rfl, _, w⟩ := r.cons_inv
    exact RepL.get (i := i) w (by simpa using e)
theorem RepL.get' : ∀ {ds : List D} {vs : List V} {i : Nat} {v : V}, RepL K L H ds vs → vs[i]? = some v → ∃ d, ds[i]? = some d ∧ Rep K L H d v := fun {ds vs i v} r e => by
  have hl := r.length
  have hi := (List.getElem?_eq_some_iff.mp e).1
  have hd : i < ds.length := by omega
  obtain ⟨u, e1, q⟩ := r.get (List.getElem?_eq_getElem hd)
  rw [e] at e1; cases e1
  exact ⟨_, List.getElem?_eq_getElem hd, q⟩
theorem RepL.append : ∀ {ds es : List D} {vs ws : List V}, RepL K L H ds vs → RepL K L H es ws → RepL K L H (ds ++ es) (vs ++ ws)
  | [], _, _, _, r, s => by rw [r.nil_inv]; exact s
  | d :: ds, _, _, _, r, s => by
    obtain ⟨v, vs, rfl, q, w⟩ := r.cons_inv
    exact .cons q (RepL.append w s)
theorem RepL.take : ∀ {ds : List D} {vs : List V} (n : Nat), RepL K L H ds vs → RepL K L H (ds.take n) (vs.take n)
  | _, _, 0, _ => .nil
  | [], _, _ + 1, r => by rw [r.nil_inv]; exact .nil
  | d :: ds, _, n + 1, r => by
    obtain ⟨v, vs, rfl, q, w⟩ := r.cons_inv
    exact .cons q (RepL.take n w)
theorem RepL.drop : ∀ {ds : List D} {vs : List V} (n : Nat), RepL K L H ds vs → RepL K L H (ds.drop n) (vs.drop n)
  | _, _, 0, r => r
  | [], _, _ + 1, r => by rw [r.nil_inv]; exact .nil
  | d :: ds, _, n + 1, r => by
    obtain ⟨v, vs, rfl, _, w⟩ := r.cons_inv
    exact RepL.drop n w
theorem RepL.set {d : D} {v : V} (q : Rep K L H d v) : ∀ {ds : List D} {vs : List V} (n : Nat), RepL K L H ds vs → RepL K L H (ds.set n d) (vs.set n v)
  | [], _, _, r => by rw [r.nil_inv]; exact .nil
  | c :: ds, _, 0, r => by
    obtain ⟨u, vs, rfl, _, w⟩ := r.cons_inv
    exact .cons q w
  | c :: ds, _, n + 1, r => by
    obtain ⟨u, vs, rfl, p, w⟩ := r.cons_inv
    exact .cons p (RepL.set q n w)
theorem RepL.reverse : ∀ {ds : List D} {vs : List V}, RepL K L H ds vs → RepL K L H ds.reverse vs.reverse
  | [], _, r => by rw [r.nil_inv]; exact .nil
  | d :: ds, _, r => by
    obtain ⟨v, vs, rfl, q, w⟩ := r.cons_inv
    rw [List.reverse_cons, List.reverse_cons]
    exact (RepL.reverse w).append (.cons q .nil)
theorem Rel.ltL (r : Rel K L H h) {n : Nat} {o : Option Addr} (e : L[n]? = some o) : n < h.length := by
  rw [← r.len]; exact (List.getElem?_eq_some_iff.mp e).1
theorem Rel.live (r : Rel K L H h) {n : Nat} (e : L[n]? = some (some a)) : ∃ o, H a = some o := by
  have hn := r.ltL e
  have q := r.at' n h[n] (List.getElem?_eq_getElem hn)
  generalize h[n] = o at q
  cases o with
  | dead => rw [show OAt K L H L[n]? .dead = (L[n]? = some none) from rfl, e] at q; cases q
  | lst ds =>
    obtain ⟨b, xs, e1, e2, _⟩ := q
    rw [e] at e1; cases e1
    exact ⟨_, e2⟩
  | dic ds =>
    obtain ⟨b, xs, e1, e2, _⟩ := q
    rw [e] at e1; cases e1
    exact ⟨_, e2⟩
  | ldc ds =>
    obtain ⟨b, o, xs, e1, e2, _⟩ := q
    rw [e] at e1; cases e1
    exact ⟨_, e2⟩
  | ins C ds =>
    obtain ⟨b, dx, Ca, xs, e1, e2, _⟩ := q
    rw [e] at e1; cases e1
    exact ⟨_, e2⟩
theorem Rel.nl_new (r : Rel K L H h) (hp : H p = none) : NL L p := fun n e => by
  obtain ⟨o, e1⟩ := r.live e
  rw [hp] at e1; cases e1
theorem OAt.mono (x : Ext L H L' H') {l : Option (Option Addr)} {o : MO} (same : ∀ a, l = some (some a) → H' a = H a) (q : OAt K L H l o) : OAt K L' H' l o := by
  cases o with
  | dead => exact q
  | lst ds =>
    obtain ⟨b, xs, e1, e2, w⟩ := q
    exact ⟨b, xs, e1, (same b e1).trans e2, w.mono x⟩
  | dic ds =>
    obtain ⟨b, xs, e1, e2, w⟩ := q
    exact ⟨b, xs, e1, (same b e1).trans e2, w.mono x⟩
  | ldc ds =>
    obtain ⟨b, o, xs, e1, e2, w⟩ := q
    exact ⟨b, o, xs, e1, (same b e1).trans e2, w.mono x⟩
  | ins C ds =>
    obtain ⟨b, dx, Ca, xs, e1, e2, w, hC⟩ := q
    exact ⟨b, dx, Ca, xs, e1, (same b e1).trans e2, w.mono x, hC⟩
theorem Rel.fresh (r : Rel K L H h) {o : HO} (hp : H p = none) : Ext L H L (upd H p o) ∧ Rel K L (upd H p o) h := by
  have x : Ext L H L (upd H p o) := ⟨fun _ _ e => .inl e, fun a u e n => ⟨by rw [upd_ne (ne_of_none e hp)]; exact e, n⟩, fun a ob u e => by rw [upd_ne (ne_of_none e hp)]; exact e⟩
  refine ⟨x, r.len, fun n u e => ?_, r.inj⟩
  refine (r.at' n u e).mono x fun a ea => ?_
  obtain ⟨v, ev⟩ := r.live ea
  exact upd_ne (ne_of_none ev hp)
theorem getElem?_snoc {α : Type} (l : List α) (x : α) (n : Nat) : (l ++ [x])[n]? = if n = l.length then some x else l[n]? := by
  split
  · rename_i e; subst e; simp
  · rename_i e
    by_cases hn : n < l.length
    · rw [List.getElem?_append_left hn]
    · rw [List.getElem?_append_right (by omega), List.getElem?_eq_none (by simp; omega), List.getElem?_eq_none (by omega)]
theorem ext_alloc {o : HO} (hp : H p = none) : Ext L H (L ++ [some p]) (upd H p o) := by
  refine ⟨fun n u e => .inl ?_, fun a u e n => ⟨by rw [upd_ne (ne_of_none e hp)]; exact e, fun k z => ?_⟩, fun a ob u e => by rw [upd_ne (ne_of_none e hp)]; exact e⟩
  · rw [List.getElem?_append_left (List.getElem?_eq_some_iff.mp e).1]; exact e
  · rw [getElem?_snoc] at z
    split at z
    · have e1 : p = a := by simpa using z
      subst e1; rw [hp] at e; cases e
    · exact n k z
theorem Rel.alloc (r : Rel K L H h) {o : HO} {m : MO} (hp : H p = none) (q : OAt K (L ++ [some p]) (upd H p o) (some (some p)) m) : Ext L H (L ++ [some p]) (upd H p o) ∧ Rel K (L ++ [some p]) (upd H p o) (h ++ [m]) := by
  have x : Ext L H (L ++ [some p]) (upd H p o) := ext_alloc hp
  have low : ∀ n : Nat, n ≠ L.length → (L ++ [some p])[n]? = L[n]? := fun n hn => by rw [getElem?_snoc, if_neg hn]
  refine ⟨x, by rw [List.length_append, List.length_append, r.len]; rfl, fun n u e => ?_, fun n k b e1 e2 => ?_⟩
  · rw [getElem?_snoc] at e
    by_cases hn : n = h.length
    · rw [if_pos hn] at e; cases e
      rw [getElem?_snoc, if_pos (by rw [r.len]; exact hn)]
      exact q
    · rw [if_neg hn] at e
      rw [low n (by rw [r.len]; exact hn)]
      refine (r.at' n u e).mono x fun a ea => ?_
      obtain ⟨v, ev⟩ := r.live ea
      exact upd_ne (ne_of_none ev hp)
  · rw [getElem?_snoc] at e1 e2
    split at e1 <;> split at e2
    · rename_i z1 z2; rw [z1, z2]
    · have : p = b := by simpa using e1
      subst this
      exact absurd e2 (r.nl_new hp k)
    · have : p = b := by simpa using e2
      subst this
      exact absurd e1 (r.nl_new hp n)
    · exact r.inj n k b e1 e2
theorem ext_write {n : Nat} {o : HO} (en : L[n]? = some (some a)) (nf : ∀ o u, H a ≠ some (.frz o u)) : Ext L H L (upd H a o) := ⟨fun _ _ e => .inl e, fun b u e k => ⟨by rw [upd_ne (fun z => k n (by rw [z]; exact en))]; exact e, k⟩, fun b ob u e => by rw [upd_ne (fun z => by subst z; exact nf _ _ e)]; exact e⟩
theorem Rel.write (r : Rel K L H h) {n : Nat} {o : HO} {m : MO} (en : L[n]? = some (some a)) (nf : ∀ o u, H a ≠ some (.frz o u)) (q : OAt K L (upd H a o) (some (some a)) m) : Ext L H L (upd H a o) ∧ Rel K L (upd H a o) (h.set n m) := by
  have x : Ext L H L (upd H a o) := ext_write en nf
  refine ⟨x, by rw [List.length_set]; exact r.len, fun k u e => ?_, r.inj⟩
  by_cases hk : n = k
  · subst hk
    rw [List.getElem?_set_self (r.ltL en)] at e
    cases e
    rw [en]; exact q
  · rw [List.getElem?_set_ne hk] at e
    refine (r.at' k u e).mono x fun b eb => upd_ne fun z => hk (r.inj n k a en (by rw [← z]; exact eb))
theorem Rel.kill (r : Rel K L H h) {n : Nat} (hn : n < h.length) : Ext L H (L.set n none) H ∧ Rel K (L.set n none) H (h.set n .dead) := by
  have hl : n < L.length := by rw [r.len]; exact hn
  have x : Ext L H (L.set n none) H := by
    refine ⟨fun k o e => ?_, fun a o e k => ⟨e, fun j z => ?_⟩, fun _ _ _ e => e⟩
    · by_cases hk : n = k
      · subst hk; exact .inr (List.getElem?_set_self hl)
      · rw [List.getElem?_set_ne hk]; exact .inl e
    · by_cases hj : n = j
      · subst hj; rw [List.getElem?_set_self hl] at z; cases z
      · rw [List.getElem?_set_ne hj] at z; exact k j z
  refine ⟨x, by rw [List.length_set, List.length_set]; exact r.len, fun k o e => ?_, fun k j a e1 e2 => ?_⟩
  · by_cases hk : n = k
    · subst hk
      rw [List.getElem?_set_self hn] at e
      cases e
      exact List.getElem?_set_self hl
    · rw [List.getElem?_set_ne hk] at e
      rw [List.getElem?_set_ne hk]
      exact (r.at' k o e).mono x fun _ _ => rfl
  · have f : ∀ i : Nat, (L.set n none)[i]? = some (some a) → L[i]? = some (some a) := fun i z => by
      by_cases hi : n = i
      · subst hi; rw [List.getElem?_set_self hl] at z; cases z
      · rw [List.getElem?_set_ne hi] at z; exact z
    exact r.inj k j a (f k e1) (f j e2)
theorem NL.kill {n : Nat} (r : Rel K L H h) (e : L[n]? = some (some a)) : NL (L.set n none) a := fun k z => by
  have hl : n < L.length := (List.getElem?_eq_some_iff.mp e).1
  by_cases hk : n = k
  · subst hk; rw [List.getElem?_set_self hl] at z; cases z
  · rw [List.getElem?_set_ne hk] at z
    exact hk (r.inj n k a e z)

mutual
def D.lows (n : Nat) : D → Bool
  | .ref k => decide (k < n)
  | .tup ds => lowsL n ds
  | .rol ds => lowsL n ds
  | .rdc _ ds => lowsL n ds
  | .xo _ _ _ ds => lowsL n ds
  | _ => true
def lowsL (n : Nat) : List D → Bool
  | [] => true
  | d :: ds => d.lows n && lowsL n ds
end
def MO.lows (n : Nat) : MO → Bool
  | .lst ds => lowsL n ds
  | .dic kvs => kvs.all fun p => p.2.lows n
  | .ldc kvs => kvs.all fun p => p.2.lows n
  | .ins _ fs => fs.all fun p => p.2.lows n
  | .dead => true
theorem take_at {L : TL} {k n : Nat} (hn : n < k) : (L.take k)[n]? = L[n]? := List.getElem?_take_of_lt hn
theorem NL.take (k : Nat) (n : NL L a) : NL (L.take k) a := fun i z => by
  by_cases hi : i < k
  · rw [take_at hi] at z; exact n i z
  · rw [List.getElem?_eq_none (by rw [List.length_take]; omega)] at z; cases z
mutual
theorem Rep.take {k : Nat} : ∀ {d : D} {v : V}, d.lows k = true → Rep K L H d v → Rep K (L.take k) H d v
  | .non, _, _, r => by unfold Rep at r ⊢; exact r
  | .bl _, _, _, r => by unfold Rep at r ⊢; exact r
  | .int _, _, _, r => by unfold Rep at r ⊢; exact r
  | .str _, _, _, r => by unfold Rep at r ⊢; exact r
  | .obj _, _, _, r => by unfold Rep at r ⊢; exact r
  | .ty _, _, _, r => by unfold Rep at r ⊢; exact r
  | .kon _, _, _, r => by unfold Rep at r ⊢; exact r
  | .rdc ks ds, _, b, r => by
    unfold Rep at r ⊢
    unfold D.lows at b
    obtain ⟨a, xs, e, s, n, l, q⟩ := r
    exact ⟨a, xs, e, s, n.take k, l, RepL.takeB b q⟩
  | .xo a d fl ds, _, b, r => by
    unfold Rep at r ⊢
    unfold D.lows at b
    obtain ⟨e, xs, s, n, l, q⟩ := r
    exact ⟨e, xs, s, n.take k, l, RepL.takeB b q⟩
  | .tup ds, _, b, r => by
    unfold Rep at r ⊢
    unfold D.lows at b
    obtain ⟨a, xs, e, s, q⟩ := r
    refine ⟨a, xs, e, ?_, RepL.takeB b q⟩
    rcases s with ⟨s, n⟩ | s
    · exact .inl ⟨s, n.take k⟩
    · exact .inr s
  | .rol ds, _, b, r => by
    unfold Rep at r ⊢
    unfold D.lows at b
    obtain ⟨a, xs, e, s, q⟩ := r
    refine ⟨a, xs, e, ?_, RepL.takeB b q⟩
    rcases s with ⟨s, n⟩ | s
    · exact .inl ⟨s, n.take k⟩
    · exact .inr s
  | .ref n, _, b, r => by
    unfold Rep at r ⊢
    unfold D.lows at b
    obtain ⟨a, e, q⟩ := r
    refine ⟨a, e, ?_⟩
    rw [take_at (of_decide_eq_true b)]
    exact q
theorem RepL.takeB {k : Nat} : ∀ {ds : List D} {vs : List V}, lowsL k ds = true → RepL K L H ds vs → RepL K (L.take k) H ds vs
  | [], _, _, r => by unfold RepL at r ⊢; exact r
  | d :: ds, _, b, r => by
    unfold RepL at r ⊢
    unfold lowsL at b
    obtain ⟨v, vs, e, q, w⟩ := r
    rw [Bool.and_eq_true] at b
    exact ⟨v, vs, e, Rep.take b.1 q, RepL.takeB b.2 w⟩
end
mutual
theorem Rep.lows : ∀ {d : D} {v : V}, Rep K L H d v → d.lows L.length = true
  | .non, _, _ => rfl
  | .bl _, _, _ => rfl
  | .int _, _, _ => rfl
  | .str _, _, _ => rfl
  | .obj _, _, _ => rfl
  | .ty _, _, _ => rfl
  | .kon _, _, _ => rfl
  | .rdc ks ds, _, r => by
    unfold Rep at r
    unfold D.lows
    obtain ⟨a, xs, e, s, n, l, q⟩ := r
    exact RepL.lows q
  | .xo a d fl ds, _, r => by
    unfold Rep at r
    unfold D.lows
    obtain ⟨e, xs, s, n, l, q⟩ := r
    exact RepL.lows q
  | .tup ds, _, r => by
    unfold Rep at r
    unfold D.lows
    obtain ⟨a, xs, e, s, q⟩ := r
    exact RepL.lows q
  | .rol ds, _, r => by
    unfold Rep at r
    unfold D.lows
    obtain ⟨a, xs, e, s, q⟩ := r
    exact RepL.lows q
  | .ref n, _, r => by
    unfold Rep at r
    unfold D.lows
    obtain ⟨a, e, q⟩ := r
    rcases q with q | q <;> exact decide_eq_true (List.getElem?_eq_some_iff.mp q).1
theorem RepL.lows : ∀ {ds : List D} {vs : List V}, RepL K L H ds vs → lowsL L.length ds = true
  | [], _, _ => rfl
  | d :: ds, _, r => by
    unfold RepL at r
    unfold lowsL
    obtain ⟨v, vs, e, q, w⟩ := r
    rw [Rep.lows q, RepL.lows w]; rfl
end
theorem RepK.lows : ∀ {ds : List (Key × D)} {vs}, RepK K L H ds vs → (ds.all fun p => p.2.lows L.length) = true
  | [], _, _ => rfl
  | d :: ds, _, ⟨v, vs, e, q, w⟩ => by rw [List.all_cons, q.lows, RepK.lows w]; rfl
theorem RepF.lows : ∀ {ds : List (Str × D)} {vs}, RepF K L H ds vs → (ds.all fun p => p.2.lows L.length) = true
  | [], _, _ => rfl
  | d :: ds, _, ⟨v, vs, e, q, w⟩ => by rw [List.all_cons, q.lows, RepF.lows w]; rfl
theorem RepK.take {k : Nat} : ∀ {ds : List (Key × D)} {vs}, (ds.all fun p => p.2.lows k) = true → RepK K L H ds vs → RepK K (L.take k) H ds vs
  | [], _, _, r => r
  | d :: ds, _, b, ⟨v, vs, e, q, w⟩ => by
    rw [List.all_cons, Bool.and_eq_true] at b
    exact ⟨v, vs, e, q.take b.1, RepK.take b.2 w⟩
theorem RepF.take {k : Nat} : ∀ {ds : List (Str × D)} {vs}, (ds.all fun p => p.2.lows k) = true → RepF K L H ds vs → RepF K (L.take k) H ds vs
  | [], _, _, r => r
  | d :: ds, _, b, ⟨v, vs, e, q, w⟩ => by
    rw [List.all_cons, Bool.and_eq_true] at b
    exact ⟨v, vs, e, q.take b.1, RepF.take b.2 w⟩
theorem OAt.lows {l : Option (Option Addr)} {o : MO} (q : OAt K L H l o) : o.lows L.length = true := by
  cases o with
  | dead => rfl
  | lst ds => obtain ⟨_, _, _, _, w⟩ := q; exact w.lows
  | dic ds => obtain ⟨_, _, _, _, w⟩ := q; exact w.lows
  | ldc ds => obtain ⟨_, _, _, _, _, w⟩ := q; exact w.lows
  | ins C ds => obtain ⟨_, _, _, _, _, _, w, _⟩ := q; exact w.lows
theorem OAt.take {k : Nat} {l : Option (Option Addr)} {o : MO} (b : o.lows k = true) (q : OAt K L H l o) : OAt K (L.take k) H l o := by
  cases o with
  | dead => exact q
  | lst ds => obtain ⟨a, xs, e1, e2, w⟩ := q; exact ⟨a, xs, e1, e2, w.takeB b⟩
  | dic ds => obtain ⟨a, xs, e1, e2, w⟩ := q; exact ⟨a, xs, e1, e2, w.take b⟩
  | ldc ds => obtain ⟨a, o, xs, e1, e2, w⟩ := q; exact ⟨a, o, xs, e1, e2, w.take b⟩
  | ins C ds => obtain ⟨a, dx, Ca, xs, e1, e2, w, hC⟩ := q; exact ⟨a, dx, Ca, xs, e1, e2, w.take b, hC⟩
def LeftOf (h h' : MH) : Prop := h.length ≤ h'.length ∧ ∀ (n : Nat) (o : MO), n < h.length → h'[n]? = some o → h[n]? = some o ∨ o.lows h.length = true
theorem Rel.leave (r : Rel K L H h) (r' : Rel K L' H' h') (x : Ext L H L' H') (l : LeftOf h h') : Ext L H (L'.take h.length) H' ∧ Rel K (L'.take h.length) H' (h'.take h.length) := by
  refine ⟨⟨fun n o e => ?_, fun a o e n => let ⟨e1, n1⟩ := x.kept a o e n; ⟨e1, n1.take _⟩, x.lkd⟩, by rw [List.length_take, List.length_take, r'.len], fun n o e => ?_, fun n m a e1 e2 => ?_⟩
  · rw [take_at (r.ltL e)]; exact x.live n o e
  · have hn : n < h.length := by
      have := (List.getElem?_eq_some_iff.mp e).1
      rw [List.length_take] at this; omega
    rw [List.getElem?_take_of_lt hn] at e
    rw [take_at hn]
    refine (r'.at' n o e).take ?_
    rcases l.2 n o hn e with z | z
    · rw [← r.len]; exact (r.at' n o z).lows
    · exact z
  · have f : ∀ i : Nat, (L'.take h.length)[i]? = some (some a) → L'[i]? = some (some a) := fun i z => by
      by_cases hi : i < h.length
      · rw [take_at hi] at z; exact z
      · rw [List.getElem?_eq_none (by rw [List.length_take]; omega)] at z; cases z
    exact r'.inj n m a (f n e1) (f m e2)
end
end MM
namespace MM
open PySem PySem.Spec PyProof.Rows L2
inductive R (α : Type) where
  | ok (a : α) (h : MH)
  | exc (c : Str) (fs : List (Str × D)) (h : MH)
  | stuck
def R.bnd {α β : Type} (r : R α) (f : α → MH → R β) : R β := match r with
  | .ok a h => f a h
  | .exc c fs h => .exc c fs h
  | .stuck => .stuck
@[simp] theorem R.bnd_ok {α β : Type} (a : α) (h : MH) (f : α → MH → R β) : (R.ok a h).bnd f = f a h := rfl
@[simp] theorem R.bnd_exc {α β : Type} (c fs) (h : MH) (f : α → MH → R β) : (R.exc c fs h).bnd f = .exc c fs h := rfl
@[simp] theorem R.bnd_stuck {α β : Type} (f : α → MH → R β) : (R.stuck).bnd f = .stuck := rfl
theorem R.bnd_assoc {α β γ : Type} (r : R α) (f : α → MH → R β) (g : β → MH → R γ) : (r.bnd f).bnd g = r.bnd fun a h => (f a h).bnd g := by cases r <;> rfl
abbrev ME := MS → MH → R D
abbrev MT := MS → MH → R Bool
abbrev MA := MS → MH → R (List D)
abbrev RP (α β : Type) := TL → Hp → α → β → Prop
def rpB : RP Bool Bool := fun _ _ a b => a = b

def Ans {α β : Type} (K : PySem.W.Frag) (rp : RP α β) (L : TL) (H : Hp) (r : R α) (Q : β → Hp → Prop) (E : XK) : Prop := match r with
  | .ok d h' => ∀ L' H' v, Ext L H L' H' → Rel K L' H' h' → rp L' H' d v → Q v H'
  | .exc c fs h' => ∀ L' H' dx xs, Ext L H L' H' → Rel K L' H' h' → H' dx = some (.xd xs) → RepF K L' H' fs xs → ∀ ev, EV K c ev → E ev (some dx) H'
  | .stuck => False
section
variable {α β γ δ' : Type} {K : PySem.W.Frag} {rp : RP α β} {rp2 : RP γ δ'} {L L' : TL} {H H' : Hp} {E : XK}
theorem Ans.mono {r : R α} {Q : β → Hp → Prop} (x : Ext L H L' H') (a : Ans K rp L H r Q E) : Ans K rp L' H' r Q E := by
  cases r with
  | ok d h => exact fun L2 H2 v e => a L2 H2 v (x.trans e)
  | exc c fs h => exact fun L2 H2 dx xs e => a L2 H2 dx xs (x.trans e)
  | stuck => exact a
theorem Ans.imp {r : R α} {Q Q' : β → Hp → Prop} (a : Ans K rp L H r Q E) (f : ∀ v H', Q v H' → Q' v H') : Ans K rp L H r Q' E := by
  cases r with
  | ok d h => exact fun L2 H2 v e r q => f _ _ (a L2 H2 v e r q)
  | exc c fs h => exact a
  | stuck => exact a
theorem Ans.bind {r : R α} {k : α → MH → R γ} {Q : δ' → Hp → Prop} (a : Ans K rp2 L H (r.bnd k) Q E) :
    Ans K rp L H r (fun v H1 => ∃ L1 h1 d, Ext L H L1 H1 ∧ Rel K L1 H1 h1 ∧ rp L1 H1 d v ∧ Ans K rp2 L1 H1 (k d h1) Q E) E := by
  cases r with
  | ok d h => exact fun L2 H2 v e r q => ⟨L2, h, d, e, r, q, Ans.mono e a⟩
  | exc c fs h => exact a
  | stuck => exact a
end
def tE (K : PySem.W.Frag) (W : WX) (m : ME) : TE := fun σ H Q => ∃ L h δ, Rel K L H h ∧ RepS K L H δ σ ∧ Ans K (Rep K) L H (m δ h) Q (WE W σ)
def tT (K : PySem.W.Frag) (W : WX) (m : MT) : TT := fun σ H Q => ∃ L h δ, Rel K L H h ∧ RepS K L H δ σ ∧ Ans K rpB L H (m δ h) Q (WE W σ)
def tA (K : PySem.W.Frag) (W : WX) (m : MA) : TA := fun σ H Q => ∃ L h δ, Rel K L H h ∧ RepS K L H δ σ ∧ Ans K (RepL K) L H (m δ h) Q (WE W σ)
def PEM (X : Cx) (W : WX) (e : Expr) (m : ME) : Prop := PE X e (tE X.K W m)
def PTM (X : Cx) (W : WX) (e : Expr) (m : MT) : Prop := PT X e (tT X.K W m)
def PWM (X : Cx) (W : WX) (e : Expr) (m : MT) : Prop := PW X e (tT X.K W m)
def PAM (X : Cx) (W : WX) (es : List Expr) (m : MA) : Prop := PA X es (tA X.K W m)
theorem _root_.L2.PE.imp {X : Cx} {e : Expr} {t t' : TE} (p : PE X e t) (h : ∀ σ H Q, t' σ H Q → t σ H Q) : PE X e t' := ⟨fun pins s σ H Q I q => p.run pins s σ H Q I (h σ H Q q)⟩
theorem _root_.L2.PT.imp {X : Cx} {e : Expr} {t t' : TT} (p : PT X e t) (h : ∀ σ H Q, t' σ H Q → t σ H Q) : PT X e t' := ⟨fun pins s σ H Q I q => p.run pins s σ H Q I (h σ H Q q)⟩
theorem _root_.L2.PW.imp {X : Cx} {e : Expr} {t t' : TT} (p : PW X e t) (h : ∀ σ H Q, t' σ H Q → t σ H Q) : PW X e t' := ⟨fun wh pins s σ H Q I q => p.run wh pins s σ H Q I (h σ H Q q)⟩
theorem _root_.L2.PA.imp {X : Cx} {e : List Expr} {t t' : TA} (p : PA X e t) (h : ∀ σ H Q, t' σ H Q → t σ H Q) : PA X e t' := ⟨fun wh pins s σ H Q I q => p.run wh pins s σ H Q I (h σ H Q q)⟩
theorem _root_.L2.PS.imp {X : Cx} {e : Stmt} {t t' : TS} (p : PS X e t) (h : ∀ D σ H, t' D σ H → t D σ H) : PS X e t' := ⟨fun pins s σ H Q I q => p.run pins s σ H Q I (h Q σ H q)⟩
theorem _root_.L2.PSs.imp {X : Cx} {e : List Stmt} {t t' : TS} (p : PSs X e t) (h : ∀ D σ H, t' D σ H → t D σ H) : PSs X e t' := ⟨fun pins s σ H Q I q => p.run pins s σ H Q I (h Q σ H q)⟩

def mVar (i : Nat) : ME := fun δ h => match δ[i]? with
  | some (some d) => .ok d h
  | _ => .stuck
def mC (d : D) : ME := fun _ h => .ok d h
section
variable {X : Cx} {W : WX} {pos : Pos} {a b c : Expr} {ma mb mc : ME}
theorem tE_val {K : PySem.W.Frag} {L : TL} {H : Hp} {h : MH} {d : D} {v : V} {Q : VK} {E : XK} (r : Rel K L H h) (q : Rep K L H d v) (a : Ans K (Rep K) L H (.ok d h) Q E) : Q v H := a L H v (Ext.refl L H) r q
theorem rep_none {K L H} : Rep K L H .non .non := by unfold Rep; rfl
theorem rep_bl {K L H} {b : Bool} : Rep K L H (.bl b) (.bl b) := by unfold Rep; rfl
theorem rep_int {K L H} {i : Int} : Rep K L H (.int i) (.int i) := by unfold Rep; rfl
theorem rep_str {K L H} {s : Str} : Rep K L H (.str s) (.str s) := by unfold Rep; rfl
theorem rep_ty {K L H} {n : String} : Rep K L H (.ty n) (.ty n) := by unfold Rep; rfl
theorem pem_var {i : Nat} {x : Str} (h : PE X (.Name x pos) (tVar i)) : PEM X W (.Name x pos) (mVar i) := by
  refine PE.imp h fun σ H Q ⟨L, h, δ, r, s, a⟩ => ?_
  unfold mVar at a
  split at a
  · rename_i d e
    obtain ⟨v, e1, q⟩ := s.at' i d e
    exact ⟨v, e1, tE_val r q a⟩
  · exact a.elim
theorem pem_c {e : Expr} {d : D} {v : V} (h : PE X e (tC v)) (q : ∀ L H, Rep X.K L H d v) : PEM X W e (mC d) :=
  PE.imp h fun σ H Q ⟨L, h, δ, r, s, a⟩ => tE_val r (q L H) a
theorem pem_int {i j} : PEM X W (.Constant (.int i) j pos) (mC (.int i)) := pem_c pe_int fun _ _ => rep_int
theorem pem_bl {i j} : PEM X W (.Constant (.bool i) j pos) (mC (.bl i)) := pem_c pe_bl fun _ _ => rep_bl
theorem pem_non {j} : PEM X W (.Constant .none j pos) (mC .non) := pem_c pe_non fun _ _ => rep_none
theorem pem_str {i j} : PEM X W (.Constant (.str i) j pos) (mC (.str i)) := pem_c pe_str fun _ _ => rep_str

def mOp (f : D → D → MH → R D) (a b : ME) : ME := fun δ h => (a δ h).bnd fun x h1 => (b δ h1).bnd fun y h2 => f x y h2
def mUn (f : D → MH → R D) (a : ME) : ME := fun δ h => (a δ h).bnd fun x h1 => f x h1
def OpM (K : PySem.W.Frag) (r : R2) (f : D → D → MH → R D) : Prop := ∀ (L : TL) (H : Hp) (h : MH) (dx dy : D) (x y : V) (Q : VK) (E : XK), Rel K L H h → Rep K L H dx x → Rep K L H dy y → Ans K (Rep K) L H (f dx dy h) Q E → r x y H Q
def UnM (K : PySem.W.Frag) (r : V → Hp → VK → Prop) (f : D → MH → R D) : Prop := ∀ (L : TL) (H : Hp) (h : MH) (dx : D) (x : V) (Q : VK) (E : XK), Rel K L H h → Rep K L H dx x → Ans K (Rep K) L H (f dx h) Q E → r x H Q
theorem tOp_of {K : PySem.W.Frag} {W : WX} {r : R2} {f : D → D → MH → R D} (hm : OpM K r f) {σ : L2.St} {H : Hp} {Q : VK} (t : tE K W (mOp f ma mb) σ H Q) : tOp r (tE K W ma) (tE K W mb) σ H Q := by
  obtain ⟨L, h, δ, r0, s, a⟩ := t
  refine ⟨L, h, δ, r0, s, Ans.imp a.bind fun v H1 ⟨L1, h1, d, x1, r1, p1, a1⟩ => ⟨L1, h1, δ, r1, s.mono x1, Ans.imp a1.bind fun u H2 ⟨L2, h2, d2, x2, r2, p2, a2⟩ => ?_⟩⟩
  exact hm L2 H2 h2 d d2 v u Q _ r2 (p1.mono x2) p2 a2
theorem pem_op {op : Operator} {r : R2} {f : D → D → MH → R D} (ho : OpR X (binaryOp op) r) (hm : OpM X.K r f) (ha : PEM X W a ma) (hb : PEM X W b mb) : PEM X W (.BinOp a op b pos) (mOp f ma mb) :=
  PE.imp (pe_op ho ha hb) fun _ _ _ t => tOp_of hm t
theorem pem_cmp {op : CmpOp} {r : R2} {f : D → D → MH → R D} (ho : OpR X (compareOp op) r) (hm : OpM X.K r f) (hn : behindInMarks op b = false) (ha : PEM X W a ma) (hb : PEM X W b mb) : PEM X W (.Compare a [op] [b] pos) (mOp f ma mb) :=
  PE.imp (pe_cmpR ho ha hb hn) fun _ _ _ t => tOp_of hm t
theorem pem_un {op : UnaryOp} {r : V → Hp → VK → Prop} {f : D → MH → R D} (ho : UnR X (unaryOp op) r) (hm : UnM X.K r f) (ha : PEM X W a ma) : PEM X W (.UnaryOp op a pos) (mUn f ma) := by
  refine PE.imp (pe_un ho ha) fun σ H Q ⟨L, h, δ, r0, s, a⟩ => ?_
  exact ⟨L, h, δ, r0, s, Ans.imp a.bind fun v H1 ⟨L1, h1, d, x1, r1, p1, a1⟩ => hm L1 H1 h1 d v Q _ r1 p1 a1⟩
def isB (d : D) (h : MH) : R Bool := match d with
  | .bl b => .ok b h
  | _ => .stuck
def mB (m : ME) : MT := fun δ h => (m δ h).bnd isB
theorem ans_isB {K L H h d v} {Q : Bool → Hp → Prop} {E : XK} (r : Rel K L H h) (q : Rep K L H d v) (a : Ans K rpB L H (isB d h) Q E) : ∃ k, v = .bl k ∧ Q k H := by
  cases d with
  | bl b =>
    unfold Rep at q
    exact ⟨b, q, a L H b (Ext.refl _ _) r rfl⟩
  | _ => exact a.elim
theorem ptm_cmp {op : CmpOp} {r : R2} {f : D → D → MH → R D} (ho : OpR X (compareOp op) r) (hm : OpM X.K r f) (hn : behindInMarks op b = false) (ha : PEM X W a ma) (hb : PEM X W b mb) : PTM X W (.Compare a [op] [b] pos) (mB (mOp f ma mb)) := by
  refine PT.imp (pt_cmpR ho ha hb hn) fun σ H Q ⟨L, h, δ, r0, s, a⟩ => ?_
  refine tOp_of hm (K := X.K) (W := W) ⟨L, h, δ, r0, s, Ans.imp (Ans.bind (rp := Rep X.K) a) fun v H1 ⟨L1, h1, d, x1, r1, p1, a1⟩ => ?_⟩
  exact ans_isB r1 p1 a1
def lst? (h : MH) (n : Nat) : Option (List D) := match h[n]? with
  | some (.lst ds) => some ds
  | _ => none
def dic? (h : MH) (n : Nat) : Option (List (Key × D)) := match h[n]? with
  | some (.dic ds) => some ds
  | _ => none
def lstD (d : D) (h : MH) : Option (List D) := match d with
  | .rol ds => some ds
  | .ref n => lst? h n
  | _ => none
def dicD (d : D) (h : MH) : Option (List (Key × D)) := match d with
  | .ref n => dic? h n
  | _ => none
theorem lst?_at {h : MH} {n : Nat} {ds} (e : lst? h n = some ds) : h[n]? = some (.lst ds) := by
  unfold lst? at e
  split at e
  · rename_i z; cases e; exact z
  · cases e
theorem dic?_at {h : MH} {n : Nat} {ds} (e : dic? h n = some ds) : h[n]? = some (.dic ds) := by
  unfold dic? at e
  split at e
  · rename_i z; cases e; exact z
  · cases e
def truD (d : D) (h : MH) : R Bool := match d with
  | .non => .ok false h
  | .bl b => .ok b h
  | .int i => .ok (i != 0) h
  | .str s => if s.length ≤ 16777216 then .ok ((s.length : Int) != 0) h else .stuck
  | .tup ds => .ok (!ds.isEmpty) h
  | d => match lstD d h with
    | some ds => .ok (!ds.isEmpty) h
    | none => match dicD d h with
      | some kvs => .ok (!kvs.isEmpty) h
      | none => .stuck
def mTru (m : ME) : MT := fun δ h => (m δ h).bnd truD
theorem SF.sq {K L H a xs} (s : SF K L H a xs) : SqL K H a xs := by
  rcases s with ⟨s, _⟩ | s
  · exact .inl s
  · exact .inr s
theorem SU.sq {K L H a xs} (s : SU K L H a xs) : SqT K H a xs := by
  rcases s with ⟨s, _⟩ | s
  · exact .inl s
  · exact .inr s
theorem RepL.empty {K L H ds vs} (r : RepL K L H ds vs) : ds.isEmpty = vs.isEmpty := by
  have := r.length
  cases ds <;> cases vs <;> simp_all
theorem RepK.empty {K L H} : ∀ {ds : List (Key × D)} {vs}, RepK K L H ds vs → ds.isEmpty = vs.isEmpty
  | [], _, r => by cases r; rfl
  | d :: ds, _, ⟨v, vs, e, _, _⟩ => by subst e; rfl
theorem Rel.lst {K L H} {h : MH} {n : Nat} {ds} (r : Rel K L H h) (e : h[n]? = some (.lst ds)) : ∃ a xs, L[n]? = some (some a) ∧ H a = some (.lst xs) ∧ RepL K L H ds xs := r.at' n _ e
theorem Rel.dic {K L H} {h : MH} {n : Nat} {ds} (r : Rel K L H h) (e : h[n]? = some (.dic ds)) : ∃ a xs, L[n]? = some (some a) ∧ H a = some (.dK xs) ∧ RepK K L H ds xs := r.at' n _ e
theorem Rep.ref {K L H} {n : Nat} {v a} (q : Rep K L H (.ref n) v) (e : L[n]? = some (some a)) : v = .ref a := by
  unfold Rep at q
  obtain ⟨b, e1, z | z⟩ := q
  · rw [e] at z; cases z; exact e1
  · rw [e] at z; cases z
theorem lstD_of {K L H} {h : MH} {d v ds} (r : Rel K L H h) (q : Rep K L H d v) (e : lstD d h = some ds) : ∃ p xs, v = .ref p ∧ SqL K H p xs ∧ RepL K L H ds xs := by
  cases d with
  | rol es =>
    cases e
    unfold Rep at q
    obtain ⟨p, xs, rfl, s, w⟩ := q
    exact ⟨p, xs, rfl, s.sq, w⟩
  | ref n =>
    obtain ⟨p, xs, e1, e2, w⟩ := r.lst (lst?_at e)
    exact ⟨p, xs, q.ref e1, SqL.of e2, w⟩
  | _ => cases e
theorem dicD_of {K L H} {h : MH} {d v ds} (r : Rel K L H h) (q : Rep K L H d v) (e : dicD d h = some ds) : ∃ p xs, v = .ref p ∧ H p = some (.dK xs) ∧ RepK K L H ds xs := by
  cases d with
  | ref n =>
    obtain ⟨p, xs, e1, e2, w⟩ := r.dic (dic?_at e)
    exact ⟨p, xs, q.ref e1, e2, w⟩
  | _ => cases e
theorem tup_of {K L H} {v ds} (q : Rep K L H (.tup ds) v) : ∃ p xs, v = .ref p ∧ SqT K H p xs ∧ RepL K L H ds xs := by
  unfold Rep at q
  obtain ⟨p, xs, rfl, s, w⟩ := q
  exact ⟨p, xs, rfl, s.sq, w⟩
theorem ans_okB {K L H} {h : MH} {b : Bool} {Q : Bool → Hp → Prop} {E : XK} (r : Rel K L H h) (a : Ans K rpB L H (.ok b h) Q E) : Q b H := a L H b (Ext.refl _ _) r rfl
theorem ans_tru {K L H} {h : MH} {d v} {Q : Bool → Hp → Prop} {E : XK} (r : Rel K L H h) (q : Rep K L H d v) (a : Ans K rpB L H (truD d h) Q E) : ∃ k, TruV K v H k ∧ Q k H := by
  have big : ∀ d, truD d h = (match lstD d h with
    | some ds => .ok (!ds.isEmpty) h
    | none => match dicD d h with
      | some kvs => .ok (!kvs.isEmpty) h
      | none => .stuck) → Rep K L H d v → Ans K rpB L H (truD d h) Q E → ∃ k, TruV K v H k ∧ Q k H := fun d e q a => by
    rw [e] at a
    cases e1 : lstD d h with
    | some ds =>
      rw [e1] at a
      obtain ⟨p, xs, rfl, s, w⟩ := lstD_of r q e1
      exact ⟨_, .inl ⟨xs, s, rfl⟩, by rw [← w.empty]; exact ans_okB r a⟩
    | none =>
      rw [e1] at a
      cases e2 : dicD d h with
      | some ds =>
        rw [e2] at a
        obtain ⟨p, xs, rfl, s, w⟩ := dicD_of r q e2
        exact ⟨_, .inr (.inr ⟨xs, s, rfl⟩), by rw [← w.empty]; exact ans_okB r a⟩
      | none => rw [e2] at a; exact a.elim
  cases d with
  | non => unfold Rep at q; subst q; exact ⟨_, rfl, ans_okB r a⟩
  | bl b => unfold Rep at q; subst q; exact ⟨_, rfl, ans_okB r a⟩
  | int b => unfold Rep at q; subst q; exact ⟨_, rfl, ans_okB r a⟩
  | str s =>
    unfold Rep at q; subst q
    by_cases hs : s.length ≤ 16777216
    · rw [show truD (.str s) h = .ok ((s.length : Int) != 0) h from if_pos hs] at a
      exact ⟨_, ⟨by rw [sizeLine_eq]; exact hs, rfl⟩, ans_okB r a⟩
    · rw [show truD (.str s) h = .stuck from if_neg hs] at a; exact a.elim
  | tup ds =>
    obtain ⟨p, xs, rfl, s, w⟩ := tup_of q
    exact ⟨_, .inr (.inl ⟨xs, s, rfl⟩), by rw [← w.empty]; exact ans_okB r a⟩
  | rol ds => exact big _ rfl q a
  | ref n => exact big _ rfl q a
  | obj _ => exact a.elim
  | ty _ => exact a.elim
  | kon _ => exact a.elim
  | rdc _ _ => exact a.elim
  | xo _ _ _ _ => exact a.elim
theorem ptm_val (ha : PEM X W a ma) (he : ∀ whole, isTrue a X.env whole = (do let v ← whole; standAt a.pos; holding [v] (truthy v)) := by intro _; rfl) : PTM X W a (mTru ma) := by
  refine PT.imp (pt_truth ha he) fun σ H Q ⟨L, h, δ, r0, s, a⟩ => ?_
  exact ⟨L, h, δ, r0, s, Ans.imp a.bind fun v H1 ⟨L1, h1, d, x1, r1, p1, a1⟩ => ans_tru r1 p1 a1⟩
def mNot (m : MT) : MT := fun δ h => (m δ h).bnd fun b h1 => .ok (!b) h1
def mAnd (m n : MT) : MT := fun δ h => (m δ h).bnd fun b h1 => if b then n δ h1 else .ok false h1
def mOr (m n : MT) : MT := fun δ h => (m δ h).bnd fun b h1 => if b then .ok true h1 else n δ h1
variable {na nb : MT} {rest : List Expr}
theorem tT_ok {K L H h} {b : Bool} {Q : Bool → Hp → Prop} {E : XK} (r : Rel K L H h) (a : Ans K rpB L H (.ok b h) Q E) : Q b H := a L H b (Ext.refl _ _) r rfl
theorem ptm_not (ha : PTM X W a na) : PTM X W (.UnaryOp .Not a pos) (mNot na) := by
  refine PT.imp (pt_not ha) fun σ H Q ⟨L, h, δ, r0, s, a⟩ => ?_
  refine ⟨L, h, δ, r0, s, Ans.imp (Ans.bind (rp := rpB) a) fun v H1 ⟨L1, h1, d, x1, r1, p1, a1⟩ => ?_⟩
  cases p1
  exact tT_ok r1 a1
theorem pwm_and1 (ha : PTM X W a na) : PWM X W (.BoolOp .And [a] pos) na := pw_and1 ha
theorem pwm_or1 (ha : PTM X W a na) : PWM X W (.BoolOp .Or [a] pos) na := pw_or1 ha
theorem pwm_and (ha : PTM X W a na) (hb : PWM X W (.BoolOp .And (b :: rest) pos) nb) : PWM X W (.BoolOp .And (a :: b :: rest) pos) (mAnd na nb) := by
  refine PW.imp (pw_and ha hb) fun σ H Q ⟨L, h, δ, r0, s, a⟩ => ?_
  refine ⟨L, h, δ, r0, s, Ans.imp (Ans.bind (rp := rpB) a) fun v H1 ⟨L1, h1, d, x1, r1, p1, a1⟩ => ?_⟩
  cases p1
  cases v with
  | true => exact ⟨L1, h1, δ, r1, s.mono x1, a1⟩
  | false => exact tT_ok r1 a1
theorem pwm_or (ha : PTM X W a na) (hb : PWM X W (.BoolOp .Or (b :: rest) pos) nb) : PWM X W (.BoolOp .Or (a :: b :: rest) pos) (mOr na nb) := by
  refine PW.imp (pw_or ha hb) fun σ H Q ⟨L, h, δ, r0, s, a⟩ => ?_
  refine ⟨L, h, δ, r0, s, Ans.imp (Ans.bind (rp := rpB) a) fun v H1 ⟨L1, h1, d, x1, r1, p1, a1⟩ => ?_⟩
  cases p1
  cases v with
  | false => exact ⟨L1, h1, δ, r1, s.mono x1, a1⟩
  | true => exact tT_ok r1 a1
theorem ptm_w (h : PWM X W a na) : PTM X W a na := PW.pt h
def mIf (t : MT) (a b : ME) : ME := fun δ h => (t δ h).bnd fun c h1 => if c then a δ h1 else b δ h1
theorem pem_if (hc : PTM X W c na) (ha : PEM X W a ma) (hb : PEM X W b mb) : PEM X W (.IfExp c a b pos) (mIf na ma mb) := by
  refine PE.imp (pe_ifExp hc ha hb) fun σ H Q ⟨L, h, δ, r0, s, a⟩ => ?_
  refine ⟨L, h, δ, r0, s, Ans.imp (Ans.bind (rp := rpB) a) fun v H1 ⟨L1, h1, d, x1, r1, p1, a1⟩ => ?_⟩
  cases p1
  cases v with
  | true => exact ⟨L1, h1, δ, r1, s.mono x1, a1⟩
  | false => exact ⟨L1, h1, δ, r1, s.mono x1, a1⟩
theorem isB_inv {α β : Type} {rp : RP α β} {K L H} {h : MH} {d : D} {k : Bool → MH → R α} {Q : β → Hp → Prop} {E : XK} (a : Ans K rp L H ((isB d h).bnd k) Q E) : ∃ b, d = .bl b ∧ Ans K rp L H (k b h) Q E := by
  cases d with
  | bl b => exact ⟨b, rfl, a⟩
  | _ => exact a.elim
theorem rep_bl_inv {K L H b v} (q : Rep K L H (.bl b) v) : v = .bl b := by unfold Rep at q; exact q
theorem ans_okE {K L H} {h : MH} {d : D} {v : V} {Q : VK} {E : XK} (r : Rel K L H h) (q : Rep K L H d v) (a : Ans K (Rep K) L H (.ok d h) Q E) : Q v H := a L H v (Ext.refl L H) r q
def mAndV (m n : ME) : ME := fun δ h => (m δ h).bnd fun x h1 => (isB x h1).bnd fun b h2 => if b then n δ h2 else .ok (.bl false) h2
def mOrV (m n : ME) : ME := fun δ h => (m δ h).bnd fun x h1 => (isB x h1).bnd fun b h2 => if b then .ok (.bl true) h2 else n δ h2
def mNotV (m : ME) : ME := fun δ h => (m δ h).bnd fun x h1 => (isB x h1).bnd fun b h2 => .ok (.bl (!b)) h2
theorem pem_one {op} (ha : PEM X W a ma) : PEM X W (.BoolOp op [a] pos) ma := pe_one ha
theorem pem_and (ha : PEM X W a ma) (hb : PEM X W (.BoolOp .And (b :: rest) pos) mb) : PEM X W (.BoolOp .And (a :: b :: rest) pos) (mAndV ma mb) := by
  refine PE.imp (pe_and ha hb) fun σ H Q ⟨L, h, δ, r0, s, a⟩ => ?_
  refine ⟨L, h, δ, r0, s, Ans.imp (Ans.bind (rp := Rep X.K) a) fun v H1 ⟨L1, h1, d, x1, r1, p1, a1⟩ => ?_⟩
  obtain ⟨b, rfl, a2⟩ := isB_inv a1
  refine ⟨b, rep_bl_inv p1, ?_⟩
  cases b with
  | true => exact iteT (show tE X.K W mb σ H1 Q from ⟨L1, h1, δ, r1, s.mono x1, a2⟩)
  | false => exact iteF (ans_okE r1 rep_bl a2)
def mChain (f g : D → D → MH → R D) (a b c : ME) : ME := fun δ h => (a δ h).bnd fun x h1 => (b δ h1).bnd fun y h2 => (f x y h2).bnd fun z h3 => (isB z h3).bnd fun t h4 =>
  if t then (c δ h4).bnd fun w h5 => g y w h5 else .ok (.bl false) h4
theorem tChain_of {K : PySem.W.Frag} {r r' : R2} {f g : D → D → MH → R D} (hm : OpM K r f) (hm' : OpM K r' g) {σ : L2.St} {H : Hp} {Q : VK} (t : tE K W (mChain f g ma mb mc) σ H Q) : tChain r r' (tE K W ma) (tE K W mb) (tE K W mc) σ H Q := by
  obtain ⟨L, h, δ, r0, s, a⟩ := t
  refine ⟨L, h, δ, r0, s, Ans.imp (Ans.bind (rp := Rep K) a) fun v H1 ⟨L1, h1, d, x1, r1, p1, a1⟩ => ⟨L1, h1, δ, r1, s.mono x1, Ans.imp (Ans.bind (rp := Rep K) a1) fun u H2 ⟨L2, h2, d2, x2, r2, p2, a2⟩ => ?_⟩⟩
  refine hm L2 H2 h2 d d2 v u _ _ r2 (p1.mono x2) p2 (Ans.imp (Ans.bind (rp := Rep K) a2) fun z H3 ⟨L3, h3, d3, x3, r3, p3, a3⟩ => ?_)
  obtain ⟨b, rfl, a4⟩ := isB_inv a3
  refine ⟨b, rep_bl_inv p3, ?_⟩
  cases b with
  | false => exact iteF (ans_okE r3 rep_bl a4)
  | true =>
    refine iteT (show tE K W mc σ H3 _ from ?_)
    refine ⟨L3, h3, δ, r3, s.mono (x1.trans (x2.trans x3)), Ans.imp (Ans.bind (rp := Rep K) a4) fun w H4 ⟨L4, h4, d4, x4, r4, p4, a5⟩ => ?_⟩
    exact hm' L4 H4 h4 d2 d4 u w Q _ r4 (p2.mono (x3.trans x4)) p4 a5
theorem ptm_chain {op op' : CmpOp} {r r' : R2} {f g : D → D → MH → R D} (ho : OpR X (compareOp op) r) (ho' : OpR X (compareOp op') r') (hm : OpM X.K r f) (hm' : OpM X.K r' g) (ha : PEM X W a ma) (hb : PEM X W b mb) (hc : PEM X W c mc)
    (h1 : lastMarks [op, op'] [b, c] = false) : PTM X W (.Compare a [op, op'] [b, c] pos) (mB (mChain f g ma mb mc)) := by
  refine PT.imp (pt_chain ho ho' ha hb hc h1) fun σ H Q ⟨L, h, δ, r0, s, a⟩ => ?_
  refine tChain_of hm hm' (K := X.K) (W := W) ⟨L, h, δ, r0, s, Ans.imp (Ans.bind (rp := Rep X.K) a) fun v H1 ⟨L1, h1, d, x1, r1, p1, a1⟩ => ?_⟩
  exact ans_isB r1 p1 a1
end
end MM
namespace MM
open PySem PySem.Spec PyProof.Rows L2
inductive Fl where
  | next (δ : MS) | ret (d : D) | brk (δ : MS) | cont (δ : MS)
inductive SR where
  | ok (f : Fl) (h : MH)
  | exc (c : Str) (fs : List (Str × D)) (δ : MS) (h : MH)
  | stuck
abbrev MSt := MS → MH → SR
def AnsF (K : PySem.W.Frag) (D : Ends) (L : TL) (H : Hp) (f : Fl) (h' : MH) : Prop := match f with
  | .next δ => ∀ L' H' σ', Ext L H L' H' → Rel K L' H' h' → RepS K L' H' δ σ' → D.nx σ' H'
  | .ret d => ∀ L' H' v, Ext L H L' H' → Rel K L' H' h' → Rep K L' H' d v → D.rt v H'
  | .brk δ => ∀ L' H' σ', Ext L H L' H' → Rel K L' H' h' → RepS K L' H' δ σ' → D.bk σ' H'
  | .cont δ => ∀ L' H' σ', Ext L H L' H' → Rel K L' H' h' → RepS K L' H' δ σ' → D.ct σ' H'
def AnsS (K : PySem.W.Frag) (D : Ends) (W : WX) (L : TL) (H : Hp) (r : SR) : Prop := match r with
  | .ok f h' => AnsF K D L H f h'
  | .exc c fs δ h' => ∀ L' H' σ' dx xs, Ext L H L' H' → Rel K L' H' h' → RepS K L' H' δ σ' → H' dx = some (.xd xs) → RepF K L' H' fs xs → ∀ ev, EV K c ev → W ev (some dx) σ' H'
  | .stuck => False
def tS (K : PySem.W.Frag) (W : WX) (m : MSt) : TS := fun D σ H => ∃ L h δ, Rel K L H h ∧ RepS K L H δ σ ∧ AnsS K D W L H (m δ h)
def PSM (X : Cx) (W : WX) (st : Stmt) (m : MSt) : Prop := PS X st (tS X.K W m)
def PSsM (X : Cx) (W : WX) (st : List Stmt) (m : MSt) : Prop := PSs X st (tS X.K W m)
def R.st {α : Type} (r : R α) (δ : MS) (k : α → MH → SR) : SR := match r with
  | .ok a h => k a h
  | .exc c fs h => .exc c fs δ h
  | .stuck => .stuck
@[simp] theorem R.st_ok {α : Type} (a : α) (h : MH) (δ) (k : α → MH → SR) : (R.ok a h).st δ k = k a h := rfl
@[simp] theorem R.st_exc {α : Type} (c fs) (h : MH) (δ) (k : α → MH → SR) : (R.exc c fs h).st δ k = .exc c fs δ h := rfl
@[simp] theorem R.st_stuck {α : Type} (δ) (k : α → MH → SR) : (R.stuck).st δ k = .stuck := rfl
section
variable {α β : Type} {K : PySem.W.Frag} {rp : RP α β} {L L' : TL} {H H' : Hp} {D D' : Ends} {W : WX}
theorem AnsF.mono {f : Fl} {h : MH} (x : Ext L H L' H') (a : AnsF K D L H f h) : AnsF K D L' H' f h := by
  cases f with
  | next δ => exact fun L2 H2 v e => a L2 H2 v (x.trans e)
  | ret δ => exact fun L2 H2 v e => a L2 H2 v (x.trans e)
  | brk δ => exact fun L2 H2 v e => a L2 H2 v (x.trans e)
  | cont δ => exact fun L2 H2 v e => a L2 H2 v (x.trans e)
theorem AnsS.mono {r : SR} (x : Ext L H L' H') (a : AnsS K D W L H r) : AnsS K D W L' H' r := by
  cases r with
  | ok f h => exact AnsF.mono x a
  | exc c fs δ h => exact fun L2 H2 s dx xs e => a L2 H2 s dx xs (x.trans e)
  | stuck => exact a
theorem AnsS.bind {r : R α} {δ : MS} {σ : L2.St} {k : α → MH → SR} (s : RepS K L H δ σ) (a : AnsS K D W L H (r.st δ k)) :
    Ans K rp L H r (fun v H1 => ∃ L1 h1 d, Ext L H L1 H1 ∧ Rel K L1 H1 h1 ∧ rp L1 H1 d v ∧ RepS K L1 H1 δ σ ∧ AnsS K D W L1 H1 (k d h1)) (WE W σ) := by
  cases r with
  | ok d h => exact fun L2 H2 v e r q => ⟨L2, h, d, e, r, q, s.mono e, AnsS.mono e a⟩
  | exc c fs h => exact fun L2 H2 dx xs e r q1 q2 => a L2 H2 σ dx xs e r (s.mono e) q1 q2
  | stuck => exact a
theorem AnsS.nx {δ : MS} {h : MH} {σ : L2.St} (r : Rel K L H h) (s : RepS K L H δ σ) (a : AnsS K D W L H (.ok (.next δ) h)) : D.nx σ H := a L H σ (Ext.refl _ _) r s
theorem AnsS.rt {d : MM.D} {h : MH} {v : V} (r : Rel K L H h) (s : Rep K L H d v) (a : AnsS K D W L H (.ok (.ret d) h)) : D.rt v H := a L H v (Ext.refl _ _) r s
end
def mNext : MSt := fun δ h => .ok (.next δ) h
def SR.seq (r : SR) (k : MSt) : SR := match r with
  | .ok (.next δ) h => k δ h
  | r => r
def mSeq (a b : MSt) : MSt := fun δ h => (a δ h).seq b
@[simp] theorem SR.seq_next (δ h k) : (SR.ok (.next δ) h).seq k = k δ h := rfl
@[simp] theorem SR.seq_ret (δ h k) : (SR.ok (.ret δ) h).seq k = .ok (.ret δ) h := rfl
@[simp] theorem SR.seq_brk (δ h k) : (SR.ok (.brk δ) h).seq k = .ok (.brk δ) h := rfl
@[simp] theorem SR.seq_cont (δ h k) : (SR.ok (.cont δ) h).seq k = .ok (.cont δ) h := rfl
@[simp] theorem SR.seq_exc (c fs δ h k) : (SR.exc c fs δ h).seq k = .exc c fs δ h := rfl
section
variable {X : Cx} {W : WX} {pos : Pos} {e : Expr} {me : ME} {st : Stmt} {rest body : List Stmt} {ma mb : MSt}
theorem pssm_nil : PSsM X W [] mNext := PSs.imp pss_nil fun D σ H ⟨L, h, δ, r, s, a⟩ => a.nx r s
theorem tSeq_of {K : PySem.W.Frag} {D : Ends} {σ : L2.St} {H : Hp} (t : tS K W (mSeq ma mb) D σ H) : tSeq (tS K W ma) (tS K W mb) D σ H := by
  obtain ⟨L, h, δ, r, s, a⟩ := t
  refine ⟨L, h, δ, r, s, ?_⟩
  unfold mSeq at a
  generalize ma δ h = m at a
  cases m with
  | ok f h1 =>
    cases f with
    | next δ1 => exact fun L1 H1 σ1 x1 r1 s1 => ⟨L1, h1, δ1, r1, s1, a.mono x1⟩
    | ret d => exact a
    | brk d => exact a
    | cont d => exact a
  | exc c fs δ h1 => exact a
  | stuck => exact a
theorem pssm_cons (h1 : PSM X W st ma) (h2 : PSsM X W rest mb) : PSsM X W (st :: rest) (mSeq ma mb) := PSs.imp (pss_cons h1 h2) fun _ _ _ t => tSeq_of t
theorem pssm_one (h1 : PSM X W st ma) : PSsM X W [st] ma := pss_one h1
def mBrk : MSt := fun δ h => .ok (.brk δ) h
def mCont : MSt := fun δ h => .ok (.cont δ) h
def mDrop (m : ME) : MSt := fun δ h => (m δ h).st δ fun _ h1 => .ok (.next δ) h1
theorem psm_expr (he : PEM X W e me) (hs : swapsWith e none pos.line X.env = pure false := by rfl) : PSM X W (.Expr e pos) (mDrop me) :=
  PS.imp (ps_expr he hs) fun D σ H ⟨L, h, δ, r, s, a⟩ => ⟨L, h, δ, r, s, Ans.imp (AnsS.bind (rp := Rep X.K) s a) fun v H1 ⟨L1, h1, d, x1, r1, p1, s1, a1⟩ => a1.nx r1 s1⟩
def mRet (m : ME) : MSt := fun δ h => (m δ h).st δ fun d h1 => .ok (.ret d) h1
theorem psm_ret (he : PEM X W e me) : PSM X W (.Return (some e) pos) (mRet me) :=
  PS.imp (ps_ret he) fun D σ H ⟨L, h, δ, r, s, a⟩ => ⟨L, h, δ, r, s, Ans.imp (AnsS.bind (rp := Rep X.K) s a) fun v H1 ⟨L1, h1, d, x1, r1, p1, s1, a1⟩ => a1.rt r1 p1⟩
theorem psm_retN : PSM X W (.Return none pos) (mRet (mC .non)) :=
  PS.imp ps_retN fun D σ H ⟨L, h, δ, r, s, a⟩ => AnsS.rt r rep_none a
def mIfS (t : MT) (a b : MSt) : MSt := fun δ h => (t δ h).st δ fun c h1 => if c then a δ h1 else b δ h1
theorem psm_if {c : Expr} {a b : List Stmt} {mt : MT} (hc : PTM X W c mt) (ha : PSsM X W a ma) (hb : PSsM X W b mb) : PSM X W (.If c a b pos) (mIfS mt ma mb) := by
  refine PS.imp (ps_if hc ha hb) fun D σ H ⟨L, h, δ, r, s, a⟩ => ?_
  refine ⟨L, h, δ, r, s, Ans.imp (AnsS.bind (rp := rpB) s a) fun v H1 ⟨L1, h1, d, x1, r1, p1, s1, a1⟩ => ?_⟩
  cases p1
  cases v with
  | true => exact iteT (show tS X.K W ma D σ H1 from ⟨L1, h1, δ, r1, s1, a1⟩)
  | false => exact iteF (show tS X.K W mb D σ H1 from ⟨L1, h1, δ, r1, s1, a1⟩)
abbrev MG := D → MS → Option MS
abbrev MGs := List D → MS → Option MS
def Only (S : List Nat) (σ σ' : L2.St) : Prop := σ'.length = σ.length ∧ ∀ i : Nat, i ∉ S → σ'[i]? = σ[i]?
def tG (K : PySem.W.Frag) (S : List Nat) (g : MG) : TG := fun v σ H Q => ∃ L h δ d, Rel K L H h ∧ RepS K L H δ σ ∧ Rep K L H d v ∧ ∃ δ', g d δ = some δ' ∧ ∀ σ', RepS K L H δ' σ' → Only S σ σ' → Q σ' H
def tGs (K : PySem.W.Frag) (S : List Nat) (g : MGs) : TGs := fun vs σ H Q => ∃ L h δ ds, Rel K L H h ∧ RepS K L H δ σ ∧ RepL K L H ds vs ∧ ∃ δ', g ds δ = some δ' ∧ ∀ σ', RepS K L H δ' σ' → Only S σ σ' → Q σ' H
theorem _root_.L2.PG.imp {X : Cx} {e : Expr} {t t' : TG} (p : PG X e t) (h : ∀ v σ H Q, t' v σ H Q → t v σ H Q) : PG X e t' :=
  ⟨fun pins s σ H v u Q I r q => p.run pins s σ H v u Q I r (h _ _ _ _ q)⟩
theorem _root_.L2.PGs.imp {X : Cx} {e : List Expr} {t t' : TGs} (p : PGs X e t) (h : ∀ v σ H Q, t' v σ H Q → t v σ H Q) : PGs X e t' :=
  ⟨fun pins s σ H v u Q I r q => p.run pins s σ H v u Q I r (h _ _ _ _ q)⟩
def PGM (X : Cx) (e : Expr) (S : List Nat) (g : MG) : Prop := PG X e (tG X.K S g)
def PGsM (X : Cx) (e : List Expr) (S : List Nat) (g : MGs) : Prop := PGs X e (tGs X.K S g)
def mgName (i : Nat) : MG := fun d δ => some (δ.set i (some d))
theorem Only.set {σ : L2.St} {i : Nat} {v : Option V} : Only [i] σ (σ.set i v) := ⟨List.length_set .., fun j hj => List.getElem?_set_ne (fun e => hj (by simp [e]))⟩
theorem Only.refl {S : List Nat} {σ : L2.St} : Only S σ σ := ⟨rfl, fun _ _ => rfl⟩
theorem Only.trans {S T : List Nat} {a b c : L2.St} (x : Only S a b) (y : Only T b c) : Only (S ++ T) a c := ⟨y.1.trans x.1, fun i hi => (y.2 i fun z => hi (List.mem_append_right _ z)).trans (x.2 i fun z => hi (List.mem_append_left _ z))⟩
theorem pgm_name {i : Nat} {x : Str} (h : PG X (.Name x pos) (gName i)) : PGM X (.Name x pos) [i] (mgName i) :=
  PG.imp h fun v σ H Q ⟨L, h, δ, d, r, s, p, δ', e, q⟩ => by
    cases e
    exact q _ (s.set p) Only.set
def mgNil : MGs := fun ds δ => match ds with
  | [] => some δ
  | _ => none
def mgCons (g : MG) (gs : MGs) : MGs := fun ds δ => match ds with
  | [] => none
  | d :: ds => (g d δ).bind fun δ' => gs ds δ'
theorem pgsm_nil : PGsM X [] [] mgNil := PGs.imp pgs_nil fun v σ H Q ⟨L, h, δ, ds, r, s, p, δ', e, q⟩ => by
  cases ds with
  | nil => cases e; exact ⟨p.nil_inv, q σ s Only.refl⟩
  | cons _ _ => cases e
theorem pgsm_cons {S T : List Nat} {es : List Expr} {g : MG} {gs : MGs} (h1 : PGM X e S g) (h2 : PGsM X es T gs)
    (hs : (assignEach (e :: es) X.env).map (·.2) = assign e X.env :: (assignEach es X.env).map (·.2) := by rfl) : PGsM X (e :: es) (S ++ T) (mgCons g gs) :=
  PGs.imp (pgs_cons h1 h2 hs) fun v σ H Q ⟨L, h, δ, ds, r, s, p, δ', e, q⟩ => by
    cases ds with
    | nil => cases e
    | cons d ds =>
      obtain ⟨v, ws, rfl, p1, p2⟩ := p.cons_inv
      unfold mgCons at e
      obtain ⟨δ1, e1, e2⟩ := Option.bind_eq_some_iff.mp e
      exact ⟨v, ws, rfl, L, h, δ, d, r, s, p1, δ1, e1, fun σ1 s1 o1 => ⟨L, h, δ1, ds, r, s1, p2, δ', e2, fun σ2 s2 o2 => q σ2 s2 (o1.trans o2)⟩⟩
def mgTup (n : Nat) (gs : MGs) : MG := fun d δ => match d with
  | .tup ds => if ds.length = n then gs ds δ else none
  | _ => none
def mAsg (m : ME) (g : MG) : MSt := fun δ h => (m δ h).st δ fun d h1 => match g d δ with
  | some δ' => .ok (.next δ') h1
  | none => .stuck
abbrev mSet (i : Nat) (m : ME) : MSt := fun δ h => (m δ h).st δ fun d h1 => .ok (.next (δ.set i (some d))) h1
theorem psm_set {i : Nat} {x : Str} {pos' : Pos} (h : PS X (.Assign [.Name x pos'] e pos) (tAsg (tE X.K W me) (gName i))) : PSM X W (.Assign [.Name x pos'] e pos) (mSet i me) :=
  PS.imp h fun D σ H ⟨L, h, δ, r, s, a⟩ => ⟨L, h, δ, r, s, Ans.imp (AnsS.bind (rp := Rep X.K) s a) fun v H1 ⟨L1, h1, d, x1, r1, p1, s1, a1⟩ => a1.nx r1 (s1.set p1)⟩
end
end MM
namespace MM
open PySem PySem.Spec PyProof.Rows L2
open Classical in
noncomputable def leave (h : MH) (d : D) (h' : MH) : R D := if LeftOf h h' ∧ d.lows h.length = true then .ok d (h'.take h.length) else .stuck
theorem ans_leave {K L H L' H'} {h h' : MH} {d : D} {v : V} {Q : VK} {E : XK} (r : Rel K L H h) (x : Ext L H L' H') (r' : Rel K L' H' h') (q : Rep K L' H' d v) (a : Ans K (Rep K) L H (leave h d h') Q E) : Q v H' := by
  unfold leave at a
  split at a
  · rename_i z
    obtain ⟨x1, r1⟩ := r.leave r' x z.1
    exact a _ H' v x1 r1 (q.take z.2)
  · exact a.elim

structure Trod (K : PySem.W.Frag) (L : TL) (H : Hp) (J : It) (ds : List D) (g : MH → Prop) : Prop where
  go : ∀ L' H' h' (i : Nat), Ext L H L' H' → Rel K L' H' h' → g h' → i < ds.length → J.go i H'
  stop : ∀ L' H' h', Ext L H L' H' → Rel K L' H' h' → g h' → J.stop ds.length H'
  yld : ∀ L' H' h' (i : Nat) x H'', Ext L H L' H' → Rel K L' H' h' → g h' → i < ds.length → J.yld i H' x H'' → Ext L' H' L' H'' ∧ Rel K L' H'' h' ∧ ∃ d, ds[i]? = some d ∧ Rep K L' H'' d x
structure Src where
  ds : List D
  g : MH → Prop
abbrev MI := MS → MH → R Src
def AnsI (K : PySem.W.Frag) (W : WX) (σ : L2.St) (L : TL) (H : Hp) (r : R Src) (Q : It → Hp → Prop) : Prop := match r with
  | .ok S h1 => ∀ L1 H1 J, Ext L H L1 H1 → Rel K L1 H1 h1 → Trod K L1 H1 J S.ds S.g → Q J H1
  | .exc c fs h1 => ∀ L' H' dx xs, Ext L H L' H' → Rel K L' H' h1 → H' dx = some (.xd xs) → RepF K L' H' fs xs → ∀ ev, EV K c ev → W ev (some dx) σ H'
  | .stuck => False
def tI (K : PySem.W.Frag) (W : WX) (m : MI) : TI := fun σ H Q => ∃ L h δ, Rel K L H h ∧ RepS K L H δ σ ∧ AnsI K W σ L H (m δ h) Q
def PIM (X : Cx) (W : WX) (tg iter : Expr) (m : MI) : Prop := PI X tg iter (tI X.K W m)
theorem _root_.L2.PI.imp {X : Cx} {tg e : Expr} {t t' : TI} (p : PI X tg e t) (h : ∀ σ H Q, t' σ H Q → t σ H Q) : PI X tg e t' := ⟨fun pins s σ H R I q => p.run pins s σ H R I (h σ H R q)⟩
theorem _root_.L2.PI.or {X : Cx} {tg e : Expr} {t t' : TI} (p : PI X tg e t) (p' : PI X tg e t') : PI X tg e (fun σ H Q => t σ H Q ∨ t' σ H Q) := ⟨fun pins s σ H R I q => q.elim (p.run pins s σ H R I) (p'.run pins s σ H R I)⟩

open Classical in
noncomputable def forM (g : MH → Prop) (tgt : MG) (body : MSt) : List D → MS → MH → SR
  | [], δ, h => if g h then .ok (.next δ) h else .stuck
  | x :: r, δ, h => if g h then (match tgt x δ with
      | some δ1 => (match body δ1 h with
        | .ok (.next δ2) h2 => forM g tgt body r δ2 h2
        | .ok (.cont δ2) h2 => forM g tgt body r δ2 h2
        | .ok (.brk δ2) h2 => .ok (.next δ2) h2
        | .ok (.ret d) h2 => .ok (.ret d) h2
        | .exc c fs δ2 h2 => .exc c fs δ2 h2
        | .stuck => .stuck)
      | none => .stuck) else .stuck
noncomputable def mFor (src : MI) (tgt : MG) (body : MSt) : MSt := fun δ h => (src δ h).st δ fun S h1 => forM S.g tgt body S.ds δ h1
section
variable {X : Cx} {W : WX} {pos : Pos} {tg iter : Expr} {body : List Stmt} {mi : MI} {S : List Nat} {g : MG} {mb : MSt}
theorem psm_for (hp : PassesOwn (model X.prog X.w) X.A X.env X.xe) (hc : X.calm = true) (hi : PIM X W tg iter mi) (hg : PGM X tg S g) (hb : PSsM X W body mb) (hs : ∀ x, foldedSetIterable iter X.env x = pure x := by intro _; rfl) :
    PSM X W (.For tg iter body [] pos) (mFor mi g mb) := by
  refine PS.imp (ps_for hp hc hi hg hb hs) fun D σ H ⟨L, h, δ, r, s, a⟩ => ?_
  refine ⟨L, h, δ, r, s, ?_⟩
  unfold mFor at a
  generalize mi δ h = m at a
  cases m with
  | stuck => exact a
  | exc c fs h1 => exact fun L' H' dx xs x r q1 q2 => a L' H' σ dx xs x r (s.mono x) q1 q2
  | ok Sr h1 =>
    intro L1 H1 J x1 r1 tr
    replace a : AnsS X.K D W L H (forM Sr.g g mb Sr.ds δ h1) := a
    refine ⟨fun i m σ' H' => ∃ L' h' δ', Ext L1 H1 L' H' ∧ Rel X.K L' H' h' ∧ RepS X.K L' H' δ' σ' ∧ m = Sr.ds.length - i ∧ i ≤ Sr.ds.length ∧ AnsS X.K D W L' H' (forM Sr.g g mb (Sr.ds.drop i) δ' h'),
      ⟨Sr.ds.length, L1, h1, δ, Ext.refl _ _, r1, s.mono x1, by simp, Nat.zero_le _, by rw [List.drop_zero]; exact a.mono x1⟩, ?_⟩
    rintro i m σ' H' ⟨L', h', δ', x', r', s', rfl, hi, a'⟩
    by_cases hlt : i < Sr.ds.length
    · rw [List.drop_eq_getElem_cons hlt] at a'
      unfold forM at a'
      split at a'
      case isFalse => exact a'.elim
      rename_i hg'
      refine .inr ⟨tr.go L' H' h' i x' r' hg' hlt, fun σ2 H2 => ∃ L2 h2 δ2, Ext L1 H1 L2 H2 ∧ Rel X.K L2 H2 h2 ∧ RepS X.K L2 H2 δ2 σ2 ∧ AnsS X.K D W L2 H2 (forM Sr.g g mb (Sr.ds.drop (i + 1)) δ2 h2), fun σ2 H2 ⟨L2, h2, δ2, e1, e2, e3, e4⟩ => ⟨Sr.ds.length - (i + 1), by omega, L2, h2, δ2, e1, e2, e3, rfl, hlt, e4⟩, fun x H'' hy => ?_⟩
      obtain ⟨x2, r2, d, hd, pd⟩ := tr.yld L' H' h' i x H'' x' r' hg' hlt hy
      have hd' : Sr.ds[i] = d := by
        rw [List.getElem?_eq_getElem hlt] at hd
        exact Option.some.inj hd
      rw [hd'] at a'
      cases et : g d δ' with
      | none => rw [et] at a'; exact a'.elim
      | some δ1 =>
        simp only [et] at a'
        refine ⟨L', h', δ', d, r2, s'.mono x2, pd, δ1, et, fun σ2 s2 _ => ?_⟩
        refine ⟨L', h', δ1, r2, s2, ?_⟩
        replace a' := a'.mono x2
        have x3 := x'.trans x2
        generalize mb δ1 h' = res at a' ⊢
        cases res with
        | stuck => exact a'.elim
        | exc c fs δ2 h2 => exact a'
        | ok f h2 =>
          cases f with
          | next δ2 => exact fun L3 H3 σ3 y r3 s3 => ⟨L3, h2, δ2, x3.trans y, r3, s3, a'.mono y⟩
          | cont δ2 => exact fun L3 H3 σ3 y r3 s3 => ⟨L3, h2, δ2, x3.trans y, r3, s3, a'.mono y⟩
          | brk δ2 => exact a'
          | ret v => exact a'
    · have e : i = Sr.ds.length := by omega
      subst e
      rw [List.drop_length] at a'
      unfold forM at a'
      split at a'
      case isFalse => exact a'.elim
      rename_i hg'
      exact .inl ⟨tr.stop L' H' h' x' r' hg', a'.nx r' s'⟩
end
def whileM (t : MT) (b : MSt) : Nat → MS → MH → SR
  | 0, _, _ => .stuck
  | n + 1, δ, h => (t δ h).st δ fun c h1 => if c then (match b δ h1 with
      | .ok (.next δ2) h2 => whileM t b n δ2 h2
      | .ok (.cont δ2) h2 => whileM t b n δ2 h2
      | .ok (.brk δ2) h2 => .ok (.next δ2) h2
      | .ok (.ret d) h2 => .ok (.ret d) h2
      | .exc c fs δ2 h2 => .exc c fs δ2 h2
      | .stuck => .stuck) else .ok (.next δ) h1
theorem whileM_more {t : MT} {b : MSt} : ∀ {n : Nat} {δ : MS} {h : MH} {r : SR}, whileM t b n δ h = r → r ≠ .stuck → whileM t b (n + 1) δ h = r
  | 0, _, _, _, e, ne => absurd e.symm ne
  | n + 1, δ, h, r, e, ne => by
    subst e
    unfold whileM at ne ⊢
    generalize t δ h = m at ne ⊢
    cases m with
    | stuck => rfl
    | exc _ _ _ => rfl
    | ok c h1 =>
      cases c with
      | false => rfl
      | true =>
        simp only [R.st_ok, if_true] at ne ⊢
        generalize b δ h1 = q at ne ⊢
        cases q with
        | stuck => rfl
        | exc _ _ _ _ => rfl
        | ok f h2 =>
          cases f with
          | next δ2 => exact whileM_more rfl ne
          | cont δ2 => exact whileM_more rfl ne
          | brk _ => rfl
          | ret _ => rfl
theorem whileM_add {t : MT} {b : MSt} {δ : MS} {h : MH} {r : SR} (n : Nat) (e : whileM t b n δ h = r) (ne : r ≠ .stuck) : ∀ k, whileM t b (n + k) δ h = r
  | 0 => e
  | k + 1 => whileM_more (whileM_add n e ne k) ne
open Classical in
noncomputable def mWhile (t : MT) (b : MSt) : MSt := fun δ h => if z : ∃ n, whileM t b n δ h ≠ .stuck then whileM t b (choose z) δ h else .stuck
theorem mWhile_eq {t : MT} {b : MSt} {δ : MS} {h : MH} {r : SR} (n : Nat) (e : whileM t b n δ h = r) (ne : r ≠ .stuck) : mWhile t b δ h = r := by
  have z : ∃ n, whileM t b n δ h ≠ .stuck := ⟨n, by rw [e]; exact ne⟩
  unfold mWhile
  rw [dif_pos z]
  have ne' := Classical.choose_spec z
  have e1 := whileM_add n e ne (Classical.choose z)
  have e2 := whileM_add (Classical.choose z) rfl ne' n
  rw [← e2, Nat.add_comm, e1]
section
variable {X : Cx} {W : WX} {pos : Pos} {c : Expr} {body : List Stmt} {mt : MT} {mb : MSt}
theorem psm_while (hp : PassesOwn (model X.prog X.w) X.A X.env X.xe) (hc : PTM X W c mt) (hb : PSsM X W body mb) : PSM X W (.While c body [] pos) (mWhile mt mb) := by
  refine PS.imp (ps_while hp hc hb) fun D σ H ⟨L, h, δ, r, s, a⟩ => ?_
  unfold mWhile at a
  split at a
  case isFalse => exact a.elim
  rename_i z
  generalize Classical.choose z = n0 at a
  refine ⟨fun n σ' H' => ∃ L' h' δ', Rel X.K L' H' h' ∧ RepS X.K L' H' δ' σ' ∧ AnsS X.K D W L' H' (whileM mt mb n δ' h'), ⟨n0, L, h, δ, r, s, a⟩, ?_⟩
  rintro n σ' H' ⟨L', h', δ', r', s', a'⟩
  cases n with
  | zero => exact a'.elim
  | succ n =>
    refine ⟨L', h', δ', r', s', Ans.imp (AnsS.bind (rp := rpB) s' a') fun v H1 ⟨L1, h1, d, x1, r1, p1, s1, a1⟩ => ?_⟩
    cases p1
    cases v with
    | false => exact iteF (a1.nx r1 s1)
    | true =>
      refine iteT ⟨fun σ2 H2 => ∃ L2 h2 δ2, Rel X.K L2 H2 h2 ∧ RepS X.K L2 H2 δ2 σ2 ∧ AnsS X.K D W L2 H2 (whileM mt mb n δ2 h2), fun σ2 H2 q => ⟨n, Nat.lt_succ_self n, q⟩, ?_⟩
      refine ⟨L1, h1, δ', r1, s1, ?_⟩
      simp only [if_true] at a1
      generalize mb δ' h1 = res at a1 ⊢
      cases res with
      | stuck => exact a1.elim
      | exc c fs δ2 h2 => exact a1
      | ok f h2 =>
        cases f with
        | next δ2 => exact fun L3 H3 σ3 y r3 s3 => ⟨L3, h2, δ2, r3, s3, a1.mono y⟩
        | cont δ2 => exact fun L3 H3 σ3 y r3 s3 => ⟨L3, h2, δ2, r3, s3, a1.mono y⟩
        | brk δ2 => exact a1
        | ret v => exact a1
end
def R.nx {α : Type} (r : R α) : R α := match r with
  | .exc _ _ _ => .stuck
  | r => r
@[simp] theorem R.nx_ok {α : Type} (a : α) (h) : (R.ok a h).nx = .ok a h := rfl
@[simp] theorem R.nx_exc {α : Type} (c fs h) : (R.exc c fs h : R α).nx = .stuck := rfl
@[simp] theorem R.nx_stuck {α : Type} : (R.stuck : R α).nx = .stuck := rfl
def W0 : WX := fun _ _ _ _ => False
theorem Ans.nx {α β : Type} {K : PySem.W.Frag} {rp : RP α β} {L H} {r : R α} {Q : β → Hp → Prop} {E E' : XK} (a : Ans K rp L H r.nx Q E) : Ans K rp L H r Q E' := by
  cases r with
  | ok d h => exact a
  | exc c fs h => exact a.elim
  | stuck => exact a
def wipeM (δ : MS) : List Nat → MS
  | [] => δ
  | v :: vs => (wipeM δ vs).set v none
theorem RepS.wipe {K L H} {δ : MS} {σ : L2.St} (s : RepS K L H δ σ) : ∀ vs, RepS K L H (wipeM δ vs) (wipe σ vs)
  | [] => s
  | v :: vs => (RepS.wipe s vs).setNone
theorem wipe_at (σ : L2.St) : ∀ (vs : List Nat) (i : Nat), (wipe σ vs)[i]? = if i ∈ vs then (if i < σ.length then some none else none) else σ[i]?
  | [], i => by simp [wipe]
  | v :: vs, i => by
    unfold L2.wipe
    by_cases hv : v = i
    · subst hv
      rw [if_pos (List.mem_cons_self ..)]
      by_cases hl : v < σ.length
      · rw [if_pos hl, List.getElem?_set_self (by rw [wipe_length]; exact hl)]
      · rw [if_neg hl, List.getElem?_eq_none (by rw [List.length_set, wipe_length]; omega)]
    · rw [List.getElem?_set_ne hv, wipe_at σ vs i]
      have : (i ∈ v :: vs) ↔ i ∈ vs := by simp [show ¬ i = v from fun z => hv z.symm]
      simp only [this]
theorem wipe_eq {σ σ' : L2.St} {S vs : List Nat} (o : Only S σ σ') (hs : ∀ i ∈ S, i ∈ vs) : wipe σ' vs = wipe σ vs := by
  apply List.ext_getElem?
  intro i
  rw [wipe_at, wipe_at, o.1]
  split
  · rfl
  · rename_i hi; exact o.2 i fun z => hi (hs i z)
theorem wipe_wipe (σ : L2.St) (vs : List Nat) : wipe (wipe σ vs) vs = wipe σ vs := by
  apply List.ext_getElem?
  intro i
  rw [wipe_at, wipe_at, wipe_length]
  split <;> rfl
open Classical in
noncomputable def compM (g : MH → Prop) (tgt : MG) (cond : MT) (elt : ME) (n : Nat) (δ0 : MS) : List D → MH → R Unit
  | [], h => if g h then .ok () h else .stuck
  | x :: r, h => if g h then (match tgt x δ0 with
      | some δ1 => (cond δ1 h).nx.bnd fun b h1 => if b then (elt δ1 h1).nx.bnd fun y h2 => (match lst? h2 n with
          | some acc => if acc.length < 16777216 then compM g tgt cond elt n δ0 r (h2.set n (.lst (acc ++ [y]))) else .stuck
          | none => .stuck) else compM g tgt cond elt n δ0 r h1
      | none => .stuck) else .stuck
noncomputable def mLc (src : MI) (tgt : MG) (cond : MT) (elt : ME) (vs : List Nat) : ME := fun δ h => (src δ h).bnd fun S h1 => (compM S.g tgt cond elt h1.length (wipeM δ vs) S.ds (h1 ++ [.lst []])).bnd fun _ h2 => match lst? h2 h1.length with
  | some acc => leave h1 (.rol acc) (h2.set h1.length .dead)
  | none => .stuck
noncomputable def mLcN (src : MI) (tgt : MG) (cond : MT) (elt : ME) (vs : List Nat) : ME := fun δ h => (src δ h).bnd fun S h1 => (compM S.g tgt cond elt h1.length (wipeM δ vs) S.ds (h1 ++ [.lst []])).bnd fun _ h2 => match lst? h2 h1.length with
  | some acc => .ok (.ref h1.length) h2
  | none => .stuck
def mYes : MT := fun _ h => .ok true h
def PTsM (X : Cx) (W : WX) (ifs : List Expr) (m : MT) : Prop := PTs X ifs (tT X.K W m)
theorem ptsm_nil {X : Cx} {W : WX} : PTsM X W [] mYes := ⟨fun pins s σ H Q I ⟨L, h, δ, r, s', a⟩ => pts_nil.run pins s σ H Q I (ans_okB r a)⟩
theorem oat_nil {K L H a} : OAt K L (upd H a (.lst [])) (some (some a)) (.lst []) := ⟨a, [], rfl, upd_same, .nil⟩
theorem Ans.bind0 {α β γ δ' : Type} {K : PySem.W.Frag} {rp : RP α β} {rp2 : RP γ δ'} {L0 L : TL} {H0 H : Hp} {E : XK} {r : R α} {k : α → MH → R γ} {Q : δ' → Hp → Prop} (x0 : Ext L0 H0 L H) (a : Ans K rp2 L0 H0 (r.bnd k) Q E) :
    Ans K rp L H r (fun v H1 => ∃ L1 h1 d, Ext L H L1 H1 ∧ Rel K L1 H1 h1 ∧ rp L1 H1 d v ∧ Ans K rp2 L0 H0 (k d h1) Q E) E := by
  cases r with
  | ok d h => exact fun L2 H2 v e r q => ⟨L2, h, d, e, r, q, a⟩
  | exc c fs h => exact fun L2 H2 dx xs e => a L2 H2 dx xs (x0.trans e)
  | stuck => exact a
theorem lc_turns {K : PySem.W.Frag} {J : It} {S : List Nat} {g : MG} {cond : MT} {elt : ME} {vs : List Nat} (hs : ∀ i ∈ S, i ∈ vs) {L1 : TL} {H1 : Hp} {h1 : MH} {Sr : Src} {δ : MS} {σ : L2.St} {Dl : Addr} {k : Unit → MH → R D} {Q : VK} {E : XK}
    (r1 : Rel K L1 H1 h1) (s1 : RepS K L1 H1 δ σ) (tr : Trod K L1 H1 J Sr.ds Sr.g) (hD : H1 Dl = none)
    (a : Ans K (Rep K) L1 H1 ((compM Sr.g g cond elt h1.length (wipeM δ vs) Sr.ds (h1 ++ [.lst []])).bnd k) Q E)
    (hd : ∀ L' H' h', Ext L1 H1 L' H' → Rel K L' H' h' → (∃ o, L'[h1.length]? = some o ∧ ∀ b, o = some b → b = Dl) → Ans K (Rep K) L1 H1 (k () h') Q E → Q (.ref Dl) H') :
    ∃ W : Nat → Nat → Hp → Prop, (∃ m, W 0 m (upd H1 Dl (.lst []))) ∧ ∀ i m H, W i m H →
      (J.stop i H ∧ Q (.ref Dl) H) ∨ (J.go i H ∧ ∃ Nx : Hp → Prop, (∀ H', Nx H' → ∃ m', m' < m ∧ W (i + 1) m' H') ∧ ∀ x H', J.yld i H x H' → tG K S g x (wipe σ vs) H' fun σ2 H2 => wipe σ2 vs = wipe σ vs ∧ tT K W0 cond σ2 H2 fun b H3 =>
        if b = true then tE K W0 elt σ2 H3 fun y H4 => ∃ acc, H4 Dl = some (.lst acc) ∧ acc.length < sizeLine ∧ Nx (upd H4 Dl (.lst (acc ++ [y]))) else Nx H3) := by
  obtain ⟨xa, ra⟩ := r1.alloc (m := .lst []) hD oat_nil
  have at0 : (L1 ++ [some Dl])[h1.length]? = some (some Dl) := by rw [getElem?_snoc, if_pos r1.len.symm]
  have own : ∀ {L' : TL} {H' : Hp}, Ext (L1 ++ [some Dl]) (upd H1 Dl (.lst [])) L' H' → ∃ o, L'[h1.length]? = some o ∧ ∀ b, o = some b → b = Dl := fun x => by
    rcases x.live _ _ at0 with z | z
    · exact ⟨_, z, fun b e => (Option.some.inj e).symm⟩
    · exact ⟨_, z, fun b e => by cases e⟩
  refine ⟨fun i m H' => ∃ L' h', Ext (L1 ++ [some Dl]) (upd H1 Dl (.lst [])) L' H' ∧ Rel K L' H' h' ∧ m = Sr.ds.length - i ∧ i ≤ Sr.ds.length ∧ Ans K (Rep K) L1 H1 ((compM Sr.g g cond elt h1.length (wipeM δ vs) (Sr.ds.drop i) h').bnd k) Q E,
    ⟨Sr.ds.length, _, _, Ext.refl _ _, ra, by simp, Nat.zero_le _, by rw [List.drop_zero]; exact a⟩, ?_⟩
  rintro i m H' ⟨L', h', x', r', rfl, hi, a'⟩
  have x1' := xa.trans x'
  by_cases hlt : i < Sr.ds.length
  · rw [List.drop_eq_getElem_cons hlt] at a'
    unfold compM at a'
    split at a'
    case isFalse => exact a'.elim
    rename_i hg'
    refine .inr ⟨tr.go L' H' h' i x1' r' hg' hlt, fun H2 => ∃ L2 h2, Ext (L1 ++ [some Dl]) (upd H1 Dl (.lst [])) L2 H2 ∧ Rel K L2 H2 h2 ∧ Ans K (Rep K) L1 H1 ((compM Sr.g g cond elt h1.length (wipeM δ vs) (Sr.ds.drop (i + 1)) h2).bnd k) Q E,
      fun H2 ⟨L2, h2, e1, e2, e3⟩ => ⟨Sr.ds.length - (i + 1), by omega, L2, h2, e1, e2, rfl, hlt, e3⟩, fun x H'' hy => ?_⟩
    obtain ⟨x2, r2, d, hd', pd⟩ := tr.yld L' H' h' i x H'' x1' r' hg' hlt hy
    have hdd : Sr.ds[i] = d := by
      rw [List.getElem?_eq_getElem hlt] at hd'
      exact Option.some.inj hd'
    rw [hdd] at a'
    cases et : g d (wipeM δ vs) with
    | none => rw [et] at a'; exact a'.elim
    | some δ1 =>
      simp only [et] at a'
      refine ⟨L', h', wipeM δ vs, d, r2, (s1.wipe vs).mono (x1'.trans x2), pd, δ1, et, fun σ2 s2 o2 => ⟨?_, ?_⟩⟩
      · rw [wipe_eq o2 hs, wipe_wipe]
      · rw [R.bnd_assoc] at a'
        refine ⟨L', h', δ1, r2, s2, Ans.imp (Ans.nx (Ans.bind0 (rp := rpB) (x1'.trans x2) a')) fun b H3 ⟨L3, h3, b', x3, r3, p3, a3⟩ => ?_⟩
        cases p3
        cases b with
        | false => exact iteF ⟨L3, h3, (x'.trans x2).trans x3, r3, a3⟩
        | true =>
          refine iteT ?_
          simp only [if_true] at a3
          rw [R.bnd_assoc] at a3
          refine ⟨L3, h3, δ1, r3, s2.mono x3, Ans.imp (Ans.nx (Ans.bind0 (rp := Rep K) ((x1'.trans x2).trans x3) a3)) fun y H4 ⟨L4, h4, dy, x4, r4, p4, a4⟩ => ?_⟩
          have x5 := (x'.trans x2).trans (x3.trans x4)
          cases el : lst? h4 h1.length with
          | none => rw [el] at a4; exact a4.elim
          | some acc =>
            simp only [el] at a4
            obtain ⟨ad, xs, e1, e2, w⟩ := r4.lst (lst?_at el)
            obtain ⟨o, eo, ho⟩ := own x5
            rw [e1] at eo; cases eo
            have : ad = Dl := ho ad rfl
            subst this
            by_cases hz : acc.length < 16777216
            · rw [if_pos hz] at a4
              refine ⟨xs, e2, by rw [sizeLine_eq, ← w.length]; exact hz, ?_⟩
              have nf : ∀ o u, H4 ad ≠ some (.frz o u) := fun o u z => by rw [e2] at z; cases z
              obtain ⟨x6, r6⟩ := r4.write (m := .lst (acc ++ [dy])) e1 nf (o := .lst (xs ++ [y])) ⟨ad, xs ++ [y], rfl, upd_same, (w.mono (ext_write e1 nf)).append (.cons (p4.mono (ext_write e1 nf)) .nil)⟩
              exact ⟨L4, _, x5.trans x6, r6, a4⟩
            · rw [if_neg hz] at a4; exact a4.elim
  · have e : i = Sr.ds.length := by omega
    subst e
    rw [List.drop_length] at a'
    unfold compM at a'
    split at a'
    case isFalse => exact a'.elim
    rename_i hg'
    exact .inl ⟨tr.stop L' H' h' x1' r' hg', hd L' H' h' x1' r' (own x') a'⟩
theorem lc_end {K : PySem.W.Frag} {L1 L' : TL} {H1 H' : Hp} {h1 h' : MH} {acc : List D} {Dl : Addr} {Q : VK} {E : XK} (r1 : Rel K L1 H1 h1) (x : Ext L1 H1 L' H') (r' : Rel K L' H' h') (o : ∃ o, L'[h1.length]? = some o ∧ ∀ b, o = some b → b = Dl) (e : lst? h' h1.length = some acc)
    (a : Ans K (Rep K) L1 H1 (leave h1 (.rol acc) (h'.set h1.length .dead)) Q E) : Q (.ref Dl) H' := by
  obtain ⟨ad, xs, e1, e2, w⟩ := r'.lst (lst?_at e)
  obtain ⟨o, eo, ho⟩ := o
  rw [e1] at eo; cases eo
  have : ad = Dl := ho ad rfl
  subst this
  obtain ⟨xk, rk⟩ := r'.kill (n := h1.length) (List.getElem?_eq_some_iff.mp (lst?_at e)).1
  refine ans_leave r1 (x.trans xk) rk ?_ a
  unfold Rep
  exact ⟨ad, xs, rfl, .inl ⟨.inl e2, NL.kill r' e1⟩, w.mono xk⟩
theorem lc_endN {K : PySem.W.Frag} {L1 L' : TL} {H1 H' : Hp} {h1 h' : MH} {acc : List D} {Dl : Addr} {Q : VK} {E : XK} (r1 : Rel K L1 H1 h1) (x : Ext L1 H1 L' H') (r' : Rel K L' H' h') (o : ∃ o, L'[h1.length]? = some o ∧ ∀ b, o = some b → b = Dl) (e : lst? h' h1.length = some acc)
    (a : Ans K (Rep K) L1 H1 (.ok (.ref h1.length) h') Q E) : Q (.ref Dl) H' := by
  obtain ⟨ad, xs, e1, e2, w⟩ := r'.lst (lst?_at e)
  obtain ⟨o, eo, ho⟩ := o
  rw [e1] at eo; cases eo
  have : ad = Dl := ho ad rfl
  subst this
  refine ans_okE r' ?_ (a.mono x)
  unfold Rep
  exact ⟨ad, rfl, .inl e1⟩
theorem tLc_of {K : PySem.W.Frag} {W : WX} {S : List Nat} {mi : MI} {g : MG} {cond : MT} {elt : ME} {vs : List Nat} (hs : ∀ i ∈ S, i ∈ vs) {σ : L2.St} {H : Hp} {Q : VK} (t : tE K W (mLc mi g cond elt vs) σ H Q) : tLc (tI K W mi) (tG K S g) (tT K W0 cond) (tE K W0 elt) vs σ H Q := by
  obtain ⟨L, h, δ, r, s, a⟩ := t
  refine ⟨L, h, δ, r, s, ?_⟩
  unfold mLc at a
  generalize mi δ h = m at a
  cases m with
  | stuck => exact a.elim
  | exc c fs h1 => exact a
  | ok Sr h1 =>
    intro L1 H1 J x1 r1 tr Dl hD
    refine lc_turns hs r1 (s.mono x1) tr hD (Ans.mono x1 a) fun L' H' h' x' r' o a' => ?_
    cases el : lst? h' h1.length with
    | none => rw [el] at a'; exact a'.elim
    | some acc => simp only [el] at a'; exact lc_end r1 x' r' o el a'
theorem tLcN_of {K : PySem.W.Frag} {W : WX} {S : List Nat} {mi : MI} {g : MG} {cond : MT} {elt : ME} {vs : List Nat} (hs : ∀ i ∈ S, i ∈ vs) {σ : L2.St} {H : Hp} {Q : VK} (t : tE K W (mLcN mi g cond elt vs) σ H Q) : tLc (tI K W mi) (tG K S g) (tT K W0 cond) (tE K W0 elt) vs σ H Q := by
  obtain ⟨L, h, δ, r, s, a⟩ := t
  refine ⟨L, h, δ, r, s, ?_⟩
  unfold mLcN at a
  generalize mi δ h = m at a
  cases m with
  | stuck => exact a.elim
  | exc c fs h1 => exact a
  | ok Sr h1 =>
    intro L1 H1 J x1 r1 tr Dl hD
    refine lc_turns hs r1 (s.mono x1) tr hD (Ans.mono x1 a) fun L' H' h' x' r' o a' => ?_
    cases el : lst? h' h1.length with
    | none => rw [el] at a'; exact a'.elim
    | some acc => simp only [el] at a'; exact lc_endN r1 x' r' o el a'
section
variable {X : Cx} {W : WX} {elt tg iter : Expr} {ifs : List Expr} {scope : Scope} {own : List (Str × Nat)} {pos : Pos} {mi : MI} {S : List Nat} {g : MG} {cond : MT} {me : ME}
theorem pem_lc (hc : X.calm = true) (hN : X.N.Nodup) (hi : PIM X W tg iter mi) (ok : BlkOk X.N X.env.scope scope own) (hS : ∀ i ∈ S, i ∈ own.map (·.2))
    (hg : ∀ (s : Shared) (H : Hp) (C : Addr) (cl : List (Str × Addr)) (fp : List Addr), PGM (X.blk s H scope (compEnvC scope cl C X.env) fp) tg S g)
    (ht : ∀ (s : Shared) (H : Hp) (C : Addr) (cl : List (Str × Addr)) (fp : List Addr), PTsM (X.blk s H scope (compEnvC scope cl C X.env) fp) W0 ifs cond)
    (he : ∀ (s : Shared) (H : Hp) (C : Addr) (cl : List (Str × Addr)) (fp : List Addr), PEM (X.blk s H scope (compEnvC scope cl C X.env) fp) W0 elt me) (hs : ∀ x, foldedSetIterable iter X.env x = pure x := by intro _; rfl) :
    PEM X W (.ListComp elt [⟨tg, iter, ifs, 0⟩] scope pos) (mLc mi g cond me (own.map (·.2))) :=
  PE.imp (pe_lc (wi := tI X.K W mi) (g := tG X.K S g) (tt := tT X.K W0 cond) (te := tE X.K W0 me) hc hN hi ok hg ht he hs) fun _ _ _ t => tLc_of hS t
theorem psm_setLcN {i : Nat} {y : Str} {py spos : Pos} (hc : X.calm = true) (hN : X.N.Nodup) (hy : X.N[i]? = some y) (hyl : X.env.scope.names.lookup y = some .local)
    (hsw : swapsWith (.ListComp elt [⟨tg, iter, ifs, 0⟩] scope pos) (some (.Name y py)) spos.line X.env = pure true) (hi : PIM X W tg iter mi) (ok : BlkOk X.N X.env.scope scope own) (hS : ∀ i ∈ S, i ∈ own.map (·.2))
    (hg : ∀ (s : Shared) (H : Hp) (C : Addr) (cl : List (Str × Addr)) (fp : List Addr), PGM (X.blk s H scope (compEnvC scope cl C X.env) fp) tg S g)
    (ht : ∀ (s : Shared) (H : Hp) (C : Addr) (cl : List (Str × Addr)) (fp : List Addr), PTsM (X.blk s H scope (compEnvC scope cl C X.env) fp) W0 ifs cond)
    (he : ∀ (s : Shared) (H : Hp) (C : Addr) (cl : List (Str × Addr)) (fp : List Addr), PEM (X.blk s H scope (compEnvC scope cl C X.env) fp) W0 elt me) (hs : ∀ x, foldedSetIterable iter X.env x = pure x := by intro _; rfl) :
    PSM X W (.Assign [.Name y py] (.ListComp elt [⟨tg, iter, ifs, 0⟩] scope pos) spos) (mSet i (mLcN mi g cond me (own.map (·.2)))) := by
  refine PS.imp (ps_setLc (wi := tI X.K W mi) (g := tG X.K S g) (tt := tT X.K W0 cond) (te := tE X.K W0 me) hc hN hy hyl hsw hi ok hg ht he hs) fun D σ H ⟨L, h, δ, r, s, a⟩ => ?_
  exact tLcN_of hS ⟨L, h, δ, r, s, Ans.imp (AnsS.bind (rp := Rep X.K) s a) fun v H1 ⟨L1, h1, d, x1, r1, p1, s1, a1⟩ => a1.nx r1 (s1.set p1)⟩
end
end MM
namespace MM
open PySem PySem.Spec PyProof.Rows L2
section
variable {X : Cx} {W : WX} {pos : Pos} {a b c e : Expr} {ma mb mc me : ME} {es : List Expr} {mas : MA}
def mNil : MA := fun _ h => .ok [] h
def mCons (m : ME) (ms : MA) : MA := fun δ h => (m δ h).bnd fun d h1 => (ms δ h1).bnd fun ds h2 => .ok (d :: ds) h2
theorem pam_nil : PAM X W [] mNil := PA.imp pa_nil fun σ H Q ⟨L, h, δ, r, s, a⟩ => a L H [] (Ext.refl _ _) r .nil
theorem pam_cons (ha : PEM X W e me) (hr : PAM X W es mas) (hs : starEach (e :: es) X.env = (false, eval e X.env) :: starEach es X.env := by rfl) : PAM X W (e :: es) (mCons me mas) :=
  PA.imp (pa_cons ha hr hs) fun σ H Q ⟨L, h, δ, r, s, a⟩ => ⟨L, h, δ, r, s, Ans.imp (Ans.bind (rp := Rep X.K) a) fun v H1 ⟨L1, h1, d, x1, r1, p1, a1⟩ =>
    ⟨L1, h1, δ, r1, s.mono x1, Ans.imp (Ans.bind (rp := RepL X.K) a1) fun vs H2 ⟨L2, h2, ds, x2, r2, p2, a2⟩ => a2 L2 H2 (v :: vs) (Ext.refl _ _) r2 (.cons (p1.mono x2) p2)⟩⟩
def mTup (ms : MA) : ME := fun δ h => (ms δ h).bnd fun ds h1 => if ds.length ≤ 16777216 then .ok (.tup ds) h1 else .stuck
theorem rep_tup {K L H} {h : MH} {ds vs p} (r : Rel K L H h) (hp : H p = none) (w : RepL K L H ds vs) : Ext L H L (upd H p (.tup vs)) ∧ Rel K L (upd H p (.tup vs)) h ∧ Rep K L (upd H p (.tup vs)) (.tup ds) (.ref p) := by
  obtain ⟨x, r'⟩ := r.fresh (o := .tup vs) hp
  refine ⟨x, r', ?_⟩
  unfold Rep
  exact ⟨p, vs, rfl, .inl ⟨.inl upd_same, r.nl_new hp⟩, w.mono x⟩
theorem rep_rol {K L H} {h : MH} {ds vs p} (r : Rel K L H h) (hp : H p = none) (w : RepL K L H ds vs) : Ext L H L (upd H p (.lst vs)) ∧ Rel K L (upd H p (.lst vs)) h ∧ Rep K L (upd H p (.lst vs)) (.rol ds) (.ref p) := by
  obtain ⟨x, r'⟩ := r.fresh (o := .lst vs) hp
  refine ⟨x, r', ?_⟩
  unfold Rep
  exact ⟨p, vs, rfl, .inl ⟨.inl upd_same, r.nl_new hp⟩, w.mono x⟩
theorem rep_new {K L H} {h : MH} {ds vs p} (r : Rel K L H h) (hp : H p = none) (w : RepL K L H ds vs) : Ext L H (L ++ [some p]) (upd H p (.lst vs)) ∧ Rel K (L ++ [some p]) (upd H p (.lst vs)) (h ++ [.lst ds]) ∧ Rep K (L ++ [some p]) (upd H p (.lst vs)) (.ref h.length) (.ref p) := by
  obtain ⟨x, r'⟩ := r.alloc (m := .lst ds) (o := .lst vs) hp ⟨p, vs, rfl, upd_same, w.mono (ext_alloc hp)⟩
  refine ⟨x, r', ?_⟩
  unfold Rep
  exact ⟨p, rfl, .inl (by rw [getElem?_snoc, if_pos r.len.symm])⟩
theorem ans_of {K L H L1 H1} {h1 : MH} {d v} {Q : VK} {E : XK} (x : Ext L H L1 H1 ∧ Rel K L1 H1 h1 ∧ Rep K L1 H1 d v) (a : Ans K (Rep K) L H (.ok d h1) Q E) : Q v H1 := a L1 H1 v x.1 x.2.1 x.2.2
theorem szl {n : Nat} (h : n ≤ 16777216) : n ≤ sizeLine := by rw [sizeLine_eq]; exact h
theorem pem_tup {x1} (hs : PAM X W es mas) : PEM X W (.Tuple es x1 pos) (mTup mas) :=
  PE.imp (pe_tup hs) fun σ H Q ⟨L, h, δ, r, s, a⟩ => ⟨L, h, δ, r, s, Ans.imp (Ans.bind (rp := RepL X.K) a) fun vs H1 ⟨L1, h1, ds, x1, r1, p1, a1⟩ => by
    by_cases z : ds.length ≤ 16777216
    · rw [if_pos z] at a1
      exact ⟨by rw [← p1.length]; exact szl z, fun p hp => ans_of (rep_tup r1 hp p1) a1⟩
    · rw [if_neg z] at a1; exact a1.elim⟩
def mLst (ms : MA) : ME := fun δ h => (ms δ h).bnd fun ds h1 => if ds.length ≤ 16777216 then .ok (.rol ds) h1 else .stuck
def mLstN (ms : MA) : ME := fun δ h => (ms δ h).bnd fun ds h1 => if ds.length ≤ 16777216 then .ok (.ref h1.length) (h1 ++ [.lst ds]) else .stuck
theorem pem_lst (hs : PAM X W es mas) : PEM X W (.List es pos) (mLst mas) :=
  PE.imp (pe_lst hs) fun σ H Q ⟨L, h, δ, r, s, a⟩ => ⟨L, h, δ, r, s, Ans.imp (Ans.bind (rp := RepL X.K) a) fun vs H1 ⟨L1, h1, ds, x1, r1, p1, a1⟩ => by
    by_cases z : ds.length ≤ 16777216
    · rw [if_pos z] at a1
      exact ⟨by rw [← p1.length]; exact szl z, fun p hp => ans_of (rep_rol r1 hp p1) a1⟩
    · rw [if_neg z] at a1; exact a1.elim⟩
theorem pem_lstN (hs : PAM X W es mas) : PEM X W (.List es pos) (mLstN mas) :=
  PE.imp (pe_lst hs) fun σ H Q ⟨L, h, δ, r, s, a⟩ => ⟨L, h, δ, r, s, Ans.imp (Ans.bind (rp := RepL X.K) a) fun vs H1 ⟨L1, h1, ds, x1, r1, p1, a1⟩ => by
    by_cases z : ds.length ≤ 16777216
    · rw [if_pos z] at a1
      exact ⟨by rw [← p1.length]; exact szl z, fun p hp => ans_of (rep_new r1 hp p1) a1⟩
    · rw [if_neg z] at a1; exact a1.elim⟩
theorem pem_ix {r : R2} {f : D → D → MH → R D} (hr : IxR X r) (hm : OpM X.K r f) (ha : PEM X W a ma) (hb : PEM X W b mb) (hs : PlainIx b) : PEM X W (.Subscript a b pos) (mOp f ma mb) :=
  PE.imp (pe_ix hr ha hb hs) fun _ _ _ t => tOp_of hm t
def rpO : RP (Option Int) (Option Int) := fun _ _ a b => a = b
abbrev MOp := MS → MH → R (Option Int)
def tOm (K : PySem.W.Frag) (W : WX) (m : MOp) : TO := fun σ H Q => ∃ L h δ, Rel K L H h ∧ RepS K L H δ σ ∧ Ans K rpO L H (m δ h) Q (WE W σ)
def POM (X : Cx) (W : WX) (e : Option Expr) (m : MOp) : Prop := PO X e (tOm X.K W m)
theorem _root_.L2.PO.imp {X : Cx} {e : Option Expr} {t t' : TO} (p : PO X e t) (h : ∀ σ H Q, t' σ H Q → t σ H Q) : PO X e t' := ⟨fun pins s σ H Q I q => p.run pins s σ H Q I (h σ H Q q)⟩
def mNoP : MOp := fun _ h => .ok none h
def mPart (m : ME) : MOp := fun δ h => (m δ h).bnd fun d h1 => match d with
  | .int i => .ok (some i) h1
  | _ => .stuck
theorem pom_none : POM X W none mNoP := PO.imp po_none fun σ H Q ⟨L, h, δ, r, s, a⟩ => a L H none (Ext.refl _ _) r rfl
theorem pom_some (ha : PEM X W a ma) : POM X W (some a) (mPart ma) :=
  PO.imp (po_some ha) fun σ H Q ⟨L, h, δ, r, s, a⟩ => ⟨L, h, δ, r, s, Ans.imp (Ans.bind (rp := Rep X.K) a) fun v H1 ⟨L1, h1, d, x1, r1, p1, a1⟩ => by
    cases d with
    | int i =>
      unfold Rep at p1
      exact ⟨i, p1, a1 L1 H1 (some i) (Ext.refl _ _) r1 rfl⟩
    | _ => exact a1.elim⟩
def mSl (f : D → Option Int → Option Int → MH → R D) (m : ME) (lo hi : MOp) : ME := fun δ h => (m δ h).bnd fun d h1 => (lo δ h1).bnd fun l h2 => (hi δ h2).bnd fun u h3 => f d l u h3
def SlM (K : PySem.W.Frag) (r : V → Option Int → Option Int → Hp → VK → Prop) (f : D → Option Int → Option Int → MH → R D) : Prop := ∀ (L : TL) (H : Hp) (h : MH) (d : D) (x : V) (lo hi : Option Int) (Q : VK) (E : XK), Rel K L H h → Rep K L H d x → Ans K (Rep K) L H (f d lo hi h) Q E → r x lo hi H Q
theorem pem_slice {r : V → Option Int → Option Int → Hp → VK → Prop} {f : D → Option Int → Option Int → MH → R D} {lo hi : Option Expr} {ml mh : MOp} {p2 : Pos} (hr : SlR X r) (hm : SlM X.K r f) (ha : PEM X W a ma) (hl : POM X W lo ml) (hu : POM X W hi mh) :
    PEM X W (.Subscript a (.Slice lo hi none p2) pos) (mSl f ma ml mh) :=
  PE.imp (pe_slice hr ha hl hu) fun σ H Q ⟨L, h, δ, r0, s, a⟩ => ⟨L, h, δ, r0, s, Ans.imp (Ans.bind (rp := Rep X.K) a) fun v H1 ⟨L1, h1, d, x1, r1, p1, a1⟩ => ⟨L1, h1, δ, r1, s.mono x1,
    Ans.imp (Ans.bind (rp := rpO) a1) fun l H2 ⟨L2, h2, l', x2, r2, p2, a2⟩ => ⟨L2, h2, δ, r2, s.mono (x1.trans x2), Ans.imp (Ans.bind (rp := rpO) a2) fun u H3 ⟨L3, h3, u', x3, r3, p3, a3⟩ => by
      cases p2; cases p3
      exact hm L3 H3 h3 d v l u Q _ r3 (p1.mono (x2.trans x3)) a3⟩⟩⟩
def CallM (K : PySem.W.Frag) (r : List V → Hp → VK → Prop) (f : List D → MH → R D) : Prop := ∀ (L : TL) (H : Hp) (h : MH) (ds : List D) (vs : List V) (Q : VK) (E : XK), Rel K L H h → RepL K L H ds vs → Ans K (Rep K) L H (f ds h) Q E → r vs H Q
def mCall (f : List D → MH → R D) (ms : MA) : ME := fun δ h => (ms δ h).bnd f
theorem pem_callB {x : Str} {id : String} {r : List V → Hp → VK → Prop} {f : List D → MH → R D} {p : Pos} (hc : CallR X (.builtin id) r) (hm : CallM X.K r f) (hg : Gl X x) (hmg : X.mg x = none) (hv : bootBuiltins x = some (.builtin id)) (ha : PAM X W (e :: es) mas)
    (hn : x ≠ "__name__" := by decide) (hdb : (x == ("__debug__" : Str)) = false := by decide) (he : starEach (e :: es) X.env = (false, eval e X.env) :: starEach es X.env := by rfl) (hpl : (backTo pos (starEach es X.env)).any (·.1) = false := by rfl) :
    PEM X W (.Call (.Name x p) (e :: es) [] pos) (mCall f mas) :=
  PE.imp (pe_callB hc hg hmg hv ha hn hdb he hpl) fun σ H Q ⟨L, h, δ, r0, s, a⟩ => ⟨L, h, δ, r0, s, Ans.imp (Ans.bind (rp := RepL X.K) a) fun vs H1 ⟨L1, h1, ds, x1, r1, p1, a1⟩ => hm L1 H1 h1 ds vs Q _ r1 p1 a1⟩
theorem pem_callTy {x : Str} {id : String} {r : List V → Hp → VK → Prop} {f : List D → MH → R D} {p : Pos} (hc : CallR X (.type id) r) (hm : CallM X.K r f) (hg : Gl X x) (hmg : X.mg x = none) (hv : bootBuiltins x = some (.type id)) (ha : PAM X W (e :: es) mas)
    (hn : x ≠ "__name__" := by decide) (hdb : (x == ("__debug__" : Str)) = false := by decide) (he : starEach (e :: es) X.env = (false, eval e X.env) :: starEach es X.env := by rfl) (hpl : (backTo pos (starEach es X.env)).any (·.1) = false := by rfl) :
    PEM X W (.Call (.Name x p) (e :: es) [] pos) (mCall f mas) :=
  PE.imp (pe_callTy hc hg hmg hv ha hn hdb he hpl) fun σ H Q ⟨L, h, δ, r0, s, a⟩ => ⟨L, h, δ, r0, s, Ans.imp (Ans.bind (rp := RepL X.K) a) fun vs H1 ⟨L1, h1, ds, x1, r1, p1, a1⟩ => hm L1 H1 h1 ds vs Q _ r1 p1 a1⟩
def isTy (T : String) (d : D) (h : MH) : Bool := match d with
  | .str _ => T == "str"
  | .int _ => T == "int"
  | .rol _ => T == "list"
  | .ref n => match h[n]? with
    | some (.lst _) => T == "list"
    | some (.dic _) => T == "dict"
    | _ => false
  | _ => false
theorem tyV_of {K L H} {h : MH} {T : String} {d v} (r : Rel K L H h) (q : Rep K L H d v) (e : isTy T d h = true) : tyV K T v H := by
  cases d with
  | str s => unfold Rep at q; subst q; exact beq_iff_eq.mp e
  | int s => unfold Rep at q; subst q; exact beq_iff_eq.mp e
  | rol ds =>
    unfold Rep at q
    obtain ⟨p, xs, rfl, s, w⟩ := q
    exact .inl ⟨beq_iff_eq.mp e, xs, s.sq⟩
  | ref n =>
    unfold isTy at e
    simp only at e
    split at e
    · rename_i ds z
      obtain ⟨p, xs, e1, e2, w⟩ := r.lst z
      rw [q.ref e1]
      exact .inl ⟨beq_iff_eq.mp e, xs, SqL.of e2⟩
    · rename_i ds z
      obtain ⟨p, xs, e1, e2, w⟩ := r.dic z
      rw [q.ref e1]
      exact .inr (.inr (.inl ⟨beq_iff_eq.mp e, .inl ⟨xs, e2⟩⟩))
    · cases e
  | _ => cases e
def MtdM (K : PySem.W.Frag) (r : V → List V → Hp → VK → Prop) (f : D → List D → MH → R D) : Prop := ∀ (L : TL) (H : Hp) (h : MH) (d : D) (x : V) (ds : List D) (vs : List V) (Q : VK) (E : XK), Rel K L H h → Rep K L H d x → RepL K L H ds vs → Ans K (Rep K) L H (f d ds h) Q E → r x vs H Q
def mMtd (T : String) (f : D → List D → MH → R D) (m : ME) (ms : MA) : ME := fun δ h => (m δ h).bnd fun d h1 => if isTy T d h1 = true then (ms δ h1).bnd fun ds h2 => f d ds h2 else .stuck
theorem pem_bm {o : Expr} {mo : ME} {name : Str} {apos cpos : Pos} {T id : String} {r : V → List V → Hp → VK → Prop} {f : D → List D → MH → R D} (pa : PlainAttrs T) (slot : Slot T name id) (hty : typeOf (.builtin id) = pure (.type "method_descriptor")) (hmt : MtR X id r) (hm : MtdM X.K r f) (ho : PEM X W o mo) (ha : PAM X W (e :: es) mas)
    (hbase : attributeBase o name X.env (eval o X.env) = eval o X.env := by rfl)
    (hfew : ((backTo cpos (starEach (e :: es) X.env)).all (fun x => !x.1) && (backToKw cpos (keywordEach [] X.env)).all (fun x => x.1.isSome)
      && decide ((e :: es).length + ([] : List Keyword).length + (if ([] : List Keyword).isEmpty then 0 else 1) < 30)) = true := by rfl)
    (hline : (apos.endLine == cpos.line) = true := by rfl) (hs : starEach (e :: es) X.env = (false, eval e X.env) :: starEach es X.env := by rfl) (hplain : (backTo cpos (starEach es X.env)).any (·.1) = false := by rfl) :
    PEM X W (.Call (.Attribute o name apos) (e :: es) [] cpos) (mMtd T f mo mas) :=
  PE.imp (pe_bm pa slot hty hmt ho ha hbase hfew hline hs hplain) fun σ H Q ⟨L, h, δ, r0, s, a⟩ => ⟨L, h, δ, r0, s, Ans.imp (Ans.bind (rp := Rep X.K) a) fun v H1 ⟨L1, h1, d, x1, r1, p1, a1⟩ => by
    by_cases z : isTy T d h1 = true
    · rw [if_pos z] at a1
      exact ⟨tyV_of r1 p1 z, L1, h1, δ, r1, s.mono x1, Ans.imp (Ans.bind (rp := RepL X.K) a1) fun vs H2 ⟨L2, h2, ds, x2, r2, p2, a2⟩ => hm L2 H2 h2 d v ds vs Q _ r2 (p1.mono x2) p2 a2⟩
    · rw [if_neg z] at a1; exact a1.elim⟩
theorem pem_bm0 {o : Expr} {mo : ME} {name : Str} {apos cpos : Pos} {T id : String} {r : V → List V → Hp → VK → Prop} {f : D → List D → MH → R D} (pa : PlainAttrs T) (slot : Slot T name id) (hty : typeOf (.builtin id) = pure (.type "method_descriptor")) (hmt : MtR X id r) (hm : MtdM X.K r f) (ho : PEM X W o mo)
    (hbase : attributeBase o name X.env (eval o X.env) = eval o X.env := by rfl) (hline : (apos.endLine == cpos.line) = true := by rfl) :
    PEM X W (.Call (.Attribute o name apos) [] [] cpos) (mMtd T f mo mNil) :=
  PE.imp (pe_bm0 pa slot hty hmt ho hbase hline) fun σ H Q ⟨L, h, δ, r0, s, a⟩ => ⟨L, h, δ, r0, s, Ans.imp (Ans.bind (rp := Rep X.K) a) fun v H1 ⟨L1, h1, d, x1, r1, p1, a1⟩ => by
    by_cases z : isTy T d h1 = true
    · rw [if_pos z] at a1
      exact ⟨tyV_of r1 p1 z, hm L1 H1 h1 d v [] [] Q _ r1 p1 .nil a1⟩
    · rw [if_neg z] at a1; exact a1.elim⟩
end
def spOf (K : PySem.W.Frag) (m : List D → MH → R D) : Sp := fun vs H Q E => ∃ L h ds, Rel K L H h ∧ RepL K L H ds vs ∧ Ans K (Rep K) L H (m ds h) Q E
def FnM (P : Program) (w : World) (K : PySem.W.Frag) (mg : Str → Option Value) (base : Heap) (k : Nat) (f : Addr) (fd : FuncData) (ps : List Str) (m : List D → MH → R D) : Prop := FnOk P w K mg base (L2N.CX P w) k f fd ps (spOf K m)
structure DefAt (K : PySem.W.Frag) (mg : Str → Option Value) (x : Str) (st : Stmt) (f : Addr) (fd : FuncData) (ps : List Str) : Prop where
  fn : Fun K x x st f fd
  mg' : mg x = some (.ref f)
  bi : Binds K fd ps []
def mStart (N : Nat) (ds : List D) : MS := ds.map some ++ List.replicate (N - ds.length) none
open Classical in
noncomputable def leaveX (h : MH) (c : Str) (fs : List (Str × D)) (h' : MH) : R D := if LeftOf h h' ∧ (fs.all fun p => p.2.lows h.length) = true then .exc c fs (h'.take h.length) else .stuck
noncomputable def mEnd (h : MH) : SR → R D
  | .ok (.ret d) h' => leave h d h'
  | .ok (.next _) h' => leave h .non h'
  | .ok _ _ => .stuck
  | .exc c fs _ h' => leaveX h c fs h'
  | .stuck => .stuck
def mEndN : SR → R D
  | .ok (.ret d) h' => .ok d h'
  | .ok (.next _) h' => .ok .non h'
  | .ok _ _ => .stuck
  | .exc c fs _ h' => .exc c fs h'
  | .stuck => .stuck
noncomputable def mFn (n N : Nat) (ms : MSt) : List D → MH → R D := fun ds h => if ds.length = n then mEnd h (ms (mStart N ds) h) else .stuck
def mFnN (n N : Nat) (ms : MSt) : List D → MH → R D := fun ds h => if ds.length = n then mEndN (ms (mStart N ds) h) else .stuck
theorem repS_start {K L H} {N : List Str} {ds : List D} {vs : List V} (w : RepL K L H ds vs) : RepS K L H (mStart N.length ds) (L2.start N vs) := by
  have hl := w.length
  refine ⟨by unfold mStart L2.start; simp [hl], fun i d e => ?_⟩
  unfold mStart at e
  by_cases hi : i < ds.length
  · rw [List.getElem?_append_left (by simpa using hi), List.getElem?_map] at e
    rw [List.getElem?_eq_getElem hi] at e
    simp only [Option.map_some, Option.some.injEq] at e
    obtain ⟨v, e1, q⟩ := w.get (List.getElem?_eq_getElem hi)
    refine ⟨v, ?_, by rw [← e]; exact q⟩
    unfold L2.start
    rw [List.getElem?_append_left (by simpa [← hl] using hi), List.getElem?_map, e1]; rfl
  · rw [List.getElem?_append_right (by simpa using hi)] at e
    have := List.getElem?_eq_some_iff.mp e
    obtain ⟨h1, h2⟩ := this
    rw [List.getElem_replicate] at h2
    cases h2
section
variable {P : Program} {w : World} {K : PySem.W.Frag} {mg : Str → Option Value} {base : Heap}
theorem FnM.mono {j k : Nat} {f fd ps m} (F : FnM P w K mg base j f fd ps m) (h : j ≤ k) : FnM P w K mg base k f fd ps m := FnOk.mono F h
theorem okN {x qual : Str} {st : Stmt} {f : Addr} {fd : FuncData} {N ps : List Str} {k : Nat} {sp : Sp} (F : Fun K x qual st f fd) (S : FnScope N ps (defScope st)) (len : ∀ vs H Q E, sp vs H Q E → vs.length = ps.length)
    (hbody : ∀ (cdv : Value) (A : Around) (outer : List Env) (s : Shared) (H : Hp) (vs : List V) (Q : VK) (E : XK), Room k (A.deeper (envOfC qual (defScope st) s.heap.objs.size f cdv)) → sp vs H Q E →
      ∃ t, PSs (cxOf (L2N.CX P w) P w K mg base N qual (defScope st) f cdv A outer s H E) (defBody st) t ∧ t { nx := fun _ H' => Q .non H', rt := Q } (start N vs) H) : FnOk P w K mg base (L2N.CX P w) (k + 1) f fd ps sp := by
  obtain ⟨oc, od, kV, doc, pm, an, cdv, ct, osl, rfl, lk, hcd⟩ := F.ex
  exact fn_of lk hcd S len fun A outer s H vs Q E hr hsp => hbody cdv A outer s H vs Q E hr hsp
theorem fnM_body {x qn : Str} {st : Stmt} {f : Addr} {fd : FuncData} {N ps : List Str} {k : Nat} {m : MSt} {g : List D → MH → R D} (F : Fun K x qn st f fd) (S : FnScope N ps (defScope st))
    (hg : ∀ ds h, g ds h = .stuck ∨ (ds.length = ps.length ∧ (g ds h = mEnd h (m (mStart N.length ds) h) ∨ g ds h = mEndN (m (mStart N.length ds) h))))
    (body : ∀ (cdv : Value) (A : Around) (outer : List Env) (s : Shared) (H : Hp) (E : XK), Room k (A.deeper (envOfC qn (defScope st) s.heap.objs.size f cdv)) →
      L2N.Takes (cxOf (L2N.CX P w) P w K mg base N qn (defScope st) f cdv A outer s H E) (fun c d _ H => E c d H) →
      PassesOwn (model P w) (A.deeper (envOfC qn (defScope st) s.heap.objs.size f cdv)) (envOfC qn (defScope st) s.heap.objs.size f cdv) (cxOf (L2N.CX P w) P w K mg base N qn (defScope st) f cdv A outer s H E).xe →
      PSsM (cxOf (L2N.CX P w) P w K mg base N qn (defScope st) f cdv A outer s H E) (fun c d _ H => E c d H) (defBody st) m) :
    FnM P w K mg base (k + 1) f fd ps g := by
  refine okN F S (fun vs H Q E ⟨L, h, ds, r, q, a⟩ => ?_) (fun cdv A outer s H vs Q E hr ⟨L, h, ds, r, q, a⟩ => ?_)
  · rcases hg ds h with z | ⟨z, _⟩
    · rw [z] at a; exact a.elim
    · rw [← q.length]; exact z
  · refine ⟨_, body cdv A outer s H E hr (L2N.takes_of rfl rfl rfl rfl) (passes_of rfl), ?_⟩
    refine ⟨L, h, mStart N.length ds, r, repS_start q, ?_⟩
    have hx : ∀ (c : Str) (fs : List (Str × D)) (h' : MH) (δ : MS), Ans K (Rep K) L H (.exc c fs h') Q E → AnsS K { nx := fun _ H' => Q .non H', rt := Q } (fun c d _ H => E c d H) L H (.exc c fs δ h') := fun c fs h' δ a L' H' σ' dx xs e r _ q1 q2 => a L' H' dx xs e r q1 q2
    rcases hg ds h with z | ⟨_, z | z⟩
    · rw [z] at a; exact a.elim
    · rw [z] at a
      generalize m (mStart N.length ds) h = res at a ⊢
      cases res with
      | stuck => exact a.elim
      | exc c fs δ h' =>
        unfold mEnd leaveX at a
        simp only at a
        split at a
        case isFalse => exact a.elim
        rename_i zz
        intro L' H' σ' dx xs e r' _ q1 q2
        obtain ⟨x1, r1⟩ := r.leave r' e zz.1
        exact a _ H' dx xs x1 r1 q1 (q2.take zz.2)
      | ok fl h' =>
        cases fl with
        | next δ => exact fun L' H' σ' e r' s' => ans_leave r e r' rep_none a
        | ret d => exact fun L' H' v e r' s' => ans_leave r e r' s' a
        | brk _ => exact a.elim
        | cont _ => exact a.elim
    · rw [z] at a
      generalize m (mStart N.length ds) h = res at a ⊢
      cases res with
      | stuck => exact a.elim
      | exc c fs δ h' => exact hx c fs h' δ a
      | ok fl h' =>
        cases fl with
        | next δ => exact fun L' H' σ' e r' s' => a L' H' .non e r' rep_none
        | ret d => exact fun L' H' v e r' s' => a L' H' v e r' s'
        | brk _ => exact a.elim
        | cont _ => exact a.elim
theorem hg_fn {n N : Nat} {m : MSt} : ∀ ds h, mFn n N m ds h = .stuck ∨ (ds.length = n ∧ (mFn n N m ds h = mEnd h (m (mStart N ds) h) ∨ mFn n N m ds h = mEndN (m (mStart N ds) h))) := fun ds h => by
  by_cases z : ds.length = n
  · exact .inr ⟨z, .inl (if_pos z)⟩
  · exact .inl (if_neg z)
theorem hg_fnN {n N : Nat} {m : MSt} : ∀ ds h, mFnN n N m ds h = .stuck ∨ (ds.length = n ∧ (mFnN n N m ds h = mEnd h (m (mStart N ds) h) ∨ mFnN n N m ds h = mEndN (m (mStart N ds) h))) := fun ds h => by
  by_cases z : ds.length = n
  · exact .inr ⟨z, .inr (if_pos z)⟩
  · exact .inl (if_neg z)
end
section
variable {X : Cx} {W : WX} {pos : Pos} {e : Expr} {es : List Expr} {mas : MA}
theorem pem_call {x : Str} {st : Stmt} {f : Addr} {fd : FuncData} {ps : List Str} {k : Nat} {m : List D → MH → R D} {p : Pos} (F : FnM X.prog X.w X.K X.mg X.base k f fd ps m) (DA : DefAt X.K X.mg x st f fd ps) (hr : Room k X.A) (tk : L2N.Takes X W) (hg : Gl X x) (ha : PAM X W (e :: es) mas)
    (hdb : (x == ("__debug__" : Str)) = false := by decide) (he : starEach (e :: es) X.env = (false, eval e X.env) :: starEach es X.env := by rfl) (hpl : (backTo pos (starEach es X.env)).any (·.1) = false := by rfl) :
    PEM X W (.Call (.Name x p) (e :: es) [] pos) (mCall m mas) :=
  PE.imp (pe_callS (E := WE W) F hr hg DA.mg' DA.fn.kp DA.bi (fun σ => L2N.passAt tk σ) ha hdb he hpl) fun σ H Q ⟨L, h, δ, r0, s, a⟩ => ⟨L, h, δ, r0, s, Ans.imp (Ans.bind (rp := RepL X.K) a) fun vs H1 ⟨L1, h1, ds, x1, r1, p1, a1⟩ => ⟨L1, h1, ds, r1, p1, a1⟩⟩
end
section
variable {X : Cx} {W : WX} {pos : Pos} {e : Expr} {me : ME}
theorem mv (i : Nat) {x : Str} (hN : X.N[i]? = some x := by rfl) (hv : Vis X.env.scope x := by first | exact Or.inl rfl | exact Or.inr (Or.inl rfl) | exact Or.inr (Or.inr rfl)) (hd : (x == ("__debug__" : Str)) = false := by decide)
    (hcd : (x == ("__classdict__" : Str)) = false := by decide) : PEM X W (.Name x pos) (mVar i) := pem_var (pe_var hN hv hd hcd)
theorem gn (i : Nat) {x : Str} (hN : X.N.Nodup) (hi : X.N[i]? = some x := by rfl) (hx : Loc X.env.scope x := by first | exact Or.inl rfl | exact Or.inr rfl) (hf : X.fn x = true ∨ X.env.scope.names.lookup x = some .local := by first | exact .inl rfl | exact .inr rfl) : PGM X (.Name x pos) [i] (mgName i) := pgm_name (pg_name hN hi hx hf)
theorem ss (i : Nat) {x : Str} {pos' : Pos} (hN : X.N.Nodup) (he : PEM X W e me) (hi : X.N[i]? = some x := by rfl) (hx : Loc X.env.scope x := by first | exact Or.inl rfl | exact Or.inr rfl) (hs : swapsWith e (some (.Name x pos')) pos.line X.env = pure false := by rfl)
    (hf : X.fn x = true ∨ X.env.scope.names.lookup x = some .local := by first | exact .inl rfl | exact .inr rfl) : PSM X W (.Assign [.Name x pos'] e pos) (mSet i me) := psm_set (ps_set hN hi hx he hs hf)
def CAt (K : PySem.W.Frag) (mg : Str → Option Value) (x : Str) (d : D) : Prop := ∃ u v, mg x = some u ∧ RelV v u ∧ ∀ L H, Rep K L H d v
theorem mk {x : Str} {d : D} (c : CAt X.K X.mg x d) (hg : Gl X x := by rfl) (hd : (x == ("__debug__" : Str)) = false := by decide) : PEM X W (.Name x pos) (mC d) := by
  obtain ⟨u, v, h1, h2, h3⟩ := c
  exact pem_c (pe_glob hg h1 h2 hd) h3
theorem mty (n : String) {x : Str} (hm : X.mg x = none) (hv : bootBuiltins x = some (.type n)) (hg : Gl X x := by rfl) (hn : x ≠ "__name__" := by decide) (hd : (x == ("__debug__" : Str)) = false := by decide) : PEM X W (.Name x pos) (mC (.ty n)) :=
  pem_c (pe_bltn hg hm hv (v := .ty n) rfl hn hd) fun _ _ => rep_ty
theorem takes0N {X : Cx} : L2N.Takes X (fun _ _ _ _ => False) := fun _ _ x => by
  obtain ⟨_, _, _, _, _, _, _, _, _, _, _, _, _, _, _, _, z⟩ := x
  exact z.elim
theorem takesW0 {X : Cx} : L2N.Takes X W0 := takes0N
end
section
theorem no_exc {P : Program} {w : World} {l : List Env} {H : Hp} {s s' : Shared} {e : Value} (q : L2N.CX P w l H s (fun _ _ _ => False) e s') : False := by
  obtain ⟨_, _, _, _, _, _, _, _, _, _, _, _, z⟩ := q
  exact z.elim
theorem repL_ints {K L H} : ∀ ns : List Int, RepL K L H (ns.map D.int) (ns.map V.int)
  | [] => .nil
  | n :: ns => .cons rep_int (repL_ints ns)
theorem rel_nil {K H} : Rel K [] H [] := ⟨rfl, fun n o e => by simp at e, fun n m a e => by simp at e⟩
theorem law_end {K : PySem.W.Frag} {m : List D → MH → R D} {H : Hp} {a : Addr} {ns : List Int} {E : XK} (hS : SqL K H a (ns.map V.int)) (h : ∃ h', m [.rol (ns.map D.int)] [] = .ok (.bl true) h') : spOf K m [.ref a] H (fun v _ => v = .bl true) E := by
  obtain ⟨h', e⟩ := h
  refine ⟨[], [], [.rol (ns.map D.int)], rel_nil, .cons ?_ .nil, ?_⟩
  · unfold Rep
    refine ⟨a, ns.map V.int, rfl, ?_, repL_ints ns⟩
    rcases hS with hS | hS
    · exact .inl ⟨hS, fun n z => by simp at z⟩
    · exact .inr hS
  · rw [e]
    intro L' H' v _ _ q
    unfold Rep at q
    exact q
end
end MM
namespace MM
open PySem PySem.Spec PyProof.Rows L2
section
variable {K : PySem.W.Frag}
theorem rep_int_inv {L H i v} (q : Rep K L H (.int i) v) : v = .int i := by unfold Rep at q; exact q
theorem rep_str_inv {L H i v} (q : Rep K L H (.str i) v) : v = .str i := by unfold Rep at q; exact q
theorem rep_non_inv {L H v} (q : Rep K L H .non v) : v = .non := by unfold Rep at q; exact q
theorem rep_ty_inv {L H i v} (q : Rep K L H (.ty i) v) : v = .ty i := by unfold Rep at q; exact q
def rAdd3 (K : PySem.W.Frag) : R2 := fun x y H Q => (rI0 (fun i j => .int (i + j)) x y H Q ∨ (∃ i j, x = .str i ∧ y = .str j ∧ i.length + j.length ≤ sizeLine ∧ Q (.str (i ++ j)) H)) ∨ rCatA K x y H Q
theorem op_add3 {X : Cx} : OpR X (binaryOp .Add) (rAdd3 X.K) := (op_add.or op_add_str).or op_catA
def opAdd (x y : D) (h : MH) : R D := match x, y with
  | .int a, .int b => .ok (.int (a + b)) h
  | .str a, .str b => if a.length + b.length ≤ 16777216 then .ok (.str (a ++ b)) h else .stuck
  | .tup a, .tup b => if a.length + b.length ≤ 16777216 then .ok (.tup (a ++ b)) h else .stuck
  | _, _ => .stuck
theorem RepL.nil_iff {L H ds vs} (w : RepL K L H ds vs) : vs = [] ↔ ds = [] := by
  have := w.length
  cases ds <;> cases vs <;> simp_all
theorem opAdd_ok : OpM K (rAdd3 K) opAdd := by
  intro L H h dx dy x y Q E r px py a
  unfold opAdd at a
  split at a
  · rename_i i j
    exact .inl (.inl ⟨i, j, rep_int_inv px, rep_int_inv py, ans_okE r rep_int a⟩)
  · rename_i i j
    split at a
    · rename_i z
      exact .inl (.inr ⟨i, j, rep_str_inv px, rep_str_inv py, szl z, ans_okE r rep_str a⟩)
    · exact a.elim
  · rename_i ds es
    split at a
    · rename_i z
      obtain ⟨p, xs, rfl, s, w⟩ := tup_of px
      obtain ⟨q, ys, rfl, s', w'⟩ := tup_of py
      refine .inr ⟨p, q, xs, ys, rfl, rfl, s, s', by rw [← w.length, ← w'.length]; exact szl z, fun e => ?_, fun e e' => ?_, fun e e' p hp => ?_⟩
      · have : ds = [] := w.nil_iff.mp e
        subst this
        exact ans_okE r py a
      · have : es = [] := w'.nil_iff.mp e'
        subst this
        rw [List.append_nil] at a
        exact ans_okE r px a
      · exact ans_of (rep_tup r hp (w.append w')) a
    · exact a.elim
  · exact a.elim
def opSub (x y : D) (h : MH) : R D := match x, y with
  | .int a, .int b => .ok (.int (a - b)) h
  | _, _ => .stuck
theorem opSub_ok : OpM K (rI0 fun i j => .int (i - j)) opSub := by
  intro L H h dx dy x y Q E r px py a
  unfold opSub at a
  split at a
  · rename_i i j
    exact ⟨i, j, rep_int_inv px, rep_int_inv py, ans_okE r rep_int a⟩
  · exact a.elim
def strRep (n : Int) (x : Str) : Str := if n < 1 then Str.empty else if (n == 1 || x.length == 0) = true then x else ⟨(List.replicate n.toNat x.cps).foldl (· ++ ·) #[]⟩
def rStrRep : R2 := fun x y H Q => ∃ z n, x = .str z ∧ y = .int n ∧ (-(2 ^ 63 : Int) ≤ n ∧ n < 2 ^ 63 ∧ (z.length : Int) * n ≤ 16777216) ∧ Q (.str (strRep n z)) H
theorem foldl_size (c : Array Nat) : ∀ (k : Nat) (acc : Array Nat), ((List.replicate k c).foldl (· ++ ·) acc).size = acc.size + k * c.size
  | 0, acc => by simp
  | k + 1, acc => by
    rw [List.replicate_succ, List.foldl_cons, foldl_size c k, Array.size_append, Nat.succ_mul]
    omega
theorem op_strRep {X : Cx} : OpR X (binaryOp .Mult) rStrRep := by
  intro pins s σ H x y v u Q I rx ry h
  obtain ⟨z, n, rfl, rfl, ⟨h0, h2, h1⟩, q⟩ := h
  obtain ⟨t, rfl⟩ := rx
  obtain ⟨t', rfl⟩ := ry
  refine PySem.P.mul_str (by rw [decide_eq_false (by omega), decide_eq_false (by omega)]; rfl) (fun a b => ?_) (fun a b => ?_) ?_
  · rw [Bool.or_eq_false_iff] at b
    have hn : 1 ≤ n := by omega
    have : (z.length : Int) ≤ (2 ^ 63 - 1) / n := by
      rw [Int.le_ediv_iff_mul_le (by omega)]
      omega
    omega
  · have hn : 1 ≤ n := by omega
    have : z.length * n.toNat ≤ 16777216 := by
      have h3 : (n.toNat : Int) = n := Int.toNat_of_nonneg (by omega)
      have : ((z.length * n.toNat : Nat) : Int) ≤ 16777216 := by rw [Int.natCast_mul, h3]; exact h1
      omega
    unfold Builtin.Str.tooLong
    rw [sizeLine_eq]
    exact decide_eq_false (by omega)
  · unfold strRep at q
    by_cases hn : n < 1
    · rw [if_pos hn] at q ⊢
      exact ⟨Nat.zero_le _, .str _, H, I.tok _, ⟨_, rfl⟩, q⟩
    · rw [if_neg hn] at q ⊢
      split at q
      · rename_i z1
        rw [if_pos z1]
        exact ⟨.str _, H, I, ⟨_, rfl⟩, q⟩
      · rename_i z1
        rw [if_neg z1]
        refine ⟨?_, .str _, H, I.tok _, ⟨_, rfl⟩, q⟩
        show ((List.replicate n.toNat z.cps).foldl (· ++ ·) #[]).size ≤ _
        rw [foldl_size, sizeLine_eq]
        have h3 : (n.toNat : Int) = n := Int.toNat_of_nonneg (by omega)
        have : ((z.length * n.toNat : Nat) : Int) ≤ 16777216 := by rw [Int.natCast_mul, h3]; exact h1
        show 0 + n.toNat * z.length ≤ _
        rw [Nat.mul_comm]
        omega
def rMul2 : R2 := fun x y H Q => rI CMulW (fun i j => .int (i * j)) x y H Q ∨ rStrRep x y H Q
theorem op_mul2 {X : Cx} : OpR X (binaryOp .Mult) rMul2 := op_mulW.or op_strRep
def opMul (x y : D) (h : MH) : R D := match x, y with
  | .int a, .int b => if a.natAbs.log2 + b.natAbs.log2 < 1000000 then .ok (.int (a * b)) h else .stuck
  | .str a, .int b => if -(2 ^ 63 : Int) ≤ b ∧ b < 2 ^ 63 ∧ (a.length : Int) * b ≤ 16777216 then .ok (.str (strRep b a)) h else .stuck
  | _, _ => .stuck
theorem opMul_ok : OpM K rMul2 opMul := by
  intro L H h dx dy x y Q E r px py a
  unfold opMul at a
  split at a
  · rename_i i j
    split at a
    · rename_i z
      exact .inl ⟨i, j, rep_int_inv px, rep_int_inv py, z, ans_okE r rep_int a⟩
    · exact a.elim
  · rename_i i j
    split at a
    · rename_i z
      exact .inr ⟨i, j, rep_str_inv px, rep_int_inv py, z, ans_okE r rep_str a⟩
    · exact a.elim
  · exact a.elim
def opDiv (x y : D) (h : MH) : R D := match x, y with
  | .int a, .int b => if 0 < b ∧ b < 2 ^ 2000 then .ok (.int (a / b)) h else .stuck
  | _, _ => .stuck
theorem opDiv_ok : OpM K (rI CDivW fun i j => .int (i / j)) opDiv := by
  intro L H h dx dy x y Q E r px py a
  unfold opDiv at a
  split at a
  · rename_i i j
    split at a
    · rename_i z
      exact ⟨i, j, rep_int_inv px, rep_int_inv py, wide_div (b := 2000) z.1 (by
        have := z.2
        have h2 : (j.natAbs : Int) < 2 ^ 2000 := by rw [Int.natAbs_of_nonneg (by omega)]; exact this
        exact_mod_cast h2) (by decide) (by decide), ans_okE r rep_int a⟩
    · exact a.elim
  · exact a.elim
def opMod (x y : D) (h : MH) : R D := match x, y with
  | .int a, .int b => if 0 < b then .ok (.int (a % b)) h else .stuck
  | _, _ => .stuck
theorem opMod_ok : OpM K (rI (fun _ j => 0 < j) fun i j => .int (i % j)) opMod := by
  intro L H h dx dy x y Q E r px py a
  unfold opMod at a
  split at a
  · rename_i i j
    split at a
    · rename_i z
      exact ⟨i, j, rep_int_inv px, rep_int_inv py, z, ans_okE r rep_int a⟩
    · exact a.elim
  · exact a.elim
def opNeg (x : D) (h : MH) : R D := match x with
  | .int a => .ok (.int (-a)) h
  | _ => .stuck
theorem opNeg_ok : UnM K (rU fun i => .int (-i)) opNeg := by
  intro L H h dx x Q E r px a
  unfold opNeg at a
  split at a
  · rename_i i
    exact ⟨i, rep_int_inv px, ans_okE r rep_int a⟩
  · exact a.elim

def opCmp (p : Int → Int → Bool) (q : Str → Str → Bool) (x y : D) (h : MH) : R D := match x, y with
  | .int a, .int b => .ok (.bl (p a b)) h
  | .str a, .str b => .ok (.bl (q a b)) h
  | _, _ => .stuck
def rCmp2 (p : Int → Int → Bool) (q : Str → Str → Bool) : R2 := fun x y H Q => rI0 (fun i j => .bl (p i j)) x y H Q ∨ ∃ i j, x = .str i ∧ y = .str j ∧ Q (.bl (q i j)) H
theorem opCmp_ok {p q} : OpM K (rCmp2 p q) (opCmp p q) := by
  intro L H h dx dy x y Q E r px py a
  unfold opCmp at a
  split at a
  · rename_i i j
    exact .inl ⟨i, j, rep_int_inv px, rep_int_inv py, ans_okE r rep_bl a⟩
  · rename_i i j
    exact .inr ⟨i, j, rep_str_inv px, rep_str_inv py, ans_okE r rep_bl a⟩
  · exact a.elim
abbrev opLt := opCmp (fun i j => decide (i < j)) (fun i j => decide (i.cps.toList < j.cps.toList))
theorem op_lt2 {X : Cx} : OpR X (compareOp .Lt) (rCmp2 (fun i j => decide (i < j)) (fun i j => decide (i.cps.toList < j.cps.toList))) := op_lt.or op_lt_str
abbrev opLe := opCmp (fun i j => decide (i ≤ j)) (fun i j => !decide (j.cps.toList < i.cps.toList))
theorem op_le2 {X : Cx} : OpR X (compareOp .LtE) (rCmp2 (fun i j => decide (i ≤ j)) (fun i j => !decide (j.cps.toList < i.cps.toList))) := op_le.or op_le_str
abbrev opGt := opCmp (fun i j => decide (j < i)) (fun i j => decide (j.cps.toList < i.cps.toList))
theorem op_gt2 {X : Cx} : OpR X (compareOp .Gt) (rCmp2 (fun i j => decide (j < i)) (fun i j => decide (j.cps.toList < i.cps.toList))) := op_gt.or op_gt_str
abbrev opGe := opCmp (fun i j => decide (j ≤ i)) (fun i j => !decide (i.cps.toList < j.cps.toList))
theorem op_ge2 {X : Cx} : OpR X (compareOp .GtE) (rCmp2 (fun i j => decide (j ≤ i)) (fun i j => !decide (i.cps.toList < j.cps.toList))) := op_ge.or op_ge_str
def opAddI (x y : D) (h : MH) : R D := match x, y with
  | .int a, .int b => .ok (.int (a + b)) h
  | .str a, .str b => if a.length + b.length ≤ 16777216 then .ok (.str (a ++ b)) h else .stuck
  | _, _ => .stuck
def rAddI : R2 := fun x y H Q => rI0 (fun i j => .int (i + j)) x y H Q ∨ (∃ i j, x = .str i ∧ y = .str j ∧ i.length + j.length ≤ sizeLine ∧ Q (.str (i ++ j)) H)
theorem iop_addI {X : Cx} : OpR X (inplaceOp .Add) rAddI := iop_add.or iop_add_str
theorem opAddI_ok : OpM K rAddI opAddI := by
  intro L H h dx dy x y Q E r px py a
  unfold opAddI at a
  split at a
  · rename_i i j
    exact .inl ⟨i, j, rep_int_inv px, rep_int_inv py, ans_okE r rep_int a⟩
  · rename_i i j
    split at a
    · rename_i z
      exact .inr ⟨i, j, rep_str_inv px, rep_str_inv py, szl z, ans_okE r rep_str a⟩
    · exact a.elim
  · exact a.elim
def eqS : D → D → Option Bool
  | .non, .non => some true
  | .int a, .int b => some (decide (a = b))
  | .bl a, .bl b => some (decide (a = b))
  | .str a, .str b => some (decide (a = b))
  | .non, .int _ => some false
  | .int _, .non => some false
  | .non, .bl _ => some false
  | .bl _, .non => some false
  | .non, .str _ => some false
  | .str _, .non => some false
  | .int _, .str _ => some false
  | .str _, .int _ => some false
  | .bl _, .str _ => some false
  | .str _, .bl _ => some false
  | _, _ => none
theorem eqS_ok {L H dx dy x y b} (px : Rep K L H dx x) (py : Rep K L H dy y) (e : eqS dx dy = some b) : scal x y = true ∧ decide (x = y) = b := by
  cases dx <;> cases dy <;> first
    | (cases e; done)
    | (unfold Rep at px py; subst px; subst py; cases e; refine ⟨rfl, ?_⟩; simp)
mutual
def toPy : D → Option PyData
  | .non => some .none
  | .bl b => some (.bool b)
  | .int i => some (.int i)
  | .str s => some (.str s)
  | .tup ds => (toPyL ds).map .tuple
  | .rol ds => (toPyL ds).map .list
  | _ => none
def toPyL : List D → Option (List PyData)
  | [] => some []
  | d :: ds => (toPy d).bind fun x => (toPyL ds).map fun xs => x :: xs
end
mutual
theorem toPy_dp {L H} : ∀ {d : D} {v : V} {p : PyData}, Rep K L H d v → toPy d = some p → Dp K H v p
  | .non, _, _, q, e => by rw [rep_non_inv q]; cases e; exact .non
  | .bl _, _, _, q, e => by rw [rep_bl_inv q]; cases e; exact .bl _
  | .int _, _, _, q, e => by rw [rep_int_inv q]; cases e; exact .int _
  | .str _, _, _, q, e => by rw [rep_str_inv q]; cases e; exact .str _
  | .tup ds, _, _, q, e => by
    obtain ⟨p, xs, rfl, s, w⟩ := tup_of q
    unfold toPy at e
    obtain ⟨ps, e1, rfl⟩ := Option.map_eq_some_iff.mp e
    exact .tup s (toPyL_dp w e1)
  | .rol ds, _, _, q, e => by
    unfold Rep at q
    obtain ⟨p, xs, rfl, s, w⟩ := q
    unfold toPy at e
    obtain ⟨ps, e1, rfl⟩ := Option.map_eq_some_iff.mp e
    exact .lst s.sq (toPyL_dp w e1)
  | .ref _, _, _, _, e => by unfold toPy at e; cases e
  | .obj _, _, _, _, e => by unfold toPy at e; cases e
  | .ty _, _, _, _, e => by unfold toPy at e; cases e
  | .kon _, _, _, _, e => by unfold toPy at e; cases e
  | .rdc _ _, _, _, _, e => by unfold toPy at e; cases e
  | .xo _ _ _ _, _, _, _, e => by unfold toPy at e; cases e
theorem toPyL_dp {L H} : ∀ {ds : List D} {vs : List V} {ps : List PyData}, RepL K L H ds vs → toPyL ds = some ps → DpAll K H vs ps
  | [], _, _, w, e => by rw [w.nil_inv]; unfold toPyL at e; cases e; exact .nil
  | d :: ds, _, _, w, e => by
    obtain ⟨v, vs, rfl, q, w⟩ := w.cons_inv
    unfold toPyL at e
    obtain ⟨x, e1, e2⟩ := Option.bind_eq_some_iff.mp e
    obtain ⟨xs, e3, rfl⟩ := Option.map_eq_some_iff.mp e2
    exact .cons (toPy_dp q e1) (toPyL_dp w e3)
end
def toPyH (d : D) (h : MH) : Option PyData := match d with
  | .ref n => (lst? h n).bind fun ds => (toPyL ds).map .list
  | d => toPy d
theorem toPyH_dp {L H} {h : MH} {d v p} (r : Rel K L H h) (q : Rep K L H d v) (e : toPyH d h = some p) : Dp K H v p := by
  cases d with
  | ref n =>
    obtain ⟨ds, e1, e2⟩ := Option.bind_eq_some_iff.mp e
    obtain ⟨ps, e3, rfl⟩ := Option.map_eq_some_iff.mp e2
    obtain ⟨a, xs, z1, z2, w⟩ := r.lst (lst?_at e1)
    rw [q.ref z1]
    exact .lst (SqL.of z2) (toPyL_dp w e3)
  | _ => exact toPy_dp q e
def eqG (x y : D) (h : MH) : Option Bool := match eqS x y with
  | some b => some b
  | none => (toPyH x h).bind fun p => (toPyH y h).bind fun q => if SeqAt.shaped p && SeqAt.shaped q then some (PyData.eqv p q) else none
def opEq (x y : D) (h : MH) : R D := match eqG x y h with
  | some b => .ok (.bl b) h
  | none => .stuck
def opNe (x y : D) (h : MH) : R D := match eqG x y h with
  | some b => .ok (.bl (!b)) h
  | none => .stuck
def rEq2 (K : PySem.W.Frag) : R2 := fun x y H Q => rEq x y H Q ∨ rEqD K x y H Q
def rNe2 (K : PySem.W.Frag) : R2 := fun x y H Q => rNe x y H Q ∨ rNeD K x y H Q
theorem op_eq2 {X : Cx} (hu : X.A.units + 64 < cLine) : OpR X (compareOp .Eq) (rEq2 X.K) := op_eq.or (op_eqD hu)
theorem op_ne2 {X : Cx} (hu : X.A.units + 64 < cLine) : OpR X (compareOp .NotEq) (rNe2 X.K) := op_ne.or (op_neD hu)
theorem eqG_ok {L H} {h : MH} {dx dy x y b} (r : Rel K L H h) (px : Rep K L H dx x) (py : Rep K L H dy y) (e : eqG dx dy h = some b) :
    (scal x y = true ∧ decide (x = y) = b) ∨ ∃ d e', Dp K H x d ∧ Dp K H y e' ∧ SeqAt.shaped d = true ∧ SeqAt.shaped e' = true ∧ PyData.eqv d e' = b := by
  unfold eqG at e
  split at e
  · rename_i c z
    cases e
    exact .inl (eqS_ok px py z)
  · obtain ⟨p, e1, e2⟩ := Option.bind_eq_some_iff.mp e
    obtain ⟨q, e3, e4⟩ := Option.bind_eq_some_iff.mp e2
    split at e4
    · rename_i z
      rw [Bool.and_eq_true] at z
      exact .inr ⟨p, q, toPyH_dp r px e1, toPyH_dp r py e3, z.1, z.2, Option.some.inj e4⟩
    · cases e4
theorem opEq_ok : OpM K (rEq2 K) opEq := by
  intro L H h dx dy x y Q E r px py a
  unfold opEq at a
  split at a
  · rename_i b z
    have q := ans_okE (K := K) (v := .bl b) r rep_bl a
    rcases eqG_ok r px py z with ⟨h1, h2⟩ | ⟨d, e, h1, h2, h3, h4, h5⟩
    · exact .inl ⟨h1, by rw [h2]; exact q⟩
    · exact .inr ⟨d, e, h1, h2, h3, h4, by rw [h5]; exact q⟩
  · exact a.elim
theorem opNe_ok : OpM K (rNe2 K) opNe := by
  intro L H h dx dy x y Q E r px py a
  unfold opNe at a
  split at a
  · rename_i b z
    have q := ans_okE (K := K) (v := .bl (!b)) r rep_bl a
    rcases eqG_ok r px py z with ⟨h1, h2⟩ | ⟨d, e, h1, h2, h3, h4, h5⟩
    · exact .inl ⟨h1, by rw [h2]; exact q⟩
    · exact .inr ⟨d, e, h1, h2, h3, h4, by rw [h5]; exact q⟩
  · exact a.elim
def isNon : D → Bool
  | .non => true
  | _ => false
def opIsN (x y : D) (h : MH) : R D := match y with
  | .non => .ok (.bl (isNon x)) h
  | _ => .stuck
def opNotN (x y : D) (h : MH) : R D := match y with
  | .non => .ok (.bl (!isNon x)) h
  | _ => .stuck
theorem isN_ok {L H d v} (q : Rep K L H d v) : decide (v = .non) = isNon d := by
  cases d <;> unfold Rep at q <;> first
    | (subst q; simp [isNon]; done)
    | (obtain ⟨a, xs, rfl, _⟩ := q; simp [isNon]; done)
    | (obtain ⟨a, rfl, _⟩ := q; simp [isNon]; done)
    | (rw [q.1]; simp [isNon]; done)
theorem opIsN_ok : OpM K (fun x y H Q => y = .non ∧ Q (.bl (decide (x = .non))) H) opIsN := by
  intro L H h dx dy x y Q E r px py a
  unfold opIsN at a
  split at a
  · exact ⟨rep_non_inv py, by rw [isN_ok px]; exact ans_okE r rep_bl a⟩
  · exact a.elim
def flatD : D → Option V
  | .non => some .non
  | .bl b => some (.bl b)
  | .int i => some (.int i)
  | .str s => some (.str s)
  | _ => none
theorem flatD_ok {L H d v w} (q : Rep K L H d v) (e : flatD d = some w) : v = w ∧ flatV w = true := by
  cases d <;> first
    | (cases e; done)
    | (unfold Rep at q; cases e; exact ⟨q, rfl⟩)
def flatL : List D → Option (List V)
  | [] => some []
  | d :: ds => (flatD d).bind fun x => (flatL ds).map fun xs => x :: xs
theorem flatL_ok {L H} : ∀ {ds : List D} {vs ws}, RepL K L H ds vs → flatL ds = some ws → vs = ws ∧ ws.all flatV = true
  | [], _, _, w, e => by cases e; exact ⟨w.nil_inv, rfl⟩
  | d :: ds, _, _, w, e => by
    obtain ⟨v, vs, rfl, q, w⟩ := w.cons_inv
    unfold flatL at e
    obtain ⟨x, e1, e2⟩ := Option.bind_eq_some_iff.mp e
    obtain ⟨xs, e3, rfl⟩ := Option.map_eq_some_iff.mp e2
    obtain ⟨h1, h2⟩ := flatD_ok q e1
    obtain ⟨h3, h4⟩ := flatL_ok w e3
    refine ⟨by rw [h1, h3], ?_⟩
    rw [List.all_cons, h2, h4]; rfl
def subStr (a b : Str) : Bool := !(Builtin.Str.occurrences b a 0 b.length 1).isEmpty
def inG (x y : D) (h : MH) : Option Bool := match y with
  | .str b => (match x with | .str a => some (subStr a b) | _ => none)
  | .tup ds => (flatD x).bind fun v => (flatL ds).map fun vs => inV v vs
  | y => (lstD y h).bind fun ds => (flatD x).bind fun v => (flatL ds).map fun vs => inV v vs
def opIn (x y : D) (h : MH) : R D := match inG x y h with
  | some b => .ok (.bl b) h
  | none => .stuck
def rIn2 (K : PySem.W.Frag) : R2 := fun x y H Q => rIn K false x y H Q ∨ ∃ i j, x = .str i ∧ y = .str j ∧ Q (.bl (!(Builtin.Str.occurrences j i 0 j.length 1).isEmpty)) H
theorem op_in2 {X : Cx} : OpR X (compareOp .In) (rIn2 X.K) := op_in_seq.or op_in_str
theorem inG_ok {L H} {h : MH} {dx dy x y b} (r : Rel K L H h) (px : Rep K L H dx x) (py : Rep K L H dy y) (e : inG dx dy h = some b) :
    (∃ p xs, y = .ref p ∧ (SqL K H p xs ∨ SqT K H p xs) ∧ flatV x = true ∧ xs.all flatV = true ∧ inV x xs = b) ∨ ∃ i j, x = .str i ∧ y = .str j ∧ subStr i j = b := by
  have big : (lstD dy h).bind (fun ds => (flatD dx).bind fun v => (flatL ds).map fun vs => inV v vs) = some b → ∃ p xs, y = .ref p ∧ (SqL K H p xs ∨ SqT K H p xs) ∧ flatV x = true ∧ xs.all flatV = true ∧ inV x xs = b := fun e => by
    obtain ⟨ds, e1, e2⟩ := Option.bind_eq_some_iff.mp e
    obtain ⟨v, e3, e4⟩ := Option.bind_eq_some_iff.mp e2
    obtain ⟨vs, e5, rfl⟩ := Option.map_eq_some_iff.mp e4
    obtain ⟨p, xs, rfl, s, w⟩ := lstD_of r py e1
    obtain ⟨rfl, f1⟩ := flatD_ok px e3
    obtain ⟨rfl, f2⟩ := flatL_ok w e5
    exact ⟨p, xs, rfl, .inl s, f1, f2, rfl⟩
  cases dy with
  | str b =>
    unfold inG at e
    simp only at e
    split at e
    · rename_i a
      cases e
      exact .inr ⟨a, b, rep_str_inv px, rep_str_inv py, rfl⟩
    · cases e
  | tup ds =>
    obtain ⟨v, e3, e4⟩ := Option.bind_eq_some_iff.mp e
    obtain ⟨vs, e5, rfl⟩ := Option.map_eq_some_iff.mp e4
    obtain ⟨p, xs, rfl, s, w⟩ := tup_of py
    obtain ⟨rfl, f1⟩ := flatD_ok px e3
    obtain ⟨rfl, f2⟩ := flatL_ok w e5
    exact .inl ⟨p, xs, rfl, .inr s, f1, f2, rfl⟩
  | rol ds => exact .inl (big e)
  | ref n => exact .inl (big e)
  | non => exact .inl (big e)
  | bl _ => exact .inl (big e)
  | int _ => exact .inl (big e)
  | obj _ => exact .inl (big e)
  | ty _ => exact .inl (big e)
  | kon _ => exact .inl (big e)
  | rdc _ _ => exact .inl (big e)
  | xo _ _ _ _ => exact .inl (big e)
theorem opIn_ok : OpM K (rIn2 K) opIn := by
  intro L H h dx dy x y Q E r px py a
  unfold opIn at a
  split at a
  · rename_i b z
    have q := ans_okE (K := K) (v := .bl b) r rep_bl a
    rcases inG_ok r px py z with ⟨p, xs, h1, h2, h3, h4, h5⟩ | ⟨i, j, h1, h2, h3⟩
    · exact .inl ⟨p, xs, h1, h2, h3, h4, by rw [← h5] at q; exact q⟩
    · exact .inr ⟨i, j, h1, h2, by rw [← h3] at q; exact q⟩
  · exact a.elim
end
end MM
namespace MM
open PySem PySem.Spec PyProof.Rows L2
section
variable {K : PySem.W.Frag}
theorem RepL.atI {L H ds vs} {i : Int} {d : D} (w : RepL K L H ds vs) (e : L2.atI ds i = some d) : ∃ v, L2.atI vs i = some v ∧ Rep K L H d v := by
  unfold L2.atI at e ⊢
  obtain ⟨j, e1, e2⟩ := Option.bind_eq_some_iff.mp e
  rw [← w.length, e1]
  exact w.get e2
def ixG (x y : D) (h : MH) : Option D := match y with
  | .int i => (match x with
    | .tup ds => L2.atI ds i
    | .str s => if s.length ≤ 16777216 then (L2.atI s.cps.toList i).map fun c => .str ⟨#[c]⟩ else none
    | x => (lstD x h).bind fun ds => L2.atI ds i)
  | _ => none
def opIx0 (x y : D) (h : MH) : R D := match ixG x y h with
  | some d => .ok d h
  | none => .stuck
def rIx3 (K : PySem.W.Frag) : R2 := fun x y H Q => rIxL K x y H Q ∨ (rIxT K x y H Q ∨ rIxS x y H Q)
theorem ix_all {X : Cx} : IxR X (rIx3 X.K) := ix_list.or (ix_tup.or ix_str)
theorem opIx0_ok : OpM K (rIx3 K) opIx0 := by
  intro L H h dx dy x y Q E r px py a
  unfold opIx0 at a
  cases e : ixG dx dy h with
  | none => rw [e] at a; exact a.elim
  | some d =>
    rw [e] at a
    cases dy with
    | int i =>
      have big : (lstD dx h).bind (fun ds => L2.atI ds i) = some d → rIxL K x y H Q := fun e => by
        obtain ⟨ds, e1, e2⟩ := Option.bind_eq_some_iff.mp e
        obtain ⟨p, xs, rfl, s, w⟩ := lstD_of r px e1
        obtain ⟨v, e3, q⟩ := w.atI e2
        exact ⟨p, xs, i, v, rfl, rep_int_inv py, s, e3, ans_okE r q a⟩
      cases dx with
      | tup ds =>
        obtain ⟨p, xs, rfl, s, w⟩ := tup_of px
        obtain ⟨v, e3, q⟩ := w.atI (show L2.atI ds i = some d from e)
        exact .inr (.inl ⟨p, xs, i, v, rfl, rep_int_inv py, s, e3, ans_okE r q a⟩)
      | str s =>
        replace e : (if s.length ≤ 16777216 then (L2.atI s.cps.toList i).map fun c => D.str ⟨#[c]⟩ else none) = some d := e
        split at e
        · rename_i z
          obtain ⟨c, e1, rfl⟩ := Option.map_eq_some_iff.mp e
          exact .inr (.inr ⟨s, i, c, rep_str_inv px, rep_int_inv py, szl z, e1, ans_okE r rep_str a⟩)
        · cases e
      | rol _ => exact .inl (big e)
      | ref _ => exact .inl (big e)
      | non => cases e
      | bl _ => cases e
      | int _ => cases e
      | obj _ => cases e
      | ty _ => cases e
      | kon _ => cases e
      | rdc _ _ => cases e
      | xo _ _ _ _ => cases e
    | _ => cases e
def keyD : D → Option Key
  | .int i => some (.inl i)
  | .str s => some (.inr s)
  | _ => none
theorem keyD_ok {L H} {d : D} {v : V} {k : Key} (q : Rep K L H d v) (e : keyD d = some k) : v = kV k := by
  unfold keyD at e
  split at e
  · cases e; rw [rep_int_inv q]; rfl
  · cases e; rw [rep_str_inv q]; rfl
  · cases e
def valD (kvs : List (Key × D)) (k : Key) : Option D := (kvs.find? fun p => decide (p.1 = k)).map (·.2)
def dG (x y : D) (h : MH) : Option (Option D) := match x with
  | .rdc ks ds => (keyD y).map fun k => valD (ks.zip ds) k
  | .ref n => (dic? h n).bind fun kvs => (keyD y).map fun k => valD kvs k
  | _ => none
def RepO (K : PySem.W.Frag) (L : TL) (H : Hp) (o : Option D) (w : Option V) : Prop := match o with
  | some d => ∃ v, w = some v ∧ Rep K L H d v
  | none => w = none
theorem repO_K {L H} {k : Key} : ∀ {kvs : List (Key × D)} {ws : List (Key × V)}, RepK K L H kvs ws → RepO K L H (valD kvs k) (valV ws k)
  | [], _, r => by cases r; rfl
  | p :: r, _, ⟨v, vs, e, q, w⟩ => by
    subst e
    unfold valD valV
    rw [List.find?_cons, List.find?_cons]
    by_cases hk : p.1 = k
    · rw [decide_eq_true hk]
      exact ⟨v, rfl, q⟩
    · rw [decide_eq_false hk]
      exact repO_K w
theorem repK_zip {L H} : ∀ {ks : List Key} {ds : List D} {xs : List V}, RepL K L H ds xs → RepK K L H (ks.zip ds) (ks.zip xs)
  | [], _, _, _ => by show RepK K L H [] _; exact rfl
  | _ :: _, [], _, w => by rw [w.nil_inv]; exact rfl
  | k :: ks, d :: ds, _, w => by
    obtain ⟨v, vs, rfl, q, w⟩ := w.cons_inv
    exact ⟨v, ks.zip vs, rfl, q, repK_zip w⟩
theorem dG_ok {L H} {h : MH} {dx dy : D} {x y : V} {o : Option D} (r : Rel K L H h) (px : Rep K L H dx x) (py : Rep K L H dy y) (e : dG dx dy h = some o) :
    ∃ a ov, x = .ref a ∧ IsD H a ∧ DGet H a y ov ∧ RepO K L H o ov := by
  unfold dG at e
  split at e
  · rename_i ks ds
    obtain ⟨k, e1, rfl⟩ := Option.map_eq_some_iff.mp e
    unfold Rep at px
    obtain ⟨a, xs, rfl, s, n, l, w⟩ := px
    exact ⟨a, _, rfl, .inl ⟨_, s⟩, .inl ⟨_, k, s, keyD_ok py e1, rfl⟩, repO_K (repK_zip w)⟩
  · rename_i n
    obtain ⟨kvs, e1, e2⟩ := Option.bind_eq_some_iff.mp e
    obtain ⟨k, e3, rfl⟩ := Option.map_eq_some_iff.mp e2
    obtain ⟨p, xs, z1, z2, w⟩ := r.dic (dic?_at e1)
    exact ⟨p, _, px.ref z1, .inl ⟨_, .inl z2⟩, .inl ⟨_, k, .inl z2, keyD_ok py e3, rfl⟩, repO_K w⟩
  · cases e
def rIxG : R2 := fun x y H Q => ∃ a v, x = .ref a ∧ DGet H a y (some v) ∧ Q v H
theorem ix_dict {X : Cx} (hu : X.A.units + 64 < cLine) : IxR X rIxG := by
  intro value slice pins s σ H x y v u Q I rx ry h hs
  obtain ⟨a, z, rfl, g, q⟩ := h
  obtain rfl : v = Value.ref a := rx
  exact tail_any (dict_typeIs I g) PySem.F.slot_dict_getitem.lookup (d_getItem (by omega) I g ry fun w' s' I' rw' => ⟨z, H, I', rw', q⟩) hs
def opIx (x y : D) (h : MH) : R D := match dG x y h with
  | some (some d) => .ok d h
  | _ => opIx0 x y h
def rIx4 (K : PySem.W.Frag) : R2 := fun x y H Q => rIxG x y H Q ∨ rIx3 K x y H Q
theorem ix_all2 {X : Cx} (hu : X.A.units + 64 < cLine) : IxR X (rIx4 X.K) := (ix_dict hu).or ix_all
theorem opIx_ok : OpM K (rIx4 K) opIx := by
  intro L H h dx dy x y Q E r px py a
  unfold opIx at a
  split at a
  · rename_i d e
    obtain ⟨p, ov, rfl, _, g, v, rfl, q⟩ := dG_ok r px py e
    exact .inl ⟨p, v, rfl, g, ans_okE r q a⟩
  · exact .inr (opIx0_ok L H h dx dy x y Q E r px py a)
def cutD (xs : List D) (lo hi : Option Int) : List D := (xs.drop (HT.sIx xs.length 0 lo)).take (HT.sIx xs.length xs.length hi - HT.sIx xs.length 0 lo)
theorem RepL.cut {L H ds vs} {lo hi : Option Int} (w : RepL K L H ds vs) : RepL K L H (cutD ds lo hi) (cutV vs lo hi) := by
  unfold cutD cutV
  rw [w.length]
  exact (w.drop _).take _
def slG (x : D) (lo hi : Option Int) (h : MH) : Option D := match x with
  | .str s => if s.length ≤ 16777216 then some (.str (cutS s lo hi)) else none
  | .tup ds => some (.tup (cutD ds lo hi))
  | x => (lstD x h).map fun ds => .rol (cutD ds lo hi)
def opSl (x : D) (lo hi : Option Int) (h : MH) : R D := match slG x lo hi h with
  | some d => .ok d h
  | none => .stuck
def rSl3 (K : PySem.W.Frag) : V → Option Int → Option Int → Hp → VK → Prop := fun x lo hi H Q => rSlL K x lo hi H Q ∨ (rSlA K x lo hi H Q ∨ rSlS x lo hi H Q)
theorem sl_all {X : Cx} : SlR X (rSl3 X.K) := sl_list.or (sl_tupA.or sl_str)
theorem opSl_ok : SlM K (rSl3 K) opSl := by
  intro L H h dx x lo hi Q E r px a
  unfold opSl at a
  cases e : slG dx lo hi h with
  | none => rw [e] at a; exact a.elim
  | some d =>
    rw [e] at a
    have big : (lstD dx h).map (fun ds => D.rol (cutD ds lo hi)) = some d → rSlL K x lo hi H Q := fun e => by
      obtain ⟨ds, e1, rfl⟩ := Option.map_eq_some_iff.mp e
      obtain ⟨p, xs, rfl, s, w⟩ := lstD_of r px e1
      exact ⟨p, xs, rfl, s, fun q hq => ans_of (rep_rol r hq w.cut) a⟩
    cases dx with
    | str s =>
      replace e : (if s.length ≤ 16777216 then some (D.str (cutS s lo hi)) else none) = some d := e
      split at e
      · rename_i z
        cases e
        exact .inr (.inr ⟨s, rep_str_inv px, szl z, ans_okE r rep_str a⟩)
      · cases e
    | tup ds =>
      cases e
      obtain ⟨p, xs, rfl, s, w⟩ := tup_of px
      refine .inr (.inl ⟨p, xs, rfl, s, fun z => ?_, fun z q hq => ans_of (rep_tup r hq w.cut) a⟩)
      have : cutD ds lo hi = ds := by
        unfold cutD
        rw [w.length, z.1, z.2, List.drop_zero, Nat.sub_zero, ← w.length, List.take_length]
      rw [this] at a
      exact ans_okE r px a
    | rol _ => exact .inl (big e)
    | ref _ => exact .inl (big e)
    | non => cases e
    | bl _ => cases e
    | int _ => cases e
    | obj _ => cases e
    | ty _ => cases e
    | kon _ => cases e
    | rdc _ _ => cases e
    | xo _ _ _ _ => cases e
def lenG (d : D) (h : MH) : Option Nat := match d with
  | .str s => if s.length ≤ 16777216 then some s.length else none
  | .tup ds => some ds.length
  | d => (match lstD d h with
    | some ds => some ds.length
    | none => (dicD d h).map (·.length))
def fLen (ds : List D) (h : MH) : R D := match ds with
  | [d] => (match lenG d h with | some n => .ok (.int n) h | none => .stuck)
  | _ => .stuck
def rLen2 (K : PySem.W.Frag) : List V → Hp → VK → Prop := fun xs H Q => (∃ x n, xs = [x] ∧ LenV K x H n ∧ Q (.int n) H) ∨ ∃ a kvs, xs = [V.ref a] ∧ H a = some (.dK kvs) ∧ Q (.int kvs.length) H
theorem call_len2 {X : Cx} : CallR X (.builtin "len") (rLen2 X.K) := call_len.or call_lenD
theorem RepL.one {L H d vs} (w : RepL K L H [d] vs) : ∃ v, vs = [v] ∧ Rep K L H d v := by
  obtain ⟨v, ws, rfl, q, w⟩ := w.cons_inv
  rw [w.nil_inv]
  exact ⟨v, rfl, q⟩
theorem RepL.two {L H d e vs} (w : RepL K L H [d, e] vs) : ∃ v u, vs = [v, u] ∧ Rep K L H d v ∧ Rep K L H e u := by
  obtain ⟨v, ws, rfl, q, w⟩ := w.cons_inv
  obtain ⟨u, rfl, q2⟩ := w.one
  exact ⟨v, u, rfl, q, q2⟩
theorem RepK.length {L H} : ∀ {ds : List (Key × D)} {vs}, RepK K L H ds vs → ds.length = vs.length
  | [], _, r => by cases r; rfl
  | d :: ds, _, ⟨v, vs, e, _, w⟩ => by subst e; rw [List.length_cons, List.length_cons, RepK.length w]
theorem fLen_ok : CallM K (rLen2 K) fLen := by
  intro L H h ds vs Q E r w a
  unfold fLen at a
  split at a
  · rename_i d
    obtain ⟨v, rfl, q⟩ := w.one
    cases e : lenG d h with
    | none => rw [e] at a; exact a.elim
    | some n =>
      simp only [e] at a
      have big : (match lstD d h with
        | some ds => some ds.length
        | none => (dicD d h).map (·.length)) = some n → rLen2 K [v] H Q := fun e => by
        split at e
        · rename_i ds e1
          cases e
          obtain ⟨p, xs, rfl, s, w⟩ := lstD_of r q e1
          exact .inl ⟨_, xs.length, rfl, .inl ⟨xs, s, rfl⟩, by rw [← w.length]; exact ans_okE r rep_int a⟩
        · obtain ⟨ds, e1, rfl⟩ := Option.map_eq_some_iff.mp e
          obtain ⟨p, xs, rfl, s, w⟩ := dicD_of r q e1
          exact .inr ⟨p, xs, rfl, s, by rw [← w.length]; exact ans_okE r rep_int a⟩
      cases d with
      | str s =>
        replace e : (if s.length ≤ 16777216 then some s.length else none) = some n := e
        split at e
        · rename_i z
          cases e
          exact .inl ⟨_, _, rfl, by rw [rep_str_inv q]; exact ⟨szl z, rfl⟩, ans_okE r rep_int a⟩
        · cases e
      | tup ds =>
        cases e
        obtain ⟨p, xs, rfl, s, w⟩ := tup_of q
        exact .inl ⟨_, xs.length, rfl, .inr ⟨xs, s, rfl⟩, by rw [← w.length]; exact ans_okE r rep_int a⟩
      | rol _ => exact big e
      | ref _ => exact big e
      | non => cases e
      | bl _ => cases e
      | int _ => cases e
      | obj _ => cases e
      | ty _ => cases e
      | kon _ => cases e
      | rdc _ _ => cases e
      | xo _ _ _ _ => cases e
  · exact a.elim
def fAbs (ds : List D) (h : MH) : R D := match ds with
  | [.int i] => .ok (.int (if i < 0 then -i else i)) h
  | _ => .stuck
theorem fAbs_ok : CallM K (fun xs H Q => ∃ i, xs = [.int i] ∧ Q (.int (if i < 0 then -i else i)) H) fAbs := by
  intro L H h ds vs Q E r w a
  unfold fAbs at a
  split at a
  · rename_i i
    obtain ⟨v, rfl, q⟩ := w.one
    exact ⟨i, by rw [rep_int_inv q], ans_okE r rep_int a⟩
  · exact a.elim
def rInt2 : List V → Hp → VK → Prop := fun xs H Q => ((∃ i, xs = [.int i] ∧ Q (.int i) H) ∨ ∃ k, xs = [.bl k] ∧ Q (.int (if k then 1 else 0)) H) ∨ ∃ a n, xs = [.str a] ∧ PySem.intText? a = some n ∧ a.length ≤ 640 ∧ Q (.int n) H
theorem call_int2 {X : Cx} : CallR X (.type "int") rInt2 := call_int1.or call_int_str
def fInt (ds : List D) (h : MH) : R D := match ds with
  | [.int i] => .ok (.int i) h
  | [.bl k] => .ok (.int (if k then 1 else 0)) h
  | [.str s] => if s.length ≤ 640 then (match PySem.intText? s with | some n => .ok (.int n) h | none => .stuck) else .stuck
  | _ => .stuck
theorem fInt_ok : CallM K rInt2 fInt := by
  intro L H h ds vs Q E r w a
  unfold fInt at a
  split at a
  · rename_i i
    obtain ⟨v, rfl, q⟩ := w.one
    exact .inl (.inl ⟨i, by rw [rep_int_inv q], ans_okE r rep_int a⟩)
  · rename_i i
    obtain ⟨v, rfl, q⟩ := w.one
    exact .inl (.inr ⟨i, by rw [rep_bl_inv q], ans_okE r rep_int a⟩)
  · rename_i s
    obtain ⟨v, rfl, q⟩ := w.one
    split at a
    · rename_i z
      split at a
      · rename_i n e
        exact .inr ⟨s, n, by rw [rep_str_inv q], e, z, ans_okE r rep_int a⟩
      · exact a.elim
    · exact a.elim
  · exact a.elim
def fStr (ds : List D) (h : MH) : R D := match ds with
  | [.int i] => if i.natAbs.log2 < 1920 then .ok (.str (toString i)) h else .stuck
  | _ => .stuck
theorem fStr_ok : CallM K (fun xs H Q => ∃ i, xs = [.int i] ∧ i.natAbs.log2 < 1920 ∧ Q (.str (toString i)) H) fStr := by
  intro L H h ds vs Q E r w a
  unfold fStr at a
  split at a
  · rename_i i
    obtain ⟨v, rfl, q⟩ := w.one
    split at a
    · rename_i z
      exact ⟨i, by rw [rep_int_inv q], z, ans_okE r rep_str a⟩
    · exact a.elim
  · exact a.elim
def seqG (d : D) (h : MH) : Option (List D) := match d with
  | .tup ds => some ds
  | d => lstD d h
theorem seqG_of {L H} {h : MH} {d v ds} (r : Rel K L H h) (q : Rep K L H d v) (e : seqG d h = some ds) : ∃ p xs, v = .ref p ∧ (SqL K H p xs ∨ SqT K H p xs) ∧ RepL K L H ds xs := by
  cases d with
  | tup es =>
    cases e
    obtain ⟨p, xs, rfl, s, w⟩ := tup_of q
    exact ⟨p, xs, rfl, .inr s, w⟩
  | _ =>
    obtain ⟨p, xs, e1, s, w⟩ := lstD_of r q e
    exact ⟨p, xs, e1, .inl s, w⟩
def fList (ds : List D) (h : MH) : R D := match ds with
  | [d] => (match seqG d h with | some es => .ok (.rol es) h | none => .stuck)
  | _ => .stuck
def fListN (ds : List D) (h : MH) : R D := match ds with
  | [d] => (match seqG d h with | some es => .ok (.ref h.length) (h ++ [.lst es]) | none => .stuck)
  | _ => .stuck
def fTuple (ds : List D) (h : MH) : R D := match ds with
  | [d] => (match seqG d h with | some es => .ok (.tup es) h | none => .stuck)
  | _ => .stuck
def rTupOf (K : PySem.W.Frag) : List V → Hp → VK → Prop := fun xs H Q => ∃ p ys, xs = [.ref p] ∧ ((SqL K H p ys ∧ ∀ l, H l = none → Q (.ref l) (upd H l (.tup ys))) ∨ (SqT K H p ys ∧ Q (.ref p) H))
theorem fTuple_ok : CallM K (rTupOf K) fTuple := by
  intro L H h ds vs Q E r w a
  unfold fTuple at a
  split at a
  · rename_i d
    obtain ⟨v, rfl, q⟩ := w.one
    cases e : seqG d h with
    | none => rw [e] at a; exact a.elim
    | some es =>
      simp only [e] at a
      cases d with
      | tup fs =>
        cases e
        obtain ⟨p, xs, rfl, s, w2⟩ := tup_of q
        exact ⟨p, xs, rfl, .inr ⟨s, ans_okE r q a⟩⟩
      | _ =>
        obtain ⟨p, xs, rfl, s, w2⟩ := lstD_of r q e
        exact ⟨p, xs, rfl, .inl ⟨s, fun l hl => ans_of (rep_tup r hl w2) a⟩⟩
  · exact a.elim
def tyName (d : D) (h : MH) : Option String := match d with
  | .non => some "NoneType"
  | .bl _ => some "bool"
  | .int _ => some "int"
  | .str _ => some "str"
  | .tup _ => some "tuple"
  | .rol _ => some "list"
  | .ref n => (match h[n]? with
    | some (.lst _) => some "list"
    | some (.dic _) => some "dict"
    | _ => none)
  | _ => none
theorem tyName_of {L H} {h : MH} {d v n} (r : Rel K L H h) (q : Rep K L H d v) (e : tyName d h = some n) : TyX K H v (.type n) := by
  cases d with
  | non => cases e; rw [rep_non_inv q]; exact .base .non
  | bl _ => cases e; rw [rep_bl_inv q]; exact .base (.bl _)
  | int _ => cases e; rw [rep_int_inv q]; exact .base (.int _)
  | str _ => cases e; rw [rep_str_inv q]; exact .base (.str _)
  | tup ds =>
    cases e
    unfold Rep at q
    obtain ⟨p, xs, rfl, s, w⟩ := q
    rcases s with ⟨s | ⟨o, s⟩, _⟩ | ⟨o, its, k, h1, h2, _⟩
    · exact .base (.tup s)
    · exact .fTuple s
    · exact .kTuple h1 h2
  | rol ds =>
    cases e
    unfold Rep at q
    obtain ⟨p, xs, rfl, s, w⟩ := q
    rcases s with ⟨s | ⟨o, s⟩, _⟩ | ⟨o, its, k, h1, h2, _⟩
    · exact .base (.lst s)
    · exact .base (.frz s)
    · exact .kList h1 h2
  | ref k =>
    unfold tyName at e
    simp only at e
    split at e
    · rename_i ds z
      cases e
      obtain ⟨p, xs, e1, e2, w⟩ := r.lst z
      rw [q.ref e1]
      exact .base (.lst e2)
    · rename_i ds z
      cases e
      obtain ⟨p, xs, e1, e2, w⟩ := r.dic z
      rw [q.ref e1]
      exact .base (.dK e2)
    · cases e
  | obj _ => cases e
  | ty _ => cases e
  | kon _ => cases e
  | rdc _ _ => cases e
  | xo _ _ _ _ => cases e
def tyNames : List String := ["NoneType", "bool", "int", "str", "tuple", "list", "dict"]
def isTyB (a b : String) : Option Bool := if a ∈ tyNames ∧ b ∈ tyNames then some (a == b || (a == "bool" && b == "int")) else none
theorem kitB_tab : (tyNames.all fun a => tyNames.all fun b => b == "NoneType" || decide (kitB a b = some (a == b || (a == "bool" && b == "int")))) = true := by decide +kernel
theorem isTyB_ok {a b : String} {k : Bool} (e : isTyB a b = some k) (hb : b ≠ "NoneType") : kitB a b = some k := by
  unfold isTyB at e
  split at e
  · rename_i z
    have h1 := List.all_eq_true.mp kitB_tab a z.1
    have h2 := List.all_eq_true.mp h1 b z.2
    rw [Bool.or_eq_true] at h2
    rcases h2 with h2 | h2
    · exact absurd (beq_iff_eq.mp h2) hb
    · rw [← e]; exact of_decide_eq_true h2
  · cases e
def fIsi (ds : List D) (h : MH) : R D := match ds with
  | [d, .ty b] => if b = "NoneType" then .stuck else (match (tyName d h).bind fun a => isTyB a b with | some k => .ok (.bl k) h | none => .stuck)
  | _ => .stuck
theorem fIsi_ok : CallM K (rIsi K) fIsi := by
  intro L H h ds vs Q E r w a
  unfold fIsi at a
  split at a
  · rename_i d b
    obtain ⟨v, u, rfl, q1, q2⟩ := w.two
    split at a
    · exact a.elim
    rename_i hb
    cases e : (tyName d h).bind fun a => isTyB a b with
    | none => rw [e] at a; exact a.elim
    | some k =>
      simp only [e] at a
      obtain ⟨t, e1, e2⟩ := Option.bind_eq_some_iff.mp e
      rw [rep_ty_inv q2]
      exact ⟨v, .ty b, .type t, .type b, k, rfl, .ty b, tyName_of r q1 e1, kit_ty (isTyB_ok e2 hb), ans_okE r rep_bl a⟩
  · exact a.elim
end
end MM
namespace MM
open PySem PySem.Spec PyProof.Rows L2
section
variable {K : PySem.W.Frag}
def Rel.wr {L H} {h : MH} {n : Nat} {a : Addr} {ds vs} (r : Rel K L H h) (e : L[n]? = some (some a)) {xs0 : List V} (e0 : H a = some (.lst xs0)) (w : RepL K L H ds vs) : Ext L H L (upd H a (.lst vs)) ∧ Rel K L (upd H a (.lst vs)) (h.set n (.lst ds)) := by
  have nf : ∀ o u, H a ≠ some (.frz o u) := fun o u z => by rw [e0] at z; cases z
  exact r.write e nf ⟨a, vs, rfl, upd_same, w.mono (ext_write e nf)⟩
def fAppend (d : D) (ds : List D) (h : MH) : R D := match d, ds with
  | .ref n, [x] => (match lst? h n with
    | some es => if es.length < 16777216 then .ok .non (h.set n (.lst (es ++ [x]))) else .stuck
    | none => .stuck)
  | _, _ => .stuck
theorem fAppend_ok : MtdM K rAppend fAppend := by
  intro L H h d x ds vs Q E r q w a
  unfold fAppend at a
  split at a
  · rename_i n e
    obtain ⟨v, rfl, qv⟩ := w.one
    cases z : lst? h n with
    | none => rw [z] at a; exact a.elim
    | some es =>
      simp only [z] at a
      by_cases hz : es.length < 16777216
      · rw [if_pos hz] at a
        obtain ⟨p, xs, e1, e2, w1⟩ := r.lst (lst?_at z)
        obtain ⟨x1, r1⟩ := r.wr e1 e2 (w1.append (.cons qv .nil))
        exact ⟨p, xs, v, q.ref e1, rfl, e2, by rw [sizeLine_eq, ← w1.length]; exact hz, ans_of ⟨x1, r1, rep_none⟩ a⟩
      · rw [if_neg hz] at a; exact a.elim
  · exact a.elim
def fPop (d : D) (ds : List D) (h : MH) : R D := match d, ds with
  | .ref n, [] => (match lst? h n with
    | some es => (match es[es.length - 1]? with
      | some x => .ok x (h.set n (.lst es.dropLast))
      | none => .stuck)
    | none => .stuck)
  | _, _ => .stuck
theorem RepL.dropLast {L H ds vs} (w : RepL K L H ds vs) : RepL K L H ds.dropLast vs.dropLast := by
  rw [List.dropLast_eq_take, List.dropLast_eq_take, w.length]
  exact w.take _
theorem fPop_ok : MtdM K rPop fPop := by
  intro L H h d x ds vs Q E r q w a
  unfold fPop at a
  split at a
  · rename_i n
    cases z : lst? h n with
    | none => rw [z] at a; exact a.elim
    | some es =>
      simp only [z] at a
      cases z2 : es[es.length - 1]? with
      | none => rw [z2] at a; exact a.elim
      | some y =>
        simp only [z2] at a
        obtain ⟨p, xs, e1, e2, w1⟩ := r.lst (lst?_at z)
        obtain ⟨x1, r1⟩ := r.wr e1 e2 w1.dropLast
        obtain ⟨v, e3, qv⟩ := w1.get z2
        exact ⟨p, xs, v, q.ref e1, w.nil_inv, e2, by rw [← w1.length]; exact e3, ans_of ⟨x1, r1, qv.mono x1⟩ a⟩
  · exact a.elim
end
end MM
namespace MM
open PySem PySem.Spec PyProof.Rows L2
theorem Trod.lst {K L H} {h : MH} {d v ds p} (r : Rel K L H h) (q : Rep K L H d v) (e : lstD d h = some ds) (ev : v = .ref p) : Trod K L H (Itl K p) ds (fun h' => lstD d h' = some ds) := by
  have at' : ∀ L' H' h', Ext L H L' H' → Rel K L' H' h' → lstD d h' = some ds → ∃ ys, SqL K H' p ys ∧ RepL K L' H' ds ys := fun L' H' h' x r' e' => by
    obtain ⟨p', ys, e1, s, w⟩ := lstD_of r' (q.mono x) e'
    rw [ev] at e1; cases e1
    exact ⟨ys, s, w⟩
  refine ⟨fun L' H' h' i x r' e' hi => ?_, fun L' H' h' x r' e' => ?_, fun L' H' h' i x H'' y r' e' hi hy => ?_⟩
  · obtain ⟨ys, s, w⟩ := at' L' H' h' x r' e'
    obtain ⟨u, e1, _⟩ := w.get (List.getElem?_eq_getElem hi)
    exact ⟨ys, u, s, e1⟩
  · obtain ⟨ys, s, w⟩ := at' L' H' h' x r' e'
    exact ⟨ys, s, by rw [w.length]; exact Nat.le_refl _⟩
  · obtain ⟨ys, s, w⟩ := at' L' H' h' y r' e'
    obtain ⟨rfl, f⟩ := hy
    obtain ⟨c, e1, q1⟩ := w.get' (f ys s)
    exact ⟨Ext.refl _ _, r', c, e1, q1⟩
theorem Trod.tup {K L H} {h : MH} {v ds p} (q : Rep K L H (.tup ds) v) (ev : v = .ref p) (g : MH → Prop) : Trod K L H (Itt K p) ds g := by
  have at' : ∀ L' H', Ext L H L' H' → ∃ ys, SqT K H' p ys ∧ RepL K L' H' ds ys := fun L' H' x => by
    obtain ⟨p', ys, e1, s, w⟩ := tup_of (q.mono x)
    rw [ev] at e1; cases e1
    exact ⟨ys, s, w⟩
  refine ⟨fun L' H' h' i x r' e' hi => ?_, fun L' H' h' x r' e' => ?_, fun L' H' h' i x H'' y r' e' hi hy => ?_⟩
  · obtain ⟨ys, s, w⟩ := at' L' H' x
    obtain ⟨u, e1, _⟩ := w.get (List.getElem?_eq_getElem hi)
    exact ⟨ys, u, s, e1⟩
  · obtain ⟨ys, s, w⟩ := at' L' H' x
    exact ⟨ys, s, by rw [w.length]; exact Nat.le_refl _⟩
  · obtain ⟨ys, s, w⟩ := at' L' H' y
    obtain ⟨rfl, f⟩ := hy
    obtain ⟨c, e1, q1⟩ := w.get' (f ys s)
    exact ⟨Ext.refl _ _, r', c, e1, q1⟩
def charsD (s : Str) : List D := s.cps.toList.map fun c => .str ⟨#[c]⟩
theorem Trod.str {K L H} {s : Str} (g : MH → Prop) : Trod K L H (Its s) (charsD s) g := by
  refine ⟨fun L' H' h' i x r' e' hi => ?_, fun L' H' h' x r' e' => ?_, fun L' H' h' i x H'' y r' e' hi hy => ?_⟩
  · show i < s.cps.size
    simpa [charsD] using hi
  · show s.cps.size ≤ (charsD s).length
    simp [charsD]
  · obtain ⟨rfl, c, e1, rfl⟩ := hy
    refine ⟨Ext.refl _ _, r', .str ⟨#[c]⟩, ?_, rep_str⟩
    unfold charsD
    rw [List.getElem?_map, Array.getElem?_toList, e1]; rfl
def srcG (d : D) (h : MH) : Option Src := match d with
  | .str s => some ⟨charsD s, fun _ => True⟩
  | .tup ds => some ⟨ds, fun _ => True⟩
  | .rol ds => some ⟨ds, fun _ => True⟩
  | d => (lstD d h).map fun ds => ⟨ds, fun h' => lstD d h' = some ds⟩
def srcOf (d : D) (h : MH) : R Src := match srcG d h with
  | some S => .ok S h
  | none => .stuck
def mCallI (f : List D → MH → R Src) (m : MA) : MI := fun δ h => (m δ h).bnd f
def mSrc (m : ME) : MI := fun δ h => (m δ h).bnd srcOf
section
variable {X : Cx} {W : WX} {pos : Pos} {tg a e : Expr} {ma : ME} {es : List Expr} {mas : MA}
theorem Trod.weak {K L H J ds} {g g' : MH → Prop} (t : Trod K L H J ds g) (h : ∀ h, g' h → g h) : Trod K L H J ds g' :=
  ⟨fun L' H' h' i x r e => t.go L' H' h' i x r (h _ e), fun L' H' h' x r e => t.stop L' H' h' x r (h _ e), fun L' H' h' i x H'' y r e => t.yld L' H' h' i x H'' y r (h _ e)⟩
theorem pim_src (ha : PEM X W a ma) : PIM X W tg a (mSrc ma) := by
  refine PI.imp ((pi_list ha).or ((pi_tup ha).or (pi_str ha))) fun σ H R ⟨L, h, δ, r, s, q⟩ => ?_
  unfold mSrc at q
  have build : ∀ (G : VK), (match ma δ h with
      | .ok d h1 => ∀ L' H' v, Ext L H L' H' → Rel X.K L' H' h1 → Rep X.K L' H' d v → G v H'
      | .exc c fs h1 => ∀ L' H' dx xs, Ext L H L' H' → Rel X.K L' H' h1 → H' dx = some (.xd xs) → RepF X.K L' H' fs xs → ∀ ev, EV X.K c ev → W ev (some dx) σ H'
      | .stuck => False) → tE X.K W ma σ H G := fun G g => ⟨L, h, δ, r, s, by
    generalize ma δ h = m at g ⊢
    cases m <;> exact g⟩
  replace q : AnsI X.K W σ L H ((ma δ h).bnd srcOf) R := q
  generalize em : ma δ h = m at q build
  cases m with
  | stuck => exact q.elim
  | exc c fs h1 => exact .inl (build _ q)
  | ok d h1 =>
    have q' : ∀ S, srcOf d h1 = .ok S h1 → ∀ L1 H1 J, Ext L H L1 H1 → Rel X.K L1 H1 h1 → Trod X.K L1 H1 J S.ds S.g → R J H1 := fun S e => by
      rw [MM.R.bnd_ok, e] at q; exact q
    have no : srcOf d h1 = .stuck → False := fun e => by
      rw [MM.R.bnd_ok, e] at q; exact q
    have lst : ∀ ds (S : Src), lstD d h1 = some ds → srcOf d h1 = .ok S h1 → S.ds = ds → (∀ h, S.g h → lstD d h = some ds) → iList X.K (tE X.K W ma) σ H R := fun ds S e1 e2 e3 e4 => build _ fun L' H' v x r' p => by
      obtain ⟨ad, xs, ev, sq, w⟩ := lstD_of r' p e1
      exact ⟨ad, ev, ⟨xs, sq⟩, q' S e2 L' H' _ x r' (by rw [e3]; exact (Trod.lst r' p e1 ev).weak e4)⟩
    cases d with
    | str z => exact .inr (.inr (build _ fun L' H' v x r' p => ⟨z, rep_str_inv p, q' _ rfl L' H' _ x r' (Trod.str _)⟩))
    | tup ds =>
      exact .inr (.inl (build _ fun L' H' v x r' p => by
        obtain ⟨ad, xs, ev, sq, w⟩ := tup_of p
        exact ⟨ad, ev, ⟨xs, sq⟩, q' _ rfl L' H' _ x r' (Trod.tup (h := h1) p ev _)⟩))
    | rol ds => exact .inl (lst ds _ rfl rfl rfl fun _ _ => rfl)
    | ref n =>
      cases e1 : lstD (.ref n) h1 with
      | none => exact (no (by unfold srcOf srcG; simp only [e1]; rfl)).elim
      | some ds => exact .inl (lst ds ⟨ds, fun h' => lstD (.ref n) h' = some ds⟩ e1 (by unfold srcOf srcG; simp only [e1]; rfl) rfl fun _ z => z)
    | non => exact (no rfl).elim
    | bl _ => exact (no rfl).elim
    | int _ => exact (no rfl).elim
    | obj _ => exact (no rfl).elim
    | ty _ => exact (no rfl).elim
    | kon _ => exact (no rfl).elim
    | rdc _ _ => exact (no rfl).elim
    | xo _ _ _ _ => exact (no rfl).elim
theorem tI_args {K : PySem.W.Frag} {f : List D → MH → R Src} {G : List V → Hp → (It → Hp → Prop) → Prop} {mas : MA}
    (hG : ∀ L H h ds vs S (Q : It → Hp → Prop), Rel K L H h → RepL K L H ds vs → f ds h = .ok S h → (∀ J, Trod K L H J S.ds S.g → Q J H) → G vs H Q)
    (hf : ∀ ds h, (∃ S, f ds h = .ok S h) ∨ f ds h = .stuck) {σ : L2.St} {H : Hp} {Q : It → Hp → Prop} (t : tI K W (fun δ h => (mas δ h).bnd f) σ H Q) : tA K W mas σ H fun vs H1 => G vs H1 Q := by
  obtain ⟨L, h, δ, r, s, q⟩ := t
  refine ⟨L, h, δ, r, s, ?_⟩
  replace q : AnsI K W σ L H ((mas δ h).bnd f) Q := q
  generalize mas δ h = m at q ⊢
  cases m with
  | stuck => exact q
  | exc c fs h1 => exact q
  | ok ds h1 =>
    intro L' H' vs x r' w
    rcases hf ds h1 with ⟨S, e⟩ | e
    · rw [MM.R.bnd_ok, e] at q
      exact hG L' H' h1 ds vs S Q r' w e fun J t => q L' H' J x r' t
    · rw [MM.R.bnd_ok, e] at q
      exact q.elim
def fRange1 (ds : List D) (h : MH) : R Src := match ds with
  | [.int n] => if -(2 ^ 62) ≤ n ∧ n < 2 ^ 62 then .ok ⟨(List.range n.toNat).map fun (i : Nat) => .int i, fun _ => True⟩ h else .stuck
  | _ => .stuck
theorem Trod.rng {K L H} {lo : Int} {n : Nat} (g : MH → Prop) : Trod K L H (Itr lo n) ((List.range n).map fun (i : Nat) => .int (lo + i)) g := by
  refine ⟨fun L' H' h' i x r' e' hi => ?_, fun L' H' h' x r' e' => ?_, fun L' H' h' i x H'' y r' e' hi hy => ?_⟩
  · show i < n
    simpa using hi
  · show n ≤ _
    simp
  · obtain ⟨rfl, rfl⟩ := hy
    have hi' : i < n := by simpa using hi
    exact ⟨Ext.refl _ _, r', .int (lo + i), by rw [List.getElem?_map, List.getElem?_range hi']; rfl, rep_int⟩
theorem pim_range1 {p pos : Pos} (hg : Gl X "range") (hm : X.mg "range" = none) (ha : PAM X W [a] mas) (hs : starEach [a] X.env = [(false, eval a X.env)] := by rfl) : PIM X W tg (.Call (.Name "range" p) [a] [] pos) (fun δ h => (mas δ h).bnd fRange1) := by
  refine PI.imp (pi_range1 hg hm ha hs) fun σ H R t => ?_
  refine tI_args (G := fun vs H1 R => ∃ j : Int, vs = [.int j] ∧ -(2 ^ 62) ≤ j ∧ j < 2 ^ 62 ∧ R (Itr 0 j.toNat) H1) (fun L H h ds vs S Q r w e k => ?_) (fun ds h => ?_) t
  · unfold fRange1 at e
    split at e
    · rename_i n
      split at e
      · rename_i z
        cases e
        obtain ⟨v, rfl, q⟩ := w.one
        refine ⟨n, by rw [rep_int_inv q], z.1, z.2, k _ ?_⟩
        have := Trod.rng (K := X.K) (L := L) (H := H) (lo := 0) (n := n.toNat) (fun _ => True)
        simpa using this
      · cases e
    · cases e
  · unfold fRange1
    split
    · split
      · exact .inl ⟨_, rfl⟩
      · exact .inr rfl
    · exact .inr rfl
theorem Trod.pair {K : PySem.W.Frag} {L H} {J : It} {ds es : List D} {g : MH → Prop} {n : Nat} (h1 : ds.length = n) (h2 : es.length = n)
    (go : ∀ L' H' h' (i : Nat), Ext L H L' H' → Rel K L' H' h' → g h' → i < n → J.go i H') (stop : ∀ L' H' h', Ext L H L' H' → Rel K L' H' h' → g h' → J.stop n H')
    (yld : ∀ L' H' h' (i : Nat) v H'', Ext L H L' H' → Rel K L' H' h' → g h' → i < n → J.yld i H' v H'' → ∃ T x y, v = .ref T ∧ H' T = none ∧ H'' = upd H' T (.tup [x, y]) ∧ (∃ d, ds[i]? = some d ∧ Rep K L' H' d x) ∧ ∃ d, es[i]? = some d ∧ Rep K L' H' d y) :
    Trod K L H J (List.zipWith (fun x y => .tup [x, y]) ds es) g := by
  have hl : (List.zipWith (fun x y => D.tup [x, y]) ds es).length = n := by rw [List.length_zipWith, h1, h2, Nat.min_self]
  refine ⟨fun L' H' h' i x r' e' hi => go L' H' h' i x r' e' (by rw [← hl]; exact hi), fun L' H' h' x r' e' => by rw [hl]; exact stop L' H' h' x r' e', fun L' H' h' i x H'' y r' e' hi hy => ?_⟩
  obtain ⟨T, a, b, rfl, hT, rfl, ⟨d, e1, q1⟩, c, e2, q2⟩ := yld L' H' h' i x H'' y r' e' (by rw [← hl]; exact hi) hy
  obtain ⟨x1, r1, q⟩ := rep_tup r' hT (.cons q1 (.cons q2 .nil))
  exact ⟨x1, r1, .tup [d, c], by rw [List.getElem?_zipWith, e1, e2], q⟩
def fZip (ds : List D) (h : MH) : R Src := match ds with
  | [.tup es, .tup fs] => .ok ⟨List.zipWith (fun x y => .tup [x, y]) (es.take (min es.length fs.length)) (fs.take (min es.length fs.length)), fun _ => True⟩ h
  | [d, c] => (match lstD d h, lstD c h with
    | some es, some fs => .ok ⟨List.zipWith (fun x y => .tup [x, y]) (es.take (min es.length fs.length)) (fs.take (min es.length fs.length)), fun h' => lstD d h' = some es ∧ lstD c h' = some fs⟩ h
    | _, _ => .stuck)
  | _ => .stuck
theorem fZip_two {d c : D} {h : MH} {S : Src} (e : fZip [d, c] h = .ok S h) : (∃ es fs, d = .tup es ∧ c = .tup fs ∧ S = ⟨List.zipWith (fun x y => .tup [x, y]) (es.take (min es.length fs.length)) (fs.take (min es.length fs.length)), fun _ => True⟩) ∨
    ∃ es fs, lstD d h = some es ∧ lstD c h = some fs ∧ S = ⟨List.zipWith (fun x y => .tup [x, y]) (es.take (min es.length fs.length)) (fs.take (min es.length fs.length)), fun h' => lstD d h' = some es ∧ lstD c h' = some fs⟩ := by
  unfold fZip at e
  split at e
  · rename_i es fs z
    cases z; cases e
    exact .inl ⟨_, _, rfl, rfl, rfl⟩
  · rename_i z
    cases z
    split at e
    · rename_i es fs z1 z2
      cases e
      exact .inr ⟨es, fs, z1, z2, rfl⟩
    · cases e
  · cases e
end
end MM
namespace MM
open PySem PySem.Spec PyProof.Rows L2
def setG (o i d : D) (h : MH) : Option MH := match o, i with
  | .ref n, .int j => (lst? h n).bind fun ds => (ixN ds.length j).map fun k => h.set n (.lst (ds.set k d))
  | _, _ => none
def mSetIx (m mo mi : ME) : MSt := fun δ h => (m δ h).st δ fun d h1 => (mo δ h1).st δ fun o h2 => (mi δ h2).st δ fun i h3 => match setG o i d h3 with
  | some h4 => .ok (.next δ) h4
  | none => .stuck
theorem setG_ok {K : PySem.W.Frag} {L H} {h h' : MH} {o i d : D} {vo vi v : V} {Q : Hp → Prop} (r : Rel K L H h) (po : Rep K L H o vo) (pi : Rep K L H i vi) (p : Rep K L H d v) (e : setG o i d h = some h')
    (k : ∀ H', Ext L H L H' → Rel K L H' h' → Q H') : rSetL vo vi v H Q := by
  unfold setG at e
  split at e
  · rename_i n j
    obtain ⟨ds, e1, e2⟩ := Option.bind_eq_some_iff.mp e
    obtain ⟨m, e3, rfl⟩ := Option.map_eq_some_iff.mp e2
    obtain ⟨a, xs, z1, z2, w⟩ := r.lst (lst?_at e1)
    obtain ⟨x1, r1⟩ := r.wr z1 z2 (RepL.set p m w)
    exact ⟨a, xs, j, m, po.ref z1, rep_int_inv pi, z2, by rw [← w.length]; exact e3, k _ x1 r1⟩
  · cases e
section
variable {X : Cx} {W : WX} {pos : Pos} {e o i : Expr} {me mo mi : ME}
def mAug (i : Nat) (f : D → D → MH → R D) (m : ME) : MSt := fun δ h => match δ[i]? with
  | some (some d) => (m δ h).st δ fun y h1 => (f d y h1).st δ fun z h2 => .ok (.next (δ.set i (some z))) h2
  | _ => .stuck
def frz (d : D) (h : MH) : R D := match d with
  | .ref n => (match lst? h n with
    | some ds => .ok (.rol ds) (h.set n .dead)
    | none => .stuck)
  | _ => .stuck
theorem frz_ok {K L H} {h : MH} {d v} {Q : VK} {E : XK} (r : Rel K L H h) (q : Rep K L H d v) (a : Ans K (Rep K) L H (frz d h) Q E) : Q v H := by
  cases d with
  | ref n =>
    unfold frz at a
    cases e : lst? h n with
    | none => simp only [e] at a; exact a.elim
    | some ds =>
      simp only [e] at a
      obtain ⟨p, xs, e1, e2, w⟩ := r.lst (lst?_at e)
      obtain ⟨xk, rk⟩ := r.kill (n := n) (List.getElem?_eq_some_iff.mp (lst?_at e)).1
      rw [q.ref e1]
      refine ans_of ⟨xk, rk, ?_⟩ a
      unfold Rep
      exact ⟨p, xs, rfl, .inl ⟨.inl e2, NL.kill r e1⟩, w.mono xk⟩
  | _ => exact a.elim
def mFrz (m : ME) : ME := fun δ h => (m δ h).bnd frz
theorem pem_frz (he : PEM X W e me) : PEM X W e (mFrz me) :=
  PE.imp he fun σ H Q ⟨L, h, δ, r, s, a⟩ => ⟨L, h, δ, r, s, Ans.imp (Ans.bind (rp := Rep X.K) a) fun v H1 ⟨L1, h1, d, x1, r1, p1, a1⟩ => frz_ok r1 p1 a1⟩
end
section
variable {K : PySem.W.Frag}
end
end MM
namespace MM
open PySem PySem.Spec PyProof.Rows L2
mutual
def kRep (K : PySem.W.Frag) : D → Value → Bool
  | .non, .none => true
  | .bl b, .bool c => b == c
  | .int i, .int j _ => decide (i = j)
  | .str s, .str t _ => decide (s = t)
  | .obj a, .ref b => decide (a = b)
  | .tup ds, .ref a => (match K.lookup a with
    | some ⟨.type c, _, .seq its _, _⟩ => decide (c = "tuple") && (decide (its.size ≤ sizeLine) && kRepL K ds its.toList)
    | _ => false)
  | .rol ds, .ref a => (match K.lookup a with
    | some ⟨.type c, none, .seq its _, _⟩ => decide (c = "list") && (decide (its.size ≤ sizeLine) && kRepL K ds its.toList)
    | _ => false)
  | .kon n, .ref a => (match PySem.W.nsIn K mainGlobals n with
    | some (some (.ref b)) => decide (a = b)
    | _ => false)
  | _, _ => false
def kRepL (K : PySem.W.Frag) : List D → List Value → Bool
  | [], [] => true
  | d :: ds, v :: vs => kRep K d v && kRepL K ds vs
  | _, _ => false
end
section
variable {K : PySem.W.Frag}
theorem andT {a b : Bool} (h : (a && b) = true) : a = true ∧ b = true := by rwa [Bool.and_eq_true] at h
mutual
theorem kRep_ok : ∀ {d : D} {u : Value}, kRep K d u = true → ∃ v, RelV v u ∧ ∀ L H, Rep K L H d v
  | .non, u, h => by
    cases u <;> first | exact ⟨.non, rfl, fun _ _ => by unfold Rep; rfl⟩ | (unfold kRep at h; cases h)
  | .bl b, u, h => by
    cases u with
    | bool c =>
      unfold kRep at h
      rw [beq_iff_eq] at h
      subst h
      exact ⟨.bl b, rfl, fun _ _ => by unfold Rep; rfl⟩
    | _ => unfold kRep at h; cases h
  | .int i, u, h => by
    cases u with
    | int j t =>
      unfold kRep at h
      have := of_decide_eq_true h
      subst this
      exact ⟨.int i, ⟨_, rfl⟩, fun _ _ => by unfold Rep; rfl⟩
    | _ => unfold kRep at h; cases h
  | .str i, u, h => by
    cases u with
    | str j t =>
      unfold kRep at h
      have := of_decide_eq_true h
      subst this
      exact ⟨.str i, ⟨_, rfl⟩, fun _ _ => by unfold Rep; rfl⟩
    | _ => unfold kRep at h; cases h
  | .obj i, u, h => by
    cases u with
    | ref j =>
      unfold kRep at h
      have := of_decide_eq_true h
      subst this
      exact ⟨.ref i, rfl, fun _ _ => by unfold Rep; rfl⟩
    | _ => unfold kRep at h; cases h
  | .kon n, u, h => by
    cases u with
    | ref j =>
      unfold kRep at h
      split at h
      · rename_i b e
        have := of_decide_eq_true h
        subst this
        exact ⟨.ref j, rfl, fun _ _ => by unfold Rep; exact ⟨_, rfl, e⟩⟩
      · cases h
    | _ => unfold kRep at h; cases h
  | .tup ds, u, h => by
    cases u with
    | ref a =>
      unfold kRep at h
      split at h
      · rename_i c dd its n sl e
        obtain ⟨h1, h2⟩ := andT h
        obtain ⟨h2, h3⟩ := andT h2
        have h1 := of_decide_eq_true h1
        subst h1
        obtain ⟨vs, w, r⟩ := kRepL_ok h3
        exact ⟨.ref a, rfl, fun L H => by
          unfold Rep
          exact ⟨a, vs, rfl, .inr ⟨_, its, n, e, rfl, rfl, of_decide_eq_true h2, w⟩, r L H⟩⟩
      · cases h
    | _ => unfold kRep at h; cases h
  | .rol ds, u, h => by
    cases u with
    | ref a =>
      unfold kRep at h
      split at h
      · rename_i c its n sl e
        obtain ⟨h1, h2⟩ := andT h
        obtain ⟨h2, h3⟩ := andT h2
        have h1 := of_decide_eq_true h1
        subst h1
        obtain ⟨vs, w, r⟩ := kRepL_ok h3
        exact ⟨.ref a, rfl, fun L H => by
          unfold Rep
          exact ⟨a, vs, rfl, .inr ⟨_, its, n, e, rfl, rfl, rfl, of_decide_eq_true h2, w⟩, r L H⟩⟩
      · cases h
    | _ => unfold kRep at h; cases h
  | .ref _, _, h => by unfold kRep at h; cases h
  | .ty _, _, h => by unfold kRep at h; cases h
  | .rdc _ _, _, h => by unfold kRep at h; cases h
theorem kRepL_ok : ∀ {ds : List D} {us : List Value}, kRepL K ds us = true → ∃ vs, Vals vs us ∧ ∀ L H, RepL K L H ds vs
  | [], [], _ => ⟨[], .nil, fun _ _ => .nil⟩
  | [], _ :: _, h => by unfold kRepL at h; cases h
  | _ :: _, [], h => by unfold kRepL at h; cases h
  | d :: ds, u :: us, h => by
    unfold kRepL at h
    obtain ⟨h1, h2⟩ := andT h
    obtain ⟨v, r1, q1⟩ := kRep_ok h1
    obtain ⟨vs, r2, q2⟩ := kRepL_ok h2
    exact ⟨v :: vs, .cons r1 r2, fun L H => .cons (q1 L H) (q2 L H)⟩
end
end
def kDic (K : PySem.W.Frag) : List (Str × D) → List DictEntry → Bool
  | [], [] => true
  | p :: r, e :: es => (match e.key with | .str y _ => decide (p.1 = y) | _ => false) && (kRep K p.2 e.val && kDic K r es)
  | _, _ => false
def kvD (kvs : List (Str × D)) (x : Str) : Option D := (kvs.find? fun p => decide (p.1 = x)).map (·.2)
def KAt (K : PySem.W.Frag) (w : World) (mg : Str → Option Value) (c : Str) (kvs : List (Str × D)) : Prop := ∃ a es n, mg c = some (.ref a) ∧ KDict K w a es n ∧ kDic K kvs es.toList = true
theorem kDic_get {K : PySem.W.Frag} {x : Str} : ∀ {kvs : List (Str × D)} {es : List DictEntry}, kDic K kvs es = true → es.any (·.refKey) = false ∧
    match kvD kvs x with
    | some d => ∃ e v, es.find? (·.key.isStr x) = some e ∧ RelV v e.val ∧ ∀ L H, Rep K L H d v
    | none => es.find? (·.key.isStr x) = none
  | [], [], _ => ⟨rfl, rfl⟩
  | [], _ :: _, h => by unfold kDic at h; cases h
  | _ :: _, [], h => by unfold kDic at h; cases h
  | p :: r, e :: es, h => by
    unfold kDic at h
    obtain ⟨h1, h2⟩ := andT h
    obtain ⟨h2, h3⟩ := andT h2
    split at h1
    · rename_i y t ek
      have h1 := of_decide_eq_true h1
      obtain ⟨f1, f2⟩ := kDic_get (x := x) h3
      have rk : e.refKey = false := by unfold DictEntry.refKey; rw [ek]
      refine ⟨by rw [List.any_cons, rk, f1]; rfl, ?_⟩
      have ks : e.key.isStr x = decide (p.1 = x) := by
        rw [ek, h1]
        show decide _ = _
        exact decide_eq_decide.mpr ⟨fun z => z.symm ▸ rfl, fun z => z.symm ▸ rfl⟩
      unfold kvD
      rw [List.find?_cons, List.find?_cons, ks]
      by_cases hx : p.1 = x
      · rw [decide_eq_true hx]
        obtain ⟨v, r1, q1⟩ := kRep_ok h2
        exact ⟨e, v, rfl, r1, q1⟩
      · rw [decide_eq_false hx]
        exact f2
    · cases h1
theorem kat_get {K : PySem.W.Frag} {w : World} {a : Addr} {es : Array DictEntry} {n : Nat} {kvs : List (Str × D)} (D0 : KDict K w a es n) (h : kDic K kvs es.toList = true) (x : Str) :
    match kvD kvs x with
    | some d => ∃ u v, PySem.W.nsIn K a x = some (some u) ∧ RelV v u ∧ ∀ L H, Rep K L H d v
    | none => PySem.W.nsIn K a x = some none := by
  obtain ⟨f1, f2⟩ := kDic_get (x := x) h
  have e : PySem.W.nsIn K a x = match es.toList.find? (·.key.isStr x) with
      | some e => some (some e.val)
      | none => if es.toList.any (·.refKey) then none else some none := by
    unfold PySem.W.nsIn
    rw [D0.at_]; rfl
  cases hk : kvD kvs x with
  | some d =>
    rw [hk] at f2
    obtain ⟨en, v, g1, g2, g3⟩ := f2
    exact ⟨en.val, v, by rw [e, g1], g2, g3⟩
  | none =>
    rw [hk] at f2
    show PySem.W.nsIn K a x = some none
    rw [e, show es.toList.find? (·.key.isStr x) = none from f2, f1]; rfl
section
variable {X : Cx} {W : WX} {pos : Pos} {e f : Expr} {me mf : ME} {c : Str} {kvs : List (Str × D)}
def mKIx (kvs : List (Str × D)) (m : ME) : ME := fun δ h => (m δ h).bnd fun d h1 => match d with
  | .str x => (match kvD kvs x with | some r => .ok r h1 | none => .stuck)
  | _ => .stuck
def mKGet2 (kvs : List (Str × D)) (m n : ME) : ME := fun δ h => (m δ h).bnd fun d h1 => (n δ h1).bnd fun y h2 => match d with
  | .str x => .ok ((kvD kvs x).getD y) h2
  | _ => .stuck
theorem pem_kix {p : Pos} (k : KAt X.K X.w X.mg c kvs) (hg : Gl X c) (ha : PEM X W e me) (hs : PlainIx e) (hd : (c == ("__debug__" : Str)) = false := by decide) : PEM X W (.Subscript (.Name c p) e pos) (mKIx kvs me) := by
  obtain ⟨a, es, n, k1, k2, k3⟩ := k
  refine PE.imp (pe_ix ix_kdict (pe_glob (v := .ref a) hg k1 rfl hd) ha hs) fun σ H Q ⟨L, h, δ, r0, s, t⟩ => ?_
  refine ⟨L, h, δ, r0, s, Ans.imp (Ans.bind (rp := Rep X.K) t) fun v H1 ⟨L1, h1, d, x1, r1, p1, a1⟩ => ?_⟩
  split at a1
  · rename_i x
    have g := kat_get k2 k3 x
    split at a1
    · rename_i r er
      rw [er] at g
      obtain ⟨u, y, g1, g2, g3⟩ := g
      exact ⟨a, x, y, rfl, rep_str_inv p1, ⟨es, n, u, k2.at_, k2.lit, g1, g2⟩, ans_okE r1 (g3 _ _) a1⟩
    · exact a1.elim
  · exact a1.elim
theorem kd_there {pins : List (Addr × Obj)} {σ : L2.St} {H : Hp} {s : Shared} {a : Addr} {es : Array DictEntry} {n : Nat} (D0 : KDict X.K X.w a es n) (I : Inv X pins σ H s) : ∀ b, Value.ref a = .ref b → ∃ ob, s.heap.get? b = some ob ∧ ob.dict = none := fun b q => by
  cases q
  exact ⟨_, I.kIn _ _ D0.at_, rfl⟩
theorem pem_kget2 {p apos cpos : Pos} (k : KAt X.K X.w X.mg c kvs) (hg : Gl X c) (ha : PEM X W e me) (hf : PEM X W f mf) (m : M2 X (.Name c p) "get" apos e f cpos) (hd : (c == ("__debug__" : Str)) = false := by decide) :
    PEM X W (.Call (.Attribute (.Name c p) "get" apos) [e, f] [] cpos) (mKGet2 kvs me mf) := by
  obtain ⟨a, es, n, k1, k2, k3⟩ := k
  refine ⟨fun pins s σ H Q I ⟨L, h, δ, r0, sl, t⟩ => ?_⟩
  refine wpAny_Call_method m.base m.few m.line PySem.F.plainAttrs_dict PySem.F.slot_dict_get PySem.F.type_dict_get (thn ((pe_glob (v := .ref a) hg k1 rfl hd).run pins s σ H (fun x H1 => x = .ref a ∧ H1 = H) I ⟨rfl, rfl⟩) fun u s1 ⟨x, H1, I1, rx, ex, eH⟩ => ?_)
  subst ex eH
  obtain rfl : u = Value.ref a := rx
  refine ⟨kd_type k2 I1, kd_there k2 I1, ?_⟩
  rw [m.trees]
  refine Calls.callWith_builtin rfl (Calls.evalArgs_plain (Calls.spliced_cons (thn (ha.run pins s1 σ H1 _ I1 ⟨L, h, δ, r0, sl, Ans.bind (rp := Rep X.K) t⟩) fun iv s2 ⟨y, H2, I2, ry, L1, h1, d, x1, r1, p1, a1⟩ =>
    Calls.spliced_cons (thn (hf.run pins s2 σ H2 _ I2 ⟨L1, h1, δ, r1, sl.mono x1, Ans.bind (rp := Rep X.K) a1⟩) fun fv s3 ⟨z, H3, I3, rz, L2, h2, d2, x2, r2, p2, a2⟩ => Calls.spliced_nil ?_))))
  cases d with
  | str x =>
    replace a2 : Ans X.K (Rep X.K) L2 H3 (.ok ((kvD kvs x).getD d2) h2) Q (WE W σ) := a2
    have g := kat_get k2 k3 x
    rw [rep_str_inv p1] at ry
    obtain ⟨tk, rfl⟩ := ry
    refine call_meetsIn PySem.F.slot_dict_get (kd_type k2 I3) PySem.F.entry_dict_get (PySem.F.args_dict_get_3 _ _ _) (meets_dict_get_default (strKind X.prog X.w) a (strKind_is X.prog X.w x tk) k2.low fv) ⟨_, PySem.W.mapOf_K (prog := X.prog) I3.kIn k2.at_ k2.lit, ?_⟩
    cases hk : kvD kvs x with
    | some r =>
      rw [hk] at g a2
      obtain ⟨u, y, g1, g2, g3⟩ := g
      rw [PySem.W.find_K k2.at_ g1]
      exact ⟨y, H3, I3.tok _, g2, ans_okE r2 (g3 _ _) a2⟩
    | none =>
      rw [hk] at g a2
      rw [PySem.W.find_K k2.at_ g]
      exact ⟨z, H3, I3.tok _, rz, ans_okE r2 p2 a2⟩
  | _ => exact a2.elim
end
section
variable {X : Cx} {W : WX} {pos : Pos} {o e f : Expr} {mo me mf : ME}
end
abbrev MPr := MS → MH → R (List (D × D))
section
variable {X : Cx} {W : WX} {pos : Pos} {k v : Expr} {ks : List (Option Expr)} {vs : List Expr} {mk' mv' : ME} {mr : MPr}
end
section
variable {K : PySem.W.Frag} {L : TL} {H : Hp} {p : Addr} {u : HO}
end
section
variable {K : PySem.W.Frag}
end
end MM
namespace MM
open PySem PySem.Spec PyProof.Rows L2
section
variable {δ : MS} {h h' : MH} {m a b c : ME} {ms : MA} {t u : MT} {f g : D → D → MH → R D}
@[simp] theorem mVar_eq {i : Nat} {d : D} (e : δ[i]? = some (some d)) : mVar i δ h = .ok d h := by unfold mVar; rw [e]
@[simp] theorem mC_eq {d : D} : mC d δ h = .ok d h := rfl
@[simp] theorem mOp_eq : mOp f a b δ h = (a δ h).bnd fun x h1 => (b δ h1).bnd fun y h2 => f x y h2 := rfl
@[simp] theorem mUn_eq {f : D → MH → R D} : mUn f a δ h = (a δ h).bnd fun x h1 => f x h1 := rfl
@[simp] theorem mNil_eq : mNil δ h = .ok [] h := rfl
@[simp] theorem mCons_eq : mCons m ms δ h = (m δ h).bnd fun d h1 => (ms δ h1).bnd fun ds h2 => .ok (d :: ds) h2 := rfl
@[simp] theorem mCall_eq {f : List D → MH → R D} : mCall f ms δ h = (ms δ h).bnd f := rfl
@[simp] theorem mTup_eq : mTup ms δ h = (ms δ h).bnd fun ds h1 => if ds.length ≤ 16777216 then .ok (.tup ds) h1 else .stuck := rfl
@[simp] theorem mLst_eq : mLst ms δ h = (ms δ h).bnd fun ds h1 => if ds.length ≤ 16777216 then .ok (.rol ds) h1 else .stuck := rfl
@[simp] theorem mLstN_eq : mLstN ms δ h = (ms δ h).bnd fun ds h1 => if ds.length ≤ 16777216 then .ok (.ref h1.length) (h1 ++ [.lst ds]) else .stuck := rfl
@[simp] theorem mIf_eq : mIf t a b δ h = (t δ h).bnd fun c h1 => if c then a δ h1 else b δ h1 := rfl
@[simp] theorem mB_eq : mB m δ h = (m δ h).bnd isB := rfl
@[simp] theorem isB_eq {k : Bool} : isB (.bl k) h = .ok k h := rfl
@[simp] theorem mTru_eq : mTru m δ h = (m δ h).bnd truD := rfl
@[simp] theorem mNot_eq : mNot t δ h = (t δ h).bnd fun b h1 => .ok (!b) h1 := rfl
@[simp] theorem mAnd_eq : mAnd t u δ h = (t δ h).bnd fun b h1 => if b then u δ h1 else .ok false h1 := rfl
@[simp] theorem mOr_eq : mOr t u δ h = (t δ h).bnd fun b h1 => if b then .ok true h1 else u δ h1 := rfl
@[simp] theorem mAndV_eq : mAndV a b δ h = (a δ h).bnd fun x h1 => (isB x h1).bnd fun k h2 => if k then b δ h2 else .ok (.bl false) h2 := rfl
@[simp] theorem mOrV_eq : mOrV a b δ h = (a δ h).bnd fun x h1 => (isB x h1).bnd fun k h2 => if k then .ok (.bl true) h2 else b δ h2 := rfl
@[simp] theorem mNotV_eq : mNotV a δ h = (a δ h).bnd fun x h1 => (isB x h1).bnd fun k h2 => .ok (.bl (!k)) h2 := rfl
@[simp] theorem mChain_eq : mChain f g a b c δ h = (a δ h).bnd fun x h1 => (b δ h1).bnd fun y h2 => (f x y h2).bnd fun z h3 => (isB z h3).bnd fun k h4 => if k then (c δ h4).bnd fun w h5 => g y w h5 else .ok (.bl false) h4 := rfl
@[simp] theorem mNoP_eq : mNoP δ h = .ok none h := rfl
@[simp] theorem mPart_eq {i : Int} (e : m δ h = .ok (.int i) h') : mPart m δ h = .ok (some i) h' := by unfold mPart; rw [e]; rfl
@[simp] theorem mPart_C {i : Int} : mPart (mC (.int i)) δ h = .ok (some i) h := rfl
@[simp] theorem mPart_V {k : Nat} {i : Int} (e : δ[k]? = some (some (.int i))) : mPart (mVar k) δ h = .ok (some i) h := by
  unfold mPart
  rw [mVar_eq e]; rfl
@[simp] theorem mSl_eq {f : D → Option Int → Option Int → MH → R D} {lo hi : MOp} : mSl f m lo hi δ h = (m δ h).bnd fun d h1 => (lo δ h1).bnd fun l h2 => (hi δ h2).bnd fun u h3 => f d l u h3 := rfl
@[simp] theorem mMtd_eq {T : String} {f : D → List D → MH → R D} : mMtd T f m ms δ h = (m δ h).bnd fun d h1 => if isTy T d h1 = true then (ms δ h1).bnd fun ds h2 => f d ds h2 else .stuck := rfl
@[simp] theorem mFrz_eq : mFrz m δ h = (m δ h).bnd frz := rfl
variable {A B : MSt}
@[simp] theorem mSet_eq {i : Nat} : mSet i m δ h = (m δ h).st δ fun d h1 => .ok (.next (δ.set i (some d))) h1 := rfl
@[simp] theorem mAsg_eq {g : MG} : mAsg m g δ h = (m δ h).st δ fun d h1 => match g d δ with | some δ' => .ok (.next δ') h1 | none => .stuck := rfl
@[simp] theorem mRet_eq : mRet m δ h = (m δ h).st δ fun d h1 => .ok (.ret d) h1 := rfl
@[simp] theorem mDrop_eq : mDrop m δ h = (m δ h).st δ fun _ h1 => .ok (.next δ) h1 := rfl
@[simp] theorem mIfS_eq : mIfS t A B δ h = (t δ h).st δ fun c h1 => if c then A δ h1 else B δ h1 := rfl
@[simp] theorem mSeq_eq : mSeq A B δ h = (A δ h).seq B := rfl
@[simp] theorem mNext_eq : mNext δ h = .ok (.next δ) h := rfl
@[simp] theorem mBrk_eq : mBrk δ h = .ok (.brk δ) h := rfl
@[simp] theorem mCont_eq : mCont δ h = .ok (.cont δ) h := rfl
@[simp] theorem mSetIx_eq {mo mi : ME} : mSetIx m mo mi δ h = (m δ h).st δ fun d h1 => (mo δ h1).st δ fun o h2 => (mi δ h2).st δ fun i h3 => match setG o i d h3 with | some h4 => .ok (.next δ) h4 | none => .stuck := rfl
@[simp] theorem mAug_eq {i : Nat} {d : D} (e : δ[i]? = some (some d)) : mAug i f m δ h = (m δ h).st δ fun y h1 => (f d y h1).st δ fun z h2 => .ok (.next (δ.set i (some z))) h2 := by unfold mAug; rw [e]
@[simp] theorem mFor_eq {src : MI} {tgt : MG} : mFor src tgt A δ h = (src δ h).st δ fun S h1 => forM S.g tgt A S.ds δ h1 := rfl
@[simp] theorem mCallI_eq {f : List D → MH → R Src} : mCallI f ms δ h = (ms δ h).bnd f := rfl
@[simp] theorem mSrc_eq : mSrc m δ h = (m δ h).bnd srcOf := rfl
@[simp] theorem srcOf_rol {ds : List D} : srcOf (.rol ds) h = .ok ⟨ds, fun _ => True⟩ h := rfl
@[simp] theorem srcOf_tup {ds : List D} : srcOf (.tup ds) h = .ok ⟨ds, fun _ => True⟩ h := rfl
@[simp] theorem srcOf_str {s : Str} : srcOf (.str s) h = .ok ⟨charsD s, fun _ => True⟩ h := rfl
@[simp] theorem mgName_eq {i : Nat} {d : D} : mgName i d δ = some (δ.set i (some d)) := rfl
@[simp] theorem SR.seq_stuck {k} : (SR.stuck).seq k = .stuck := rfl
@[simp] theorem opAdd_int {i j : Int} : opAdd (.int i) (.int j) h = .ok (.int (i + j)) h := rfl
@[simp] theorem opAddI_int {i j : Int} : opAddI (.int i) (.int j) h = .ok (.int (i + j)) h := rfl
@[simp] theorem opAdd_str {x y : Str} (e : x.length + y.length ≤ 16777216) : opAdd (.str x) (.str y) h = .ok (.str (x ++ y)) h := if_pos e
@[simp] theorem opAdd_tup {x y : List D} (e : x.length + y.length ≤ 16777216) : opAdd (.tup x) (.tup y) h = .ok (.tup (x ++ y)) h := if_pos e
@[simp] theorem opSub_int {i j : Int} : opSub (.int i) (.int j) h = .ok (.int (i - j)) h := rfl
@[simp] theorem opNeg_int {i : Int} : opNeg (.int i) h = .ok (.int (-i)) h := rfl
@[simp] theorem opMul_int {i j : Int} (e : i.natAbs.log2 + j.natAbs.log2 < 1000000) : opMul (.int i) (.int j) h = .ok (.int (i * j)) h := if_pos e
@[simp] theorem opMod_int {i j : Int} (e : 0 < j) : opMod (.int i) (.int j) h = .ok (.int (i % j)) h := if_pos e
theorem opDiv_int {i j : Int} (e : 0 < j) (e2 : j < 2 ^ 64) : opDiv (.int i) (.int j) h = .ok (.int (i / j)) h := by
  have nb : (2 : Nat) ^ 64 ≤ 2 ^ 2000 := Nat.pow_le_pow_right (by decide) (by decide)
  have big : (2 : Int) ^ 64 ≤ 2 ^ 2000 := by exact_mod_cast nb
  exact if_pos ⟨e, Int.lt_of_lt_of_le e2 big⟩
@[simp] theorem opLt_int {i j : Int} : opLt (.int i) (.int j) h = .ok (.bl (decide (i < j))) h := rfl
@[simp] theorem opLe_int {i j : Int} : opLe (.int i) (.int j) h = .ok (.bl (decide (i ≤ j))) h := rfl
@[simp] theorem opGt_int {i j : Int} : opGt (.int i) (.int j) h = .ok (.bl (decide (j < i))) h := rfl
@[simp] theorem opGe_int {i j : Int} : opGe (.int i) (.int j) h = .ok (.bl (decide (j ≤ i))) h := rfl
theorem opEq_S {x y : D} {k : Bool} (e : eqS x y = some k) : opEq x y h = .ok (.bl k) h := by unfold opEq eqG; rw [e]
theorem opNe_S {x y : D} {k : Bool} (e : eqS x y = some k) : opNe x y h = .ok (.bl (!k)) h := by unfold opNe eqG; rw [e]
@[simp] theorem opEq_int {i j : Int} : opEq (.int i) (.int j) h = .ok (.bl (decide (i = j))) h := opEq_S rfl
@[simp] theorem opEq_str {i j : Str} : opEq (.str i) (.str j) h = .ok (.bl (decide (i = j))) h := opEq_S rfl
@[simp] theorem opEq_bl {i j : Bool} : opEq (.bl i) (.bl j) h = .ok (.bl (decide (i = j))) h := opEq_S rfl
@[simp] theorem opNe_int {i j : Int} : opNe (.int i) (.int j) h = .ok (.bl (!decide (i = j))) h := opNe_S rfl
@[simp] theorem opNe_str {i j : Str} : opNe (.str i) (.str j) h = .ok (.bl (!decide (i = j))) h := opNe_S rfl
@[simp] theorem opNe_bl {i j : Bool} : opNe (.bl i) (.bl j) h = .ok (.bl (!decide (i = j))) h := opNe_S rfl
@[simp] theorem opIsN_eq {x : D} : opIsN x .non h = .ok (.bl (isNon x)) h := rfl
@[simp] theorem opNotN_eq {x : D} : opNotN x .non h = .ok (.bl (!isNon x)) h := rfl
@[simp] theorem isNon_non : isNon .non = true := rfl
@[simp] theorem isNon_int {i} : isNon (.int i) = false := rfl
@[simp] theorem isNon_str {i} : isNon (.str i) = false := rfl
@[simp] theorem isNon_bl {i} : isNon (.bl i) = false := rfl
@[simp] theorem isNon_tup {i} : isNon (.tup i) = false := rfl
@[simp] theorem isNon_rol {i} : isNon (.rol i) = false := rfl
@[simp] theorem truD_bl {k : Bool} : truD (.bl k) h = .ok k h := rfl
@[simp] theorem truD_non : truD .non h = .ok false h := rfl
@[simp] theorem truD_int {i : Int} : truD (.int i) h = .ok (i != 0) h := rfl
@[simp] theorem truD_tup {ds} : truD (.tup ds) h = .ok (!ds.isEmpty) h := rfl
@[simp] theorem truD_rol {ds} : truD (.rol ds) h = .ok (!ds.isEmpty) h := rfl
@[simp] theorem truD_ref {n ds} (e : lst? h n = some ds) : truD (.ref n) h = .ok (!ds.isEmpty) h := by
  show (match lst? h n with | some ds => _ | none => _) = _
  rw [e]
@[simp] theorem lstD_rol {ds} : lstD (.rol ds) h = some ds := rfl
@[simp] theorem lstD_ref {n} : lstD (.ref n) h = lst? h n := rfl
@[simp] theorem seqG_rol {ds} : seqG (.rol ds) h = some ds := rfl
@[simp] theorem seqG_tup {ds} : seqG (.tup ds) h = some ds := rfl
@[simp] theorem seqG_ref {n} : seqG (.ref n) h = lst? h n := rfl
theorem lst?_of {n : Nat} {ds} (e : h[n]? = some (.lst ds)) : lst? h n = some ds := by unfold lst?; rw [e]
theorem atI_ok {α : Type} {xs : List α} {i : Int} {x : α} (h0 : 0 ≤ i) (e : xs[i.toNat]? = some x) : L2.atI xs i = some x := by
  have := atI_nat e
  rw [Int.toNat_of_nonneg h0] at this
  exact this
theorem ixG_dG {x y : D} {d : D} (e : ixG x y h = some d) : dG x y h = none := by
  unfold ixG at e
  split at e
  · rename_i i
    cases x with
    | rdc ks ds => cases e
    | xo _ _ _ _ => cases e
    | ref n =>
      obtain ⟨ds, e1, e2⟩ := Option.bind_eq_some_iff.mp e
      have := lst?_at (show lst? h n = some ds from e1)
      show (dic? h n).bind _ = none
      unfold dic?
      rw [this]; rfl
    | _ => rfl
  · cases e
theorem opIx_of {x y : D} {d : D} (e : ixG x y h = some d) : opIx x y h = .ok d h := by
  unfold opIx
  rw [ixG_dG e]
  show opIx0 x y h = _
  unfold opIx0
  rw [e]
@[simp] theorem ixG_tup {ds} {i : Int} : ixG (.tup ds) (.int i) h = L2.atI ds i := rfl
@[simp] theorem ixG_rol {ds} {i : Int} : ixG (.rol ds) (.int i) h = L2.atI ds i := rfl
@[simp] theorem ixG_ref {n} {i : Int} : ixG (.ref n) (.int i) h = (lst? h n).bind fun ds => L2.atI ds i := rfl
@[simp] theorem isTy_str {T : String} {s : Str} : isTy T (.str s) h = (T == "str") := rfl
@[simp] theorem isTy_rol {T : String} {ds} : isTy T (.rol ds) h = (T == "list") := rfl
@[simp] theorem isTy_ref {T : String} {n ds} (e : lst? h n = some ds) : isTy T (.ref n) h = (T == "list") := by
  unfold isTy
  simp only [lst?_at e]
@[simp] theorem fInt_int {i : Int} : fInt [.int i] h = .ok (.int i) h := rfl
@[simp] theorem fAbs_int {i : Int} : fAbs [.int i] h = .ok (.int (if i < 0 then -i else i)) h := rfl
@[simp] theorem fIsi_int_int : fIsi [.int 0, .ty "int"] h = fIsi [.int 0, .ty "int"] h := rfl
theorem fIsi_of {d : D} {b : String} {n : String} {k : Bool} (e : tyName d h = some n) (e2 : isTyB n b = some k) (e3 : b ≠ "NoneType") : fIsi [d, .ty b] h = .ok (.bl k) h := by
  unfold fIsi
  simp only [if_neg e3, e, Option.bind_some, e2]
@[simp] theorem fList_eq {d : D} {es} (e : seqG d h = some es) : fList [d] h = .ok (.rol es) h := by unfold fList; simp only [e]
@[simp] theorem fListN_eq {d : D} {es} (e : seqG d h = some es) : fListN [d] h = .ok (.ref h.length) (h ++ [.lst es]) := by unfold fListN; simp only [e]
@[simp] theorem fTuple_eq {d : D} {es} (e : seqG d h = some es) : fTuple [d] h = .ok (.tup es) h := by unfold fTuple; simp only [e]
@[simp] theorem fLen_rol {ds} : fLen [.rol ds] h = .ok (.int ds.length) h := rfl
@[simp] theorem fLen_tup {ds} : fLen [.tup ds] h = .ok (.int ds.length) h := rfl
@[simp] theorem fLen_str {s : Str} (e : s.length ≤ 16777216) : fLen [.str s] h = .ok (.int s.length) h := by
  unfold fLen lenG
  simp only [if_pos e]
@[simp] theorem fLen_ref {n : Nat} {ds} (e : lst? h n = some ds) : fLen [.ref n] h = .ok (.int ds.length) h := by
  unfold fLen lenG
  simp only [lstD_ref, e]
end
theorem LeftOf.refl (h : MH) : LeftOf h h := ⟨Nat.le_refl _, fun _ _ _ e => .inl e⟩
theorem LeftOf.app {h k g : MH} (l : LeftOf h k) : LeftOf h (k ++ g) := by
  refine ⟨by rw [List.length_append]; exact Nat.le_add_right_of_le l.1, fun n o hn e => ?_⟩
  rw [List.getElem?_append_left (by have := l.1; omega)] at e
  exact l.2 n o hn e
theorem LeftOf.set {h k : MH} {n : Nat} {o : MO} (l : LeftOf h k) (q : o.lows h.length = true ∨ h.length ≤ n) : LeftOf h (k.set n o) := by
  refine ⟨by rw [List.length_set]; exact l.1, fun m u hm e => ?_⟩
  by_cases z : n = m
  · subst z
    rw [List.getElem?_set_self (by have := l.1; omega)] at e
    cases e
    rcases q with q | q
    · exact .inr q
    · omega
  · rw [List.getElem?_set_ne z] at e
    exact l.2 m u hm e
theorem leave_eq {h h' : MH} {d : D} (l : LeftOf h h') (q : d.lows h.length = true) : leave h d h' = .ok d (h'.take h.length) := if_pos ⟨l, q⟩
theorem take_app {h k g : MH} (e : k.length = h.length) : (k ++ g).take h.length = k := by rw [← e, List.take_left']; rfl
theorem mFn_eq {n N : Nat} {ms : MSt} {ds : List D} {h : MH} (e : ds.length = n) : mFn n N ms ds h = mEnd h (ms (mStart N ds) h) := if_pos e
theorem mFnN_eq {n N : Nat} {ms : MSt} {ds : List D} {h : MH} (e : ds.length = n) : mFnN n N ms ds h = mEndN (ms (mStart N ds) h) := if_pos e
theorem mFn_ret {n N : Nat} {ms : MSt} {ds : List D} {h h' k g : MH} {d : D} (e : ds.length = n) (r : ms (mStart N ds) h = .ok (.ret d) h') (eg : h' = k ++ g) (el : k.length = h.length) (l : LeftOf h k) (q : d.lows h.length = true) : mFn n N ms ds h = .ok d k := by
  rw [mFn_eq e, r, eg]
  show leave h d (k ++ g) = _
  rw [leave_eq l.app q, take_app el]
theorem compM_ind {g : MH → Prop} {tgt : MG} {elt : ME} {n : Nat} {δ0 : MS} (I : List D → List D → MH → Prop) (hI : ∀ r acc k, I r acc k → k.length = n ∧ acc.length + r.length < 16777216)
    (hg : ∀ r acc k, I r acc k → g (k ++ [.lst acc]))
    (hcons : ∀ x r acc k, I (x :: r) acc k → ∃ δ1 y k', tgt x δ0 = some δ1 ∧ elt δ1 (k ++ [.lst acc]) = .ok y (k' ++ [.lst acc]) ∧ I r (acc ++ [y]) k') :
    ∀ {ds acc : List D} {k : MH}, I ds acc k → ∃ acc' k', I [] acc' k' ∧ compM g tgt mYes elt n δ0 ds (k ++ [.lst acc]) = .ok () (k' ++ [.lst acc'])
  | [], acc, k, i => ⟨acc, k, i, by unfold compM; rw [if_pos (hg _ _ _ i)]⟩
  | x :: r, acc, k, i => by
    obtain ⟨δ1, y, k', e1, e2, i2⟩ := hcons x r acc k i
    obtain ⟨acc', k'', i3, e3⟩ := compM_ind I hI hg hcons i2
    refine ⟨acc', k'', i3, ?_⟩
    have hk := (hI _ _ _ i2).1
    have hz := (hI _ _ _ i).2
    have el : lst? (k' ++ [.lst acc]) n = some acc := lst?_of (by rw [← hk]; simp)
    have es : (k' ++ [MO.lst acc]).set n (.lst (acc ++ [y])) = k' ++ [.lst (acc ++ [y])] := by rw [← hk]; simp
    unfold compM
    rw [if_pos (hg _ _ _ i), e1]
    show ((R.ok true (k ++ [.lst acc])).nx.bnd _) = _
    simp only [R.nx_ok, R.bnd_ok, if_true, e2, el, es]
    rw [if_pos (by simp at hz; omega)]
    exact e3
theorem mLc_ind {src : MI} {tgt : MG} {elt : ME} {vs : List Nat} {δ : MS} {h h1 : MH} {S : Src} (es : src δ h = .ok S h1) (I : List D → List D → MH → Prop) (h0 : I S.ds [] h1) (hI : ∀ r acc k, I r acc k → k.length = h1.length ∧ acc.length + r.length < 16777216)
    (hg : ∀ r acc k, I r acc k → S.g (k ++ [.lst acc]))
    (hcons : ∀ x r acc k, I (x :: r) acc k → ∃ δ1 y k', tgt x (wipeM δ vs) = some δ1 ∧ elt δ1 (k ++ [.lst acc]) = .ok y (k' ++ [.lst acc]) ∧ I r (acc ++ [y]) k')
    (hend : ∀ acc k, I [] acc k → LeftOf h1 k ∧ lowsL h1.length acc = true) : ∃ acc k, I [] acc k ∧ mLc src tgt mYes elt vs δ h = .ok (.rol acc) k := by
  obtain ⟨acc, k, i, e⟩ := compM_ind (n := h1.length) I hI hg hcons h0
  refine ⟨acc, k, i, ?_⟩
  have hk := (hI _ _ _ i).1
  obtain ⟨l, q⟩ := hend acc k i
  unfold mLc
  rw [es, R.bnd_ok, e, R.bnd_ok]
  have el : lst? (k ++ [.lst acc]) h1.length = some acc := lst?_of (by rw [← hk]; simp)
  simp only [el]
  have es : (k ++ [MO.lst acc]).set h1.length .dead = k ++ [.dead] := by rw [← hk]; simp
  rw [es, leave_eq l.app (by unfold D.lows; exact q), take_app hk]
theorem mLc_map {src : MI} {tgt : MG} {elt : ME} {vs : List Nat} {δ : MS} {h h1 : MH} {S : Src} (f : D → D) (es : src δ h = .ok S h1) (hg : ∀ k, S.g (h1 ++ k)) (hz : S.ds.length < 16777216)
    (he : ∀ x ∈ S.ds, ∃ δ1, tgt x (wipeM δ vs) = some δ1 ∧ ∀ k, elt δ1 (h1 ++ k) = .ok (f x) (h1 ++ k)) (hl : ∀ x ∈ S.ds, (f x).lows h1.length = true) : mLc src tgt mYes elt vs δ h = .ok (.rol (S.ds.map f)) h1 := by
  have lowsM : ∀ l : List D, (∀ x ∈ l, (f x).lows h1.length = true) → lowsL h1.length (l.map f) = true := fun l => by
    induction l with
    | nil => intro _; rfl
    | cons x r ih =>
      intro q
      show ((f x).lows h1.length && lowsL h1.length (r.map f)) = true
      rw [q x (by simp), ih fun y hy => q y (by simp [hy])]; rfl
  obtain ⟨acc, k, ⟨i1, i2, i3⟩, e⟩ := mLc_ind (vs := vs) (elt := elt) (tgt := tgt) es (fun r acc k => k = h1 ∧ acc ++ r.map f = S.ds.map f ∧ ∀ x ∈ r, x ∈ S.ds) ⟨rfl, rfl, fun x hx => hx⟩
    (fun r acc k ⟨a, b, _⟩ => ⟨by rw [a], by
      have := congrArg List.length b
      rw [List.length_append, List.length_map, List.length_map] at this; omega⟩)
    (fun r acc k ⟨a, _, _⟩ => by rw [a]; exact hg _)
    (fun x r acc k ⟨a, b, c⟩ => by
      obtain ⟨δ1, e1, e2⟩ := he x (c x (by simp))
      exact ⟨δ1, f x, h1, e1, by rw [a]; exact e2 _, rfl, by rw [← b]; simp, fun y hy => c y (by simp [hy])⟩)
    (fun acc k ⟨a, b, c⟩ => ⟨by rw [a]; exact LeftOf.refl _, by
      have : acc = S.ds.map f := by simpa using b
      rw [this]; exact lowsM _ hl⟩)
  have : acc = S.ds.map f := by simpa using i2
  rw [e, this, i1]
structure DS where
  cells : List Int
  rest : Int
  at' : Int
  seed : Int
def DS.enc (s : DS) : MO := .lst [.rol (s.cells.map .int), .int s.rest, .int s.at', .int s.seed]
structure DS.Ok (s : DS) : Prop where
  a0 : 0 ≤ s.at'
  s0 : 0 ≤ s.seed
  s1 : s.seed ≤ 2147483630
theorem DS.enc_lows (s : DS) (n : Nat) : s.enc.lows n = true := by
  have : ∀ l : List Int, lowsL n (l.map D.int) = true := fun l => by
    induction l with
    | nil => rfl
    | cons x r ih => show (true && lowsL n (r.map D.int)) = true; rw [ih]; rfl
  show ((D.rol (s.cells.map .int)).lows n && _) = true
  rw [show (D.rol (s.cells.map .int)).lows n = lowsL n (s.cells.map .int) from rfl, this]; rfl
end MM
namespace MM
open PySem PySem.Spec PyProof.Rows L2
section
variable {h : MH} {n : Nat} {s : DS} {many : Int}
theorem DS.lst (e : h[n]? = some s.enc) : lst? h n = some [.rol (s.cells.map .int), .int s.rest, .int s.at', .int s.seed] := lst?_of e
end
end MM
namespace MM
open PySem PySem.Spec PyProof.Rows L2
abbrev tx (l : List Nat) : Str := ⟨l.toArray⟩
theorem tx_len (l : List Nat) : (tx l).length = l.length := by simp [tx, Str.length]
theorem tl_tx (l : List Nat) : (tx l).cps.toList = l := rfl
def At (n : Nat) (h k : MH) : Prop := n < h.length ∧ ∃ s : DS, s.Ok ∧ k = h.set n s.enc
section
variable {n : Nat} {h k k' g : MH} {many : Int}
theorem At.of {s : DS} (e : h[n]? = some s.enc) (ok : s.Ok) : At n h h := by
  obtain ⟨hn, e2⟩ := List.getElem?_eq_some_iff.mp e
  exact ⟨hn, s, ok, by rw [← e2, List.set_getElem_self]⟩
theorem At.len (a : At n h k) : k.length = h.length := by
  obtain ⟨_, s, _, rfl⟩ := a
  exact List.length_set ..
theorem At.trans (a : At n h k) (b : At n k k') : At n h k' := by
  obtain ⟨l, s, _, rfl⟩ := a
  obtain ⟨_, s', ok, rfl⟩ := b
  exact ⟨l, s', ok, List.set_set ..⟩
theorem At.app (a : At n h k) (g : MH) : At n (h ++ g) (k ++ g) := by
  obtain ⟨l, s, ok, rfl⟩ := a
  exact ⟨by rw [List.length_append]; omega, s, ok, by rw [List.set_append_left _ _ l]⟩
theorem At.left (a : At n h k) : LeftOf h k := by
  obtain ⟨l, s, ok, rfl⟩ := a
  exact (LeftOf.refl h).set (.inl (s.enc_lows _))
theorem At.fn {a0 N : Nat} {ms : MSt} {ds : List D} {d : D} (e : ds.length = a0) (a : At n h k) (r : ms (mStart N ds) h = .ok (.ret d) k) (q : d.lows h.length = true) : mFn a0 N ms ds h = .ok d k :=
  mFn_ret (g := []) e r (by rw [List.append_nil]) a.len a.left q
end
theorem fRange1_eq {i : Int} {h : MH} (a : -(2 ^ 62) ≤ i) (b : i < 2 ^ 62) : fRange1 [.int i] h = .ok ⟨(List.range i.toNat).map fun (i : Nat) => .int i, fun _ => True⟩ h := if_pos ⟨a, b⟩
end MM
namespace MM
open PySem PySem.Spec PyProof.Rows L2
section
variable {h h1 h2 : MH} {δ δ2 : MS} {t : MT} {b : MSt} {r : SR}
@[simp] theorem isi_non_tuple : fIsi [.non, .ty "tuple"] h = .ok (.bl false) h := fIsi_of (n := "NoneType") rfl (by decide) (by decide)
@[simp] theorem isi_bl_tuple {k : Bool} : fIsi [(.bl k), .ty "tuple"] h = .ok (.bl false) h := fIsi_of (n := "bool") rfl (by decide) (by decide)
@[simp] theorem isi_int_tuple {i : Int} : fIsi [(.int i), .ty "tuple"] h = .ok (.bl false) h := fIsi_of (n := "int") rfl (by decide) (by decide)
@[simp] theorem isi_str_tuple {s : Str} : fIsi [(.str s), .ty "tuple"] h = .ok (.bl false) h := fIsi_of (n := "str") rfl (by decide) (by decide)
@[simp] theorem isi_tup_tuple {ds : List D} : fIsi [(.tup ds), .ty "tuple"] h = .ok (.bl true) h := fIsi_of (n := "tuple") rfl (by decide) (by decide)
@[simp] theorem isi_rol_tuple {ds : List D} : fIsi [(.rol ds), .ty "tuple"] h = .ok (.bl false) h := fIsi_of (n := "list") rfl (by decide) (by decide)
@[simp] theorem isi_non_str : fIsi [.non, .ty "str"] h = .ok (.bl false) h := fIsi_of (n := "NoneType") rfl (by decide) (by decide)
@[simp] theorem isi_bl_str {k : Bool} : fIsi [(.bl k), .ty "str"] h = .ok (.bl false) h := fIsi_of (n := "bool") rfl (by decide) (by decide)
@[simp] theorem isi_int_str {i : Int} : fIsi [(.int i), .ty "str"] h = .ok (.bl false) h := fIsi_of (n := "int") rfl (by decide) (by decide)
@[simp] theorem isi_str_str {s : Str} : fIsi [(.str s), .ty "str"] h = .ok (.bl true) h := fIsi_of (n := "str") rfl (by decide) (by decide)
@[simp] theorem isi_tup_str {ds : List D} : fIsi [(.tup ds), .ty "str"] h = .ok (.bl false) h := fIsi_of (n := "tuple") rfl (by decide) (by decide)
@[simp] theorem isi_rol_str {ds : List D} : fIsi [(.rol ds), .ty "str"] h = .ok (.bl false) h := fIsi_of (n := "list") rfl (by decide) (by decide)
@[simp] theorem isi_non_int : fIsi [.non, .ty "int"] h = .ok (.bl false) h := fIsi_of (n := "NoneType") rfl (by decide) (by decide)
@[simp] theorem isi_bl_int {k : Bool} : fIsi [(.bl k), .ty "int"] h = .ok (.bl true) h := fIsi_of (n := "bool") rfl (by decide) (by decide)
@[simp] theorem isi_int_int {i : Int} : fIsi [(.int i), .ty "int"] h = .ok (.bl true) h := fIsi_of (n := "int") rfl (by decide) (by decide)
@[simp] theorem isi_str_int {s : Str} : fIsi [(.str s), .ty "int"] h = .ok (.bl false) h := fIsi_of (n := "str") rfl (by decide) (by decide)
@[simp] theorem isi_tup_int {ds : List D} : fIsi [(.tup ds), .ty "int"] h = .ok (.bl false) h := fIsi_of (n := "tuple") rfl (by decide) (by decide)
@[simp] theorem isi_rol_int {ds : List D} : fIsi [(.rol ds), .ty "int"] h = .ok (.bl false) h := fIsi_of (n := "list") rfl (by decide) (by decide)
@[simp] theorem isi_non_bool : fIsi [.non, .ty "bool"] h = .ok (.bl false) h := fIsi_of (n := "NoneType") rfl (by decide) (by decide)
@[simp] theorem isi_bl_bool {k : Bool} : fIsi [(.bl k), .ty "bool"] h = .ok (.bl true) h := fIsi_of (n := "bool") rfl (by decide) (by decide)
@[simp] theorem isi_int_bool {i : Int} : fIsi [(.int i), .ty "bool"] h = .ok (.bl false) h := fIsi_of (n := "int") rfl (by decide) (by decide)
@[simp] theorem isi_str_bool {s : Str} : fIsi [(.str s), .ty "bool"] h = .ok (.bl false) h := fIsi_of (n := "str") rfl (by decide) (by decide)
@[simp] theorem isi_tup_bool {ds : List D} : fIsi [(.tup ds), .ty "bool"] h = .ok (.bl false) h := fIsi_of (n := "tuple") rfl (by decide) (by decide)
@[simp] theorem isi_rol_bool {ds : List D} : fIsi [(.rol ds), .ty "bool"] h = .ok (.bl false) h := fIsi_of (n := "list") rfl (by decide) (by decide)
@[simp] theorem isi_non_list : fIsi [.non, .ty "list"] h = .ok (.bl false) h := fIsi_of (n := "NoneType") rfl (by decide) (by decide)
@[simp] theorem isi_bl_list {k : Bool} : fIsi [(.bl k), .ty "list"] h = .ok (.bl false) h := fIsi_of (n := "bool") rfl (by decide) (by decide)
@[simp] theorem isi_int_list {i : Int} : fIsi [(.int i), .ty "list"] h = .ok (.bl false) h := fIsi_of (n := "int") rfl (by decide) (by decide)
@[simp] theorem isi_str_list {s : Str} : fIsi [(.str s), .ty "list"] h = .ok (.bl false) h := fIsi_of (n := "str") rfl (by decide) (by decide)
@[simp] theorem isi_tup_list {ds : List D} : fIsi [(.tup ds), .ty "list"] h = .ok (.bl false) h := fIsi_of (n := "tuple") rfl (by decide) (by decide)
@[simp] theorem isi_rol_list {ds : List D} : fIsi [(.rol ds), .ty "list"] h = .ok (.bl true) h := fIsi_of (n := "list") rfl (by decide) (by decide)
@[simp] theorem isi_non_dict : fIsi [.non, .ty "dict"] h = .ok (.bl false) h := fIsi_of (n := "NoneType") rfl (by decide) (by decide)
@[simp] theorem isi_bl_dict {k : Bool} : fIsi [(.bl k), .ty "dict"] h = .ok (.bl false) h := fIsi_of (n := "bool") rfl (by decide) (by decide)
@[simp] theorem isi_int_dict {i : Int} : fIsi [(.int i), .ty "dict"] h = .ok (.bl false) h := fIsi_of (n := "int") rfl (by decide) (by decide)
@[simp] theorem isi_str_dict {s : Str} : fIsi [(.str s), .ty "dict"] h = .ok (.bl false) h := fIsi_of (n := "str") rfl (by decide) (by decide)
@[simp] theorem isi_tup_dict {ds : List D} : fIsi [(.tup ds), .ty "dict"] h = .ok (.bl false) h := fIsi_of (n := "tuple") rfl (by decide) (by decide)
@[simp] theorem isi_rol_dict {ds : List D} : fIsi [(.rol ds), .ty "dict"] h = .ok (.bl false) h := fIsi_of (n := "list") rfl (by decide) (by decide)
theorem mWhile_inv (e : mWhile t b δ h = r) (ne : r ≠ .stuck) : ∃ n, whileM t b n δ h = r := by
  unfold mWhile at e
  split at e
  · exact ⟨_, e⟩
  · exact absurd e.symm ne
theorem mWhile_end (et : t δ h = .ok false h1) : mWhile t b δ h = .ok (.next δ) h1 := mWhile_eq 1 (by unfold whileM; rw [et]; rfl) (by intro z; cases z)
theorem mWhile_next (et : t δ h = .ok true h1) (eb : b δ h1 = .ok (.next δ2) h2) (e : mWhile t b δ2 h2 = r) (ne : r ≠ .stuck) : mWhile t b δ h = r := by
  obtain ⟨n, e⟩ := mWhile_inv e ne
  refine mWhile_eq (n + 1) ?_ ne
  unfold whileM
  rw [et, R.st_ok, if_pos rfl, eb]
  exact e
@[simp] theorem mgTup_tup {n : Nat} {gs : MGs} {ds : List D} : mgTup n gs (.tup ds) δ = if ds.length = n then gs ds δ else none := rfl
@[simp] theorem mgCons_cons {g : MG} {gs : MGs} {d : D} {ds : List D} : mgCons g gs (d :: ds) δ = (g d δ).bind fun δ' => gs ds δ' := rfl
@[simp] theorem mgNil_nil : mgNil [] δ = some δ := rfl
end
end MM
namespace MM
open PySem PySem.Spec PyProof.Rows L2
end MM
namespace MM
open PySem PySem.Spec PyProof.Rows L2
theorem _root_.L2.PS.or {X : Cx} {e : Stmt} {t t' : TS} (p : PS X e t) (p' : PS X e t') : PS X e (fun D σ H => t D σ H ∨ t' D σ H) := ⟨fun pins s σ H Q I q => q.elim (p.run pins s σ H Q I) (p'.run pins s σ H Q I)⟩
theorem _root_.L2.PE.or {X : Cx} {e : Expr} {t t' : TE} (p : PE X e t) (p' : PE X e t') : PE X e (fun σ H Q => t σ H Q ∨ t' σ H Q) := ⟨fun pins s σ H Q I q => q.elim (p.run pins s σ H Q I) (p'.run pins s σ H Q I)⟩
section
variable {K : PySem.W.Frag} {L L' : TL} {H H' H2 : Hp} {h h' : MH} {a p : Addr}
def RdM (H H2 : Hp) : Prop := ∀ b w, (∀ o u, w ≠ .frz o u) → Rd H b w → Rd H2 b w
mutual
theorem Rep.rdm (m : RdM H H2) : ∀ {d : D} {v : V}, Rep K L H d v → Rep K L H2 d v
  | .non, _, r => by unfold Rep at r ⊢; exact r
  | .bl _, _, r => by unfold Rep at r ⊢; exact r
  | .int _, _, r => by unfold Rep at r ⊢; exact r
  | .str _, _, r => by unfold Rep at r ⊢; exact r
  | .obj _, _, r => by unfold Rep at r ⊢; exact r
  | .ty _, _, r => by unfold Rep at r ⊢; exact r
  | .kon _, _, r => by unfold Rep at r ⊢; exact r
  | .ref _, _, r => by unfold Rep at r ⊢; exact r
  | .rdc ks ds, _, r => by
    unfold Rep at r ⊢
    obtain ⟨a, xs, e1, s, n, l, q⟩ := r
    exact ⟨a, xs, e1, m _ _ (by intro _ _ z; cases z) s, n, l, RepL.rdm m q⟩
  | .xo a d fl ds, _, r => by
    unfold Rep at r ⊢
    obtain ⟨e1, xs, s, n, l, q⟩ := r
    exact ⟨e1, xs, m _ _ (by intro _ _ z; cases z) s, n, l, RepL.rdm m q⟩
  | .tup ds, _, r => by
    unfold Rep at r ⊢
    obtain ⟨a, xs, e1, s, q⟩ := r
    refine ⟨a, xs, e1, ?_, RepL.rdm m q⟩
    rcases s with ⟨s, n⟩ | s
    · exact .inl ⟨m _ _ (by intro _ _ z; cases z) s, n⟩
    · exact .inr s
  | .rol ds, _, r => by
    unfold Rep at r ⊢
    obtain ⟨a, xs, e1, s, q⟩ := r
    refine ⟨a, xs, e1, ?_, RepL.rdm m q⟩
    rcases s with ⟨s, n⟩ | s
    · exact .inl ⟨m _ _ (by intro _ _ z; cases z) s, n⟩
    · exact .inr s
theorem RepL.rdm (m : RdM H H2) : ∀ {ds : List D} {vs : List V}, RepL K L H ds vs → RepL K L H2 ds vs
  | [], _, r => by rw [r.nil_inv]; exact .nil
  | d :: ds, _, r => by
    obtain ⟨v, vs, rfl, q, w⟩ := r.cons_inv
    exact .cons (Rep.rdm m q) (RepL.rdm m w)
end
theorem RepK.rdm (m : RdM H H2) : ∀ {ds : List (Key × D)} {vs}, RepK K L H ds vs → RepK K L H2 ds vs
  | [], _, r => r
  | d :: ds, _, ⟨v, vs, e1, q, w⟩ => ⟨v, vs, e1, q.rdm m, RepK.rdm m w⟩
theorem RepF.rdm (m : RdM H H2) : ∀ {ds : List (Str × D)} {vs}, RepF K L H ds vs → RepF K L H2 ds vs
  | [], _, r => r
  | d :: ds, _, ⟨v, vs, e1, q, w⟩ => ⟨v, vs, e1, q.rdm m, RepF.rdm m w⟩
theorem RepS.rdm {δ : MS} {σ : L2.St} (m : RdM H H2) (r : RepS K L H δ σ) : RepS K L H2 δ σ := ⟨r.len, fun i d e => let ⟨v, e1, q⟩ := r.at' i d e; ⟨v, e1, q.rdm m⟩⟩
theorem OAt.rdm (m : RdM H H2) {l : Option (Option Addr)} {o : MO} (same : ∀ a, l = some (some a) → H2 a = H a) (q : OAt K L H l o) : OAt K L H2 l o := by
  cases o with
  | dead => exact q
  | lst ds => obtain ⟨b, xs, e1, e2, w⟩ := q; exact ⟨b, xs, e1, (same b e1).trans e2, w.rdm m⟩
  | dic ds => obtain ⟨b, xs, e1, e2, w⟩ := q; exact ⟨b, xs, e1, (same b e1).trans e2, w.rdm m⟩
  | ldc ds => obtain ⟨b, o, xs, e1, e2, w⟩ := q; exact ⟨b, o, xs, e1, (same b e1).trans e2, w.rdm m⟩
  | ins C ds => obtain ⟨b, dx, Ca, xs, e1, e2, w, hC⟩ := q; exact ⟨b, dx, Ca, xs, e1, (same b e1).trans e2, w.rdm m, hC⟩
theorem Rel.put (r : Rel K L H h) {n : Nat} {o : HO} {mo : MO} (en : L[n]? = some (some a)) (m : RdM H (upd H a o)) (q : OAt K L (upd H a o) (some (some a)) mo) : Rel K L (upd H a o) (h.set n mo) := by
  refine ⟨by rw [List.length_set]; exact r.len, fun k u e => ?_, r.inj⟩
  by_cases hk : n = k
  · subst hk
    rw [List.getElem?_set_self (r.ltL en)] at e
    cases e
    rw [en]; exact q
  · rw [List.getElem?_set_ne hk] at e
    exact (r.at' k u e).rdm m fun b eb => upd_ne fun z => hk (r.inj n k a en (by rw [← z]; exact eb))
theorem Rel.ldc {n : Nat} {ds} (r : Rel K L H h) (e : h[n]? = some (.ldc ds)) : ∃ a o xs, L[n]? = some (some a) ∧ H a = some (.frz o (.dK xs)) ∧ RepK K L H ds xs := r.at' n _ e
end
theorem RepK.get {K L H} : ∀ {ds : List (Key × D)} {vs} {i : Nat} {p : Key × V}, RepK K L H ds vs → vs[i]? = some p → ∃ d, ds[i]? = some (p.1, d) ∧ Rep K L H d p.2
  | [], _, _, _, r, e => by cases r; simp at e
  | d :: ds, _, 0, _, ⟨v, vs, ev, q, w⟩, e => by
    subst ev
    cases e
    exact ⟨d.2, rfl, q⟩
  | d :: ds, _, i + 1, _, ⟨v, vs, ev, q, w⟩, e => by
    subst ev
    exact RepK.get (i := i) w (by simpa using e)
section
variable {X : Cx} {W : WX} {tg a : Expr} {ma : ME} {apos cpos : Pos}
end
theorem rep_newD {K L H} {h : MH} {kvs} {ws : List (Key × V)} {p} (r : Rel K L H h) (hp : H p = none) (w : RepK K L H kvs ws) : Ext L H (L ++ [some p]) (upd H p (.dK ws)) ∧ Rel K (L ++ [some p]) (upd H p (.dK ws)) (h ++ [.dic kvs]) ∧ Rep K (L ++ [some p]) (upd H p (.dK ws)) (.ref h.length) (.ref p) := by
  obtain ⟨x, r'⟩ := r.alloc (m := .dic kvs) (o := .dK ws) hp ⟨p, ws, rfl, upd_same, w.mono (ext_alloc hp)⟩
  refine ⟨x, r', ?_⟩
  unfold Rep
  exact ⟨p, rfl, .inl (by rw [getElem?_snoc, if_pos r.len.symm])⟩
def putD (kvs : List (Key × D)) (k : Key) (d : D) : List (Key × D) := if (kvs.any fun p => decide (p.1 = k)) = true then kvs.map fun p => if p.1 = k then (p.1, d) else p else kvs ++ [(k, d)]
theorem repK_put {K L H} {k : Key} {d : D} {v : V} (q : Rep K L H d v) {kvs : List (Key × D)} {ws : List (Key × V)} (w : RepK K L H kvs ws) : RepK K L H (putD kvs k d) (putK ws k v) := by
  have any : ∀ {kvs : List (Key × D)} {ws : List (Key × V)}, RepK K L H kvs ws → (kvs.any fun p => decide (p.1 = k)) = ws.any fun p => decide (p.1 = k) := fun {kvs} => by
    induction kvs with
    | nil => intro ws w; cases w; rfl
    | cons p r ih => intro ws ⟨u, us, e, q, w⟩; subst e; rw [List.any_cons, List.any_cons, ih w]
  have mp : ∀ {kvs : List (Key × D)} {ws : List (Key × V)}, RepK K L H kvs ws → RepK K L H (kvs.map fun p => if p.1 = k then (p.1, d) else p) (ws.map fun p => if p.1 = k then (p.1, v) else p) := fun {kvs} => by
    induction kvs with
    | nil => intro ws w; cases w; exact rfl
    | cons p r ih =>
      intro ws ⟨u, us, e, q', w⟩; subst e
      by_cases hk : p.1 = k
      · refine ⟨v, _, ?_, ?_, ih w⟩
        · simp [hk]
        · simp [hk]; exact q
      · refine ⟨u, _, ?_, ?_, ih w⟩
        · simp [hk]
        · simp [hk]; exact q'
  have app : ∀ {kvs : List (Key × D)} {ws : List (Key × V)}, RepK K L H kvs ws → RepK K L H (kvs ++ [(k, d)]) (ws ++ [(k, v)]) := fun {kvs} => by
    induction kvs with
    | nil => intro ws w; cases w; exact ⟨v, [], rfl, q, rfl⟩
    | cons p r ih => intro ws ⟨u, us, e, q', w⟩; subst e; exact ⟨u, _, rfl, q', ih w⟩
  unfold putD putK
  rw [any w]
  split
  · exact mp w
  · exact app w
def setG2 (o i d : D) (h : MH) : Option MH := match o with
  | .ref n => (match h[n]? with
    | some (.dic kvs) => (keyD i).bind fun k => if kvs.length < 16777216 then some (h.set n (.dic (putD kvs k d))) else none
    | _ => setG o i d h)
  | _ => none
def mSetIx2 (m mo mi : ME) : MSt := fun δ h => (m δ h).st δ fun d h1 => (mo δ h1).st δ fun o h2 => (mi δ h2).st δ fun i h3 => match setG2 o i d h3 with
  | some h4 => .ok (.next δ) h4
  | none => .stuck
theorem _root_.L2.PSet.or {X : Cx} {t t' : TSet} (p : PSet X t) (p' : PSet X t') : PSet X (fun o i v H Q => t o i v H Q ∨ t' o i v H Q) :=
  fun pins s σ H o i v ov iv u Q I ro ri rv q => q.elim (p pins s σ H o i v ov iv u Q I ro ri rv) (p' pins s σ H o i v ov iv u Q I ro ri rv)
theorem setG2_ok {K : PySem.W.Frag} {L H} {h h' : MH} {o i d : D} {vo vi v : V} {Q : Hp → Prop} (r : Rel K L H h) (po : Rep K L H o vo) (pi : Rep K L H i vi) (p : Rep K L H d v) (e : setG2 o i d h = some h')
    (k : ∀ H', Ext L H L H' → Rel K L H' h' → Q H') : rSetL vo vi v H Q ∨ rSetD vo vi v H Q := by
  unfold setG2 at e
  split at e
  · rename_i n
    split at e
    · rename_i kvs en
      obtain ⟨y, e1, e2⟩ := Option.bind_eq_some_iff.mp e
      split at e2
      · rename_i hz
        cases e2
        obtain ⟨a, ws, z1, z2, w⟩ := r.dic en
        have nf : ∀ o u, H a ≠ some (.frz o u) := fun o u z => by rw [z2] at z; cases z
        obtain ⟨x1, r1⟩ := r.write (o := .dK (putK ws y v)) (m := .dic (putD kvs y d)) z1 nf ⟨a, _, rfl, upd_same, (repK_put p w).mono (ext_write z1 nf)⟩
        exact .inr ⟨a, _, po.ref z1, .inl ⟨ws, y, z2, keyD_ok pi e1, by rw [sizeLine_eq, ← w.length]; exact hz, rfl⟩, k _ x1 r1⟩
      · cases e2
    · exact .inl (setG_ok r po pi p e k)
  · cases e
section
variable {X : Cx} {W : WX} {pos : Pos} {e o i : Expr} {me mo mi : ME}
theorem psm_setIx2 {tpos : Pos} (hu : X.A.units + 64 < cLine) (he : PEM X W e me) (ho : PEM X W o mo) (hi : PEM X W i mi)
    (ha : ∀ v, assign (.Subscript o i tpos) X.env v = (do
      let ov ← holding [v] (eval o X.env)
      let iv ← holding [v, ov] (eval i X.env)
      standAt tpos
      holding [v, ov, iv] (setItem ov iv v)
      release [v, ov, iv] []) := by intro _; rfl)
    (hs : swapsWithSole [.Subscript o i tpos] e pos.line X.env = pure false := by rfl) (hw : swappedStores [.Subscript o i tpos] e X.env = pure none := by rfl) (h1 : (assignEach [.Subscript o i tpos] X.env).map (·.2) = [assign (.Subscript o i tpos) X.env] := by rfl) :
    PSM X W (.Assign [.Subscript o i tpos] e pos) (mSetIx2 me mo mi) :=
  PS.imp (ps_asg he (pg_sub ho hi (set_list.or (set_dict (by omega))) ha) hs hw h1) fun D σ H ⟨L, h, δ, r, s, a⟩ => ⟨L, h, δ, r, s, Ans.imp (AnsS.bind (rp := Rep X.K) s a) fun v H1 ⟨L1, h1, d, x1, r1, p1, s1, a1⟩ =>
    ⟨L1, h1, δ, r1, s1, Ans.imp (AnsS.bind (rp := Rep X.K) s1 a1) fun vo H2 ⟨L2, h2, d2, x2, r2, p2, s2, a2⟩ => ⟨L2, h2, δ, r2, s2, Ans.imp (AnsS.bind (rp := Rep X.K) s2 a2) fun vi H3 ⟨L3, h3, d3, x3, r3, p3, s3, a3⟩ => by
      cases eg : setG2 d2 d3 d h3 with
      | none => rw [eg] at a3; exact a3.elim
      | some h4 =>
        simp only [eg] at a3
        exact setG2_ok r3 (p2.mono x3) p3 (p1.mono (x2.trans x3)) eg fun H' x r' => (a3.mono x).nx r' (s3.mono x)⟩⟩⟩
end
def dicR (d : D) (h : MH) : Option (List (Key × D)) := match d with
  | .rdc ks ds => some (ks.zip ds)
  | .ref n => (match h[n]? with
    | some (.dic kvs) => some kvs
    | some (.ldc kvs) => some kvs
    | _ => none)
  | _ => none
theorem dicR_ok {K : PySem.W.Frag} {L H} {h : MH} {d : D} {x : V} {kvs} (r : Rel K L H h) (p : Rep K L H d x) (e : dicR d h = some kvs) : ∃ a ws, x = .ref a ∧ Rd H a (.dK ws) ∧ RepK K L H kvs ws := by
  unfold dicR at e
  split at e
  · cases e
    unfold Rep at p
    obtain ⟨a, xs, rfl, s, n, l, w⟩ := p
    exact ⟨a, _, rfl, s, repK_zip w⟩
  · split at e
    · rename_i z
      cases e
      obtain ⟨a, ws, z1, z2, w⟩ := r.dic z
      exact ⟨a, ws, p.ref z1, .inl z2, w⟩
    · rename_i z
      cases e
      obtain ⟨a, o, ws, z1, z2, w⟩ := r.ldc z
      exact ⟨a, ws, p.ref z1, .inr ⟨o, z2⟩, w⟩
    · cases e
  · cases e
def hasD (kvs : List (Key × D)) (k : Key) : Bool := (valD kvs k).isSome
theorem repO_some {K L H o w} (r : RepO K L H o w) : o.isSome = w.isSome := by
  cases o with
  | some d => obtain ⟨v, rfl, _⟩ := r; rfl
  | none => cases r; rfl
def inG2 (x y : D) (h : MH) : Option Bool := match dicR y h with
  | some kvs => (keyD x).map fun k => hasD kvs k
  | none => inG x y h
def opIn2 (x y : D) (h : MH) : R D := match inG2 x y h with
  | some b => .ok (.bl b) h
  | none => .stuck
def rInD (no : Bool) : R2 := fun x y H Q => ∃ a o, y = .ref a ∧ DGet H a x o ∧ Q (.bl (no != o.isSome)) H
theorem op_inD {X : Cx} (hu : X.A.units + 64 < cLine) : OpR X (compareOp .In) (rInD false) := by
  intro pins s σ H x y v u Q I rx ry h
  obtain ⟨a, o, rfl, g, q⟩ := h
  cases (show u = Value.ref a from ry)
  exact d_in (by omega) I g rx fun s' I' => ⟨.bl o.isSome, H, I', rfl, by simpa using q⟩
def rIn3 (K : PySem.W.Frag) : R2 := fun x y H Q => rInD false x y H Q ∨ rIn2 K x y H Q
theorem op_in3 {X : Cx} (hu : X.A.units + 64 < cLine) : OpR X (compareOp .In) (rIn3 X.K) := (op_inD hu).or op_in2
theorem inG2_ok {K : PySem.W.Frag} {L H} {h : MH} {dx dy x y b} (r : Rel K L H h) (px : Rep K L H dx x) (py : Rep K L H dy y) (e : inG2 dx dy h = some b) : (∃ a o, y = .ref a ∧ DGet H a x o ∧ o.isSome = b) ∨ inG dx dy h = some b := by
  unfold inG2 at e
  split at e
  · rename_i kvs ed
    obtain ⟨k, e1, rfl⟩ := Option.map_eq_some_iff.mp e
    obtain ⟨a, ws, rfl, rd, w⟩ := dicR_ok r py ed
    exact .inl ⟨a, _, rfl, .inl ⟨ws, k, rd, keyD_ok px e1, rfl⟩, (repO_some (repO_K w)).symm⟩
  · exact .inr e
theorem opIn2_ok {K : PySem.W.Frag} : OpM K (rIn3 K) opIn2 := by
  intro L H h dx dy x y Q E r px py a
  unfold opIn2 at a
  split at a
  · rename_i b e
    rcases inG2_ok r px py e with ⟨p, o, rfl, g, eb⟩ | e
    · exact .inl ⟨p, o, rfl, g, by rw [eb]; simpa using ans_okE r rep_bl a⟩
    · exact .inr (opIn_ok L H h dx dy x y Q E r px py (by unfold opIn; rw [e]; exact a))
  · exact a.elim
def fMax2 (ds : List D) (h : MH) : R D := match ds with
  | [.int i, .int j] => .ok (.int (if j > i then j else i)) h
  | _ => .stuck
theorem fMax2_ok {K : PySem.W.Frag} : CallM K (fun xs H Q => ∃ i j, xs = [.int i, .int j] ∧ Q (.int (if j > i then j else i)) H) fMax2 := by
  intro L H h ds vs Q E r w a
  unfold fMax2 at a
  split at a
  · obtain ⟨v, u, rfl, q1, q2⟩ := w.two
    exact ⟨_, _, by rw [rep_int_inv q1, rep_int_inv q2], ans_okE r rep_int a⟩
  · exact a.elim
def fMin2 (ds : List D) (h : MH) : R D := match ds with
  | [.int i, .int j] => .ok (.int (if j < i then j else i)) h
  | _ => .stuck
theorem fMin2_ok {K : PySem.W.Frag} : CallM K (fun xs H Q => ∃ i j, xs = [.int i, .int j] ∧ Q (.int (if j < i then j else i)) H) fMin2 := by
  intro L H h ds vs Q E r w a
  unfold fMin2 at a
  split at a
  · obtain ⟨v, u, rfl, q1, q2⟩ := w.two
    exact ⟨_, _, by rw [rep_int_inv q1, rep_int_inv q2], ans_okE r rep_int a⟩
  · exact a.elim
end MM
namespace MM
open PySem PySem.Spec PyProof.Rows L2
abbrev XP := Str → List (Str × D) → MH → Prop
abbrev XPS := Str → List (Str × D) → MS → MH → Prop
def NoX : XP := fun _ _ _ => False
def XP.s (E : XP) : XPS := fun c fs _ h => E c fs h
structure Tg {α : Type} (P : α → MH → Prop) (E : XP) : Type where
structure TgS (P : Fl → MH → Prop) (E : XPS) : Type where
def Tm {α : Type} (r : R α) (P : α → MH → Prop) (E : XP) (_u : Tg P E := ⟨⟩) : Prop := match r with
  | .ok a h => P a h
  | .exc c fs h => E c fs h
  | .stuck => False
def TmS (r : SR) (P : Fl → MH → Prop) (E : XPS) (_u : TgS P E := ⟨⟩) : Prop := match r with
  | .ok a h => P a h
  | .exc c fs δ h => E c fs δ h
  | .stuck => False
section
variable {α β : Type} {r : R α} {f : α → MH → R β} {P : α → MH → Prop} {Q : β → MH → Prop} {E : XP} {PS' : Fl → MH → Prop} {ES : XPS} {δ : MS} {h : MH}
@[simp] theorem Tm_ok {a : α} : Tm (.ok a h) P E ↔ P a h := Iff.rfl
@[simp] theorem Tm_exc {c fs} : Tm (.exc c fs h : R α) P E ↔ E c fs h := Iff.rfl
@[simp] theorem Tm_stuck : Tm (.stuck : R α) P E ↔ False := Iff.rfl
@[simp] theorem Tm_bnd : Tm (r.bnd f) Q E ↔ Tm r (fun a h => Tm (f a h) Q E) E := by cases r <;> rfl
@[simp] theorem TmS_ok {a : Fl} : TmS (.ok a h) PS' ES ↔ PS' a h := Iff.rfl
@[simp] theorem TmS_exc {c fs} : TmS (.exc c fs δ h) PS' ES ↔ ES c fs δ h := Iff.rfl
@[simp] theorem TmS_stuck : TmS (.stuck) PS' ES ↔ False := Iff.rfl
@[simp] theorem TmS_st {k : α → MH → SR} : TmS (r.st δ k) PS' ES ↔ Tm r (fun a h => TmS (k a h) PS' ES) (fun c fs h => ES c fs δ h) := by cases r <;> rfl
def SeqP (k : MSt) (P : Fl → MH → Prop) (E : XPS) : Fl → MH → Prop := fun f h => match f with
  | .next δ => TmS (k δ h) P E
  | f => P f h
@[simp] theorem SeqP_next {k : MSt} : SeqP k PS' ES (.next δ) h ↔ TmS (k δ h) PS' ES := Iff.rfl
@[simp] theorem SeqP_ret {k : MSt} {d : D} : SeqP k PS' ES (.ret d) h ↔ PS' (.ret d) h := Iff.rfl
@[simp] theorem SeqP_brk {k : MSt} : SeqP k PS' ES (.brk δ) h ↔ PS' (.brk δ) h := Iff.rfl
@[simp] theorem SeqP_cont {k : MSt} : SeqP k PS' ES (.cont δ) h ↔ PS' (.cont δ) h := Iff.rfl
@[simp] theorem TmS_seq {s : SR} {k : MSt} : TmS (s.seq k) PS' ES ↔ TmS s (SeqP k PS' ES) ES := by
  cases s with
  | ok f h => cases f <;> rfl
  | exc _ _ _ _ => rfl
  | stuck => rfl
theorem Tm.imp {P' : α → MH → Prop} (t : Tm r P E) (g : ∀ a h, P a h → P' a h) : Tm r P' E := by
  cases r with
  | ok a h => exact g _ _ t
  | exc _ _ _ => exact t
  | stuck => exact t
theorem TmS.imp {s : SR} {P' : Fl → MH → Prop} (t : TmS s PS' ES) (g : ∀ a h, PS' a h → P' a h) : TmS s P' ES := by
  cases s with
  | ok a h => exact g _ _ t
  | exc _ _ _ _ => exact t
  | stuck => exact t
theorem Tm.ex (t : Tm r P NoX) : ∃ a h, r = .ok a h ∧ P a h := by
  cases r with
  | ok a h => exact ⟨a, h, rfl, t⟩
  | exc _ _ _ => exact t.elim
  | stuck => exact t.elim
theorem Tm.of {a : α} {h' : MH} (e : r = .ok a h') (p : P a h') : Tm r P E := by rw [e]; exact p
@[simp] theorem Tm_ite {c : Prop} [Decidable c] {a b : R α} : Tm (if c then a else b) P E ↔ if c then Tm a P E else Tm b P E := by split <;> rfl
@[simp] theorem TmS_ite {c : Prop} [Decidable c] {a b : SR} : TmS (if c then a else b) PS' ES ↔ if c then TmS a PS' ES else TmS b PS' ES := by split <;> rfl
def Nx (I : MS → MH → Prop) : Fl → MH → Prop := fun f h => ∃ δ, f = .next δ ∧ I δ h
@[simp] theorem Nx_next {I : MS → MH → Prop} : Nx I (.next δ) h ↔ I δ h := ⟨fun ⟨_, e, i⟩ => by cases e; exact i, fun i => ⟨_, rfl, i⟩⟩
end
end MM
namespace MM
open PySem PySem.Spec PyProof.Rows L2
mutual
def D.eok : Nat → D → Bool
  | _, .non => true
  | _, .bl _ => true
  | _, .int _ => true
  | _, .str s => PyData.strOk s
  | 0, .tup _ => false
  | n + 1, .tup ds => eokL n ds
  | 0, .rol _ => false
  | n + 1, .rol ds => eokL n ds
  | _, _ => false
def eokL : Nat → List D → Bool
  | _, [] => true
  | n, d :: ds => d.eok n && eokL n ds
end
mutual
theorem toPy_ok : ∀ {d : D} {n : Nat}, d.eok n = true → ∃ p, toPy d = some p ∧ p.canLay0 = true ∧ p.depth ≤ n
  | .non, _, _ => ⟨_, rfl, rfl, Nat.zero_le _⟩
  | .bl _, _, _ => ⟨_, rfl, rfl, Nat.zero_le _⟩
  | .int _, _, _ => ⟨_, rfl, rfl, Nat.zero_le _⟩
  | .str s, n, h => ⟨_, rfl, by unfold D.eok at h; simpa [PyData.canLay0] using h, Nat.zero_le _⟩
  | .tup ds, 0, h => by unfold D.eok at h; cases h
  | .tup ds, n + 1, h => by
    unfold D.eok at h
    obtain ⟨ps, e1, e2, e3⟩ := toPyL_ok h
    refine ⟨.tuple ps, by unfold toPy; rw [e1]; rfl, by simpa [PyData.canLay0] using e2, ?_⟩
    show PyData.depthAll ps + 1 ≤ _
    omega
  | .rol ds, 0, h => by unfold D.eok at h; cases h
  | .rol ds, n + 1, h => by
    unfold D.eok at h
    obtain ⟨ps, e1, e2, e3⟩ := toPyL_ok h
    refine ⟨.list ps, by unfold toPy; rw [e1]; rfl, by simpa [PyData.canLay0] using e2, ?_⟩
    show PyData.depthAll ps + 1 ≤ _
    omega
  | .ref _, _, h => by unfold D.eok at h; cases h
  | .obj _, _, h => by unfold D.eok at h; cases h
  | .ty _, _, h => by unfold D.eok at h; cases h
  | .kon _, _, h => by unfold D.eok at h; cases h
  | .rdc _ _, _, h => by unfold D.eok at h; cases h
  | .xo _ _ _ _, _, h => by unfold D.eok at h; cases h
theorem toPyL_ok : ∀ {ds : List D} {n : Nat}, eokL n ds = true → ∃ ps, toPyL ds = some ps ∧ PyData.canLayAll0 ps = true ∧ PyData.depthAll ps ≤ n
  | [], _, _ => ⟨[], rfl, rfl, Nat.zero_le _⟩
  | d :: ds, n, h => by
    unfold eokL at h
    obtain ⟨h1, h2⟩ := Bool.and_eq_true_iff.mp h
    obtain ⟨p, e1, e2, e3⟩ := toPy_ok h1
    obtain ⟨ps, f1, f2, f3⟩ := toPyL_ok h2
    refine ⟨p :: ps, by unfold toPyL; rw [e1, Option.bind_some, f1]; rfl, by rw [PyData.canLayAll0, e2, f2]; rfl, ?_⟩
    show max (PyData.depth p) (PyData.depthAll ps) ≤ n
    omega
end
mutual
def eqD : D → D → Bool
  | .non, .non => true
  | .bl a, .bl b => a == b
  | .int a, .int b => a == b
  | .bl a, .int b => b == (if a then 1 else 0)
  | .int a, .bl b => a == (if b then 1 else 0)
  | .str a, .str b => a == b
  | .tup a, .tup b => eqDs a b
  | .rol a, .rol b => eqDs a b
  | _, _ => false
def eqDs : List D → List D → Bool
  | [], [] => true
  | a :: as, b :: bs => eqD a b && eqDs as bs
  | _, _ => false
end
theorem toPy_tup {ds : List D} {p : PyData} (h : toPy (.tup ds) = some p) : ∃ ps, toPyL ds = some ps ∧ p = .tuple ps := by
  unfold toPy at h
  obtain ⟨ps, e1, e2⟩ := Option.map_eq_some_iff.mp h
  exact ⟨ps, e1, e2.symm⟩
theorem toPy_rol {ds : List D} {p : PyData} (h : toPy (.rol ds) = some p) : ∃ ps, toPyL ds = some ps ∧ p = .list ps := by
  unfold toPy at h
  obtain ⟨ps, e1, e2⟩ := Option.map_eq_some_iff.mp h
  exact ⟨ps, e1, e2.symm⟩
theorem eqv_flat (d e : D) {p q : PyData} (nt : ∀ a b, d = .tup a → e = .tup b → False) (nr : ∀ a b, d = .rol a → e = .rol b → False) (h1 : toPy d = some p) (h2 : toPy e = some q) : PyData.eqv p q = eqD d e := by
  have sc : ∀ {d : D} {p}, toPy d = some p → (d = .non ∧ p = .none) ∨ (∃ b, d = .bl b ∧ p = .bool b) ∨ (∃ b, d = .int b ∧ p = .int b) ∨ (∃ b, d = .str b ∧ p = .str b) ∨ (∃ a ps, d = .tup a ∧ p = .tuple ps) ∨ ∃ a ps, d = .rol a ∧ p = .list ps := by
    intro d p h
    cases d with
    | tup a => obtain ⟨ps, _, e⟩ := toPy_tup h; exact .inr (.inr (.inr (.inr (.inl ⟨a, ps, rfl, e⟩))))
    | rol a => obtain ⟨ps, _, e⟩ := toPy_rol h; exact .inr (.inr (.inr (.inr (.inr ⟨a, ps, rfl, e⟩))))
    | non => unfold toPy at h; cases h; exact .inl ⟨rfl, rfl⟩
    | bl b => unfold toPy at h; cases h; exact .inr (.inl ⟨b, rfl, rfl⟩)
    | int b => unfold toPy at h; cases h; exact .inr (.inr (.inl ⟨b, rfl, rfl⟩))
    | str b => unfold toPy at h; cases h; exact .inr (.inr (.inr (.inl ⟨b, rfl, rfl⟩)))
    | _ => unfold toPy at h; cases h
  rcases sc h1 with ⟨rfl, rfl⟩ | ⟨a, rfl, rfl⟩ | ⟨a, rfl, rfl⟩ | ⟨a, rfl, rfl⟩ | ⟨a, ps, rfl, rfl⟩ | ⟨a, ps, rfl, rfl⟩ <;>
  rcases sc h2 with ⟨rfl, rfl⟩ | ⟨b, rfl, rfl⟩ | ⟨b, rfl, rfl⟩ | ⟨b, rfl, rfl⟩ | ⟨b, qs, rfl, rfl⟩ | ⟨b, qs, rfl, rfl⟩ <;> first
    | (exact (nt _ _ rfl rfl).elim)
    | (exact (nr _ _ rfl rfl).elim)
    | (unfold PyData.eqv eqD; rfl)
    | (unfold PyData.eqv eqD; exact Bool.beq_comm ..)
    | (unfold PyData.eqv eqD; cases a <;> exact (decide_eq_decide.mpr ⟨fun z => z.symm, fun z => z.symm⟩))
mutual
theorem eqv_is : ∀ (d e : D) {p q : PyData}, toPy d = some p → toPy e = some q → PyData.eqv p q = eqD d e
  | .tup as, .tup bs, p, q, h1, h2 => by
    obtain ⟨ps, e1, rfl⟩ := toPy_tup h1
    obtain ⟨qs, e2, rfl⟩ := toPy_tup h2
    unfold PyData.eqv eqD
    exact eqvs_is as bs e1 e2
  | .rol as, .rol bs, p, q, h1, h2 => by
    obtain ⟨ps, e1, rfl⟩ := toPy_rol h1
    obtain ⟨qs, e2, rfl⟩ := toPy_rol h2
    unfold PyData.eqv eqD
    exact eqvs_is as bs e1 e2
  | .tup as, .non, _, _, h1, h2 => eqv_flat _ _ (fun _ _ _ z => by cases z) (fun _ _ z _ => by cases z) h1 h2
  | .tup as, .bl _, _, _, h1, h2 => eqv_flat _ _ (fun _ _ _ z => by cases z) (fun _ _ z _ => by cases z) h1 h2
  | .tup as, .int _, _, _, h1, h2 => eqv_flat _ _ (fun _ _ _ z => by cases z) (fun _ _ z _ => by cases z) h1 h2
  | .tup as, .str _, _, _, h1, h2 => eqv_flat _ _ (fun _ _ _ z => by cases z) (fun _ _ z _ => by cases z) h1 h2
  | .tup as, .rol _, _, _, h1, h2 => eqv_flat _ _ (fun _ _ _ z => by cases z) (fun _ _ z _ => by cases z) h1 h2
  | .tup as, .ref _, _, _, h1, h2 => eqv_flat _ _ (fun _ _ _ z => by cases z) (fun _ _ z _ => by cases z) h1 h2
  | .tup as, .obj _, _, _, h1, h2 => eqv_flat _ _ (fun _ _ _ z => by cases z) (fun _ _ z _ => by cases z) h1 h2
  | .tup as, .ty _, _, _, h1, h2 => eqv_flat _ _ (fun _ _ _ z => by cases z) (fun _ _ z _ => by cases z) h1 h2
  | .tup as, .kon _, _, _, h1, h2 => eqv_flat _ _ (fun _ _ _ z => by cases z) (fun _ _ z _ => by cases z) h1 h2
  | .tup as, .rdc _ _, _, _, h1, h2 => eqv_flat _ _ (fun _ _ _ z => by cases z) (fun _ _ z _ => by cases z) h1 h2
  | .tup as, .xo _ _ _ _, _, _, h1, h2 => eqv_flat _ _ (fun _ _ _ z => by cases z) (fun _ _ z _ => by cases z) h1 h2
  | .rol as, .non, _, _, h1, h2 => eqv_flat _ _ (fun _ _ z _ => by cases z) (fun _ _ _ z => by cases z) h1 h2
  | .rol as, .bl _, _, _, h1, h2 => eqv_flat _ _ (fun _ _ z _ => by cases z) (fun _ _ _ z => by cases z) h1 h2
  | .rol as, .int _, _, _, h1, h2 => eqv_flat _ _ (fun _ _ z _ => by cases z) (fun _ _ _ z => by cases z) h1 h2
  | .rol as, .str _, _, _, h1, h2 => eqv_flat _ _ (fun _ _ z _ => by cases z) (fun _ _ _ z => by cases z) h1 h2
  | .rol as, .tup _, _, _, h1, h2 => eqv_flat _ _ (fun _ _ z _ => by cases z) (fun _ _ _ z => by cases z) h1 h2
  | .rol as, .ref _, _, _, h1, h2 => eqv_flat _ _ (fun _ _ z _ => by cases z) (fun _ _ _ z => by cases z) h1 h2
  | .rol as, .obj _, _, _, h1, h2 => eqv_flat _ _ (fun _ _ z _ => by cases z) (fun _ _ _ z => by cases z) h1 h2
  | .rol as, .ty _, _, _, h1, h2 => eqv_flat _ _ (fun _ _ z _ => by cases z) (fun _ _ _ z => by cases z) h1 h2
  | .rol as, .kon _, _, _, h1, h2 => eqv_flat _ _ (fun _ _ z _ => by cases z) (fun _ _ _ z => by cases z) h1 h2
  | .rol as, .rdc _ _, _, _, h1, h2 => eqv_flat _ _ (fun _ _ z _ => by cases z) (fun _ _ _ z => by cases z) h1 h2
  | .rol as, .xo _ _ _ _, _, _, h1, h2 => eqv_flat _ _ (fun _ _ z _ => by cases z) (fun _ _ _ z => by cases z) h1 h2
  | .non, _, _, _, h1, h2 => eqv_flat _ _ (fun _ _ z _ => by cases z) (fun _ _ z _ => by cases z) h1 h2
  | .bl _, _, _, _, h1, h2 => eqv_flat _ _ (fun _ _ z _ => by cases z) (fun _ _ z _ => by cases z) h1 h2
  | .int _, _, _, _, h1, h2 => eqv_flat _ _ (fun _ _ z _ => by cases z) (fun _ _ z _ => by cases z) h1 h2
  | .str _, _, _, _, h1, h2 => eqv_flat _ _ (fun _ _ z _ => by cases z) (fun _ _ z _ => by cases z) h1 h2
  | .ref _, _, _, _, h1, h2 => eqv_flat _ _ (fun _ _ z _ => by cases z) (fun _ _ z _ => by cases z) h1 h2
  | .obj _, _, _, _, h1, h2 => eqv_flat _ _ (fun _ _ z _ => by cases z) (fun _ _ z _ => by cases z) h1 h2
  | .ty _, _, _, _, h1, h2 => eqv_flat _ _ (fun _ _ z _ => by cases z) (fun _ _ z _ => by cases z) h1 h2
  | .kon _, _, _, _, h1, h2 => eqv_flat _ _ (fun _ _ z _ => by cases z) (fun _ _ z _ => by cases z) h1 h2
  | .rdc _ _, _, _, _, h1, h2 => eqv_flat _ _ (fun _ _ z _ => by cases z) (fun _ _ z _ => by cases z) h1 h2
  | .xo _ _ _ _, _, _, _, h1, h2 => eqv_flat _ _ (fun _ _ z _ => by cases z) (fun _ _ z _ => by cases z) h1 h2
theorem eqvs_is : ∀ (d e : List D) {p q : List PyData}, toPyL d = some p → toPyL e = some q → PyData.eqvAll p q = eqDs d e
  | [], [], _, _, h1, h2 => by cases h1; cases h2; rfl
  | [], b :: bs, _, _, h1, h2 => by
    cases h1
    unfold toPyL at h2
    obtain ⟨x, e1, e2⟩ := Option.bind_eq_some_iff.mp h2
    obtain ⟨xs, e3, rfl⟩ := Option.map_eq_some_iff.mp e2
    rfl
  | b :: bs, [], _, _, h2, h1 => by
    cases h1
    unfold toPyL at h2
    obtain ⟨x, e1, e2⟩ := Option.bind_eq_some_iff.mp h2
    obtain ⟨xs, e3, rfl⟩ := Option.map_eq_some_iff.mp e2
    rfl
  | a :: as, b :: bs, _, _, h1, h2 => by
    unfold toPyL at h1 h2
    obtain ⟨x, e1, e2⟩ := Option.bind_eq_some_iff.mp h1
    obtain ⟨xs, e3, rfl⟩ := Option.map_eq_some_iff.mp e2
    obtain ⟨y, f1, f2⟩ := Option.bind_eq_some_iff.mp h2
    obtain ⟨ys, f3, rfl⟩ := Option.map_eq_some_iff.mp f2
    unfold PyData.eqvAll eqDs
    rw [eqv_is a b e1 f1, eqvs_is as bs e3 f3]
end
def seeD (d : D) (h : MH) : D := match d with
  | .ref n => (match lst? h n with
    | some ds => .rol ds
    | none => .ref n)
  | d => d
theorem toPyH_see {d : D} {h : MH} (n : Nat) (hn : n ≤ 64) (e : (seeD d h).eok n = true) : ∃ p, toPyH d h = some p ∧ SeqAt.shaped p = true ∧ toPy (seeD d h) = some p := by
  have fin : ∀ {p : PyData}, p.canLay0 = true → p.depth ≤ n → SeqAt.shaped p = true := fun h1 h2 => by
    unfold SeqAt.shaped
    rw [h1, decide_eq_true (by omega)]; rfl
  cases d with
  | ref k =>
    unfold seeD at e ⊢
    cases el : lst? h k with
    | none => simp only [el] at e; unfold D.eok at e; cases e
    | some ds =>
      simp only [el] at e ⊢
      obtain ⟨p, e1, e2, e3⟩ := toPy_ok e
      refine ⟨p, ?_, fin e2 e3, e1⟩
      show (lst? h k).bind _ = _
      rw [el]
      exact e1
  | _ =>
    obtain ⟨p, e1, e2, e3⟩ := toPy_ok e
    exact ⟨p, e1, fin e2 e3, e1⟩
theorem eqS_is {d e : D} {b : Bool} (h : eqS d e = some b) : b = eqD d e := by
  cases d <;> cases e <;> first
    | (cases h; done)
    | (cases h; unfold eqD; rfl)
    | (cases h; unfold eqD; simp)
theorem eqG_is {d e : D} {h : MH} {n m : Nat} (hn : n ≤ 64) (hm : m ≤ 64) (o1 : (seeD d h).eok n = true) (o2 : (seeD e h).eok m = true) : eqG d e h = some (eqD (seeD d h) (seeD e h)) := by
  unfold eqG
  split
  · rename_i b z
    have sd : seeD d h = d := by cases d <;> first | rfl | (cases e <;> cases z)
    have se : seeD e h = e := by cases e <;> first | rfl | (cases d <;> cases z)
    rw [sd, se, eqS_is z]
  · obtain ⟨p, e1, e2, e3⟩ := toPyH_see n hn o1
    obtain ⟨q, f1, f2, f3⟩ := toPyH_see m hm o2
    rw [e1, f1, Option.bind_some, Option.bind_some, e2, f2]
    rw [eqv_is _ _ e3 f3]
    rfl
theorem opEq_is {d e : D} {h : MH} {n m : Nat} (hn : n ≤ 64) (hm : m ≤ 64) (o1 : (seeD d h).eok n = true) (o2 : (seeD e h).eok m = true) : opEq d e h = .ok (.bl (eqD (seeD d h) (seeD e h))) h := by
  unfold opEq
  rw [eqG_is hn hm o1 o2]
mutual
theorem eqD_refl : ∀ {d : D} {n : Nat}, d.eok n = true → eqD d d = true
  | .non, _, _ => rfl
  | .bl _, _, _ => by unfold eqD; simp
  | .int _, _, _ => by unfold eqD; simp
  | .str s, n, h => by unfold eqD; simp
  | .tup ds, 0, h => by unfold D.eok at h; cases h
  | .tup ds, n + 1, h => by unfold D.eok at h; unfold eqD; exact eqDs_refl h
  | .rol ds, 0, h => by unfold D.eok at h; cases h
  | .rol ds, n + 1, h => by unfold D.eok at h; unfold eqD; exact eqDs_refl h
  | .ref _, _, h => by unfold D.eok at h; cases h
  | .obj _, _, h => by unfold D.eok at h; cases h
  | .ty _, _, h => by unfold D.eok at h; cases h
  | .kon _, _, h => by unfold D.eok at h; cases h
  | .rdc _ _, _, h => by unfold D.eok at h; cases h
  | .xo _ _ _ _, _, h => by unfold D.eok at h; cases h
theorem eqDs_refl : ∀ {ds : List D} {n : Nat}, eokL n ds = true → eqDs ds ds = true
  | [], _, _ => rfl
  | d :: ds, n, h => by
    unfold eokL at h
    obtain ⟨h1, h2⟩ := Bool.and_eq_true_iff.mp h
    unfold eqDs
    rw [eqD_refl h1, eqDs_refl h2]; rfl
end
theorem eok_ints (n : Nat) : ∀ l : List Int, eokL n (l.map D.int) = true
  | [] => rfl
  | x :: r => by
    show ((D.int x).eok n && eokL n (r.map D.int)) = true
    rw [eok_ints n r, show (D.int x).eok n = true by unfold D.eok; rfl]; rfl
end MM
namespace MM
open PySem PySem.Spec PyProof.Rows L2
section
variable {prog : Program} {w : World} {K : Type} [DecidableEq K] {knd : KeyKind prog w K} {A : Around} {E : Value → Shared → Prop} {s : Shared}
end
abbrev It := Expr × Expr × Key × V
abbrev itK (it : It) : Key × V := it.2.2
section
variable {X : Cx} {pos : Pos} {pins : List (Addr × Obj)} {σ : L2.St}
end
section
variable {X : Cx} {W : WX} {pos : Pos}
theorem pe_callS0 {CX : CXT} {k : Nat} {f : Addr} {fd : FuncData} {ps : List Str} {sp : Sp} {E : L2.St → XK} {x : Str} {p : Pos} (F : FnOk X.prog X.w X.K X.mg X.base CX k f fd ps sp) (hr : Room k X.A) (hg : Gl X x) (hm : X.mg x = some (.ref f)) (hk : PySem.W.keepIn X.K (.ref f) = true) (hb : Binds X.K fd ps []) (hx : ∀ σ, PassesAt CX X σ (E σ))
    (hdb : (x == ("__debug__" : Str)) = false := by decide) : PE X (.Call (.Name x p) [] [] pos) (tCallS sp E tNil) := by
  refine ⟨fun pins s σ H Q I h => ?_⟩
  refine wpAny_Call_Name_kw (ld_glob I hg hm ?_ hdb)
  exact PySem.W.callWith_K0 I.kIn hk (run_fnS (us := []) F hr hb (hx σ) I .nil h)
theorem pem_call0 {x : Str} {st : Stmt} {f : Addr} {fd : FuncData} {ps : List Str} {k : Nat} {m : List D → MH → R D} {p : Pos} (F : FnM X.prog X.w X.K X.mg X.base k f fd ps m) (DA : DefAt X.K X.mg x st f fd ps) (hr : Room k X.A) (tk : L2N.Takes X W) (hg : Gl X x)
    (hdb : (x == ("__debug__" : Str)) = false := by decide) : PEM X W (.Call (.Name x p) [] [] pos) (mCall m mNil) :=
  PE.imp (pe_callS0 (E := WE W) F hr hg DA.mg' DA.fn.kp DA.bi (fun σ => L2N.passAt tk σ) hdb) fun σ H Q ⟨L, h, δ, r0, s, a⟩ => ⟨L, h, [], r0, .nil, a⟩
end
def fStr3 (ds : List D) (h : MH) : R D := match ds with
  | [.str s] => .ok (.str s) h
  | ds => fStr ds h
theorem call_str3 {X : Cx} : CallR X (.type "str") (fun xs H Q => (∃ i, xs = [.int i] ∧ i.natAbs.log2 < 1920 ∧ Q (.str (toString i)) H) ∨ (∃ a, xs = [.str a] ∧ Q (.str a) H)) := call_str_int.or SkE.call_str_str
theorem fStr3_ok {K : PySem.W.Frag} : CallM K (fun xs H Q => (∃ i, xs = [.int i] ∧ i.natAbs.log2 < 1920 ∧ Q (.str (toString i)) H) ∨ (∃ a, xs = [.str a] ∧ Q (.str a) H)) fStr3 := by
  intro L H h ds vs Q E r w a
  unfold fStr3 at a
  split at a
  · rename_i s
    obtain ⟨v, rfl, q⟩ := w.one
    exact .inr ⟨s, by rw [rep_str_inv q], ans_okE r rep_str a⟩
  · exact .inl (fStr_ok L H h _ vs Q E r w a)
def rCatS (K : PySem.W.Frag) : R2 := fun x y H Q => ∃ l b xs zs, x = .ref l ∧ y = .ref b ∧ SqL K H l xs ∧ SqL K H b zs ∧ xs.length + zs.length ≤ sizeLine ∧ ∀ p, H p = none → Q (.ref p) (upd H p (.lst (xs ++ zs)))
theorem op_catS {X : Cx} : OpR X (binaryOp .Add) (rCatS X.K) := by
  intro pins s σ H x y v u Q I rx ry h
  obtain ⟨l, b, xs, zs, rfl, rfl, hH, hB, hz, q⟩ := h
  cases rx
  cases ry
  obtain ⟨its, r, ⟨o, n, e, c, dn, d⟩, _⟩ := I.list hH
  obtain ⟨its2, r2, ⟨o2, n2, e2, c2, dn2, d2⟩, _⟩ := I.list hB
  obtain ⟨oc, od, odt, osl⟩ := o
  obtain ⟨oc2, od2, odt2, osl2⟩ := o2
  simp only at c dn d c2 dn2 d2
  subst c d c2 d2
  have h1 := r.length
  have h2 := r2.length
  have hsz : its.toArray.size + its2.toArray.size ≤ sizeLine := by rw [List.size_toArray, List.size_toArray]; omega
  refine concat_meets ⟨_, e, rfl⟩ ⟨_, e2, rfl⟩ noFill_list_add seq_list_add PySem.F.slot_list_add PySem.F.entry_list_add (PySem.F.args_list_add_2 _ _) (list_addW l b its.toArray its2.toArray n n2 od od2 osl osl2 hsz) ⟨e, e2, ?_⟩
  have ea : its.toArray ++ its2.toArray = (its ++ its2).toArray := by simp
  rw [ea]
  exact ⟨.ref _, _, I.lnew (t' := s.toks) (r.append r2) (by rw [List.length_append]; omega), rfl, q _ I.fresh⟩
def opAddS (x y : D) (h : MH) : R D := match x, y with
  | .rol a, .rol b => if a.length + b.length ≤ 16777216 then .ok (.rol (a ++ b)) h else .stuck
  | x, y => opAdd x y h
def rAddS (K : PySem.W.Frag) : R2 := fun x y H Q => rAdd3 K x y H Q ∨ rCatS K x y H Q
theorem op_addS {X : Cx} : OpR X (binaryOp .Add) (rAddS X.K) := op_add3.or op_catS
theorem rol_sf {K L H v ds} (q : Rep K L H (.rol ds) v) : ∃ p xs, v = .ref p ∧ SqL K H p xs ∧ RepL K L H ds xs := by
  unfold Rep at q
  obtain ⟨p, xs, rfl, s, w⟩ := q
  exact ⟨p, xs, rfl, s.sq, w⟩
theorem opAddS_ok {K : PySem.W.Frag} : OpM K (rAddS K) opAddS := by
  intro L H h dx dy x y Q E r px py a
  unfold opAddS at a
  split at a
  · rename_i ds es
    split at a
    · rename_i z
      obtain ⟨p, xs, rfl, s, w⟩ := rol_sf px
      obtain ⟨q, ys, rfl, s', w'⟩ := rol_sf py
      exact .inr ⟨p, q, xs, ys, rfl, rfl, s, s', by rw [← w.length, ← w'.length]; exact szl z, fun p hp => ans_of (rep_rol r hp (w.append w')) a⟩
    · exact a.elim
  · exact .inl (opAdd_ok L H h dx dy x y Q E r px py a)
section
variable {h : MH}
@[simp] theorem opAddS_int {i j : Int} : opAddS (.int i) (.int j) h = .ok (.int (i + j)) h := rfl
@[simp] theorem opAddS_str {x y : Str} (e : x.length + y.length ≤ 16777216) : opAddS (.str x) (.str y) h = .ok (.str (x ++ y)) h := if_pos e
@[simp] theorem opAddS_tup {x y : List D} (e : x.length + y.length ≤ 16777216) : opAddS (.tup x) (.tup y) h = .ok (.tup (x ++ y)) h := if_pos e
@[simp] theorem opAddS_rol {x y : List D} (e : x.length + y.length ≤ 16777216) : opAddS (.rol x) (.rol y) h = .ok (.rol (x ++ y)) h := if_pos e
end
end MM
set_option maxHeartbeats 2000000
namespace MZ
open PySem PySem.Spec PyProof.Rows
section
variable {M : Model} {A : Around} {E : Value → Shared → Prop} {s : Shared}
end
section
variable {prog : Program} {w : World} {A : Around} {E : Value → Shared → Prop} {s : Shared} {z TI TO i1 i2 l1 l2 T : Addr} {k1 k2 : Nat} {xs ys : Array Value} {x y : Value} {f1 : Bool}
end
structure ZMade (xs ys : Array Value) (lo : Nat) (h : Heap) (ts : List Addr) : Prop where
  rise : ts.Pairwise (· < ·)
  low : ∀ t ∈ ts, lo ≤ t
  prs : ∀ (j : Nat) (t : Addr), ts[j]? = some t → ∃ x y, xs[j]? = some x ∧ ys[j]? = some y ∧ IsPair h t x y
abbrev lstO (acc : Array Value) (c : Nat) : Obj := { cls := .type "list", dict := none, data := .seq acc c, slots := #[] }
theorem ZMade.up {xs ys : Array Value} {lo : Nat} {h h' : Heap} {ts : List Addr} (g : ZMade xs ys lo h ts) (k : ∀ t ∈ ts, ∀ o, h.get? t = some o → h'.get? t = some o) : ZMade xs ys lo h' ts :=
  ⟨g.rise, g.low, fun j t e => let ⟨x, y, e1, e2, e3⟩ := g.prs j t e; ⟨x, y, e1, e2, k t (List.mem_of_getElem? e) _ e3⟩⟩
theorem ZMade.add {xs ys : Array Value} {lo : Nat} {h : Heap} {ts : List Addr} {t : Addr} {x y : Value} (g : ZMade xs ys lo h ts) (hl : ∀ u ∈ ts, u < t) (hlo : lo ≤ t) (hx : xs[ts.length]? = some x) (hy : ys[ts.length]? = some y) (hp : IsPair h t x y) : ZMade xs ys lo h (ts ++ [t]) := by
  refine ⟨List.pairwise_append.mpr ⟨g.rise, List.pairwise_singleton _ _, fun a ha b hb => by rw [List.mem_singleton.mp hb]; exact hl a ha⟩, fun u hu => ?_, fun j u hj => ?_⟩
  · rcases List.mem_append.mp hu with hu | hu
    · exact g.low u hu
    · rw [List.mem_singleton.mp hu]; exact hlo
  · by_cases hjl : j < ts.length
    · rw [List.getElem?_append_left hjl] at hj
      exact g.prs j u hj
    · have hj2 := (List.getElem?_eq_some_iff.mp hj).1
      have e : j = ts.length := by rw [List.length_append, List.length_singleton] at hj2; omega
      subst e
      have : t = u := by simpa using hj
      subst this
      exact ⟨x, y, hx, hy, hp⟩
section
variable {prog : Program} {w : World} {A : Around} {s : Shared} {R : Result → Shared → Prop} {S z TI TO i1 i2 l1 l2 : Addr} {xs ys : Array Value} {lo n : Nat} {h₁ : Heap} {res : Value}
end
section
variable {prog : Program} {w : World} {A : Around} {E : Value → Shared → Prop} {s : Shared} {R : Result → Shared → Prop} {S z TI TO i1 i2 l1 l2 : Addr} {xs ys : Array Value} {lo n : Nat} {res a b : Value}
end
end MZ
namespace MM
open PySem PySem.Spec PyProof.Rows L2
def opPow (x y : D) (h : MH) : R D := match x, y with
  | .int i, .int j => if 0 ≤ j ∧ j ≤ 1000000 ∧ i.natAbs < 2 ^ 64 then .ok (.int (i ^ j.toNat)) h else .stuck
  | _, _ => .stuck
theorem opPow_ok {K : PySem.W.Frag} : OpM K (rI CPow fun i j => .int (i ^ j.toNat)) opPow := by
  intro L H h dx dy x y Q E r px py a
  unfold opPow at a
  split at a
  · rename_i i j
    split at a
    · rename_i z
      exact ⟨i, j, rep_int_inv px, rep_int_inv py, z, ans_okE r rep_int a⟩
    · exact a.elim
  · exact a.elim
end MM
set_option maxHeartbeats 4000000
namespace ME
open PySem PySem.W PySem.Spec PySem.Calls PyProof.Rows L2 NdefX
section
variable {prog : Program} {w : World} {A : Around} {E : Value → Shared → Prop} {h : Heap} {g : Array GenState} {d : Drawn} {t : Nat} {os : OsState}
end
structure XInit (P : Program) (K : Frag) (C fI : Addr) (qual : Str) (st : Stmt) (cA cd : Addr) (fd : FuncData) : Prop where
  T : OexC K C
  fn : ∃ (dV kV doc pm ct : Value) (an : Option Addr), fd = fnX "__init__" qual (C8.fnArgs st) (C8.fnBody st) (C8.fnScope st) [((Str.ofString "__class__"), cA)] dV kV doc pm an (.ref cd) ct
  lk : ∃ (oc : Value) (od : Option Addr) (osl : Array (Option Value)), K.lookup fI = some ⟨oc, od, .func fd, osl⟩
  code : codeIn K (.ref cd) qual = true
  cel : ∃ (oc : Value) (od : Option Addr) (osl : Array (Option Value)), K.lookup cA = some ⟨oc, od, .cell (some (.ref C)), osl⟩
  cdo : ∃ (oc : Value) (od : Option Addr) (osl : Array (Option Value)) (vs : Array Value) (file : Str) (tf : Tok), K.lookup cd = some ⟨oc, od, .fields vs, osl⟩ ∧ vs[2]? = some (.str file tf) ∧ ((P.main.file : Str) == file) = true
  sup : ks_superIn K C C (Str.ofString "__init__") = some (some (Value.builtin "ValueError.__init__"))
  any : nsIn K cStatics "thirdparty.any" = some none
  ve : subIn K (.ref C) (.type "ValueError") = some true
  own : mroIn K C (.ref C) = some true
  top : (P.main.scope.names.lookup (Str.ofString "super")).isSome = false
section
variable {CX : CXT} {P : Program} {w : World} {K : Frag} {mg : Str → Option Value} {base : Heap} {k : Nat} {C fI cA cd : Addr} {qual : Str} {st : Stmt} {fd : FuncData} {N ps : List Str} {sp : Sp} {e1 : Expr} {es : List Expr} {rest : List Stmt} {p0 p1 p2 p3 p4 : Pos} {self : Str} {ar : Arg}
end
end ME
namespace ME
open PySem PySem.Spec PyProof.Rows L2 NdefX MM
def okV : V → Bool
  | .int i => decide (i.natAbs.log2 < 1920)
  | .str s => decide (s.length ≤ 100000)
  | _ => false
def spI (C : Addr) (fl : List Str) : Sp := fun vs H Q _ => ∃ (a : Addr) (ys : List V), vs = .ref a :: ys ∧ ys.length = fl.length ∧ ys.all okV = true ∧ H a = some (exo a C none) ∧
  ∀ dx, H dx = none → dx ≠ a → Q .non (upd (upd H dx (exd dx ((fl.zip ys).reverse))) a (exo a C (some dx)))
section
variable {X : Cx} {st : Stmt} {σ : L2.St} {H : Hp}
end
end ME
namespace ME
open PySem PySem.Spec PyProof.Rows L2 NdefX MM
section
variable {P : Program} {w : World} {K : PySem.W.Frag} {mg : Str → Option Value} {base : Heap} {k : Nat} {C fI cA cd : Addr} {qual : Str} {st : Stmt} {fd : FuncData} {self p f : Str} {e1 : Expr} {p0 p1 p2 p3 p4 q1 q2 q3 q4 : Pos} {ar : Arg} {CX : CXT}
end
end ME
namespace MM
open PySem PySem.Spec PyProof.Rows L2 ME
theorem RepF.app {K L H} : ∀ {a b : List (Str × D)} {x y : List (Str × V)}, RepF K L H a x → RepF K L H b y → RepF K L H (a ++ b) (x ++ y)
  | [], _, _, _, e, h => by
    have e : _ = [] := e
    rw [e]; exact h
  | d :: a, b, _, y, ⟨v, vs, e, q, w⟩, h => by rw [e]; exact ⟨v, vs ++ y, rfl, q, RepF.app w h⟩
section
variable {X : Cx} {CY : CXT} {x : Str} {C fI : Addr} {k : Nat} {fd : FuncData} {ps : List Str} {sp : Sp} {p pos : Pos} {e : Expr} {es : List Expr} {ta : TA}
end
section
variable {X : Cx} {W : WX} {pos p pos2 : Pos} {e : Expr} {es : List Expr} {mas : MA}
end
end MM
namespace ME
open PySem PySem.Spec PyProof.Rows L2 NdefX MM
structure XAt (P : Program) (w : World) (K : PySem.W.Frag) (mg : Str → Option Value) (c : Str) (fl : List Str) : Prop where
  ex : ∃ (C fI : Addr) (fd : FuncData) (ps : List Str), OexC K C ∧ PySem.W.nsIn K mainGlobals c = some (some (.ref C)) ∧ mg c = some (.ref C) ∧ PySem.W.findIn K (.ref C) "__init__" = some (some (.ref fI)) ∧ PySem.W.typeIn K (.ref fI) = some (.type "function") ∧
    L2.Binds K fd ps [] ∧ ∀ base, FnOk P w K mg base (L2N.CX P w) 1 fI fd ps (spI C fl)
section
variable {X : Cx} {W : WX} {pos p pos2 : Pos} {e : Expr} {es : List Expr} {mas : MA} {n : Nat} {c : Str} {fl : List Str}
end
end ME
namespace MM
open PySem PySem.Spec PyProof.Rows L2
end MM
set_option maxHeartbeats 2000000
namespace MM
open PySem PySem.Spec PyProof.Rows L2
open Classical in
section
variable {K : PySem.W.Frag} {L : TL} {H : Hp}
end
section
variable {X : Cx} {W : WX} {x n : Str} {cE : Value} {i : Nat} {body suite : List Stmt} {b₀ : Stmt} {np pos pos' : Pos} {mb : MSt} {hit : Str → Option Bool} {ms : Addr → Addr → Str → List (Str × D) → MSt}
end
end MM
namespace MM
open PySem PySem.Spec PyProof.Rows L2
section
variable {X : Cx} {W : WX} {a C dd : Addr} {oe : Obj} {pn : List (Addr × Obj)} {e : Expr} {te : TE} {me : ME} {pos : Pos} {n c : Str}
end
end MM
namespace MM
open PySem PySem.Spec PyProof.Rows L2
section
variable {X : Cx} {W : WX} {a D dd Da : Addr} {oe : Obj} {pn : List (Addr × Obj)} {e : Expr} {te : TE} {me : ME} {pos p p2 : Pos} {c2 : Str} {b : Bool}
end
end MM
namespace MM
open PySem PySem.Spec PyProof.Rows L2
def FnMH (P : Program) (w : World) (K : PySem.W.Frag) (mg : Str → Option Value) (base : Heap) (k : Nat) (f : Addr) (fd : FuncData) (ps : List Str) (m : List D → MH → R D) : Prop := L2H.FnH P w K mg base (L2N.CX P w) k f fd ps (spOf K m)
section
variable {P : Program} {w : World} {K : PySem.W.Frag} {mg : Str → Option Value} {base : Heap}
end
section
variable {X : Cx} {W : WX} {pos : Pos} {e : Expr} {es : List Expr} {mas : MA}
end
end MM
namespace MM
open PySem PySem.Spec PyProof.Rows L2
theorem FnMH.mono {P : Program} {w : World} {K : PySem.W.Frag} {mg : Str → Option Value} {base : Heap} {j k : Nat} {f : Addr} {fd : FuncData} {ps : List Str} {m : List D → MH → R D} (F : FnMH P w K mg base j f fd ps m) (h : j ≤ k) : FnMH P w K mg base k f fd ps m :=
  ⟨F.len, fun A outer s H args us vs Q E p hr => F.run A outer s H args us vs Q E p (hr.mono h)⟩
structure XTry (K : PySem.W.Frag) (mg : Str → Option Value) (c : Str) (fl : List Str) (C : Addr) : Prop where
  at' : PySem.W.nsIn K mainGlobals c = some (some (.ref C))
  mg' : mg c = some (.ref C)
  xf : XfC K C
  no : ∀ f ∈ fl, PySem.W.findIn K (.ref C) f = some none
  xc : ExcC K C
  ty : PySem.W.typeIn K (.ref C) = some (.type "type")
  own : PySem.W.subIn K (.ref C) (.ref C) = some true
section
variable {X : Cx} {W : WX} {n c : Str} {fl : List Str} {C : Addr} {i : Nat} {body suite : List Stmt} {b₀ : Stmt} {np pos pos' : Pos} {mb : MSt} {ms : Addr → Addr → List (Str × D) → MSt}
end
end MM
namespace MEn
open PySem PySem.Spec PyProof.Rows L2
structure EnS (x : Str) (t : Tok) (e it : Addr) (i : Nat) (h : Heap) : Prop where
  cnt : ∃ old, IsEnum h e it (i : Int) old
  txt : h.IsStrIter it (strIterType x) x t i
  two : e ≠ it
section
variable {x : Str} {t : Tok} {e it : Addr} {i : Nat} {h h' : Heap}
theorem EnS.both (S : EnS x t e it i h) {p : Addr → Prop} (pe : p e) (pt : p it) : ∀ b ∈ [e, it], p b := fun b hb => by
  cases hb with
  | head => exact pe
  | tail _ hb => cases hb with
    | head => exact pt
    | tail _ hb => cases hb
theorem EnS.objs (S : EnS x t e it i h) : ∀ b ∈ [e, it], ∃ o, h.get? b = some o ∧ ∀ v, o.data ≠ .cell v := by
  obtain ⟨old, q⟩ := S.cnt
  obtain ⟨o, q1, _, q3⟩ := S.txt
  refine S.both ⟨_, q, fun v z => ?_⟩ ⟨o, q1, fun v z => ?_⟩
  · cases z
  · rw [q3] at z; cases z
theorem EnS.old (S : EnS x t e it i h) : ∀ b ∈ [e, it], b < h.objs.size := fun b hb => let ⟨_, q, _⟩ := S.objs b hb; Heap.lt_size q
variable {X : Cx} {pins : List (Addr × Obj)} {σ : L2.St} {H : Hp} {s : Shared} {E : Value → Shared → Prop} {elts : List Expr} {kk : Nat} {tpos : Pos}
theorem EnS.over (S : EnS x t e it i s.heap) (I : Inv X pins σ H s) (hc : X.calm = true) (hf : ∀ b ∈ [e, it], FpOk X pins H b) (hg : x.cps.size ≤ i) :
    wpAny (model X.prog X.w) X.A (pyNext (.ref e)) (fun r s1 => r = none ∧ Inv X pins σ H s1) E s := by
  obtain ⟨old, q⟩ := S.cnt
  have txt := S.txt
  obtain ⟨n0, n1, _, n3, n4, n5⟩ := hf it (.tail _ (.head _))
  have none' : x.cps[i]? = none := Array.getElem?_eq_none hg
  have leave : ∀ (h' : Heap) (y : Addr), Heap.ExtBut it s.heap h' → (∃ o, h'.get? y = some o ∧ o.cls = .type "StopIteration") →
      wpAny (model X.prog X.w) X.A (isInstance (.ref y) (.type "StopIteration") >>= fun c => if c = true then pure (none : Option Value) else throw (Value.ref y)) (fun r s1 => r = none ∧ Inv X pins σ H s1) E { s with heap := h' } := by
    rintro h' y eb ⟨o, z1, z2⟩
    exact wpAny_bind (wpAny_isInstance (T := "StopIteration") ⟨o, z1, z2⟩ isSubtype_stop (wpAny_pure ⟨rfl, I.turned (t' := s.toks) eb n0 n1 n3 n4 n5⟩))
  have ty : s.TypeIs (.ref e) "enumerate" := ⟨_, q, rfl⟩
  unfold pyNext
  refine wpAny_bind (wpAny_attempt (wpAny_callSpecial?_slot ty F.slot_enumerate_next (wpAny_call_entry F.slot_enumerate_next ty F.entry_enumerate_next ?_ (F.args_enumerate_next_1 _))))
  refine wpAny_bind (m := field (.ref e) 2) (wpAny_field q rfl (x := .ref it) rfl ?_)
  unfold strIterType at txt
  split at txt
  · exact wpAny_bind (wpAny_nextOf_ascii_end (I.ok.hd hc) txt none' leave)
  · exact wpAny_bind (wpAny_nextOf_wide_end (I.ok.hd hc) txt none' leave)
end
end MEn
namespace MM
open PySem PySem.Spec PyProof.Rows L2
section
variable {X : Cx} {W : WX} {pos : Pos} {tg a e : Expr} {es : List Expr} {mas : MA}
end
end MM
namespace MM
open PySem PySem.Spec PyProof.Rows L2
def insO (h : MH) (d : D) : Option (Nat × Str × List (Str × D)) := match d with
  | .ref n => (match h[n]? with
    | some (.ins C fs) => some (n, C, fs)
    | _ => none)
  | _ => none
theorem insO_at {h : MH} {d : D} {n C fs} (e : insO h d = some (n, C, fs)) : d = .ref n ∧ h[n]? = some (.ins C fs) := by
  cases d with
  | ref k =>
    unfold insO at e
    simp only at e
    split at e
    · rename_i C' fs' z
      cases e
      exact ⟨rfl, z⟩
    · cases e
  | _ => cases e
@[simp] theorem insO_ref {h : MH} {n C fs} (e : h[n]? = some (.ins C fs)) : insO h (.ref n) = some (n, C, fs) := by unfold insO; simp only [e]
section
variable {K : PySem.W.Frag} {L : TL} {H : Hp} {h : MH}
theorem insO_of {d : D} {v : V} {n C fs} (r : Rel K L H h) (q : Rep K L H d v) (e : insO h d = some (n, C, fs)) :
    ∃ a dx Ca ws, v = .ref a ∧ L[n]? = some (some a) ∧ H a = some (.ins Ca dx ws) ∧ RepF K L H fs ws ∧ PySem.W.nsIn K mainGlobals C = some (some (.ref Ca)) := by
  obtain ⟨rfl, z⟩ := insO_at e
  obtain ⟨a, dx, Ca, ws, e1, e2, w, hC⟩ := r.at' n _ z
  exact ⟨a, dx, Ca, ws, q.ref e1, e1, e2, w, hC⟩
theorem RepF.look : ∀ {fs : List (Str × D)} {ws : List (Str × V)}, RepF K L H fs ws → ∀ f : Str,
    (∀ d, fs.lookup f = some d → ∃ v, ws.lookup f = some v ∧ Rep K L H d v) ∧ (fs.lookup f = none → ws.lookup f = none)
  | [], _, r, f => by cases r; exact ⟨fun d e => (by cases e), fun _ => rfl⟩
  | (g, d0) :: fs, _, ⟨v, vs, e, q, w⟩, f => by
    subst e
    cases hb : f == g with
    | true => exact ⟨fun d e => ⟨v, by simp [List.lookup, hb], by simp [List.lookup, hb] at e; subst e; exact q⟩, fun e => by simp [List.lookup, hb] at e⟩
    | false =>
      have i := RepF.look w f
      exact ⟨fun d e => by simp only [List.lookup, hb] at e ⊢; exact i.1 d e, fun e => by simp only [List.lookup, hb] at e ⊢; exact i.2 e⟩
theorem RepF.len : ∀ {fs : List (Str × D)} {ws : List (Str × V)}, RepF K L H fs ws → fs.length = ws.length
  | [], _, r => by cases r; rfl
  | p :: fs, _, ⟨v, vs, e, q, w⟩ => by subst e; rw [List.length_cons, List.length_cons, RepF.len w]
def putFD (f : Str) (v : D) : List (Str × D) → List (Str × D)
  | [] => [(f, v)]
  | (g, x) :: r => if g = f then (g, v) :: r else (g, x) :: putFD f v r
theorem RepF.put {f : Str} {d : D} {v : V} (q : Rep K L H d v) : ∀ {fs : List (Str × D)} {ws : List (Str × V)}, RepF K L H fs ws → RepF K L H (putFD f d fs) (putF f v ws)
  | [], _, r => by cases r; exact ⟨v, [], rfl, q, rfl⟩
  | (g, d0) :: fs, _, ⟨u, vs, e, q0, w⟩ => by
    subst e
    by_cases hg : g = f
    · rw [show putFD f d ((g, d0) :: fs) = (g, d) :: fs from if_pos hg, show putF f v ((g, u) :: vs) = (g, v) :: vs from if_pos hg]
      exact ⟨v, vs, rfl, q, w⟩
    · rw [show putFD f d ((g, d0) :: fs) = (g, d0) :: putFD f d fs from if_neg hg, show putF f v ((g, u) :: vs) = (g, u) :: putF f v vs from if_neg hg]
      exact ⟨u, _, rfl, q0, RepF.put q w⟩
end
structure ClsT (K : PySem.W.Frag) (C : Str) (a : Addr) (fl : List Str) : Prop where
  at' : PySem.W.nsIn K mainGlobals C = some (some (.ref a))
  cls : Cls K a
  no : ∀ f ∈ fl, NoAttr K a f
def FldT (K : PySem.W.Frag) (f : Str) (cs : List Str) : Prop := ∀ C ∈ cs, ∃ a fl, ClsT K C a fl ∧ f ∈ fl
theorem fldT_nil {K : PySem.W.Frag} {f : Str} : FldT K f [] := fun C h => nomatch h
theorem fldT_cons {K : PySem.W.Frag} {f C : Str} {a : Addr} {fl cs : List Str} (c : ClsT K C a fl) (t : FldT K f cs) (h : f ∈ fl := by decide +kernel) : FldT K f (C :: cs) := fun C' m => by
  rcases List.mem_cons.mp m with e | m
  · subst e; exact ⟨a, fl, c, h⟩
  · exact t C' m
theorem FldT.get {K : PySem.W.Frag} {f C : Str} {cs : List Str} {Ca : Addr} (t : FldT K f cs) (m : C ∈ cs) (hC : PySem.W.nsIn K mainGlobals C = some (some (.ref Ca))) : Cls K Ca ∧ NoAttr K Ca f := by
  obtain ⟨a, fl, c, hf⟩ := t C m
  have e := c.at'
  rw [hC] at e
  cases e
  exact ⟨c.cls, c.no f hf⟩
section
variable {X : Cx} {W : WX} {pos p : Pos} {o e a b : Expr} {es : List Expr} {mo me ma mb : ME} {mas : MA}
def fldG (cs : List Str) (f : Str) (d : D) (h1 : MH) : R D := match insO h1 d with
  | some (_, C, fs) => if C ∈ cs then (match fs.lookup f with
    | some x => .ok x h1
    | none => .stuck) else .stuck
  | none => .stuck
def mFld (cs : List Str) (f : Str) (m : ME) : ME := fun δ h => (m δ h).bnd (fldG cs f)
theorem pem_fld {f : Str} {cs : List Str} (t : FldT X.K f cs) (ho : PEM X W o mo) (hb : attributeBase o f X.env (eval o X.env) = eval o X.env := by rfl) : PEM X W (.Attribute o f pos) (mFld cs f mo) :=
  PE.imp (pe_fld ho hb) fun σ H Q ⟨L, h, δ, r, s, a⟩ => ⟨L, h, δ, r, s, Ans.imp (Ans.bind (rp := Rep X.K) a) fun v H1 ⟨L1, h1, d, x1, r1, p1, a1⟩ => by
    unfold fldG at a1
    cases ei : insO h1 d with
    | none => simp only [ei] at a1; exact a1.elim
    | some q =>
      obtain ⟨n, C, fs⟩ := q
      simp only [ei] at a1
      obtain ⟨ad, dx, Ca, ws, rfl, e1, e2, w, hC⟩ := insO_of r1 p1 ei
      by_cases m : C ∈ cs
      · rw [if_pos m] at a1
        obtain ⟨c1, c2⟩ := t.get m hC
        cases el : fs.lookup f with
        | none => simp only [el] at a1; exact a1.elim
        | some x =>
          simp only [el] at a1
          obtain ⟨u, e3, q⟩ := (w.look f).1 x el
          exact ⟨ad, Ca, dx, ws, u, rfl, e2, c1, c2, e3, ans_okE r1 q a1⟩
      · rw [if_neg m] at a1; exact a1.elim⟩
def setFG (cs : List Str) (f : Str) (d o : D) (h2 : MH) : Option MH := match insO h2 o with
  | some (n, C, fs) => if C ∈ cs ∧ fs.length < 1000 then some (h2.set n (.ins C (putFD f d fs))) else none
  | none => none
def mFldS (cs : List Str) (f : Str) (m mo : ME) : MSt := fun δ h => (m δ h).st δ fun d h1 => (mo δ h1).st δ fun o h2 => match setFG cs f d o h2 with
  | some h3 => .ok (.next δ) h3
  | none => .stuck
theorem ins_write {K : PySem.W.Frag} {L : TL} {H : Hp} {h : MH} {n : Nat} {C f : Str} {fs : List (Str × D)} {ad dx Ca : Addr} {ws : List (Str × V)} {d : D} {v : V} (r : Rel K L H h) (e1 : L[n]? = some (some ad)) (e2 : H ad = some (.ins Ca dx ws)) (w : RepF K L H fs ws)
    (hC : PySem.W.nsIn K mainGlobals C = some (some (.ref Ca))) (q : Rep K L H d v) : Ext L H L (upd H ad (.ins Ca dx (putF f v ws))) ∧ Rel K L (upd H ad (.ins Ca dx (putF f v ws))) (h.set n (.ins C (putFD f d fs))) := by
  have nf : ∀ o u, H ad ≠ some (.frz o u) := fun o u z => by rw [e2] at z; cases z
  exact r.write e1 nf ⟨ad, dx, Ca, _, rfl, upd_same, (w.mono (ext_write e1 nf)).put (q.mono (ext_write e1 nf)), hC⟩
theorem psm_fld {f : Str} {cs : List Str} {p' : Pos} (t : FldT X.K f cs) (ho : PEM X W o mo) (he : PEM X W e me) (hs : swapsWith e (some (.Attribute o f p')) pos.line X.env = pure false := by rfl) : PSM X W (.Assign [.Attribute o f p'] e pos) (mFldS cs f me mo) :=
  PS.imp (ps_fld ho he hs) fun D σ H ⟨L, h, δ, r, s, a⟩ => ⟨L, h, δ, r, s, Ans.imp (AnsS.bind (rp := Rep X.K) s a) fun y H1 ⟨L1, h1, d, x1, r1, p1, s1, a1⟩ => ⟨L1, h1, δ, r1, s1, Ans.imp (AnsS.bind (rp := Rep X.K) s1 a1) fun x H2 ⟨L2, h2, ob, x2, r2, p2, s2, a2⟩ => by
    unfold setFG at a2
    cases ei : insO h2 ob with
    | none => simp only [ei] at a2; exact a2.elim
    | some q =>
      obtain ⟨n, C, fs⟩ := q
      simp only [ei] at a2
      obtain ⟨ad, dx, Ca, ws, rfl, e1, e2, w, hC⟩ := insO_of r2 p2 ei
      by_cases m : C ∈ cs ∧ fs.length < 1000
      · rw [if_pos m] at a2
        obtain ⟨c1, c2⟩ := t.get m.1 hC
        obtain ⟨x3, r3⟩ := ins_write (f := f) r2 e1 e2 w hC (p1.mono x2)
        exact ⟨ad, Ca, dx, ws, rfl, e2, c1, c2, by rw [← w.len]; exact m.2, (a2.mono x3).nx r3 (s2.mono x3)⟩
      · rw [if_neg m] at a2; exact a2.elim⟩⟩
def mFldAug (cs : List Str) (f : Str) (g : D → D → MH → R D) (mo m : ME) : MSt := fun δ h => (mo δ h).st δ fun o h1 => match insO h1 o with
  | some (n, C, fs) => if C ∈ cs then (match fs.lookup f with
    | some x => (m δ h1).st δ fun y h2 => (g x y h2).st δ fun z h3 => (match insO h3 o with
      | some (_, C', fs') => if C' = C ∧ fs'.length < 1000 then .ok (.next δ) (h3.set n (.ins C (putFD f z fs'))) else .stuck
      | none => .stuck)
    | none => .stuck) else .stuck
  | none => .stuck
theorem psm_fldAug {f : Str} {cs : List Str} {op : Operator} {rd : R2} {g : D → D → MH → R D} {tp : Pos} (t : FldT X.K f cs) (hop : InOp X op rd) (hm : OpM X.K rd g) (ho : PEM X W o mo) (he : PEM X W e me) : PSM X W (.AugAssign (.Attribute o f tp) op e pos) (mFldAug cs f g mo me) :=
  PS.imp (ps_fldaug ho he hop) fun D σ H ⟨L, h, δ, r, s, a⟩ => ⟨L, h, δ, r, s, Ans.imp (AnsS.bind (rp := Rep X.K) s a) fun y H1 ⟨L1, h1, ob, x1, r1, p1, s1, a1⟩ => by
    cases ei : insO h1 ob with
    | none => simp only [ei] at a1; exact a1.elim
    | some q =>
      obtain ⟨n, C, fs⟩ := q
      simp only [ei] at a1
      obtain ⟨ad, dx, Ca, ws, rfl, e1, e2, w, hC⟩ := insO_of r1 p1 ei
      by_cases m : C ∈ cs
      · rw [if_pos m] at a1
        obtain ⟨c1, c2⟩ := t.get m hC
        cases el : fs.lookup f with
        | none => simp only [el] at a1; exact a1.elim
        | some x =>
          simp only [el] at a1
          obtain ⟨u, e3, qx⟩ := (w.look f).1 x el
          refine ⟨ad, Ca, dx, ws, u, rfl, e2, c1, c2, e3, L1, h1, δ, r1, s1, Ans.imp (AnsS.bind (rp := Rep X.K) s1 a1) fun y H2 ⟨L2, h2, dy, x2, r2, p2, s2, a2⟩ => ?_⟩
          refine hm L2 H2 h2 x dy u y _ _ r2 (qx.mono x2) p2 (Ans.imp (AnsS.bind (rp := Rep X.K) s2 a2) fun z H3 ⟨L3, h3, dz, x3, r3, p3, s3, a3⟩ => ?_)
          cases ej : insO h3 ob with
          | none => simp only [ej] at a3; exact a3.elim
          | some q3 =>
            obtain ⟨n', C', fs'⟩ := q3
            simp only [ej] at a3
            by_cases m2 : C' = C ∧ fs'.length < 1000
            · rw [if_pos m2] at a3
              obtain ⟨rfl, m3⟩ := m2
              obtain ⟨eo, _⟩ := insO_at ei
              obtain ⟨eo', _⟩ := insO_at ej
              rw [eo] at eo'
              cases eo'
              obtain ⟨ad', dx', Ca', ws', ev, f1, f2, w', hC'⟩ := insO_of r3 ((p1.mono x2).mono x3) ej
              cases ev
              rw [hC] at hC'
              cases hC'
              obtain ⟨x4, r4⟩ := ins_write (f := f) r3 f1 f2 w' hC p3
              exact ⟨dx', ws', f2, by rw [← w'.len]; exact m3, (a3.mono x4).nx r4 (s3.mono x4)⟩
            · rw [if_neg m2] at a3; exact a3.elim
      · rw [if_neg m] at a1; exact a1.elim⟩
end
end MM
namespace MM
open PySem PySem.Spec PyProof.Rows L2
structure MthAt (K : PySem.W.Frag) (Ca : Addr) (x qn : Str) (st : Stmt) (f : Addr) (fd : FuncData) (ps : List Str) : Prop where
  fn : Fun K x qn st f fd
  me : Meth K Ca x f
  bi : Binds K fd ps []
section
variable {X : Cx} {W : WX} {pos p apos : Pos} {o e a b : Expr} {es : List Expr} {mo me ma mb : ME} {mas : MA} {k : Nat} {f Ca : Addr} {fd : FuncData} {ps : List Str} {sp : Sp} {E : L2.St → XK} {ta : TE} {t : TA} {m x : Str}
def tMethS (C : Addr) (m : Str) (sp : Sp) (E : L2.St → XK) (ta : TE) (t : TA) : TE := fun σ H Q => ta σ H fun x H1 => ∃ a dx fs, x = .ref a ∧ H1 a = some (.ins C dx fs) ∧ fs.lookup m = none ∧ t σ H1 fun vs H2 => sp (x :: vs) H2 Q (E σ)
theorem pe_methS {CX : CXT} {pl : Sem Bool} (he : PE X o ta) (c : Cls X.K Ca) (hm : Meth X.K Ca m f) (F : FnOk X.prog X.w X.K X.mg X.base CX k f fd ps sp) (hr : Room k X.A) (hb : Binds X.K fd ps []) (hx : ∀ σ, PassesAt CX X σ (E σ)) (ha : PA X (e :: es) t)
    (hst : starEach (e :: es) X.env = (false, eval e X.env) :: starEach es X.env := by rfl) (hpl : (backTo pos (starEach es X.env)).any (·.1) = false := by rfl)
    (ht : eval (.Call (.Attribute o m apos) (e :: es) [] pos) X.env = (do let ov ← eval o X.env; standAt apos.atName; let (g, fst) ← holding [ov] (getMethod ov m pl); callWith pos g fst (backTo pos (starEach (e :: es) X.env)) (backToKw pos (keywordEach [] X.env))) := by rfl) :
    PE X (.Call (.Attribute o m apos) (e :: es) [] pos) (tMethS Ca m sp E ta t) := ⟨fun pins s σ H Q I h =>
  PySem.W.methodCall_KW (pl := pl) (thn (he.run pins s σ H _ I h) fun u s1 ⟨x, H1, I1, rx, a, dx, fs, ex, ea, l, q⟩ => by
    subst ex
    obtain rfl : u = Value.ref a := rx
    exact getmeth_ok I1 ea c hm l (PySem.W.callWith_K (first := [.ref a]) (h₀ := X.base) I.ok.mod.kin hm.kp (thn (ha.run pos pins s1 σ H1 _ I1 q) fun us s2 ⟨vs, H2, I2, r, q2⟩ => ⟨I2.kIn, run_fnS (us := .ref a :: us) (vs := .ref a :: vs) F hr hb (hx σ) I2 (.cons rfl r) q2⟩) hst hpl)) ht⟩
theorem pe_methS0 {CX : CXT} {pl : Sem Bool} (he : PE X o ta) (c : Cls X.K Ca) (hm : Meth X.K Ca m f) (F : FnOk X.prog X.w X.K X.mg X.base CX k f fd ps sp) (hr : Room k X.A) (hb : Binds X.K fd ps []) (hx : ∀ σ, PassesAt CX X σ (E σ))
    (ht : eval (.Call (.Attribute o m apos) [] [] pos) X.env = (do let ov ← eval o X.env; standAt apos.atName; let (g, fst) ← holding [ov] (getMethod ov m pl); callWith pos g fst (backTo pos (starEach [] X.env)) (backToKw pos (keywordEach [] X.env))) := by rfl) :
    PE X (.Call (.Attribute o m apos) [] [] pos) (tMethS Ca m sp E ta tNil) := ⟨fun pins s σ H Q I h =>
  PySem.W.methodCall_KW (pl := pl) (thn (he.run pins s σ H _ I h) fun u s1 ⟨x, H1, I1, rx, a, dx, fs, ex, ea, l, q⟩ => by
    subst ex
    obtain rfl : u = Value.ref a := rx
    exact getmeth_ok I1 ea c hm l (PySem.W.callWith_K0 (first := [.ref a]) I1.kIn hm.kp (run_fnS (us := [.ref a]) (vs := [.ref a]) F hr hb (hx σ) I1 (.cons rfl .nil) q))) ht⟩
def isI (C m : Str) (d : D) (h : MH) : Bool := match insO h d with
  | some (_, C', fs) => decide (C' = C ∧ fs.lookup m = none)
  | none => false
theorem isI_inv {C m : Str} {d : D} {h : MH} (e : isI C m d h = true) : ∃ n fs, insO h d = some (n, C, fs) ∧ fs.lookup m = none := by
  unfold isI at e
  split at e
  · rename_i n C' fs ei
    obtain ⟨rfl, z⟩ := of_decide_eq_true e
    exact ⟨n, fs, ei, z⟩
  · cases e
def mMeth (C m : Str) (g : List D → MH → R D) (mo : ME) (ms : MA) : ME := fun δ h => (mo δ h).bnd fun d h1 => if isI C m d h1 = true then (ms δ h1).bnd fun ds h2 => g (d :: ds) h2 else .stuck
theorem tMeth_of {C m : Str} {fl : List Str} {g : List D → MH → R D} (c : ClsT X.K C Ca fl) {σ : L2.St} {H : Hp} {Q : VK} (t : tE X.K W (mMeth C m g mo mas) σ H Q) : tMethS Ca m (spOf X.K g) (WE W) (tE X.K W mo) (tA X.K W mas) σ H Q := by
  obtain ⟨L, h, δ, r, s, a⟩ := t
  refine ⟨L, h, δ, r, s, Ans.imp (Ans.bind (rp := Rep X.K) a) fun v H1 ⟨L1, h1, d, x1, r1, p1, a1⟩ => ?_⟩
  by_cases z : isI C m d h1 = true
  · rw [if_pos z] at a1
    obtain ⟨n, fs, ei, z⟩ := isI_inv z
    obtain ⟨ad, dx, Ca', ws, rfl, e1, e2, w, hC⟩ := insO_of r1 p1 ei
    have e := c.at'
    rw [hC] at e
    cases e
    exact ⟨ad, dx, ws, rfl, e2, (w.look m).2 z, L1, h1, δ, r1, s.mono x1, Ans.imp (Ans.bind (rp := RepL X.K) a1) fun vs H2 ⟨L2, h2, ds, x2, r2, p2, a2⟩ => ⟨L2, h2, d :: ds, r2, .cons (p1.mono x2) p2, a2⟩⟩
  · rw [if_neg z] at a1; exact a1.elim
theorem pem_meth {C m qn : Str} {fl : List Str} {st : Stmt} {g : List D → MH → R D} (c : ClsT X.K C Ca fl) (F : FnM X.prog X.w X.K X.mg X.base k f fd ps g) (DA : MthAt X.K Ca m qn st f fd ps) (hr : Room k X.A) (tk : L2N.Takes X W) (ho : PEM X W o mo) (ha : PAM X W (e :: es) mas)
    (hst : starEach (e :: es) X.env = (false, eval e X.env) :: starEach es X.env := by rfl) (hpl : (backTo pos (starEach es X.env)).any (·.1) = false := by rfl)
    {pl : Sem Bool} (ht : eval (.Call (.Attribute o m apos) (e :: es) [] pos) X.env = (do let ov ← eval o X.env; standAt apos.atName; let (g, fst) ← holding [ov] (getMethod ov m pl); callWith pos g fst (backTo pos (starEach (e :: es) X.env)) (backToKw pos (keywordEach [] X.env))) := by rfl) :
    PEM X W (.Call (.Attribute o m apos) (e :: es) [] pos) (mMeth C m g mo mas) :=
  PE.imp (pe_methS (E := WE W) ho c.cls DA.me F hr DA.bi (fun σ => L2N.passAt tk σ) ha hst hpl ht) fun _ _ _ t => tMeth_of c t
theorem pem_meth0 {C m qn : Str} {fl : List Str} {st : Stmt} {g : List D → MH → R D} (c : ClsT X.K C Ca fl) (F : FnM X.prog X.w X.K X.mg X.base k f fd ps g) (DA : MthAt X.K Ca m qn st f fd ps) (hr : Room k X.A) (tk : L2N.Takes X W) (ho : PEM X W o mo)
    {pl : Sem Bool} (ht : eval (.Call (.Attribute o m apos) [] [] pos) X.env = (do let ov ← eval o X.env; standAt apos.atName; let (g, fst) ← holding [ov] (getMethod ov m pl); callWith pos g fst (backTo pos (starEach [] X.env)) (backToKw pos (keywordEach [] X.env))) := by rfl) :
    PEM X W (.Call (.Attribute o m apos) [] [] pos) (mMeth C m g mo mNil) :=
  PE.imp (pe_methS0 (E := WE W) ho c.cls DA.me F hr DA.bi (fun σ => L2N.passAt tk σ) ht) fun σ H Q t => by
    obtain ⟨L, h, δ, r, s, a⟩ := t
    refine ⟨L, h, δ, r, s, Ans.imp (Ans.bind (rp := Rep X.K) a) fun v H1 ⟨L1, h1, d, x1, r1, p1, a1⟩ => ?_⟩
    by_cases z : isI C m d h1 = true
    · rw [if_pos z] at a1
      obtain ⟨n, fs, ei, z⟩ := isI_inv z
      obtain ⟨ad, dx, Ca', ws, rfl, e1, e2, w, hC⟩ := insO_of r1 p1 ei
      have e := c.at'
      rw [hC] at e
      cases e
      exact ⟨ad, dx, ws, rfl, e2, (w.look m).2 z, L1, h1, [d], r1, .cons p1 .nil, a1⟩
    · rw [if_neg z] at a1; exact a1.elim
def tMakeS (C : Addr) (sp : Sp) (E : L2.St → XK) (t : TA) : TE := fun σ H Q => t σ H fun vs H1 => ∀ x dx, H1 x = none → H1 dx = none → dx ≠ x →
  sp (.ref x :: vs) (upd (upd H1 dx (.own x)) x (.ins C dx [])) (fun v H2 => v = .non ∧ Q (.ref x) H2) (E σ)
theorem run_makeS {CX : CXT} {σ : L2.St} {pins : List (Addr × Obj)} {H : Hp} {s : Shared} {Q : VK} {us : List Value} {vs : List V} (M : Mk X.K Ca f) (F : FnOk X.prog X.w X.K X.mg X.base CX k f fd ps sp) (hr : Room (k + 1) X.A) (hb : Binds X.K fd ps [])
    (hx : PassesAt CX X σ (E σ)) (I : Inv X pins σ H s) (r : Vals vs us) (h : ∀ x dx, H x = none → H dx = none → dx ≠ x → sp (.ref x :: vs) (upd (upd H dx (.own x)) x (.ins Ca dx [])) (fun v H2 => v = .non ∧ Q (.ref x) H2) (E σ)) :
    wpAny (model X.prog X.w) X.A (call (.ref Ca) us) (EP X pins σ Q) X.xe s := by
  have hq := h (s.heap.objs.size + 1) s.heap.objs.size (I.hok.fresh (Nat.le_succ _)) (I.hok.fresh (Nat.le_refl _)) (Nat.ne_of_lt (Nat.lt_succ_self _))
  have I2 := Inv.made (C := Ca) I
  have r2 : Vals (V.ref (s.heap.objs.size + 1) :: vs) (Value.ref (s.heap.objs.size + 1) :: us) := .cons rfl r
  have hl : (Value.ref (s.heap.objs.size + 1) :: us).length = ps.length := by rw [← r2.length]; exact F.len _ _ _ _ hq
  have bd := hb _ (Value.ref (s.heap.objs.size + 1) :: us) I2.kIn (by rw [List.append_nil]; exact hl)
  rw [List.append_nil] at bd
  refine wpAny_call (make_map (f := f) I.kIn M.makes M.init (beq_iff_eq.mp M.fn) (codeAny_mono (F.run _ X.stack _ _ ⟨Value.ref (s.heap.objs.size + 1) :: us, []⟩ (Value.ref (s.heap.objs.size + 1) :: us) _ _ (E σ) (hr.make Ca us []) (I2.env0.make Ca us []) bd r2 hq) fun r s' hq' => ?_))
  cases r with
  | error e => exact hx pins _ _ e s' I2 hq'
  | ok fl =>
    cases fl with
    | ret u =>
      obtain ⟨v, H', I3, rv, ev, q3⟩ := I2.after hq'
      subst ev
      exact ⟨rv, V.ref (s.heap.objs.size + 1), H', I3, rfl, q3⟩
    | _ => exact False.elim hq'
theorem pe_makeS {CX : CXT} (M : Mk X.K Ca f) (F : FnOk X.prog X.w X.K X.mg X.base CX k f fd ps sp) (hr : Room (k + 1) X.A) (hg : Gl X x) (hm : X.mg x = some (.ref Ca)) (hb : Binds X.K fd ps []) (hx : ∀ σ, PassesAt CX X σ (E σ)) (ha : PA X (e :: es) t)
    (hdb : (x == ("__debug__" : Str)) = false := by decide) (he : starEach (e :: es) X.env = (false, eval e X.env) :: starEach es X.env := by rfl) (hpl : (backTo pos (starEach es X.env)).any (·.1) = false := by rfl) : PE X (.Call (.Name x p) (e :: es) [] pos) (tMakeS Ca sp E t) :=
  ⟨fun pins s σ H Q I h => wpAny_Call_Name_kw (ld_glob I hg hm (PySem.W.callWith_K (h₀ := X.base) I.ok.mod.kin M.kp (thn (ha.run pos pins s σ H _ I h) fun us s1 ⟨vs, H1, I1, r, q⟩ => ⟨I1.kIn, run_makeS M F hr hb (hx σ) I1 r q⟩) he hpl) hdb)⟩
def mkD (C : Str) (g : List D → MH → R D) (ds : List D) (h : MH) : R D := (g (.ref h.length :: ds) (h ++ [.ins C []])).bnd fun d h2 => match d with
  | .non => .ok (.ref h.length) h2
  | _ => .stuck
def mMake (C : Str) (g : List D → MH → R D) (ms : MA) : ME := fun δ h => (ms δ h).bnd fun ds h1 => mkD C g ds h1
theorem mk_of {K : PySem.W.Frag} {C : Str} {fl : List Str} {g : List D → MH → R D} (c : ClsT K C Ca fl) {L : TL} {H : Hp} {h : MH} {ds : List D} {vs : List V} {Q : VK} {E : XK} (r : Rel K L H h) (w : RepL K L H ds vs) (a : Ans K (Rep K) L H (mkD C g ds h) Q E)
    {x dx : Addr} (hx : H x = none) (hd : H dx = none) (ne : dx ≠ x) : spOf K g (.ref x :: vs) (upd (upd H dx (.own x)) x (.ins Ca dx [])) (fun v H2 => v = .non ∧ Q (.ref x) H2) E := by
  obtain ⟨x1, r1⟩ := r.fresh (o := .own x) hd
  have hx1 : upd H dx (.own x) x = none := by rw [upd_ne ne.symm]; exact hx
  obtain ⟨x2, r2⟩ := r1.alloc (m := .ins C []) (o := .ins Ca dx []) hx1 ⟨x, dx, Ca, [], rfl, upd_same, rfl, c.at'⟩
  have at0 : (L ++ [some x])[h.length]? = some (some x) := by rw [getElem?_snoc, if_pos r.len.symm]
  refine ⟨_, _, .ref h.length :: ds, r2, .cons ?_ (w.mono (x1.trans x2)), ?_⟩
  · unfold Rep
    exact ⟨x, rfl, .inl at0⟩
  · refine Ans.imp (Ans.bind (rp := Rep K) (rp2 := Rep K) (Ans.mono (x1.trans x2) a)) fun v H2 ⟨L2, h2, d, x3, r3, p3, a3⟩ => ?_
    cases d with
    | non =>
      refine ⟨by unfold Rep at p3; exact p3, ans_okE r3 ?_ a3⟩
      unfold Rep
      refine ⟨x, rfl, ?_⟩
      exact x3.live _ _ at0
    | _ => exact a3.elim
theorem pem_make {C x qn : Str} {fl : List Str} {st : Stmt} {g : List D → MH → R D} (c : ClsT X.K C Ca fl) (M : Mk X.K Ca f) (F : FnM X.prog X.w X.K X.mg X.base k f fd ps g) (bi : Binds X.K fd ps []) (hr : Room (k + 1) X.A) (tk : L2N.Takes X W) (hg : Gl X x) (hm : X.mg x = some (.ref Ca)) (ha : PAM X W (e :: es) mas)
    (hdb : (x == ("__debug__" : Str)) = false := by decide) (he : starEach (e :: es) X.env = (false, eval e X.env) :: starEach es X.env := by rfl) (hpl : (backTo pos (starEach es X.env)).any (·.1) = false := by rfl) : PEM X W (.Call (.Name x p) (e :: es) [] pos) (mMake C g mas) :=
  PE.imp (pe_makeS (E := WE W) M F hr hg hm bi (fun σ => L2N.passAt tk σ) ha hdb he hpl) fun σ H Q ⟨L, h, δ, r, s, a⟩ => ⟨L, h, δ, r, s, Ans.imp (Ans.bind (rp := RepL X.K) a) fun vs H1 ⟨L1, h1, ds, x1, r1, p1, a1⟩ x dx nx nd ne => mk_of c r1 p1 a1 nx nd ne⟩
def isCG (C : Str) (d : D) (h1 : MH) : R D := match insO h1 d with
  | some (_, C', _) => if C' = C then .ok (.bl true) h1 else .stuck
  | none => .stuck
def mIsC (C : Str) (m : ME) : ME := fun δ h => (m δ h).bnd (isCG C)
structure OpAt (K : PySem.W.Frag) (Ca : Addr) (op : Operator) (f : Addr) : Prop where
  sf : PySem.W.selfFirst K Ca = true
  at' : PySem.W.findIn K (.ref Ca) (PySem.dunder op.info.2) = some (some (.ref f))
  fn : PySem.W.isFn K (.ref f) = true
end
section
variable {δ : MS} {h : MH} {m mo : ME} {ms : MA} {cs : List Str} {f C : Str} {g : List D → MH → R D} {n : Nat} {fs : List (Str × D)} {x d : D}
@[simp] theorem mFld_eq : mFld cs f m δ h = (m δ h).bnd (fldG cs f) := rfl
@[simp] theorem mFldS_eq : mFldS cs f m mo δ h = (m δ h).st δ fun d h1 => (mo δ h1).st δ fun o h2 => match setFG cs f d o h2 with | some h3 => .ok (.next δ) h3 | none => .stuck := rfl
@[simp] theorem mMeth_eq : mMeth C f g mo ms δ h = (mo δ h).bnd fun d h1 => if isI C f d h1 = true then (ms δ h1).bnd fun ds h2 => g (d :: ds) h2 else .stuck := rfl
@[simp] theorem mMake_eq : mMake C g ms δ h = (ms δ h).bnd fun ds h1 => mkD C g ds h1 := rfl
@[simp] theorem mIsC_eq : mIsC C m δ h = (m δ h).bnd (isCG C) := rfl
end
end MM
namespace MM
open PySem PySem.Spec PyProof.Rows L2
theorem cut_mid (l : List Nat) {i j : Nat} (hij : i ≤ j) : cutS (tx l) (some (i : Int)) (some (j : Int)) = tx ((l.drop i).take (j - i)) := by
  unfold cutS
  rw [HT.sIx_nat, HT.sIx_nat, tx_len, tl_tx]
  show tx _ = tx _
  congr 1
  rcases Nat.le_total i l.length with q | q
  · rw [Nat.min_eq_left q]
    rcases Nat.le_total j l.length with q2 | q2
    · rw [Nat.min_eq_left q2]
    · rw [Nat.min_eq_right q2, List.take_of_length_le (by simp), List.take_of_length_le (by simp; omega)]
  · rw [Nat.min_eq_right q, List.drop_eq_nil_of_le q, List.drop_eq_nil_of_le (Nat.le_refl _), List.take_nil, List.take_nil]
section
variable {PS' : Fl → MH → Prop} {ES : XPS}
end
end MM
set_option maxHeartbeats 2000000
namespace MSl
open PySem PySem.Spec PyProof.Rows L2
section
variable {prog : Program} {w : World} {A : Around} {E : Value → Shared → Prop} {s : Shared}
end
section
variable {X : Cx}
end
end MSl
namespace MM
open PySem PySem.Spec PyProof.Rows L2
section
variable {X : Cx} {W : WX} {pos : Pos} {e o i : Expr} {me mo mi : ME} {K : PySem.W.Frag}
def opRep (x y : D) (h : MH) : R D := match x, y with
  | .ref n, .int k => (match lst? h n with
    | some ds => if -(2 ^ 63 : Int) ≤ k ∧ k < 2 ^ 63 ∧ ds.length * k.toNat ≤ 16777216 then .ok (.ref h.length) (h ++ [.lst (List.replicate k.toNat ds).flatten]) else .stuck
    | none => .stuck)
  | _, _ => .stuck
theorem RepL.rep {L H} {ds : List D} {vs : List V} (w : RepL K L H ds vs) : ∀ k : Nat, RepL K L H (List.replicate k ds).flatten (List.replicate k vs).flatten
  | 0 => .nil
  | k + 1 => by
    rw [List.replicate_succ, List.replicate_succ, List.flatten_cons, List.flatten_cons]
    exact w.append (RepL.rep w k)
theorem opRep_ok : OpM K rRep opRep := by
  intro L H h dx dy x y Q E r px py a
  unfold opRep at a
  split at a
  · rename_i n k
    cases z : lst? h n with
    | none => simp only [z] at a; exact a.elim
    | some ds =>
      simp only [z] at a
      by_cases hz : -(2 ^ 63 : Int) ≤ k ∧ k < 2 ^ 63 ∧ ds.length * k.toNat ≤ 16777216
      · rw [if_pos hz] at a
        obtain ⟨p, xs, e1, e2, w⟩ := r.lst (lst?_at z)
        refine ⟨p, k, xs, px.ref e1, rep_int_inv py, e2, hz.1, hz.2.1, by rw [← w.length]; exact szl hz.2.2, fun q hq => ?_⟩
        obtain ⟨x1, r1⟩ := r.alloc (m := .lst (List.replicate k.toNat ds).flatten) (o := .lst (List.replicate k.toNat xs).flatten) hq ⟨q, _, rfl, upd_same, (RepL.rep w _).mono (ext_alloc hq)⟩
        refine ans_of ⟨x1, r1, ?_⟩ a
        unfold Rep
        exact ⟨q, rfl, .inl (by rw [getElem?_snoc, if_pos r.len.symm])⟩
      · rw [if_neg hz] at a; exact a.elim
  · exact a.elim
end
end MM
set_option maxHeartbeats 2000000
namespace MM
open PySem PySem.Spec PyProof.Rows L2
section
variable {X : Cx} {W : WX} {pos p apos : Pos} {o e a b : Expr} {es : List Expr} {mo me ma mb : ME} {mas : MA} {k : Nat} {f Ca : Addr} {fd : FuncData} {ps : List Str} {sp : Sp} {ta : TE} {t : TA} {x : Str}
structure SpcAt (K : PySem.W.Frag) (Ca : Addr) (nm : Str) (f : Addr) : Prop where
  at' : PySem.W.findIn K (.ref Ca) nm = some (some (.ref f))
  fn : PySem.W.isFn K (.ref f) = true
def mProp (C : Str) (g : List D → MH → R D) (mo : ME) : ME := fun δ h => (mo δ h).bnd fun d h1 => match insO h1 d with
  | some (_, C1, _) => if C1 = C then (g [d] h1).nx else .stuck
  | none => .stuck
def fLRg (x y : D) (h : MH) : R D := match x, y with
  | .int i, .int j => if (0 ≤ i ∧ i ≤ 16777216) ∧ 0 ≤ j ∧ j ≤ 16777216 then .ok (.rol ((List.range (j - i).toNat).map fun (n : Nat) => D.int (i + n))) h else .stuck
  | _, _ => .stuck
def mLRg (ma mb : ME) : ME := fun δ h => (ma δ h).bnd fun x h1 => (mb δ h1).bnd fun y h2 => fLRg x y h2
end
structure PrpAt (K : PySem.W.Frag) (x qn : Str) (st : Stmt) (f : Addr) (fd : FuncData) (ps : List Str) : Prop where
  fn : Fun K x qn st f fd
  bi : Binds K fd ps []
section
variable {δ : MS} {h h' : MH} {m mo a b : ME} {C : Str} {g : List D → MH → R D} {n k : Nat} {fs : List (Str × D)} {ds es : List D} {x d : D}
@[simp] theorem mProp_eq : mProp C g mo δ h = (mo δ h).bnd fun d h1 => match insO h1 d with | some (_, C1, _) => if C1 = C then (g [d] h1).nx else .stuck | none => .stuck := rfl
@[simp] theorem mLRg_eq : mLRg a b δ h = (a δ h).bnd fun x h1 => (b δ h1).bnd fun y h2 => fLRg x y h2 := rfl
@[simp] theorem nx_ok {α : Type} {y : α} : (R.ok y h : R α).nx = .ok y h := rfl
end
end MM
namespace L2
open PySem PySem.Spec PyProof.Rows GenW
section
variable {X : Cx}
end
end L2
namespace L2
open PySem PySem.Spec PyProof.Rows
variable {X : Cx}
end L2
namespace MM
open PySem PySem.Spec PyProof.Rows L2
end MM
namespace MM
open PySem PySem.Spec PyProof.Rows L2
theorem _root_.L2H.RoomH.units {k : Nat} {A : Around} (r : L2H.RoomH k A) : A.units + 64 < cLine := Nat.lt_of_le_of_lt (Nat.add_le_add_left (by omega) _) (Nat.lt_of_le_of_lt (Nat.le_of_eq (Nat.add_assoc A.units (16 * k) 200).symm) r.un)
abbrev MGd := List D → MH → R Src
section
variable {P : Program} {w : World} {K : PySem.W.Frag} {mg : Str → Option Value} {base : Heap}
end
open Classical in
section
variable {X : Cx} {W : WX} {o : Expr} {mo : ME} {k : Nat} {f Ca : Addr} {fd : FuncData} {C m qn nm : Str} {fl : List Str} {st : Stmt} {g : MGd} {p pos pos' apos : Pos}
end
end MM
set_option maxHeartbeats 2000000
namespace L2
open PySem PySem.Spec PyProof.Rows GenW
section
variable {prog : Program} {w : World} {A : Around} {E : Value → Shared → Prop} {s : Shared}
end
end L2
set_option maxHeartbeats 2000000
namespace L2
open PySem PySem.Spec PyProof.Rows GenW
section
variable {P : Program} {w : World} {K : PySem.W.Frag} {mg : Str → Option Value} {base : Heap}
end
section
variable {P : Program} {w : World} {K : PySem.W.Frag} {mg : Str → Option Value} {base : Heap} {N : List Str} {qual : Str} {scope : Scope} {f : Addr} {cd : Value} {A : Around} {outer : List Env} {s s1 s2 : Shared} {H : Hp} {E : XK} {pn pins : List (Addr × Obj)} {σ : L2.St}
end
end L2
set_option maxHeartbeats 2000000
namespace MM
open PySem PySem.Spec PyProof.Rows L2 GenW
section
variable {X : Cx} {k : Nat} {C fi fn : Addr} {fdI fdN : FuncData} {qi qn fl : Str} {stI stN : Stmt} {p1 p2 p3 p4 q1 q2 q3 q4 q5 : Pos}
end
end MM
namespace MM
open PySem PySem.Spec PyProof.Rows L2
section
variable {X : Cx} {W : WX} {a D dd : Addr} {oe : Obj} {pn : List (Addr × Obj)} {e : Expr} {te : TE} {me : ME} {pos p p2 : Pos} {c2 : Str} {b : Bool} {T : String}
end
end MM
namespace MM
open PySem PySem.Spec PyProof.Rows L2
structure XCl (K : PySem.W.Frag) (mg : Str → Option Value) (B : Str) (aB C : Addr) : Prop where
  mg' : mg B = some (.ref aB)
  exB : PySem.W.subIn K (.ref aB) (.type "BaseException") = some true
  hdB : PySem.W.hasDictIn K aB = true
  tyB : PySem.W.typeIn K (.ref aB) = some (.type "type")
  up : PySem.W.subIn K (.ref C) (.ref aB) = some true
section
variable {X : Cx} {W : WX} {n c B : Str} {fl : List Str} {C aB : Addr} {i : Nat} {body suite : List Stmt} {b₀ : Stmt} {np pos pos' : Pos} {mb : MSt} {ms : Addr → Addr → List (Str × D) → MSt}
end
end MM
namespace MM
open PySem PySem.Spec PyProof.Rows L2
def opAddL (x y : D) (h : MH) : R D := match lstD x h, lstD y h with
  | some ds, some es => if ds.length + es.length ≤ 16777216 then .ok (.rol (ds ++ es)) h else .stuck
  | _, _ => opAddS x y h
theorem opAddL_ok {K : PySem.W.Frag} : OpM K (rAddS K) opAddL := by
  intro L H h dx dy x y Q E r px py a
  unfold opAddL at a
  split at a
  · rename_i ds es e1 e2
    split at a
    · rename_i z
      obtain ⟨p, xs, rfl, s, w⟩ := lstD_of r px e1
      obtain ⟨q, ys, rfl, s', w'⟩ := lstD_of r py e2
      exact .inr ⟨p, q, xs, ys, rfl, rfl, s, s', by rw [← w.length, ← w'.length]; exact szl z, fun p hp => ans_of (rep_rol r hp (w.append w')) a⟩
    · exact a.elim
  · exact opAddS_ok L H h dx dy x y Q E r px py a
@[simp] theorem opAddL_int {i j : Int} {h : MH} : opAddL (.int i) (.int j) h = .ok (.int (i + j)) h := rfl
@[simp] theorem opAddL_str {x y : Str} {h : MH} (e : x.length + y.length ≤ 16777216) : opAddL (.str x) (.str y) h = .ok (.str (x ++ y)) h := if_pos e
end MM
set_option maxHeartbeats 2000000
namespace MSl
open PySem PySem.Spec PyProof.Rows L2
section
variable {prog : Program} {w : World} {A : Around} {E : Value → Shared → Prop} {s : Shared}
theorem zipIdx_cut (a n : Nat) : ∀ (xs : List Value) (k : Nat), k + xs.length = n → (xs.zipIdx k).filterMap (fun (x, k) => if ((decide ((a : Int) ≤ (k : Int)) && decide ((k : Int) < (n : Int))) && (((k : Int) - (a : Int)) % 1 == 0)) = true then none else some x) = xs.take (a - k)
  | [], k, _ => by simp
  | x :: xs, k, h => by
    rw [List.length_cons] at h
    rw [List.zipIdx_cons, List.filterMap_cons]
    have ih := zipIdx_cut a n xs (k + 1) (by omega)
    have md : (((k : Int) - (a : Int)) % 1 == 0) = true := by simp [Int.emod_one]
    by_cases z : a ≤ k
    · have : ((decide ((a : Int) ≤ (k : Int)) && decide ((k : Int) < (n : Int))) && (((k : Int) - (a : Int)) % 1 == 0)) = true := by
        rw [md, Bool.and_true, Bool.and_eq_true]
        exact ⟨decide_eq_true (by omega), decide_eq_true (by omega)⟩
      simp only [this, if_true]
      rw [ih, show a - k = 0 by omega, show a - (k + 1) = 0 by omega]
      simp
    · have : ((decide ((a : Int) ≤ (k : Int)) && decide ((k : Int) < (n : Int))) && (((k : Int) - (a : Int)) % 1 == 0)) = false := by
        rw [decide_eq_false (by omega : ¬ (a : Int) ≤ (k : Int))]; rfl
      simp only [this, Bool.false_eq_true, if_false]
      rw [ih, show a - k = (a - (k + 1)) + 1 by omega, List.take_succ_cons]
theorem del_cut {l sl : Addr} {items : Array Value} {n : Nat} {vl vu : Value} {lo hi : Option Int} {a : Nat} {Q : Unit → Shared → Prop} (el : s.heap.get? l = some { cls := .type "list", data := .seq items n }) (os : s.heap.IsSliceOf sl vl vu .none) (p1 : IsPart vl lo) (p2 : IsPart vu hi)
    (bd : sliceBounds lo hi none items.size = ((a : Int), (items.size : Int), 1)) (room : items.size ≤ sizeLine)
    (k : ∀ f : Array Value → Array Value, f items = (items.toList.take a).toArray → Q () { s with heap := s.heap.update l (Obj.mapSeq f) }) : wpAny (model prog w) A (delItem (.ref l) (.ref sl)) Q E s := by
  have tl := (PySem.IsL.isList el).typeIs
  obtain ⟨ob, g1, g2, g3⟩ := id os
  have ts : s.TypeIs (.ref sl) "slice" := ⟨ob, g1, g2⟩
  unfold delItem
  refine wpAny_holding (wpAny_bind (wpAny_sequenceKey tl (by decide) (wpAny_bind (wpAny_callSpecial?_slot (name := Str.ofString "__delitem__") tl F.slot_list_delitem (wpAny_call_entry F.slot_list_delitem tl F.entry_list_delitem ?_ (F.args_list_delitem_2 _ _))))))
  show wpAny _ _ (Builtin.List.listSubscript? (.ref sl) >>= _) _ _ s
  unfold Builtin.List.listSubscript?
  refine wpAny_bind (wpAny_bind (wpAny_specialOf ts slice_no_index ?_))
  simp only [Option.isNone_none, if_true]
  refine wpAny_pure ?_
  show wpAny _ _ (typeOf (.ref sl) >>= _) _ _ s
  refine wpAny_bind (wpAny_typeOf ts (PySem.W.KFB.if_not (by decide) ?_))
  rw [listSliceParts_eq]
  refine wpAny_bind (wpAny_bind (wpAny_field g1 g3 (x := .none) rfl (wpAny_bind (wpAny_listPart .none ?_))))
  rw [if_neg (show ¬ ((rawPart none == rawInt 0) = true) from Bool.false_ne_true)]
  refine wpAny_bind (wpAny_field g1 g3 (x := vl) rfl (wpAny_bind (wpAny_listPart p1 (wpAny_bind (wpAny_field g1 g3 (x := vu) rfl (wpAny_bind (wpAny_listPart p2 (wpAny_pure ?_))))))))
  unfold Builtin.List.listItems
  refine wpAny_bind (wpAny_bind (wpAny_seqItems el rfl (wpAny_pure (wpAny_bind (wpAny_of_eq ((sliceIndices_raw lo hi none items.size (by simp)).trans (congrArg (pure : Int × Int × Int → Sem (Int × Int × Int)) bd)) ?_)))))
  refine wpAny_bind (wpAny_rule ?_)
  have sm : ∀ xs : Array Value, xs = items → (xs.toList.zipIdx.filterMap fun (x, k) => if ((decide ((a : Int) ≤ (k : Int)) && decide ((k : Int) < (items.size : Int))) && (((k : Int) - (a : Int)) % 1 == 0)) = true then none else some x).toArray = (items.toList.take a).toArray := fun xs e => by
    subst e
    rw [zipIdx_cut a xs.size xs.toList 0 (by simp)]
    rw [Nat.sub_zero]
  show wpAny _ _ (updateSeq l (fun xs => (xs.toList.zipIdx.filterMap fun (x, k) => if ((decide ((a : Int) ≤ (k : Int)) && decide ((k : Int) < (items.size : Int))) && (((k : Int) - (a : Int)) % 1 == 0)) = true then none else some x).toArray) >>= _) _ _ s
  refine wpAny_bind (wpAny_updateSeq el rfl (wpAny_bind (wpAny_letGo ?_)) room (by rw [sm items rfl]; simp; omega))
  exact wpAny_pure ⟨.none, rfl, wpAny_pure (k _ (sm items rfl))⟩
theorem tail_bounds {a n : Nat} : sliceBounds (some (a : Int)) none none n = (((min a n : Nat) : Int), (n : Int), 1) := by
  unfold sliceBounds
  simp only [Option.getD_none, show ¬ ((a : Int) < 0) by omega, if_false, show (1 : Int) > 0 by decide, if_true]
  refine Prod.ext ?_ (Prod.ext ?_ rfl)
  · show max 0 (min (a : Int) (n : Int)) = ((min a n : Nat) : Int)
    omega
  · rfl
end
section
variable {X : Cx}
theorem del_cutV {pins : List (Addr × Obj)} {s : Shared} {σ : L2.St} {H : Hp} {l sl : Addr} {xs : List V} {a : Nat} {vl vu : Value} {Q : Unit → Shared → Prop} (I : Inv X pins σ H s) (hl : H l = some (.lst xs)) (os : s.heap.IsSliceOf sl vl vu .none) (p1 : IsPart vl (some (a : Int))) (p2 : IsPart vu none)
    (k : ∀ s', Inv X pins σ (upd H l (.lst (xs.take a))) s' → Q () s') : wpAny (model X.prog X.w) X.A (delItem (.ref l) (.ref sl)) Q X.xe s := by
  obtain ⟨z, i1, n1, r1, e1, g1⟩ := I.lstM hl
  refine del_cut (a := min a i1.length) g1 os p1 p2 (by rw [List.size_toArray]; exact tail_bounds) (by rw [List.size_toArray]; omega) fun f hf => k _ ?_
  refine I.lset (f := f) (its' := i1.take (min a i1.length)) (t' := s.toks) hl g1 (by rw [hf]) ?_ ?_
  · have : i1.take (min a i1.length) = i1.take a := by
      rcases Nat.le_total a i1.length with q | q
      · rw [Nat.min_eq_left q]
      · rw [Nat.min_eq_right q, List.take_of_length_le (Nat.le_refl _), List.take_of_length_le q]
    rw [this]
    exact r1.take a
  · rw [List.length_take]; omega
def sDelT (to : TE) (tl th : TO) : TS := fun D σ H => to σ H fun x H2 => tl σ H2 fun a H3 => th σ H3 fun c H4 => ∃ (l : Addr) (xs : List V) (i : Nat), x = .ref l ∧ H4 l = some (.lst xs) ∧ a = some (i : Int) ∧ c = none ∧ D.nx σ (upd H4 l (.lst (xs.take i)))
theorem ps_delT {o : Expr} {lo hi : Option Expr} {p2 pos' pos : Pos} {to : TE} {tl th : TO} (ho : PE X o to) (hl : PO X lo tl) (hh : PO X hi th) : PS X (.Delete [.Subscript o (.Slice lo hi none p2) pos'] pos) (sDelT to tl th) := by
  refine ⟨fun pins s σ H D I h => ?_⟩
  refine wpAny_Delete (wpAny_deleteEach_cons (wpAny_delete_Subscript (thn (ho.run pins s σ H _ I h) fun u s2 ⟨x, H2, I2, rx, q2⟩ => ?_)))
  refine wpAny_Slice (thn (hl.run pins s2 σ H2 _ I2 q2) fun vl s3 ⟨a, H3, I3, pl, q3⟩ => thn (hh.run pins s3 σ H3 _ I3 q3) fun vu s4 ⟨c, H4, I4, pu, q4⟩ => ?_)
  rw [evalPart_none]
  refine wpAny_pure ?_
  obtain ⟨l, xs, i, rfl, el, rfl, rfl, fin⟩ := q4
  obtain rfl : u = Value.ref l := rx
  have I5 : Inv X pins σ H4 { s4 with heap := s4.heap.push { cls := .type "slice", data := .fields #[vl, vu, .none] } } := I4.kept (t' := s4.toks) fun b ob q => Heap.get?_push_of_some _ q
  exact del_cutV I5 el (Heap.IsSliceOf.new ..) pl pu fun s' I6 => wpAny_deleteEach_nil ⟨σ, _, I6, fin⟩
end
end MSl
namespace MM
open PySem PySem.Spec PyProof.Rows L2
section
variable {X : Cx} {W : WX} {pos p : Pos} {e o : Expr} {es : List Expr} {me mo mv : ME} {mas : MA} {K : PySem.W.Frag}
def delG (o : D) (l u : Option Int) (h : MH) : Option MH := match o, l, u with
  | .ref m, some a, none => (lst? h m).bind fun xs => if 0 ≤ a then some (h.set m (.lst (xs.take a.toNat))) else none
  | _, _, _ => none
def mDelT (mo : ME) (lo hi : MOp) : MSt := fun δ h => (mo δ h).st δ fun o h2 => (lo δ h2).st δ fun l h3 => (hi δ h3).st δ fun u h4 => match delG o l u h4 with
  | some h5 => .ok (.next δ) h5
  | none => .stuck
theorem psm_delT {lo hi : Option Expr} {p2 pos' : Pos} {ml mh : MOp} (ho : PEM X W o mo) (hl : POM X W lo ml) (hh : POM X W hi mh) : PSM X W (.Delete [.Subscript o (.Slice lo hi none p2) pos'] pos) (mDelT mo ml mh) :=
  PS.imp (MSl.ps_delT ho hl hh) fun D σ H ⟨L, h, δ, r, s, a⟩ => ⟨L, h, δ, r, s, Ans.imp (AnsS.bind (rp := Rep X.K) s a) fun vo H2 ⟨L2, h2, d2, x2, r2, p2, s2, a2⟩ => ⟨L2, h2, δ, r2, s2, Ans.imp (AnsS.bind (rp := rpO) s2 a2) fun l H3 ⟨L3, h3, l', x3, r3, p3, s3, a3⟩ =>
      ⟨L3, h3, δ, r3, s3, Ans.imp (AnsS.bind (rp := rpO) s3 a3) fun u H4 ⟨L4, h4, u', x4, r4, p4, s4, a4⟩ => by
        cases p3
        cases p4
        cases eg : delG d2 l u h4 with
        | none => rw [eg] at a4; exact a4.elim
        | some h5 =>
          rw [eg] at a4
          unfold delG at eg
          split at eg
          · rename_i m a
            obtain ⟨xs, g2, eg⟩ := Option.bind_eq_some_iff.mp eg
            split at eg
            · rename_i z
              cases eg
              obtain ⟨pl, vs, e3, e4, w2⟩ := r4.lst (lst?_at g2)
              obtain ⟨i, rfl⟩ := Int.eq_ofNat_of_zero_le z
              simp only [Int.toNat_natCast] at a4
              have po := (p2.mono (x3.trans x4)).ref e3
              obtain ⟨x5, r5⟩ := r4.wr e3 e4 (w2.take i)
              exact ⟨pl, vs, i, po, e4, rfl, rfl, (a4.mono x5).nx r5 (s4.mono x5)⟩
            · cases eg
          · cases eg⟩⟩⟩
theorem _root_.L2.PG.or {t1 t2 : TG} (h1 : PG X e t1) (h2 : PG X e t2) : PG X e (fun v σ H Q => t1 v σ H Q ∨ t2 v σ H Q) :=
  ⟨fun pins s σ H v u Q I r q => q.elim (h1.run pins s σ H v u Q I r) (h2.run pins s σ H v u Q I r)⟩
def mgSeq (n : Nat) (gs : MGs) : MG := fun d δ => match d with
  | .tup ds => if ds.length = n then gs ds δ else none
  | .rol ds => if ds.length = n then gs ds δ else none
  | _ => none
theorem pgm_seq {S : List Nat} {es : List Expr} {k n : Nat} {gs : MGs} (hc : X.calm = true) (h : PGsM X es S gs)
    (hn : (assignEach es X.env).length = n := by rfl) (hst : (assignEach es X.env).findIdx? (·.1) = none := by rfl) : PGM X (.Tuple es k pos) S (mgSeq n gs) :=
  PG.imp (PG.or (pg_tup hc h hn hst) (pg_lst hc h hn hst)) fun v σ H Q ⟨L, h, δ, d, r, s, p, δ', e, q⟩ => by
    cases d with
    | tup ds =>
      obtain ⟨a, xs, rfl, st, w⟩ := tup_of p
      replace e : (if ds.length = n then gs ds δ else none) = some δ' := e
      by_cases hl : ds.length = n
      · rw [if_pos hl] at e
        exact .inl ⟨a, xs, rfl, st, by rw [← w.length]; exact hl, L, h, δ, ds, r, s, w, δ', e, q⟩
      · rw [if_neg hl] at e; cases e
    | rol ds =>
      obtain ⟨a, xs, rfl, st, w⟩ := rol_sf p
      replace e : (if ds.length = n then gs ds δ else none) = some δ' := e
      by_cases hl : ds.length = n
      · rw [if_pos hl] at e
        exact .inr ⟨a, xs, rfl, st, by rw [← w.length]; exact hl, L, h, δ, ds, r, s, w, δ', e, q⟩
      · rw [if_neg hl] at e; cases e
    | _ => cases e
structure DefN (P : Program) (w : World) (K : PySem.W.Frag) (mg : Str → Option Value) (base : Heap) (k : Nat) (n : Str) (m : List D → MH → R D) : Prop where
  ex : ∃ (f : Addr) (fd : FuncData) (ps : List Str), PySem.W.nsIn K mainGlobals n = some (some (.ref f)) ∧ FnM P w K mg base k f fd ps m ∧ PySem.W.keepIn K (.ref f) = true ∧ Binds K fd ps []
theorem DefN.mono {P : Program} {w : World} {mg : Str → Option Value} {base : Heap} {j k : Nat} {n : Str} {m : List D → MH → R D} (d : DefN P w K mg base j n m) (h : j ≤ k) : DefN P w K mg base k n m :=
  let ⟨f, fd, ps, a, b, c⟩ := d.ex
  ⟨f, fd, ps, a, FnM.mono b h, c⟩
def TabM (P : Program) (w : World) (K : PySem.W.Frag) (mg : Str → Option Value) (base : Heap) (k : Nat) (tab : List (Str × (List D → MH → R D))) : Prop := ∀ n m, tab.lookup n = some m → DefN P w K mg base k n m
theorem tab_nil {P : Program} {w : World} {mg : Str → Option Value} {base : Heap} {k : Nat} : TabM P w K mg base k [] := fun n m h => by cases h
theorem tab_cons {P : Program} {w : World} {mg : Str → Option Value} {base : Heap} {k : Nat} {n : Str} {m : List D → MH → R D} {tab : List (Str × (List D → MH → R D))} (d : DefN P w K mg base k n m) (t : TabM P w K mg base k tab) : TabM P w K mg base k ((n, m) :: tab) := fun n' m' h => by
  rw [List.lookup] at h
  split at h
  · rename_i z
    cases h
    have : n' = n := by simpa using z
    rw [this]; exact d
  · exact t n' m' h
def mCallV (tab : List (Str × (List D → MH → R D))) (mv : ME) (mas : MA) : ME := fun δ h => (mv δ h).bnd fun d h1 => match d with
  | .kon n => (match tab.lookup n with
    | some m => (mas δ h1).bnd fun ds h2 => m ds h2
    | none => .stuck)
  | _ => .stuck
theorem pem_callV {x : Str} {k : Nat} {tab : List (Str × (List D → MH → R D))} (hv : PEM X W (.Name x p) mv) (T : TabM X.prog X.w X.K X.mg X.base k tab) (hr : Room k X.A) (tk : L2N.Takes X W) (ha : PAM X W (e :: es) mas)
    (he : starEach (e :: es) X.env = (false, eval e X.env) :: starEach es X.env := by rfl) (hpl : (backTo pos (starEach es X.env)).any (·.1) = false := by rfl) : PEM X W (.Call (.Name x p) (e :: es) [] pos) (mCallV tab mv mas) := by
  refine ⟨fun pins s σ H Q I ⟨L, h, δ, r0, s0, a⟩ => ?_⟩
  refine wpAny_Call_Name_kw (thn (hv.run pins s σ H _ I ⟨L, h, δ, r0, s0, Ans.bind (rp := Rep X.K) a⟩) fun u s1 ⟨v, H1, I1, rv, L1, h1, d, x1, r1, p1, a1⟩ => ?_)
  cases d with
  | kon n =>
    simp only at a1
    cases et : tab.lookup n with
    | none => rw [et] at a1; exact a1.elim
    | some m =>
      rw [et] at a1
      obtain ⟨f, fd, ps, hn, F, hk, hb⟩ := (T n m et).ex
      have : v = .ref f := by
        unfold Rep at p1
        obtain ⟨a2, e1, e2⟩ := p1
        rw [hn] at e2
        cases e2
        exact e1
      subst this
      obtain rfl : u = Value.ref f := rv
      refine PySem.W.callWith_K (h₀ := X.base) I1.ok.mod.kin hk (thn (ha.run pos pins s1 σ H1 _ I1 ⟨L1, h1, δ, r1, s0.mono x1, Ans.bind (rp := RepL X.K) a1⟩) fun us s2 ⟨vs, H2, I2, r2, L2, h2, ds, x2, rr2, p2, a2⟩ => ⟨I2.kIn, ?_⟩) he hpl
      exact run_fnS (E := WE W) F hr hb (L2N.passAt tk σ) I2 r2 ⟨L2, h2, ds, rr2, p2, a2⟩
  | _ => exact a1.elim
theorem pem_kon {n : Str} {st : Stmt} {f : Addr} {fd : FuncData} {ps : List Str} (DA : DefAt X.K X.mg n st f fd ps) (hn : PySem.W.nsIn X.K mainGlobals n = some (some (.ref f))) (hg : Gl X n) (hd : (n == ("__debug__" : Str)) = false := by decide) : PEM X W (.Name n p) (mC (.kon n)) :=
  PE.imp (pe_glob (v := .ref f) hg DA.mg' rfl hd) fun σ H Q ⟨L, h, δ, r, s, a⟩ => ans_okE r (by unfold Rep; exact ⟨f, rfl, hn⟩) a
end
end MM
set_option maxHeartbeats 2000000
namespace MM
open PySem PySem.Spec PyProof.Rows L2
open Classical in
noncomputable def dcM (g : MH → Prop) (tgt : MG) (cond : MT) (kx vx : ME) (n : Nat) (δ0 : MS) : List D → MH → R Unit
  | [], h => if g h then .ok () h else .stuck
  | x :: r, h => if g h then (match tgt x δ0 with
      | some δ1 => (cond δ1 h).nx.bnd fun b h1 => if b then (kx δ1 h1).nx.bnd fun kd h2 => (vx δ1 h2).nx.bnd fun y h3 => (match keyD kd, dic? h3 n with
          | some k, some acc => if acc.length < 16777216 then dcM g tgt cond kx vx n δ0 r (h3.set n (.dic (putD acc k y))) else .stuck
          | _, _ => .stuck) else dcM g tgt cond kx vx n δ0 r h1
      | none => .stuck) else .stuck
noncomputable def mDcN (src : MI) (tgt : MG) (cond : MT) (kx vx : ME) (vs : List Nat) : ME := fun δ h => (src δ h).bnd fun S h1 => (dcM S.g tgt cond kx vx h1.length (wipeM δ vs) S.ds (h1 ++ [.dic []])).bnd fun _ h2 => match dic? h2 h1.length with
  | some acc => .ok (.ref h1.length) h2
  | none => .stuck
theorem oat_nild {K L H a} : OAt K L (upd H a (.dK [])) (some (some a)) (.dic []) := ⟨a, [], rfl, upd_same, rfl⟩
theorem repK_len {K L H} : ∀ {ds : List (Key × D)} {vs}, RepK K L H ds vs → ds.length = vs.length
  | [], _, rfl => rfl
  | d :: ds, _, ⟨v, vs, rfl, q, w⟩ => by rw [List.length_cons, List.length_cons, repK_len w]
theorem dc_turns {K : PySem.W.Frag} {J : L2.It} {S : List Nat} {g : MG} {cond : MT} {kx vx : ME} {vs : List Nat} (hs : ∀ i ∈ S, i ∈ vs) {L1 : TL} {H1 : Hp} {h1 : MH} {Sr : Src} {δ : MS} {σ : L2.St} {Dl : Addr} {k : Unit → MH → R D} {Q : VK} {E : XK}
    (r1 : Rel K L1 H1 h1) (s1 : RepS K L1 H1 δ σ) (tr : Trod K L1 H1 J Sr.ds Sr.g) (hD : H1 Dl = none)
    (a : Ans K (Rep K) L1 H1 ((dcM Sr.g g cond kx vx h1.length (wipeM δ vs) Sr.ds (h1 ++ [.dic []])).bnd k) Q E)
    (hd : ∀ L' H' h', Ext L1 H1 L' H' → Rel K L' H' h' → (∃ o, L'[h1.length]? = some o ∧ ∀ b, o = some b → b = Dl) → Ans K (Rep K) L1 H1 (k () h') Q E → Q (.ref Dl) H') :
    ∃ W : Nat → Nat → Hp → Prop, (∃ m, W 0 m (upd H1 Dl (.dK []))) ∧ ∀ i m H, W i m H →
      (J.stop i H ∧ Q (.ref Dl) H) ∨ (J.go i H ∧ ∃ Nx : Hp → Prop, (∀ H', Nx H' → ∃ m', m' < m ∧ W (i + 1) m' H') ∧ ∀ x H', J.yld i H x H' → tG K S g x (wipe σ vs) H' fun σ2 H2 => wipe σ2 vs = wipe σ vs ∧ tT K W0 cond σ2 H2 fun b H3 =>
        if b = true then tE K W0 kx σ2 H3 fun y H4 => tE K W0 vx σ2 H4 fun z H5 => ∃ kvs k, y = kV k ∧ H5 Dl = some (.dK kvs) ∧ kvs.length < sizeLine ∧ Nx (upd H5 Dl (.dK (putK kvs k z))) else Nx H3) := by
  obtain ⟨xa, ra⟩ := r1.alloc (m := .dic []) hD oat_nild
  have at0 : (L1 ++ [some Dl])[h1.length]? = some (some Dl) := by rw [getElem?_snoc, if_pos r1.len.symm]
  have own : ∀ {L' : TL} {H' : Hp}, Ext (L1 ++ [some Dl]) (upd H1 Dl (.dK [])) L' H' → ∃ o, L'[h1.length]? = some o ∧ ∀ b, o = some b → b = Dl := fun x => by
    rcases x.live _ _ at0 with z | z
    · exact ⟨_, z, fun b e => (Option.some.inj e).symm⟩
    · exact ⟨_, z, fun b e => by cases e⟩
  refine ⟨fun i m H' => ∃ L' h', Ext (L1 ++ [some Dl]) (upd H1 Dl (.dK [])) L' H' ∧ Rel K L' H' h' ∧ m = Sr.ds.length - i ∧ i ≤ Sr.ds.length ∧ Ans K (Rep K) L1 H1 ((dcM Sr.g g cond kx vx h1.length (wipeM δ vs) (Sr.ds.drop i) h').bnd k) Q E,
    ⟨Sr.ds.length, _, _, Ext.refl _ _, ra, by simp, Nat.zero_le _, by rw [List.drop_zero]; exact a⟩, ?_⟩
  rintro i m H' ⟨L', h', x', r', rfl, hi, a'⟩
  have x1' := xa.trans x'
  by_cases hlt : i < Sr.ds.length
  · rw [List.drop_eq_getElem_cons hlt] at a'
    unfold dcM at a'
    split at a'
    case isFalse => exact a'.elim
    rename_i hg'
    refine .inr ⟨tr.go L' H' h' i x1' r' hg' hlt, fun H2 => ∃ L2 h2, Ext (L1 ++ [some Dl]) (upd H1 Dl (.dK [])) L2 H2 ∧ Rel K L2 H2 h2 ∧ Ans K (Rep K) L1 H1 ((dcM Sr.g g cond kx vx h1.length (wipeM δ vs) (Sr.ds.drop (i + 1)) h2).bnd k) Q E,
      fun H2 ⟨L2, h2, e1, e2, e3⟩ => ⟨Sr.ds.length - (i + 1), by omega, L2, h2, e1, e2, rfl, hlt, e3⟩, fun x H'' hy => ?_⟩
    obtain ⟨x2, r2, d, hd', pd⟩ := tr.yld L' H' h' i x H'' x1' r' hg' hlt hy
    have hdd : Sr.ds[i] = d := by
      rw [List.getElem?_eq_getElem hlt] at hd'
      exact Option.some.inj hd'
    rw [hdd] at a'
    cases et : g d (wipeM δ vs) with
    | none => rw [et] at a'; exact a'.elim
    | some δ1 =>
      simp only [et] at a'
      refine ⟨L', h', wipeM δ vs, d, r2, (s1.wipe vs).mono (x1'.trans x2), pd, δ1, et, fun σ2 s2 o2 => ⟨?_, ?_⟩⟩
      · rw [wipe_eq o2 hs, wipe_wipe]
      · rw [R.bnd_assoc] at a'
        refine ⟨L', h', δ1, r2, s2, Ans.imp (Ans.nx (Ans.bind0 (rp := rpB) (x1'.trans x2) a')) fun b H3 ⟨L3, h3, b', x3, r3, p3, a3⟩ => ?_⟩
        cases p3
        cases b with
        | false => exact iteF ⟨L3, h3, (x'.trans x2).trans x3, r3, a3⟩
        | true =>
          refine iteT ?_
          simp only [if_true] at a3
          rw [R.bnd_assoc] at a3
          refine ⟨L3, h3, δ1, r3, s2.mono x3, Ans.imp (Ans.nx (Ans.bind0 (rp := Rep K) ((x1'.trans x2).trans x3) a3)) fun y H4 ⟨L4, h4, dy, x4, r4, p4, a4⟩ => ?_⟩
          rw [R.bnd_assoc] at a4
          refine ⟨L4, h4, δ1, r4, (s2.mono x3).mono x4, Ans.imp (Ans.nx (Ans.bind0 (rp := Rep K) (((x1'.trans x2).trans x3).trans x4) a4)) fun z H5 ⟨L5, h5, dz, x5, r5, p5, a5⟩ => ?_⟩
          have x6 := (x'.trans x2).trans (x3.trans (x4.trans x5))
          cases ek : keyD dy with
          | none => rw [ek] at a5; exact a5.elim
          | some ky =>
            cases el : dic? h5 h1.length with
            | none => rw [ek, el] at a5; exact a5.elim
            | some acc =>
              simp only [ek, el] at a5
              obtain ⟨ad, xs, e1, e2, w⟩ := r5.dic (dic?_at el)
              obtain ⟨o, eo, ho⟩ := own x6
              rw [e1] at eo; cases eo
              have : ad = Dl := ho ad rfl
              subst this
              by_cases hz : acc.length < 16777216
              · rw [if_pos hz] at a5
                refine ⟨xs, ky, keyD_ok p4 ek, e2, by rw [sizeLine_eq, ← repK_len w]; exact hz, ?_⟩
                have nf : ∀ o u, H5 ad ≠ some (.frz o u) := fun o u z => by rw [e2] at z; cases z
                obtain ⟨x7, r7⟩ := r5.write (m := .dic (putD acc ky dz)) e1 nf (o := .dK (putK xs ky z)) ⟨ad, _, rfl, upd_same, (repK_put p5 w).mono (ext_write e1 nf)⟩
                exact ⟨L5, _, x6.trans x7, r7, a5⟩
              · rw [if_neg hz] at a5; exact a5.elim
  · have e : i = Sr.ds.length := by omega
    subst e
    rw [List.drop_length] at a'
    unfold dcM at a'
    split at a'
    case isFalse => exact a'.elim
    rename_i hg'
    exact .inl ⟨tr.stop L' H' h' x1' r' hg', hd L' H' h' x1' r' (own x') a'⟩
theorem dc_endN {K : PySem.W.Frag} {L1 L' : TL} {H1 H' : Hp} {h1 h' : MH} {acc : List (Key × D)} {Dl : Addr} {Q : VK} {E : XK} (r1 : Rel K L1 H1 h1) (x : Ext L1 H1 L' H') (r' : Rel K L' H' h') (o : ∃ o, L'[h1.length]? = some o ∧ ∀ b, o = some b → b = Dl) (e : dic? h' h1.length = some acc)
    (a : Ans K (Rep K) L1 H1 (.ok (.ref h1.length) h') Q E) : Q (.ref Dl) H' := by
  obtain ⟨ad, xs, e1, e2, w⟩ := r'.dic (dic?_at e)
  obtain ⟨o, eo, ho⟩ := o
  rw [e1] at eo; cases eo
  have : ad = Dl := ho ad rfl
  subst this
  refine ans_okE r' ?_ (a.mono x)
  unfold Rep
  exact ⟨ad, rfl, .inl e1⟩
theorem tDcN_of {K : PySem.W.Frag} {W : WX} {S : List Nat} {mi : MI} {g : MG} {cond : MT} {kx vx : ME} {vs : List Nat} (hs : ∀ i ∈ S, i ∈ vs) {σ : L2.St} {H : Hp} {Q : VK} (t : tE K W (mDcN mi g cond kx vx vs) σ H Q) : tDc (tI K W mi) (tG K S g) (tT K W0 cond) (tE K W0 kx) (tE K W0 vx) vs σ H Q := by
  obtain ⟨L, h, δ, r, s, a⟩ := t
  refine ⟨L, h, δ, r, s, ?_⟩
  unfold mDcN at a
  generalize mi δ h = m at a
  cases m with
  | stuck => exact a.elim
  | exc c fs h1 => exact a
  | ok Sr h1 =>
    intro L1 H1 J x1 r1 tr Dl hD
    refine dc_turns hs r1 (s.mono x1) tr hD (Ans.mono x1 a) fun L' H' h' x' r' o a' => ?_
    cases el : dic? h' h1.length with
    | none => rw [el] at a'; exact a'.elim
    | some acc => simp only [el] at a'; exact dc_endN r1 x' r' o el a'
section
variable {X : Cx} {W : WX} {ek ev tg iter : Expr} {ifs : List Expr} {scope : Scope} {own : List (Str × Nat)} {pos : Pos} {mi : MI} {S : List Nat} {g : MG} {cond : MT} {mk mv : ME}
theorem pem_dcN (hc : X.calm = true) (hN : X.N.Nodup) (hi : PIM X W tg iter mi) (ok : BlkOk X.N X.env.scope scope own) (hS : ∀ i ∈ S, i ∈ own.map (·.2))
    (hg : ∀ (s : Shared) (H : Hp) (C : Addr) (cl : List (Str × Addr)) (fp : List Addr), PGM (X.blk s H scope (compEnvC scope cl C X.env) fp) tg S g)
    (ht : ∀ (s : Shared) (H : Hp) (C : Addr) (cl : List (Str × Addr)) (fp : List Addr), PTsM (X.blk s H scope (compEnvC scope cl C X.env) fp) W0 ifs cond)
    (hk : ∀ (s : Shared) (H : Hp) (C : Addr) (cl : List (Str × Addr)) (fp : List Addr), PEM (X.blk s H scope (compEnvC scope cl C X.env) fp) W0 ek mk)
    (he : ∀ (s : Shared) (H : Hp) (C : Addr) (cl : List (Str × Addr)) (fp : List Addr), PEM (X.blk s H scope (compEnvC scope cl C X.env) fp) W0 ev mv) (hs : ∀ x, foldedSetIterable iter X.env x = pure x := by intro _; rfl) :
    PEM X W (.DictComp ek ev [⟨tg, iter, ifs, 0⟩] scope pos) (mDcN mi g cond mk mv (own.map (·.2))) :=
  PE.imp (pe_dc (wi := tI X.K W mi) (g := tG X.K S g) (tt := tT X.K W0 cond) (tk := tE X.K W0 mk) (tv := tE X.K W0 mv) hc hN hi ok hg ht hk he hs) fun _ _ _ t => tDcN_of hS t
end
end MM
set_option maxHeartbeats 2000000
namespace MM
open PySem PySem.Spec PyProof.Rows L2
structure DefKw (K : PySem.W.Frag) (mg : Str → Option Value) (x : Str) (st : Stmt) (f : Addr) (fd : FuncData) (kws : List (Str × V)) : Prop where
  fn : FunD K x x (defArgs st) (defBody st) (defScope st) [] kws f fd
  mg' : mg x = some (.ref f)
section
variable {P : Program} {w : World} {K : PySem.W.Frag} {mg : Str → Option Value} {base : Heap}
theorem fnM_bodyD {x qn : Str} {st : Stmt} {f : Addr} {fd : FuncData} {N ps : List Str} {dvs : List V} {kws : List (Str × V)} {k : Nat} {m : MSt} {g : List D → MH → R D} (F : FunD K x qn (defArgs st) (defBody st) (defScope st) dvs kws f fd) (S : FnScope N ps (defScope st))
    (hg : ∀ ds h, g ds h = .stuck ∨ (ds.length = ps.length ∧ (g ds h = mEnd h (m (mStart N.length ds) h) ∨ g ds h = mEndN (m (mStart N.length ds) h))))
    (body : ∀ (cdv : Value) (A : Around) (outer : List Env) (s : Shared) (H : Hp) (E : XK), Room k (A.deeper (envOfC qn (defScope st) s.heap.objs.size f cdv)) →
      L2N.Takes (cxOf (L2N.CX P w) P w K mg base N qn (defScope st) f cdv A outer s H E) (fun c d _ H => E c d H) →
      PassesOwn (model P w) (A.deeper (envOfC qn (defScope st) s.heap.objs.size f cdv)) (envOfC qn (defScope st) s.heap.objs.size f cdv) (cxOf (L2N.CX P w) P w K mg base N qn (defScope st) f cdv A outer s H E).xe →
      PSsM (cxOf (L2N.CX P w) P w K mg base N qn (defScope st) f cdv A outer s H E) (fun c d _ H => E c d H) (defBody st) m) :
    FnM P w K mg base (k + 1) f fd ps g := by
  refine FunD.ok F S (fun vs H Q E ⟨L, h, ds, r, q, a⟩ => ?_) (fun cdv A outer s H vs Q E hr ⟨L, h, ds, r, q, a⟩ => ?_)
  · rcases hg ds h with z | ⟨z, _⟩
    · rw [z] at a; exact a.elim
    · rw [← q.length]; exact z
  · refine ⟨_, body cdv A outer s H E hr (L2N.takes_of rfl rfl rfl rfl) (passes_of rfl), ?_⟩
    refine ⟨L, h, mStart N.length ds, r, repS_start q, ?_⟩
    have hx : ∀ (c : Str) (fs : List (Str × D)) (h' : MH) (δ : MS), Ans K (Rep K) L H (.exc c fs h') Q E → AnsS K { nx := fun _ H' => Q .non H', rt := Q } (fun c d _ H => E c d H) L H (.exc c fs δ h') := fun c fs h' δ a L' H' σ' dx xs e r _ q1 q2 => a L' H' dx xs e r q1 q2
    rcases hg ds h with z | ⟨_, z | z⟩
    · rw [z] at a; exact a.elim
    · rw [z] at a
      generalize m (mStart N.length ds) h = res at a ⊢
      cases res with
      | stuck => exact a.elim
      | exc c fs δ h' =>
        unfold mEnd leaveX at a
        simp only at a
        split at a
        case isFalse => exact a.elim
        rename_i zz
        intro L' H' σ' dx xs e r' _ q1 q2
        obtain ⟨x1, r1⟩ := r.leave r' e zz.1
        exact a _ H' dx xs x1 r1 q1 (q2.take zz.2)
      | ok fl h' =>
        cases fl with
        | next δ => exact fun L' H' σ' e r' s' => ans_leave r e r' rep_none a
        | ret d => exact fun L' H' v e r' s' => ans_leave r e r' s' a
        | brk _ => exact a.elim
        | cont _ => exact a.elim
    · rw [z] at a
      generalize m (mStart N.length ds) h = res at a ⊢
      cases res with
      | stuck => exact a.elim
      | exc c fs δ h' => exact hx c fs h' δ a
      | ok fl h' =>
        cases fl with
        | next δ => exact fun L' H' σ' e r' s' => a L' H' .non e r' rep_none
        | ret d => exact fun L' H' v e r' s' => a L' H' v e r' s'
        | brk _ => exact a.elim
        | cont _ => exact a.elim
end
section
variable {X : Cx} {W : WX} {pos p kpos : Pos} {e : Expr} {es : List Expr} {me : ME} {mas mks : MA} {nm : Option Str} {kws : List Keyword}
def PKM (X : Cx) (W : WX) (kws : List Keyword) (m : MA) : Prop := PK X kws (tA X.K W m)
theorem PK.imp {t t' : TA} (h : PK X kws t) (k : ∀ σ H Q, t' σ H Q → t σ H Q) : PK X kws t' := ⟨fun pos pins s σ H Q I q => h.run pos pins s σ H Q I (k σ H Q q)⟩
theorem pkm_nil : PKM X W [] mNil := PK.imp pk_nil fun σ H Q ⟨L, h, δ, r, s, a⟩ => a L H [] (Ext.refl _ _) r .nil
theorem pkm_cons (ha : PEM X W e me) (hr : PKM X W kws mks) : PKM X W (⟨nm, e, kpos⟩ :: kws) (mCons me mks) :=
  PK.imp (pk_cons ha hr) fun σ H Q ⟨L, h, δ, r, s, a⟩ => ⟨L, h, δ, r, s, Ans.imp (Ans.bind (rp := Rep X.K) a) fun v H1 ⟨L1, h1, d, x1, r1, p1, a1⟩ =>
    ⟨L1, h1, δ, r1, s.mono x1, Ans.imp (Ans.bind (rp := RepL X.K) a1) fun vs H2 ⟨L2, h2, ds, x2, r2, p2, a2⟩ => a2 L2 H2 (v :: vs) (Ext.refl _ _) r2 (.cons (p1.mono x2) p2)⟩⟩
theorem kbn_all {K : PySem.W.Frag} {x qual : Str} {params : Arguments} {body : List Stmt} {scope : Scope} {kws : List (Str × V)} {f : Addr} {fd : FuncData} {ps ks : List Str} {n : Nat} (F : FunD K x qual params body scope [] kws f fd)
    (h : ∀ (kV doc pm : Value) (an : Option Addr) (cdv ct : Value) (us ws : List Value), us.length = n → ws.length = ks.length → bindArgs (PySem.W.fnOf x qual params body scope .none kV doc pm an cdv ct) ⟨us, ks.zip ws⟩ = pure (ps.zip (us ++ ws))) :
    KBn K fd ps n ks (fun us ws => us ++ ws) (fun us ws => us ++ ws) := by
  obtain ⟨oc, od, dV, kV, doc, pm, an, cdv, ct, osl, rfl, lk, hcd, hD, hK⟩ := F.ex
  rcases hD with ⟨_, rfl⟩ | ⟨e, _⟩
  · exact ⟨fun s us ws X l1 l2 => .of_eq (h kV doc pm an cdv ct us ws l1 l2), fun r1 r2 => r1.append r2⟩
  · exact absurd rfl e
theorem run_fnNS {CX : CXT} {k n : Nat} {f : Addr} {fd : FuncData} {ps ks : List Str} {sp : Sp} {E : XK} {g : List Value → List Value → List Value} {gV : List V → List V → List V} {pins : List (Addr × Obj)} {σ : L2.St} {H : Hp} {s : Shared} {Q : VK} {us ws : List Value} {vs zs : List V} (F : FnOk X.prog X.w X.K X.mg X.base CX k f fd ps sp) (hr : Room k X.A) (hb : KBn X.K fd ps n ks g gV) (hx : PassesAt CX X σ E)
    (I : Inv X pins σ H s) (r : Vals vs us) (rz : Vals zs ws) (l1 : vs.length = n) (l2 : zs.length = ks.length) (h : sp (gV vs zs) H Q E) : wpAny (model X.prog X.w) X.A (call (.ref f) us (ks.zip ws)) (EP X pins σ Q) X.xe s := by
  have r2 := hb.rel r rz
  refine wpAny_call (codeAny_mono (F.run X.A X.stack s H ⟨us, ks.zip ws⟩ (g us ws) (gV vs zs) Q E hr I.env0 (hb.to s us ws I.kIn (r.length.symm.trans l1) (rz.length.symm.trans l2)) r2 h) fun r s' hq => ?_)
  cases r with
  | error e => exact hx pins H s e s' I hq
  | ok fl =>
    cases fl with
    | ret u => exact I.after hq
    | next => exact False.elim hq
    | brk => exact False.elim hq
    | cont => exact False.elim hq
def tCallNS (n m : Nat) (sp : Sp) (gV : List V → List V → List V) (E : L2.St → XK) (t tk : TA) : TE := fun σ H Q => t σ H fun vs H1 => tk σ H1 fun zs H2 => vs.length = n ∧ zs.length = m ∧ sp (gV vs zs) H2 Q (E σ)
theorem pe_callNS {CX : CXT} {k n : Nat} {f : Addr} {fd : FuncData} {ps ks : List Str} {sp : Sp} {E : L2.St → XK} {x : Str} {t tk : TA} {g : List Value → List Value → List Value} {gV : List V → List V → List V} (F : FnOk X.prog X.w X.K X.mg X.base CX k f fd ps sp) (hr : Room k X.A) (hg : Gl X x) (hm : X.mg x = some (.ref f)) (hk : PySem.W.keepIn X.K (.ref f) = true) (hb : KBn X.K fd ps n ks g gV) (hx : ∀ σ, PassesAt CX X σ (E σ))
    (ha : PA X (e :: es) t) (hkw : PK X kws tk) (hall : (backToKw pos (keywordEach kws X.env)).all (·.1.isSome) = true := by rfl) (hks : (backToKw pos (keywordEach kws X.env)).filterMap (·.1) = ks := by rfl)
    (hdb : (x == ("__debug__" : Str)) = false := by decide) (he : starEach (e :: es) X.env = (false, eval e X.env) :: starEach es X.env := by rfl)
    (hpl : ((backTo pos (starEach (e :: es) X.env)).any (·.1) || (backToKw pos (keywordEach kws X.env)).any (·.1.isNone)) = false := by rfl) :
    PE X (.Call (.Name x p) (e :: es) kws pos) (tCallNS n ks.length sp gV E t tk) := by
  refine ⟨fun pins s σ H Q I h => ?_⟩
  refine wpAny_Call_Name_kw (ld_glob I hg hm ?_ hdb)
  refine PySem.W.callWith_KW (h₀ := X.base) I.ok.mod.kin hk hall (thn (ha.run pos pins s σ H _ I h) fun us s1 ⟨vs, H1, I1, r, q⟩ => ?_) hpl he
  refine thn (hkw.run pos pins s1 σ H1 _ I1 q) fun ws s2 ⟨zs, H2, I2, rz, l1, l2, q2⟩ => ⟨I2.kIn, ?_⟩
  rw [hks]
  exact run_fnNS F hr hb (hx σ) I2 r rz l1 l2 q2
open Classical in
noncomputable def mCallN (n m : Nat) (f : List D → MH → R D) (mas mks : MA) : ME := fun δ h => (mas δ h).bnd fun xs h1 => (mks δ h1).bnd fun ys h2 => if xs.length = n ∧ ys.length = m then f (xs ++ ys) h2 else .stuck
theorem pem_callN {x : Str} {st : Stmt} {f : Addr} {fd : FuncData} {ps ks : List Str} {k n : Nat} {kw : List (Str × V)} {m : List D → MH → R D} (F : FnM X.prog X.w X.K X.mg X.base k f fd ps m) (DA : DefKw X.K X.mg x st f fd kw) (hr : Room k X.A) (tk : L2N.Takes X W) (hg : Gl X x)
    (hb : ∀ (kV doc pm : Value) (an : Option Addr) (cdv ct : Value) (us ws : List Value), us.length = n → ws.length = ks.length → bindArgs (PySem.W.fnOf x x (defArgs st) (defBody st) (defScope st) .none kV doc pm an cdv ct) ⟨us, ks.zip ws⟩ = pure (ps.zip (us ++ ws)))
    (ha : PAM X W (e :: es) mas) (hkw : PKM X W kws mks) (hall : (backToKw pos (keywordEach kws X.env)).all (·.1.isSome) = true := by rfl) (hks : (backToKw pos (keywordEach kws X.env)).filterMap (·.1) = ks := by rfl)
    (hdb : (x == ("__debug__" : Str)) = false := by decide) (he : starEach (e :: es) X.env = (false, eval e X.env) :: starEach es X.env := by rfl)
    (hpl : ((backTo pos (starEach (e :: es) X.env)).any (·.1) || (backToKw pos (keywordEach kws X.env)).any (·.1.isNone)) = false := by rfl) :
    PEM X W (.Call (.Name x p) (e :: es) kws pos) (mCallN n ks.length m mas mks) :=
  PE.imp (pe_callNS (E := WE W) F hr hg DA.mg' DA.fn.kp (kbn_all DA.fn hb) (fun σ => L2N.passAt tk σ) ha hkw hall hks hdb he hpl) fun σ H Q ⟨L, h, δ, r0, s, a⟩ => ⟨L, h, δ, r0, s, Ans.imp (Ans.bind (rp := RepL X.K) a) fun vs H1 ⟨L1, h1, ds, x1, r1, p1, a1⟩ =>
    ⟨L1, h1, δ, r1, s.mono x1, Ans.imp (Ans.bind (rp := RepL X.K) a1) fun zs H2 ⟨L2, h2, ys, x2, r2, p2, a2⟩ => by
      split at a2
      · rename_i z
        exact ⟨by rw [← p1.length]; exact z.1, by rw [← p2.length]; exact z.2, L2, h2, ds ++ ys, r2, (p1.mono x2).append p2, a2⟩
      · exact a2.elim⟩⟩
structure DefPd (K : PySem.W.Frag) (mg : Str → Option Value) (x : Str) (st : Stmt) (f : Addr) (fd : FuncData) (dd : List D) : Prop where
  ex : ∃ dvs : List V, FunD K x x (defArgs st) (defBody st) (defScope st) dvs [] f fd ∧ dvs ≠ [] ∧ dvs.length = dd.length ∧ ∀ L H, RepL K L H dd dvs
  mg' : mg x = some (.ref f)
end
end MM
set_option maxHeartbeats 2000000
namespace RT
open PySem PySem.Spec PyProof.Rows
theorem nolen_rt : typeLookup (.type "reversed") "__len__" = pure none := by rw [typeLookup_type, builtinLookup_eq_fast]; kernel_rfl
theorem slot_rt_hint : Slot "reversed" "__length_hint__" "reversed.__length_hint__" :=
  .of (owner := "reversed") (n := "__length_hint__") (by rw [typeLookup_type, builtinLookup_eq_fast]; kernel_rfl) (by decide +kernel) (by decide +kernel) (by decide +kernel)
    (by first | exact .inl (by decide +kernel) | exact .inr (by decide +kernel)) (by rw [isSubtype_type]; kernel_rfl)
theorem entry_rt_hint : entryFor table "reversed.__length_hint__" = some Builtin.«reversed.__length_hint__» := entryFor_of_tree (by kernel_rfl)
theorem args_rt_hint (a : Value) : argsOk "reversed.__length_hint__" ⟨[a], []⟩ := by
  unfold argsOk; rw [signature?_of (id := "reversed.__length_hint__") (n := ['_', '_', 't', 'n', 'i', 'h', '_', 'h', 't', 'g', 'n', 'e', 'l', '_', '_']) (o := ['d', 'e', 's', 'r', 'e', 'v', 'e', 'r']) (by kernel_rfl) owner_rt]; kernel_rfl
section
variable {prog : Program} {w : World} {A : Around} {E : Value → Shared → Prop} {s : Shared}
theorem hint_rt {it t : Addr} {items : Array Value} {Q : Value → Shared → Prop} (hit : IsRt s.heap it t ((items.size : Int) - 1)) (ht : IsTup s.heap t items) (hsz : items.size ≤ sizeLine)
    (hQ : ∀ tk tk', Q (.int items.size tk) { s with toks := tk' }) : wpAny (model prog w) A (call (.builtin "reversed.__length_hint__") [.ref it]) Q E s := by
  obtain ⟨o, ho, hc, hd⟩ := id hit
  rw [sizeLine_eq] at hsz
  refine wpAny_call_entry slot_rt_hint hit.typeIs entry_rt_hint ?_ (args_rt_hint _)
  unfold Builtin.«reversed.__length_hint__»
  refine wpAny_bind (wpAny_of_eq (a := Value.ref it) rfl ?_)
  refine wpAny_bind (wpAny_field ho hd (x := .ref t) rfl ?_)
  rw [if_neg (show ¬ ((Value.ref t == Value.none) = true) from Bool.false_ne_true)]
  refine wpAny_bind (PyProof.Rows.len_tuple ht (by omega) ?_)
  refine wpAny_bind (wpAny_of_eq (a := some ((items.size : Nat) : Int)) rfl ?_)
  refine wpAny_bind (wpAny_field (s := { s with toks := s.toks + 1 + 1 }) ho hd (x := rawInt ((items.size : Int) - 1)) rfl ?_)
  show wpAny _ _ (if (items.size : Int) < ((items.size : Int) - 1) + 1 then _ else retInt (((items.size : Int) - 1) + 1)) _ _ _
  rw [if_neg (by omega), show ((items.size : Int) - 1) + 1 = (items.size : Int) by omega]
  refine wpAny_bind (wpAny_mkInt (wpAny_pure ⟨_, rfl, hQ _ _⟩))
theorem Walks.rt (hh : A.handled = none) (I t : Addr) (hne : t ≠ I) (items : Array Value) (hsz : items.size ≤ sizeLine) :
    Walks prog w A I [I, t] [I] items.size (fun i v => items[items.size - 1 - i]? = some v) (fun i h => i ≤ items.size ∧ IsRt h I t ((items.size : Int) - 1 - (i : Int)) ∧ IsTup h t items) where
  sub := fun b hb => by simp at hb; simp [hb]
  frame := fun _ _ _ x hk => ⟨x.1, x.2.1.at fun o e => hk I (by simp) o e, (let ⟨o, e, r⟩ := x.2.2; ⟨o, hk t (by simp) o e, r⟩)⟩
  item := fun i s Q E hi x hQ => by
    have e : (items.size : Int) - 1 - (i : Int) = ((items.size - 1 - i : Nat) : Int) := by omega
    have hit := x.2.1
    rw [e] at hit
    have hx : items[items.size - 1 - i]? = some (items[items.size - 1 - i]'(by omega)) := Array.getElem?_eq_getElem (by omega)
    refine next_rt_item hit x.2.2 hx hsz fun h' hit' hs' => ?_
    have e2 : ((items.size - 1 - i : Nat) : Int) - 1 = (items.size : Int) - 1 - ((i + 1 : Nat) : Int) := by omega
    rw [e2] at hit'
    exact hQ _ h' (s.toks + 1) hx ⟨hi, hit', (let ⟨o, e, r⟩ := x.2.2; ⟨o, (hs'.2 t hne).trans e, r⟩)⟩ fun b o hb eo => hs'.extBut b o (fun h => hb (by simp [h])) eo
  done := fun s Q E x hQ => by
    have e : (items.size : Int) - 1 - (items.size : Int) = -1 := by omega
    have hit := x.2.1
    rw [e] at hit
    exact next_rt_end hh hit fun h' he' => hQ h' s.toks fun b o hb eo => he' b o (fun h => hb (by simp [h])) eo
  self := fun _ _ _ _ x hQ => iter_rt x.2.1 hQ
theorem call_list_rt {it t : Addr} {items : Array Value} {Q : Value → Shared → Prop} (hh : A.handled = none) (hit : IsRt s.heap it t ((items.size : Int) - 1)) (ht : IsTup s.heap t items) (hne : t ≠ it) (hn : items.size ≤ sizeLine)
    (hQ : ∀ (h' : Heap) (tk : Nat) (acc : Array Value) (c : Nat), (∀ b o, b ≠ it → s.heap.get? b = some o → h'.get? b = some o) → h'.get? s.heap.objs.size = some (MZ.lstO acc c) → ItemsOf (fun i v => items[items.size - 1 - i]? = some v) acc items.size →
      Q (.ref s.heap.objs.size) { s with heap := h', toks := tk }) : wpAny (model prog w) A (call (.type "list") [.ref it]) Q E s := by
  refine callType_codes (Q₁ := fun obj s₁ => obj = .ref s.heap.objs.size ∧ s₁ = { s with heap := s.heap.push { cls := .type "list", data := .seq #[] } }) PySem.F.called_list (PySem.F.typeCall_list_1 _) PySem.F.entry_list_init (code_list_new _ ⟨rfl, rfl⟩) fun obj s₁ q => ?_
  obtain ⟨rfl, rfl⟩ := q
  obtain ⟨S, eS⟩ : ∃ S, S = s.heap.objs.size := ⟨_, rfl⟩
  obtain ⟨h₀, e0⟩ : ∃ h₀ : Heap, h₀ = s.heap.push { cls := .type "list", data := .seq #[] } := ⟨_, rfl⟩
  have hS : h₀.get? S = some (MZ.lstO #[] 0) := by rw [e0, eS]; exact Heap.get?_push_size _ rfl
  have kp : ∀ c o, s.heap.get? c = some o → h₀.get? c = some o := fun c o e => by rw [e0]; exact Heap.get?_push_of_some _ e
  rw [← eS, ← e0]
  refine ⟨⟨_, hS, rfl⟩, PySem.F.args_list_init_2 _ _, ?_⟩
  have ne : ∀ {c : Addr} {o : Obj}, s.heap.get? c = some o → S ≠ c := fun {c o} e => by rw [eS]; exact Nat.ne_of_gt (Heap.lt_size e)
  obtain ⟨oi, hoi, _⟩ := id hit
  show wpAny _ _ (do let old ← Builtin.List.listItems (.ref S); Builtin.List.listUpdate (.ref S) (fun _ => #[]); letGo old.toList.reverse; Builtin.List.listExtendWith (.ref S) (.ref it) .none) _ _ { s with heap := h₀ }
  refine wpAny_bind ?_
  unfold Builtin.List.listItems
  refine wpAny_bind (wpAny_seqItems hS rfl (wpAny_pure ?_))
  show wpAny _ _ (updateSeq S (fun _ => #[]) >>= fun _ => letGo (#[] : Array Value).toList.reverse >>= fun _ => Builtin.List.listExtendWith (.ref S) (.ref it) .none) _ _ { s with heap := h₀ }
  refine wpAny_bind (wpAny_updateSeq hS rfl ?_)
  have hS₂ := Heap.get?_update_self (Obj.mapSeq (fun _ => (#[] : Array Value))) hS rfl
  have oth : ∀ c o, c ≠ S → h₀.get? c = some o → (h₀.update S (Obj.mapSeq (fun _ => (#[] : Array Value)))).get? c = some o := fun c o hc e => (Heap.get?_update_other _ _ (Ne.symm hc)).trans e
  refine wpAny_bind (wpAny_letGo ?_)
  obtain ⟨h₂, e3⟩ : ∃ h₂ : Heap, h₂ = h₀.update S (Obj.mapSeq (fun _ => (#[] : Array Value))) := ⟨_, rfl⟩
  rw [← e3] at hS₂ oth ⊢
  have k2 : ∀ {c : Addr} {o : Obj}, s.heap.get? c = some o → h₂.get? c = some o := fun {c o} e => oth c o (Ne.symm (ne e)) (kp c o e)
  have hit2 : IsRt h₂ it t ((items.size : Int) - 1) := hit.at fun o e => k2 e
  have ht2 : IsTup h₂ t items := let ⟨o, e, r⟩ := ht; ⟨o, k2 e, r⟩
  have hT : Shared.TypeIs { s with heap := h₂ } (.ref it) "reversed" := IsRt.typeIs (s := { s with heap := h₂ }) hit2
  unfold Builtin.List.listExtendWith
  refine wpAny_bind (wpAny_typeOf hT ?_)
  rw [show Builtin.List.listSameRef (.ref S) (.ref it) = false by simp [Builtin.List.listSameRef, ne hoi], show (Value.type "reversed" == Value.type "list") = false by decide, show (Value.type "reversed" == Value.type "tuple") = false by decide]
  simp only [Bool.or_false, Bool.false_eq_true, if_false]
  refine wpAny_bind (iter_rt (s := { s with heap := h₂ }) hit2 (wpAny_bind (wpAny_holding ?_)))
  unfold Builtin.List.listLengthHint
  refine wpAny_bind (wpAny_specialOf hT nolen_rt ?_)
  show wpAny _ _ (specialOf (Value.ref it) (Str.ofString "__length_hint__") >>= _) _ _ _
  refine wpAny_bind (wpAny_specialOf hT slot_rt_hint.lookup ?_)
  generalize hid : ("reversed.__length_hint__" : String) = id0
  wp_delta
  rw [show splitId id0 = some ("reversed", "__length_hint__") from by subst hid; decide +kernel]
  subst hid
  refine wpAny_bind (wpAny_isInstance (b := true) hT (by rw [isSubtype_type]; kernel_rfl) ?_)
  rw [if_neg (show ¬ ((!true) = true) by decide)]
  dsimp only
  rw [if_neg (by decide +kernel)]
  refine wpAny_bind (wpAny_rule (wpAny_bind (wpAny_of_eq (slot_rt_hint.bind _) ?_)))
  dsimp only
  refine wpAny_bind (wpAny_attempt (hint_rt (s := { s with heap := h₂ }) hit2 ht2 hn fun tk tk' => ?_))
  obtain ⟨N, hN⟩ : ∃ N : Int, N = (items.size : Int) := ⟨_, rfl⟩
  have hN0 : 0 ≤ N := by omega
  have hN1 : N ≤ 16777216 := by rw [sizeLine_eq] at hn; omega
  have f1 : Builtin.List.listFitsIndex N = true := by
    unfold Builtin.List.listFitsIndex
    simp only [Bool.and_eq_true, decide_eq_true_eq]
    omega
  have f2 : Builtin.List.listTooLong N.toNat = false := by
    unfold Builtin.List.listTooLong
    rw [sizeLine_eq]
    exact decide_eq_false (by omega)
  rw [← hN]
  have ai : asInt? (Value.int N tk) = pure (some N) := rfl
  refine wpAny_bind (wpAny_of_eq ai ?_)
  dsimp only
  rw [f1, f2, if_neg (show ¬ ((!true) = true) by decide), if_neg (show ¬ (N < 0) by omega), if_neg (show ¬ (false = true) by decide)]
  refine wpAny_pure ?_
  have h₂S : ∃ c, h₂.get? S = some (MZ.lstO #[] c) := ⟨_, hS₂⟩
  clear hS₂
  obtain ⟨c2, hS₂⟩ := h₂S
  have w1 := Walks.rt (prog := prog) (w := w) (A := A.in1.in1) hh it t hne items hn
  have hSf : S ∉ [it, t] := by
    simp only [List.mem_cons, List.not_mem_nil, or_false, not_or]
    obtain ⟨ot, hot, _⟩ := id ht
    exact ⟨ne hoi, ne hot⟩
  have e00 : ((items.size : Nat) : Int) - 1 - ((0 : Nat) : Int) = (items.size : Int) - 1 := by omega
  -- the loop
  have fin : ∀ (h₄ : Heap) (tk4 : Nat) (c4 : Nat), h₄.get? S = some (MZ.lstO #[] c4) → (∀ {c : Addr} {o : Obj}, s.heap.get? c = some o → h₄.get? c = some o) →
      codeAny (model prog w) A.in1 (.builtin "list.extend.loop" ⟨[.ref S, .ref it, .none], []⟩) (wants (fun r s₂ => r = .none ∧ Q (.ref S) s₂) E) { s with heap := h₄, toks := tk4 } := fun h₄ tk4 c4 hS₄ k4 => by
    have hit4 : IsRt h₄ it t ((items.size : Int) - 1 - ((0 : Nat) : Int)) := by rw [e00]; exact hit.at fun o e => k4 e
    have ht4 : IsTup h₄ t items := let ⟨o, e, r⟩ := ht; ⟨o, k4 e, r⟩
    refine codeAny_extend_loopS (s := { s with heap := h₄, toks := tk4 }) (w1.toS) hn _ hSf _ items.size 0 _ _ rfl (Nat.zero_le _) ⟨Nat.zero_le _, hit4, ht4⟩ hS₄ (ItemsOf.nil _) fun s' acc' c' hm hS' hacc => ?_
    refine ⟨rfl, ?_⟩
    rw [Moved.eq_with hm] at hS' ⊢
    rw [eS] at hS' ⊢
    refine hQ s'.heap s'.toks acc' c' (fun b o hb e => hm.heap b o (fun hmem => ?_) (k4 e)) hS' hacc
    rcases List.mem_cons.mp hmem with e' | hmem
    · exact ne e (by rw [e'])
    · exact hb (List.mem_singleton.mp hmem)
  split
  · refine wpAny_bind (wpAny_rule (wpAny_bind ?_))
    show wpAny _ _ (updateSeq S (·.push .none) >>= fun _ => updateSeq S (·.pop)) _ _ { s with heap := h₂, toks := tk' }
    refine wpAny_bind (wpAny_updateSeq hS₂ rfl ?_)
    have hS₃ := Heap.get?_update_self (Obj.mapSeq (·.push Value.none)) hS₂ rfl
    refine wpAny_updateSeq (hz := by seq_fits) hS₃ rfl ?_
    have hS₄ := Heap.get?_update_self (Obj.mapSeq (·.pop)) hS₃ rfl
    exact wpAny_pure ⟨plainId_quiet PySem.F.plain_extend_loop _, fin _ tk' _ hS₄ fun {c o} e => (Heap.get?_update_other _ _ (ne e)).trans ((Heap.get?_update_other _ _ (ne e)).trans (k2 e))⟩
  · exact wpAny_pure ⟨plainId_quiet PySem.F.plain_extend_loop _, fin h₂ tk' c2 hS₂ k2⟩
end
end RT
namespace MM
open PySem PySem.Spec PyProof.Rows L2
def tLstRev (K : PySem.W.Frag) (te : TE) : TE := fun σ H Q => te σ H fun v H1 => ∃ (a : Addr) (xs : List V), v = .ref a ∧ SqT K H1 a xs ∧ ∀ q, H1 q = none → Q (.ref q) (upd H1 q (.lst xs.reverse))
section
variable {X : Cx}
theorem pe_lstRev {e : Expr} {te : TE} {p p2 pos pos2 : Pos} (hc : X.calm = true) (hg : Gl X "list") (hm : X.mg "list" = none) (hg2 : Gl X "reversed") (hm2 : X.mg "reversed" = none) (he : PE X e te)
    (hs : starEach [e] X.env = (false, eval e X.env) :: starEach [] X.env := by rfl)
    (hs2 : starEach [.Call (.Name "reversed" p2) [e] [] pos2] X.env = (false, eval (.Call (.Name "reversed" p2) [e] [] pos2) X.env) :: starEach [] X.env := by rfl) :
    PE X (.Call (.Name "list" p) [.Call (.Name "reversed" p2) [e] [] pos2] [] pos) (tLstRev X.K te) := by
  refine ⟨fun pins s σ H Q I h => ?_⟩
  refine Call_ (ld_blt I hg hm boot_list (PyProof.Rows.callWith_type1 (args_cons (Call_ (ld_blt I hg2 hm2 PyProof.Rows.boot_reversed (PyProof.Rows.callWith_type1 (args_cons (thn (he.run pins s σ H _ I h) fun u s1 ⟨v, H1, I1, r1, q1⟩ => args_nil ?_) hs) hs rfl))) hs2) hs2 rfl))
  obtain ⟨a, xs, ev, hq, q⟩ := q1
  subst ev
  obtain rfl : u = Value.ref a := r1
  obtain ⟨its, rv, p', hz⟩ := I1.tuple hq
  have hn : its.toArray.size ≤ sizeLine := by rw [List.size_toArray, ← rv.length]; exact hz
  have hn63 := line63
  refine RT.call_reversed_tup p' (fun A E Q k => len_tuple p' (by simp only [List.size_toArray] at hn ⊢; omega) k) (args_nil ?_)
  have k0 : ∀ b o, s1.heap.get? b = some o → (s1.heap.push (RT.rtObj a ((its.toArray.size : Int) - 1))).get? b = some o := fun b o e => Heap.get?_push_of_some _ e
  obtain ⟨oa, hoa, hoc⟩ := id p'
  have hne : a ≠ s1.heap.objs.size := Nat.ne_of_lt (Heap.lt_size hoa)
  refine RT.call_list_rt (s := { s1 with heap := s1.heap.push (RT.rtObj a ((its.toArray.size : Int) - 1)), toks := s1.toks + 1 + 1 }) (I1.ok.hd hc) ⟨_, Heap.get?_push_size _ rfl, rfl, rfl⟩ ⟨oa, k0 _ _ hoa, hoc⟩ hne hn fun h' tk acc c hk hS hi => ?_
  have hk1 : ∀ b o, s1.heap.get? b = some o → h'.get? b = some o := fun b o e => hk b o (Nat.ne_of_lt (Heap.lt_size e)) (k0 b o e)
  have sz : (s1.heap.push (RT.rtObj a ((its.toArray.size : Int) - 1))).objs.size = s1.heap.objs.size + 1 := Heap.size_push ..
  have lo : s1.heap.objs.size ≤ (s1.heap.push (RT.rtObj a ((its.toArray.size : Int) - 1))).objs.size := by rw [sz]; exact Nat.le_succ _
  refine ⟨.ref _, upd H1 (s1.heap.push (RT.rtObj a ((its.toArray.size : Int) - 1))).objs.size (.lst xs.reverse), I1.laid (t' := tk) hk1 lo (show ObjOk X.prog X.w _ _ _ (.lst xs.reverse) from ⟨by rw [List.length_reverse]; exact hz, acc.toList, c, RT.vals_rev rv hi, ?_⟩), rfl, q _ (I1.hok.fresh lo)⟩
  rw [Array.toArray_toList]
  exact hS
end
def fRevT (d : D) (h : MH) : R D := match d with
  | .tup ds => .ok (.rol ds.reverse) h
  | _ => .stuck
def mRevT (m : ME) : ME := fun δ h => (m δ h).bnd fRevT
theorem pem_revT {X : Cx} {W : WX} {e : Expr} {me : ME} {p p2 pos pos2 : Pos} (hc : X.calm = true) (hg : Gl X "list") (hm : X.mg "list" = none) (hg2 : Gl X "reversed") (hm2 : X.mg "reversed" = none) (he : PEM X W e me)
    (hs : starEach [e] X.env = (false, eval e X.env) :: starEach [] X.env := by rfl)
    (hs2 : starEach [.Call (.Name "reversed" p2) [e] [] pos2] X.env = (false, eval (.Call (.Name "reversed" p2) [e] [] pos2) X.env) :: starEach [] X.env := by rfl) :
    PEM X W (.Call (.Name "list" p) [.Call (.Name "reversed" p2) [e] [] pos2] [] pos) (mRevT me) :=
  PE.imp (pe_lstRev hc hg hm hg2 hm2 he hs hs2) fun σ H Q ⟨L, h, δ, r, s, a⟩ => ⟨L, h, δ, r, s, Ans.imp (Ans.bind (rp := Rep X.K) a) fun v H1 ⟨L1, h1, d, x1, r1, p1, a1⟩ => by
    cases d with
    | tup ds =>
      obtain ⟨a, xs, rfl, st, w⟩ := tup_of p1
      refine ⟨a, xs, rfl, st, fun q hq => ?_⟩
      obtain ⟨x2, r2⟩ := r1.fresh (o := .lst xs.reverse) hq
      refine ans_okE r2 ?_ (a1.mono x2)
      unfold Rep
      exact ⟨q, xs.reverse, rfl, .inl ⟨.inl upd_same, r1.nl_new hq⟩, (w.mono x2).reverse⟩
    | _ => exact a1.elim⟩
end MM
set_option maxHeartbeats 2000000
namespace MZ
open PySem PySem.Spec PyProof.Rows
structure Sd (prog : Program) (w : World) where
  It : Heap → Addr → Addr → Nat → Prop
  Ct : Heap → Addr → Array Value → Prop
  lv : ∀ {h i l k}, It h i l k → ∃ o, h.get? i = some o ∧ ∀ v, o.data ≠ .cell v
  itK : ∀ {h h' i l k}, It h i l k → (∀ o, h.get? i = some o → h'.get? i = some o) → It h' i l k
  ctK : ∀ {h h' l xs}, Ct h l xs → (∀ o, h.get? l = some o → h'.get? l = some o) → Ct h' l xs
  one : ∀ {A : Around} {E : Value → Shared → Prop} {s : Shared} {i l : Addr} {k : Nat} {xs : Array Value} {x : Value} {Q : Value → Shared → Prop}, It s.heap i l k → Ct s.heap l xs → xs[k]? = some x →
    (∀ h', It h' i l (k + 1) → Heap.SameBut i s.heap h' → Q x { s with heap := h' }) → wpAny (model prog w) A (Builtin.SmallTypes.nextOf (.ref i)) Q E s
  over : ∀ {A : Around} {E : Value → Shared → Prop} {s : Shared} {i l : Addr} {k : Nat} {xs : Array Value} {Q : Value → Shared → Prop}, A.handled = none → It s.heap i l k → Ct s.heap l xs → xs[k]? = none →
    (∀ h' e, Heap.ExtBut i s.heap h' → (∃ o, h'.get? e = some o ∧ o.cls = .type "StopIteration") → E (.ref e) { s with heap := h' }) → wpAny (model prog w) A (Builtin.SmallTypes.nextOf (.ref i)) Q E s
def sdL (prog : Program) (w : World) : Sd prog w where
  It := Heap.IsListIter
  Ct := Heap.IsList
  lv := fun ⟨o, e, _, d⟩ => ⟨o, e, fun v q => by rw [d] at q; cases q⟩
  itK := fun ⟨o, e, r⟩ k => ⟨o, k o e, r⟩
  ctK := fun ⟨o, e, r⟩ k => ⟨o, k o e, r⟩
  one := wpAny_nextOf_list_item
  over := wpAny_nextOf_list_end
def sdT (prog : Program) (w : World) : Sd prog w where
  It := Heap.IsTupleIter
  Ct := Heap.IsTuple
  lv := fun ⟨o, e, _, d⟩ => ⟨o, e, fun v q => by rw [d] at q; cases q⟩
  itK := fun ⟨o, e, r⟩ k => ⟨o, k o e, r⟩
  ctK := fun ⟨o, e, r⟩ k => ⟨o, k o e, r⟩
  one := RZ.nextOf_tuple_item
  over := RZ.nextOf_tuple_end
section
variable {prog : Program} {w : World} {A : Around} {E : Value → Shared → Prop} {s : Shared} {S1 S2 : Sd prog w} {z TI TO i1 i2 l1 l2 : Addr} {k : Nat} {xs ys : Array Value} {x y a b : Value}
theorem two_item {Q : Fin → Shared → Prop} (D : ZipApart z TI TO i1 i2 l1 l2) (hz : IsZip s.heap z TI TO .none) (hI : IsPair s.heap TI (.ref i1) (.ref i2)) (hO : IsPair s.heap TO a b) (h1 : S1.It s.heap i1 l1 k) (h2 : S2.It s.heap i2 l2 k)
    (c1 : S1.Ct s.heap l1 xs) (c2 : S2.Ct s.heap l2 ys) (hx : xs[k]? = some x) (hy : ys[k]? = some y)
    (hQ : ∀ h', IsZip h' z TI TO (rawInt s.heap.objs.size) → IsPair h' TO x y → S1.It h' i1 l1 (k + 1) → S2.It h' i2 l2 (k + 1) → IsPair h' s.heap.objs.size x y → h'.objs.size = s.heap.objs.size + 1 →
      (∀ c o, c ≠ z → c ≠ TO → c ≠ i1 → c ≠ i2 → s.heap.get? c = some o → h'.get? c = some o) → Q (.done (.ret (.ref s.heap.objs.size))) { s with heap := h' }) : wpAny (model prog w) A (Builtin.«zip.__next__» ⟨[.ref z], []⟩) Q E s := by
  refine wpAny_bind (m := field (.ref z) 2) (wpAny_field hz rfl (x := .bool false) rfl (wpAny_bind (m := field (.ref z) 3) (wpAny_field hz rfl (x := .ref TI) rfl (wpAny_bind (wpAny_seqItems hI rfl (wpAny_bind (m := Builtin.SmallTypes.ownedTupleIsFree (.ref z)) ?_))))))
  unfold Builtin.SmallTypes.ownedTupleIsFree
  refine wpAny_bind (wpAny_field hz rfl (x := .none) rfl (wpAny_pure ?_))
  simp only [if_true]
  refine wpAny_bind (wpAny_rule (wpAny_bind (wpAny_field hz rfl (x := .ref TO) rfl (wpAny_bind (wpAny_setField_rec hz (by simp) fun g1 z1 b1 => ?_)))))
  replace z1 : IsZip g1 z TI TO .ellipsis := z1
  refine wpAny_bind ?_
  simp only [List.zipIdx_cons, List.zipIdx_nil, List.forIn_cons, List.forIn_nil]
  have e1 : ∀ c o, c ≠ z → s.heap.get? c = some o → g1.get? c = some o := fun c o q e => b1.extBut _ _ q e
  refine wpAny_bind (wpAny_bind (wpAny_onRaise (wpAny_bind (m := Builtin.SmallTypes.nextOf (.ref i1)) (S1.one (S1.itK h1 fun o e => e1 _ o D.i1z e) (S1.ctK c1 fun o e => e1 _ o D.l1z e) hx fun g2 it2 b2 => wpAny_pure ?_))))
  have e2 : ∀ c o, c ≠ z → c ≠ i1 → s.heap.get? c = some o → g2.get? c = some o := fun c o q q' e => b2.extBut _ _ q' (e1 c o q e)
  have O2 : IsPair g2 TO a b := e2 _ _ D.TOz D.TOi1 hO
  refine wpAny_bind (wpAny_seqItems O2 rfl (wpAny_bind (wpAny_updateSeq_pair O2 fun g3 O3 b3 => wpAny_bind (wpAny_letGo (wpAny_pure ?_)))))
  replace O3 : IsPair g3 TO x b := O3
  have e3 : ∀ c o, c ≠ z → c ≠ i1 → c ≠ TO → s.heap.get? c = some o → g3.get? c = some o := fun c o q q' q'' e => b3.extBut _ _ q'' (e2 c o q q' e)
  refine wpAny_bind (wpAny_bind (wpAny_onRaise (wpAny_bind (m := Builtin.SmallTypes.nextOf (.ref i2)) (S2.one (S2.itK h2 fun o e => e3 _ o D.i2z D.i12.symm D.TOi2.symm e) (S2.ctK c2 fun o e => e3 _ o D.l2z D.l2i1 D.l2TO e) hy fun g4 it4 b4 => wpAny_pure ?_))))
  have O4 : IsPair g4 TO x b := b4.extBut _ _ D.TOi2 O3
  refine wpAny_bind (wpAny_seqItems O4 rfl (wpAny_bind (wpAny_updateSeq_pair O4 fun g5 O5 b5 => wpAny_bind (wpAny_letGo (wpAny_pure (wpAny_pure ?_))))))
  replace O5 : IsPair g5 TO x y := O5
  refine wpAny_bind (wpAny_seqItems O5 rfl (wpAny_bind (wpAny_newTuple ?_)))
  have size : g5.objs.size = s.heap.objs.size := by rw [b5.1, b4.1, b3.1, b2.1, b1.1]
  have z5 : IsZip g5 z TI TO .ellipsis := b5.extBut _ _ D.TOz.symm (b4.extBut _ _ D.i2z.symm (b3.extBut _ _ D.TOz.symm (b2.extBut _ _ D.i1z.symm z1)))
  have e5 : ∀ c o, c ≠ z → c ≠ TO → c ≠ i1 → c ≠ i2 → s.heap.get? c = some o → g5.get? c = some o := fun c o q1 q2 q3 q4 e => b5.extBut _ _ q2 (b4.extBut _ _ q4 (e3 c o q1 q3 q2 e))
  have u1 : S1.It g5 i1 l1 (k + 1) := S1.itK it2 fun o e => b5.extBut _ _ D.TOi1.symm (b4.extBut _ _ D.i12 (b3.extBut _ _ D.TOi1.symm e))
  have u2 : S2.It g5 i2 l2 (k + 1) := S2.itK it4 fun o e => b5.extBut _ _ D.TOi2.symm e
  have lz : z < g5.objs.size := Heap.lt_size z5
  refine wpAny_bind (m := Builtin.SmallTypes.ownedTupleHandOut (.ref z) (.ref g5.objs.size)) ?_
  unfold Builtin.SmallTypes.ownedTupleHandOut
  have z6 : IsZip (g5.push { cls := .type "tuple", data := .seq #[x, y] }) z TI TO .ellipsis := Heap.get?_push_of_some _ z5
  refine wpAny_bind (wpAny_setField_rec z6 (by simp) fun g7 z7 b7 => ?_)
  replace z7 : IsZip g7 z TI TO (rawInt g5.objs.size) := z7
  refine wpAny_setField_rec z7 (by simp) fun g8 z8 b8 => ?_
  replace z8 : IsZip g8 z TI TO (rawInt g5.objs.size) := z8
  have up : ∀ c o, c ≠ z → g5.get? c = some o → g8.get? c = some o := fun c o q e => b8.extBut _ _ q (b7.extBut _ _ q (Heap.get?_push_of_some _ e))
  have T8 : IsPair g8 g5.objs.size x y := b8.extBut _ _ (Nat.ne_of_gt lz) (b7.extBut _ _ (Nat.ne_of_gt lz) (Heap.get?_push_size _ rfl))
  have n8 : g8.objs.size = g5.objs.size + 1 := by rw [b8.1, b7.1, Heap.size_push]
  rw [size] at z8 T8 n8
  refine wpAny_pure ?_
  show Q (.done (.ret (.ref g5.objs.size))) _
  rw [size]
  exact hQ g8 z8 (up _ _ D.TOz O5) (S1.itK u1 fun o e => up _ o D.i1z e) (S2.itK u2 fun o e => up _ o D.i2z e) T8 n8 fun c o q1 q2 q3 q4 e => up c o q1 (e5 c o q1 q2 q3 q4 e)
theorem two_end {Q : Fin → Shared → Prop} (hh : A.handled = none) (D : ZipApart z TI TO i1 i2 l1 l2) (hz : IsZip s.heap z TI TO .none) (hI : IsPair s.heap TI (.ref i1) (.ref i2)) (hO : IsPair s.heap TO a b) (h1 : S1.It s.heap i1 l1 k) (h2 : S2.It s.heap i2 l2 k)
    (c1 : S1.Ct s.heap l1 xs) (c2 : S2.Ct s.heap l2 ys) (hend : xs[k]? = none ∨ ys[k]? = none)
    (hE : ∀ h' e, (∀ c o, c ≠ z → c ≠ TO → c ≠ i1 → c ≠ i2 → s.heap.get? c = some o → h'.get? c = some o) → (∃ o, h'.get? e = some o ∧ o.cls = .type "StopIteration") → E (.ref e) { s with heap := h' }) : wpAny (model prog w) A (Builtin.«zip.__next__» ⟨[.ref z], []⟩) Q E s := by
  refine wpAny_bind (m := field (.ref z) 2) (wpAny_field hz rfl (x := .bool false) rfl (wpAny_bind (m := field (.ref z) 3) (wpAny_field hz rfl (x := .ref TI) rfl (wpAny_bind (wpAny_seqItems hI rfl (wpAny_bind (m := Builtin.SmallTypes.ownedTupleIsFree (.ref z)) ?_))))))
  unfold Builtin.SmallTypes.ownedTupleIsFree
  refine wpAny_bind (wpAny_field hz rfl (x := .none) rfl (wpAny_pure ?_))
  simp only [if_true]
  refine wpAny_bind (wpAny_rule (wpAny_bind (wpAny_field hz rfl (x := .ref TO) rfl (wpAny_bind (wpAny_setField_rec hz (by simp) fun g1 z1 b1 => ?_)))))
  replace z1 : IsZip g1 z TI TO .ellipsis := z1
  refine wpAny_bind ?_
  simp only [List.zipIdx_cons, List.zipIdx_nil, List.forIn_cons, List.forIn_nil]
  have e1 : ∀ c o, c ≠ z → s.heap.get? c = some o → g1.get? c = some o := fun c o q e => b1.extBut _ _ q e
  have i1' : S1.It g1 i1 l1 k := S1.itK h1 fun o e => e1 _ o D.i1z e
  have c1' : S1.Ct g1 l1 xs := S1.ctK c1 fun o e => e1 _ o D.l1z e
  refine wpAny_bind (wpAny_bind (wpAny_onRaise ?_))
  cases hx : xs[k]? with
  | none =>
    refine wpAny_bind (m := Builtin.SmallTypes.nextOf (.ref i1)) (S1.over hh i1' c1' hx fun g2 e b2 he => ?_)
    obtain ⟨oe, f1, f2⟩ := he
    have z2 : IsZip g2 z TI TO .ellipsis := b2 _ _ D.i1z.symm z1
    have ez : e ≠ z := fun q => by
      subst q
      rw [z2] at f1
      cases f1
      simp at f2
    exact wpAny_setField_rec z2 (by simp) fun g3 _ b3 => hE g3 e (fun c o q1 _ q3 _ p => b3.extBut _ _ q1 (b2 _ _ q3 (e1 c o q1 p))) ⟨oe, b3.extBut _ _ ez f1, f2⟩
  | some x =>
    have hy : ys[k]? = none := hend.resolve_left (by rw [hx]; simp)
    refine wpAny_bind (m := Builtin.SmallTypes.nextOf (.ref i1)) (S1.one i1' c1' hx fun g2 it2 b2 => wpAny_pure ?_)
    have e2 : ∀ c o, c ≠ z → c ≠ i1 → s.heap.get? c = some o → g2.get? c = some o := fun c o q q' e => b2.extBut _ _ q' (e1 c o q e)
    have O2 : IsPair g2 TO a b := e2 _ _ D.TOz D.TOi1 hO
    refine wpAny_bind (wpAny_seqItems O2 rfl (wpAny_bind (wpAny_updateSeq_pair O2 fun g3 O3 b3 => wpAny_bind (wpAny_letGo (wpAny_pure ?_)))))
    have e3 : ∀ c o, c ≠ z → c ≠ i1 → c ≠ TO → s.heap.get? c = some o → g3.get? c = some o := fun c o q q' q'' e => b3.extBut _ _ q'' (e2 c o q q' e)
    refine wpAny_bind (wpAny_bind (wpAny_onRaise (wpAny_bind (m := Builtin.SmallTypes.nextOf (.ref i2)) (S2.over hh (S2.itK h2 fun o e => e3 _ o D.i2z D.i12.symm D.TOi2.symm e) (S2.ctK c2 fun o e => e3 _ o D.l2z D.l2i1 D.l2TO e) hy fun g4 e b4 he => ?_))))
    obtain ⟨oe, f1, f2⟩ := he
    have z4 : IsZip g4 z TI TO .ellipsis := b4 _ _ D.i2z.symm (b3.extBut _ _ D.TOz.symm (b2.extBut _ _ D.i1z.symm z1))
    have ez : e ≠ z := fun q => by
      subst q
      rw [z4] at f1
      cases f1
      simp at f2
    exact wpAny_setField_rec z4 (by simp) fun g5 _ b5 => hE g5 e (fun c o q1 q2 q3 q4 p => b5.extBut _ _ q1 (b4 _ _ q4 (e3 c o q1 q3 q2 p))) ⟨oe, b5.extBut _ _ ez f1, f2⟩
theorem pair_item {Q : Option Value → Shared → Prop} (D : ZipApart z TI TO i1 i2 l1 l2) (hz : IsZip s.heap z TI TO .none) (hI : IsPair s.heap TI (.ref i1) (.ref i2)) (hO : IsPair s.heap TO a b) (h1 : S1.It s.heap i1 l1 k) (h2 : S2.It s.heap i2 l2 k)
    (c1 : S1.Ct s.heap l1 xs) (c2 : S2.Ct s.heap l2 ys) (hx : xs[k]? = some x) (hy : ys[k]? = some y)
    (hQ : ∀ h', IsZip h' z TI TO (rawInt s.heap.objs.size) → IsPair h' TO x y → S1.It h' i1 l1 (k + 1) → S2.It h' i2 l2 (k + 1) → IsPair h' s.heap.objs.size x y → h'.objs.size = s.heap.objs.size + 1 →
      (∀ c o, c ≠ z → c ≠ TO → c ≠ i1 → c ≠ i2 → s.heap.get? c = some o → h'.get? c = some o) → Q (some (.ref s.heap.objs.size)) { s with heap := h' }) : wpAny (model prog w) A (pyNext (.ref z)) Q E s := by
  have ty : s.TypeIs (.ref z) "zip" := ⟨_, hz, rfl⟩
  unfold pyNext
  exact wpAny_bind (wpAny_attempt (wpAny_callSpecial?_slot (name := Str.ofString "__next__") ty F.slot_zip_next (wpAny_call_entry F.slot_zip_next ty F.entry_zip_next (two_item D hz hI hO h1 h2 c1 c2 hx hy fun h' a1 a2 a3 a4 a5 a6 a7 => ⟨_, rfl, wpAny_pure (hQ h' a1 a2 a3 a4 a5 a6 a7)⟩) (F.args_zip_next_1 _))))
theorem pair_end {Q : Option Value → Shared → Prop} (hh : A.handled = none) (D : ZipApart z TI TO i1 i2 l1 l2) (hz : IsZip s.heap z TI TO .none) (hI : IsPair s.heap TI (.ref i1) (.ref i2)) (hO : IsPair s.heap TO a b) (h1 : S1.It s.heap i1 l1 k) (h2 : S2.It s.heap i2 l2 k)
    (c1 : S1.Ct s.heap l1 xs) (c2 : S2.Ct s.heap l2 ys) (hend : xs[k]? = none ∨ ys[k]? = none)
    (hQ : ∀ h', (∀ c o, c ≠ z → c ≠ TO → c ≠ i1 → c ≠ i2 → s.heap.get? c = some o → h'.get? c = some o) → Q none { s with heap := h' }) : wpAny (model prog w) A (pyNext (.ref z)) Q E s := by
  have ty : s.TypeIs (.ref z) "zip" := ⟨_, hz, rfl⟩
  unfold pyNext
  refine wpAny_bind (wpAny_attempt (wpAny_callSpecial?_slot (name := Str.ofString "__next__") ty F.slot_zip_next (wpAny_call_entry F.slot_zip_next ty F.entry_zip_next (two_end hh D hz hI hO h1 h2 c1 c2 hend fun h' e kk he => ?_) (F.args_zip_next_1 _))))
  obtain ⟨o, f1, f2⟩ := he
  exact wpAny_bind (wpAny_isInstance (T := "StopIteration") (b := true) ⟨o, f1, f2⟩ isSubtype_stop (wpAny_pure (hQ _ kk)))
end
end MZ
namespace MZ
open PySem PySem.Spec PyProof.Rows
abbrev hm1 (h : Heap) (l1 : Addr) : Heap := h.push { cls := .type "tuple_iterator", data := .fields #[.ref l1, .int 0 0] }
abbrev hm2 (h : Heap) (l1 l2 : Addr) : Heap := (hm1 h l1).push { cls := .type "list_iterator", data := .fields #[.ref l2, .int 0 0] }
abbrev hm3 (h : Heap) (l1 l2 : Addr) : Heap := (hm2 h l1 l2).push { cls := .type "tuple", data := .seq #[.ref h.objs.size, .ref (hm1 h l1).objs.size] }
abbrev hm4 (h : Heap) (l1 l2 : Addr) : Heap := (hm3 h l1 l2).push { cls := .type "tuple", data := .seq #[.none, .none] }
abbrev hm5 (h : Heap) (l1 l2 : Addr) : Heap := (hm4 h l1 l2).push { cls := .type "zip", data := .fields #[.none, .bool false, .bool false, .ref (hm2 h l1 l2).objs.size, .ref (hm3 h l1 l2).objs.size] }
theorem meets_zipM (l1 l2 : Addr) (xs ys : Array Value) : Meets (Builtin.«zip.__new__» ⟨[.type "zip", .ref l1, .ref l2], []⟩) (fun _ R s => s.heap.IsTuple l1 xs ∧ s.heap.IsList l2 ys ∧ R (.ok (.ret (.ref (hm4 s.heap l1 l2).objs.size))) { s with heap := hm5 s.heap l1 l2 }) :=
  .of_wp fun prog w A R s h => by
    obtain ⟨hp, g, d, tk, os⟩ := s
    obtain ⟨t1, t2, h⟩ := h
    have hsub := sub_zip
    have L1 : Heap.IsTuple (Shared.heap ⟨hp, g, d, tk, os⟩) l1 xs := t1
    have L2 : Heap.IsList (Shared.heap ⟨hm1 hp l1, g, d, tk, os⟩) l2 ys := Heap.IsList.push t2 _
    wp_walk using wpAny_pyIter_tuple L1, wpAny_pyIter_list L2
    exact ⟨_, rfl, h⟩
section
variable {prog : Program} {w : World} {A : Around} {E : Value → Shared → Prop} {s : Shared}
theorem call_zipM {l1 l2 : Addr} {xs ys : Array Value} {Q : Value → Shared → Prop} (t1 : s.heap.IsTuple l1 xs) (t2 : s.heap.IsList l2 ys)
    (h : ∀ h', IsZip h' (s.heap.objs.size + 4) (s.heap.objs.size + 2) (s.heap.objs.size + 3) .none → IsPair h' (s.heap.objs.size + 2) (.ref s.heap.objs.size) (.ref (s.heap.objs.size + 1)) → IsPair h' (s.heap.objs.size + 3) .none .none →
      h'.IsTupleIter s.heap.objs.size l1 0 → h'.IsListIter (s.heap.objs.size + 1) l2 0 → (∀ c o, s.heap.get? c = some o → h'.get? c = some o) → Q (.ref (s.heap.objs.size + 4)) { s with heap := h' }) :
    wpAny (model prog w) A (call (.type "zip") [.ref l1, .ref l2]) Q E s := by
  refine callType_new F.called_zip (by decide) (F.typeCall_zip_2 _ _) (F.newCall_zip_2 _ _) (fun obj => F.args_object_init_3 obj _ _) F.entry_zip_new (meets_zipM l1 l2 xs ys) ⟨t1, t2, ?_⟩
  obtain ⟨n, en⟩ : ∃ n, n = s.heap.objs.size := ⟨_, rfl⟩
  have n1 : (hm1 s.heap l1).objs.size = n + 1 := by rw [Heap.size_push, en]
  have n2 : (hm2 s.heap l1 l2).objs.size = n + 2 := by rw [Heap.size_push, n1]
  have n3 : (hm3 s.heap l1 l2).objs.size = n + 3 := by rw [Heap.size_push, n2]
  have n4 : (hm4 s.heap l1 l2).objs.size = n + 4 := by rw [Heap.size_push, n3]
  have up : ∀ {g : Heap} {o : Obj} {c : Addr} {u : Obj}, g.get? c = some u → (g.push o).get? c = some u := fun e => Heap.get?_push_of_some _ e
  have g5 : (hm5 s.heap l1 l2).get? (hm4 s.heap l1 l2).objs.size = some _ := Heap.get?_push_size _ rfl
  have g4 : (hm5 s.heap l1 l2).get? (hm3 s.heap l1 l2).objs.size = some _ := up (Heap.get?_push_size _ rfl)
  have g3 : (hm5 s.heap l1 l2).get? (hm2 s.heap l1 l2).objs.size = some _ := up (up (Heap.get?_push_size _ rfl))
  have g2 : (hm5 s.heap l1 l2).get? (hm1 s.heap l1).objs.size = some _ := up (up (up (Heap.get?_push_size _ rfl)))
  have g1 : (hm5 s.heap l1 l2).get? s.heap.objs.size = some _ := up (up (up (up (Heap.get?_push_size _ rfl))))
  show _ ∧ _
  rw [n4, n2, n3] at g5
  rw [n2, n1] at g3
  rw [n3] at g4
  rw [n1] at g2
  rw [n4]
  rw [← en] at h g1 g3
  exact ⟨⟨_, g5, rfl⟩, h _ g5 g3 g4 ⟨_, g1, rfl, rfl⟩ ⟨_, g2, rfl, rfl⟩ fun c o e => up (up (up (up (up e))))⟩
end
end MZ
namespace MM
open PySem PySem.Spec PyProof.Rows L2
def ItzM (K : PySem.W.Frag) (a b : Addr) : L2.It where
  go := fun i H => ∃ (xs ys : List V) (x y : V), SqT K H a xs ∧ SqL K H b ys ∧ xs[i]? = some x ∧ ys[i]? = some y
  yld := fun i H v H' => ∃ T x y, v = .ref T ∧ H T = none ∧ H' = upd H T (.tup [x, y]) ∧ (∀ xs, SqT K H a xs → xs[i]? = some x) ∧ ∀ ys, SqL K H b ys → ys[i]? = some y
  stop := fun i H => ∃ xs ys : List V, SqT K H a xs ∧ SqL K H b ys ∧ (xs.length ≤ i ∨ ys.length ≤ i)
theorem turn_zipM {P : Program} {w : World} {K : PySem.W.Frag} {elts : List Expr} {kk : Nat} {tpos : Pos} {a b z TI TO i1 i2 : Addr} (D : ZipApart z TI TO i1 i2 a b) :
    Turn P w K (.Tuple elts kk tpos) (ItzM K a b) [z, TI, TO, i1, i2] z (fun i h => IsZip h z TI TO .none ∧ IsPair h TI (.ref i1) (.ref i2) ∧ (∃ x y, IsPair h TO x y) ∧ h.IsTupleIter i1 a i ∧ h.IsListIter i2 b i) where
  mem := by simp
  obj := fun i h st c hc => by
    obtain ⟨s1, s2, ⟨x, y, s3⟩, s4, s5⟩ := st
    obtain ⟨o1, e1, d1⟩ := (MZ.sdT P w).lv s4
    obtain ⟨o2, e2, d2⟩ := (MZ.sdL P w).lv s5
    simp only [List.mem_cons, List.not_mem_nil, or_false] at hc
    rcases hc with rfl | rfl | rfl | rfl | rfl
    · exact ⟨_, s1, fun v q => nomatch q⟩
    · exact ⟨_, s2, fun v q => nomatch q⟩
    · exact ⟨_, s3, fun v q => nomatch q⟩
    · exact ⟨o1, e1, d1⟩
    · exact ⟨o2, e2, d2⟩
  keep := fun i h h' st kp => by
    obtain ⟨s1, s2, ⟨x, y, s3⟩, s4, s5⟩ := st
    exact ⟨kp _ (by simp) _ s1, kp _ (by simp) _ s2, ⟨x, y, kp _ (by simp) _ s3⟩, (MZ.sdT P w).itK s4 fun o q => kp _ (by simp) o q, (MZ.sdL P w).itK s5 fun o q => kp _ (by simp) o q⟩
  item := by
    intro X hP hw hK hc i pins s σ H E I hf st hg
    subst hP hw hK
    obtain ⟨s1, s2, ⟨x0, y0, s3⟩, s4, s5⟩ := st
    obtain ⟨xs, ys, x, y, q1, q2, hx, hy⟩ := hg
    obtain ⟨its, rv, p, _⟩ := I.tuple q1
    obtain ⟨its2, rv2, p2, _⟩ := I.list q2
    obtain ⟨u, hu, ru⟩ := rv.get hx
    obtain ⟨u2, hu2, ru2⟩ := rv2.get hy
    have lz : z < s.heap.objs.size := Heap.lt_size s1
    refine MZ.pair_item (S1 := MZ.sdT X.prog X.w) (S2 := MZ.sdL X.prog X.w) D s1 s2 s3 s4 s5 p p2.isList (x := u) (y := u2) (by simpa using hu) (by simpa using hu2) fun h' z' O' a1 a2 hT hsz hk => ⟨_, rfl, wpAny_letOwnedTupleGo_zip (s := { s with heap := h' }) z' fun h'' z'' sb => ?_⟩
    have T2 : h''.get? s.heap.objs.size = some { cls := .type "tuple", data := .seq #[u, u2] } := (sb.2 _ (Nat.ne_of_gt lz)).trans hT
    have all : ∀ c o, c ∉ [z, TI, TO, i1, i2] → s.heap.get? c = some o → h''.get? c = some o := fun c o hn e => by
      simp only [List.mem_cons, List.not_mem_nil, or_false, not_or] at hn
      exact (sb.2 c hn.1).trans (hk c o hn.1 hn.2.2.1 hn.2.2.2.1 hn.2.2.2.2 e)
    have new : ObjOk X.prog X.w (upd H s.heap.objs.size (.tup [x, y])) h'' s.heap.objs.size (.tup [x, y]) := ⟨by show 2 ≤ sizeLine; decide, [u, u2], .cons ru (.cons ru2 .nil), ⟨_, T2, rfl, _, rfl⟩⟩
    refine ⟨.ref s.heap.objs.size, _, I.turnedNew (t' := s.toks) all hf (Nat.le_refl _) new, rfl, ⟨_, x, y, rfl, I.hok.fresh (Nat.le_refl _), rfl, fun l hl => by rw [I.tuple_inj hl q1]; exact hx, fun l hl => by rw [I.list_inj hl q2]; exact hy⟩, ⟨z'', (sb.2 _ D.TIz).trans (hk _ _ D.TIz D.TITO D.TIi1 D.TIi2 s2), ⟨u, u2, (sb.2 _ D.TOz).trans O'⟩, ?_, ?_⟩, fun c hcm => ?_⟩
    · exact (MZ.sdT X.prog X.w).itK a1 fun o q => (sb.2 _ D.i1z).trans q
    · exact (MZ.sdL X.prog X.w).itK a2 fun o q => (sb.2 _ D.i2z).trans q
    · have lc : c < s.heap.objs.size := by
        obtain ⟨o1, e1, _⟩ := (MZ.sdT X.prog X.w).lv s4
        obtain ⟨o2, e2, _⟩ := (MZ.sdL X.prog X.w).lv s5
        have hcm := hcm
        simp only [List.mem_cons, List.not_mem_nil, or_false] at hcm
        rcases hcm with rfl | rfl | rfl | rfl | rfl
        · exact lz
        · exact Heap.lt_size s2
        · exact Heap.lt_size s3
        · exact Heap.lt_size e1
        · exact Heap.lt_size e2
      rw [upd_ne (Nat.ne_of_lt lc)]
      exact (hf c hcm).1
  done := by
    intro X hP hw hK hc i pins s σ H E I hf st hg
    subst hP hw hK
    obtain ⟨s1, s2, ⟨x0, y0, s3⟩, s4, s5⟩ := st
    obtain ⟨xs, ys, q1, q2, fin⟩ := hg
    obtain ⟨its, rv, p, _⟩ := I.tuple q1
    obtain ⟨its2, rv2, p2, _⟩ := I.list q2
    have n1 := rv.length
    have n2 := rv2.length
    have he : its.toArray[i]? = none ∨ its2.toArray[i]? = none := by
      rcases fin with q | q
      · exact .inl (Array.getElem?_eq_none (by rw [List.size_toArray]; omega))
      · exact .inr (Array.getElem?_eq_none (by rw [List.size_toArray]; omega))
    refine MZ.pair_end (S1 := MZ.sdT X.prog X.w) (S2 := MZ.sdL X.prog X.w) (I.ok.hd hc) D s1 s2 s3 s4 s5 p p2.isList he fun h' hk => ⟨rfl, I.turnedL (t' := s.toks) (ch := [z, TI, TO, i1, i2]) (fun c o hn e => ?_) hf⟩
    simp only [List.mem_cons, List.not_mem_nil, or_false, not_or] at hn
    exact hk c o hn.1 hn.2.2.1 hn.2.2.2.1 hn.2.2.2.2 e
  self := fun A i s Q E st h => wpAny_pyIter_zip st.1 h
def iZip3 (K : PySem.W.Frag) (ta : TA) : TI := fun σ H R => ta σ H fun vs H1 => ∃ a b xs ys, vs = [.ref a, .ref b] ∧ ((SqL K H1 a xs ∧ SqL K H1 b ys ∧ R (Itz K a b) H1) ∨ (SqT K H1 a xs ∧ SqT K H1 b ys ∧ R (RZ.ItzT K a b) H1) ∨ (SqT K H1 a xs ∧ SqL K H1 b ys ∧ R (ItzM K a b) H1))
theorem pi_zip3 {X : Cx} {e e2 : Expr} {ta : TA} {p pos tpos : Pos} {elts : List Expr} {kk : Nat} (hg : Gl X "zip") (hm : X.mg "zip" = none) (ha : PA X [e, e2] ta)
    (hs : starEach [e, e2] X.env = (false, eval e X.env) :: starEach [e2] X.env := by rfl) (hpl : (backTo pos (starEach [e2] X.env)).any (·.1) = false := by rfl) : PI X (.Tuple elts kk tpos) (.Call (.Name "zip" p) [e, e2] [] pos) (iZip3 X.K ta) := by
  refine ⟨fun pins s σ H R I h => Call_ (ld_blt I hg hm PyProof.Rows.boot_zip (PyProof.Rows.callWith_type1 (thn (ha.run pos pins s σ H _ I h) fun us s1 ⟨vs, H1, I1, r1, a, b, xs, ys, ex, q⟩ => ?_) hs hpl))⟩
  subst ex
  cases r1 with
  | cons r rr =>
    cases rr with
    | cons r' rr =>
      cases rr
      cases r
      cases r'
      obtain ⟨n, en⟩ : ∃ n, n = s1.heap.objs.size := ⟨_, rfl⟩
      have new : ∀ c, c ∈ [s1.heap.objs.size + 4, s1.heap.objs.size + 2, s1.heap.objs.size + 3, s1.heap.objs.size, s1.heap.objs.size + 1] → FpOk X pins H1 c := fun c hcm => by
        have le : s1.heap.objs.size ≤ c := by
          rw [← en] at hcm ⊢
          simp only [List.mem_cons, List.not_mem_nil, or_false] at hcm
          rcases hcm with z | z | z | z | z
          all_goals (rw [z]; first | exact Nat.le_add_right _ _ | exact Nat.le_refl _)
        exact I1.fpOk le (I1.hok.fresh le)
      rcases q with ⟨q1, q2, q⟩ | ⟨q1, q2, q⟩ | ⟨q1, q2, q⟩
      · obtain ⟨its, rv, p1, _⟩ := I1.list q1
        obtain ⟨its2, rv2, p2, _⟩ := I1.list q2
        obtain ⟨o1, ho1, _⟩ := id p1.isList
        obtain ⟨o2, ho2, _⟩ := id p2.isList
        exact call_zip_2 p1.isList p2.isList fun h' hz hI hO a1 a2 _ hk => wpAny_pyIter_zip hz ⟨s1.heap.objs.size + 4, [s1.heap.objs.size + 4, s1.heap.objs.size + 2, s1.heap.objs.size + 3, s1.heap.objs.size, s1.heap.objs.size + 1], _, _, H1, rfl, I1.kept (t' := s1.toks) hk, turn_zip (PySem.W.ktu_apart s1.heap.objs.size a b (Heap.lt_size ho1) (Heap.lt_size ho2)), ⟨hz, hI, ⟨_, _, hO⟩, a1, a2⟩, new, q⟩
      · obtain ⟨its, rv, p1, _⟩ := I1.tuple q1
        obtain ⟨its2, rv2, p2, _⟩ := I1.tuple q2
        obtain ⟨o1, ho1, _⟩ := id p1
        obtain ⟨o2, ho2, _⟩ := id p2
        exact RZ.call_zipT (show s1.heap.IsTuple a its.toArray from p1) (show s1.heap.IsTuple b its2.toArray from p2) fun h' hz hI hO a1 a2 _ hk => wpAny_pyIter_zip hz ⟨s1.heap.objs.size + 4, [s1.heap.objs.size + 4, s1.heap.objs.size + 2, s1.heap.objs.size + 3, s1.heap.objs.size, s1.heap.objs.size + 1], _, _, H1, rfl, I1.kept (t' := s1.toks) hk, RZ.turn_zipT (PySem.W.ktu_apart s1.heap.objs.size a b (Heap.lt_size ho1) (Heap.lt_size ho2)), ⟨hz, hI, ⟨_, _, hO⟩, a1, a2⟩, new, q⟩
      · obtain ⟨its, rv, p1, _⟩ := I1.tuple q1
        obtain ⟨its2, rv2, p2, _⟩ := I1.list q2
        obtain ⟨o1, ho1, _⟩ := id p1
        obtain ⟨o2, ho2, _⟩ := id p2.isList
        exact MZ.call_zipM p1 p2.isList fun h' hz hI hO a1 a2 hk => wpAny_pyIter_zip hz ⟨s1.heap.objs.size + 4, [s1.heap.objs.size + 4, s1.heap.objs.size + 2, s1.heap.objs.size + 3, s1.heap.objs.size, s1.heap.objs.size + 1], _, _, H1, rfl, I1.kept (t' := s1.toks) hk, turn_zipM (PySem.W.ktu_apart s1.heap.objs.size a b (Heap.lt_size ho1) (Heap.lt_size ho2)), ⟨hz, hI, ⟨_, _, hO⟩, a1, a2⟩, new, q⟩
def fZip3 (ds : List D) (h : MH) : R Src := match ds with
  | [d, c] => (match lstD c h with
    | some fs => (match d with
      | .tup es => .ok ⟨List.zipWith (fun x y => .tup [x, y]) (es.take (min es.length fs.length)) (fs.take (min es.length fs.length)), fun h' => lstD c h' = some fs⟩ h
      | _ => fZip [d, c] h)
    | none => fZip [d, c] h)
  | _ => .stuck
theorem fZip_or (ds : List D) (h : MH) : (∃ S, fZip ds h = .ok S h) ∨ fZip ds h = .stuck := by
  unfold fZip
  split
  · exact .inl ⟨_, rfl⟩
  · split
    · exact .inl ⟨_, rfl⟩
    · exact .inr rfl
  · exact .inr rfl
theorem fZip3_or (ds : List D) (h : MH) : (∃ S, fZip3 ds h = .ok S h) ∨ fZip3 ds h = .stuck := by
  unfold fZip3
  split
  · split
    · split
      · exact .inl ⟨_, rfl⟩
      · exact fZip_or _ _
    · exact fZip_or _ _
  · exact .inr rfl
theorem fZip3_two {d c : D} {h : MH} {S : Src} (e : fZip3 [d, c] h = .ok S h) : fZip [d, c] h = .ok S h ∨ ∃ es fs, d = .tup es ∧ lstD c h = some fs ∧ S = ⟨List.zipWith (fun x y => .tup [x, y]) (es.take (min es.length fs.length)) (fs.take (min es.length fs.length)), fun h' => lstD c h' = some fs⟩ := by
  unfold fZip3 at e
  simp only at e
  split at e
  · rename_i fs z
    split at e
    · cases e; exact .inr ⟨_, _, rfl, z, rfl⟩
    · exact .inl e
  · exact .inl e
section
variable {X : Cx} {W : WX} {e : Expr} {mas : MA}
theorem pim_zip3 {e2 : Expr} {tpos p pos : Pos} {elts : List Expr} {kk : Nat} (hg : Gl X "zip") (hm : X.mg "zip" = none) (ha : PAM X W [e, e2] mas)
    (hs : starEach [e, e2] X.env = (false, eval e X.env) :: starEach [e2] X.env := by rfl) (hpl : (backTo pos (starEach [e2] X.env)).any (·.1) = false := by rfl) :
    PIM X W (.Tuple elts kk tpos) (.Call (.Name "zip" p) [e, e2] [] pos) (mCallI fZip3 mas) := by
  refine PI.imp (pi_zip3 hg hm ha hs hpl) fun σ H R t => ?_
  refine tI_args (G := fun vs H1 R => ∃ a b xs ys, vs = [.ref a, .ref b] ∧ ((SqL X.K H1 a xs ∧ SqL X.K H1 b ys ∧ R (Itz X.K a b) H1) ∨ (SqT X.K H1 a xs ∧ SqT X.K H1 b ys ∧ R (RZ.ItzT X.K a b) H1) ∨ (SqT X.K H1 a xs ∧ SqL X.K H1 b ys ∧ R (ItzM X.K a b) H1))) (fun L H h ds vs S Q r w e k => ?_) fZip3_or t
  have two : ∃ d c, ds = [d, c] := by
    unfold fZip3 at e
    split at e
    · exact ⟨_, _, rfl⟩
    · cases e
  obtain ⟨d, c, rfl⟩ := two
  obtain ⟨v, u, rfl, q1, q2⟩ := w.two
  rcases fZip3_two e with e | ⟨es, fs, rfl, l2, rfl⟩
  · rcases fZip_two e with ⟨es, fs, rfl, rfl, rfl⟩ | ⟨es, fs, l1, l2, rfl⟩
    · obtain ⟨p, xs, rfl, s1, w1⟩ := tup_of q1
      obtain ⟨p2, ys, rfl, s2, w2⟩ := tup_of q2
      refine ⟨p, p2, xs, ys, rfl, .inr (.inl ⟨s1, s2, k _ (Trod.pair (n := min es.length fs.length) (by rw [List.length_take]; omega) (by rw [List.length_take]; omega) (fun L' H' h' i x r' e' hi => ?_) (fun L' H' h' x r' e' => ?_) fun L' H' h' i v H'' x r' e' hi hy => ?_)⟩)⟩ <;>
        obtain ⟨p', xs', ep, t1, v1⟩ := tup_of (q1.mono x) <;> cases ep <;> obtain ⟨p', ys', ep, t2, v2⟩ := tup_of (q2.mono x) <;> cases ep
      · obtain ⟨u1, e5, _⟩ := v1.get (i := i) (List.getElem?_eq_getElem (by omega))
        obtain ⟨u2, e6, _⟩ := v2.get (i := i) (List.getElem?_eq_getElem (by omega))
        exact ⟨xs', ys', u1, u2, t1, t2, e5, e6⟩
      · refine ⟨xs', ys', t1, t2, ?_⟩
        rw [← v1.length, ← v2.length]; omega
      · obtain ⟨T, x, y, h1, h2, h3, h4, h5⟩ := hy
        obtain ⟨c1, f1, g1⟩ := v1.get' (h4 xs' t1)
        obtain ⟨c2, f2, g2⟩ := v2.get' (h5 ys' t2)
        exact ⟨T, x, y, h1, h2, h3, ⟨c1, by rw [List.getElem?_take_of_lt hi]; exact f1, g1⟩, c2, by rw [List.getElem?_take_of_lt hi]; exact f2, g2⟩
    · obtain ⟨p, xs, rfl, s1, w1⟩ := lstD_of r q1 l1
      obtain ⟨p2, ys, rfl, s2, w2⟩ := lstD_of r q2 l2
      refine ⟨p, p2, xs, ys, rfl, .inl ⟨s1, s2, k _ (Trod.pair (n := min es.length fs.length) (by rw [List.length_take]; omega) (by rw [List.length_take]; omega) (fun L' H' h' i x r' e' hi => ?_) (fun L' H' h' x r' e' => ?_) fun L' H' h' i v H'' x r' e' hi hy => ?_)⟩⟩ <;>
        obtain ⟨p', xs', ep, t1, v1⟩ := lstD_of r' (q1.mono x) e'.1 <;> cases ep <;> obtain ⟨p', ys', ep, t2, v2⟩ := lstD_of r' (q2.mono x) e'.2 <;> cases ep
      · obtain ⟨u1, e5, _⟩ := v1.get (i := i) (List.getElem?_eq_getElem (by omega))
        obtain ⟨u2, e6, _⟩ := v2.get (i := i) (List.getElem?_eq_getElem (by omega))
        exact ⟨xs', ys', u1, u2, t1, t2, e5, e6⟩
      · refine ⟨xs', ys', t1, t2, ?_⟩
        rw [← v1.length, ← v2.length]; omega
      · obtain ⟨T, x, y, h1, h2, h3, h4, h5⟩ := hy
        obtain ⟨c1, f1, g1⟩ := v1.get' (h4 xs' t1)
        obtain ⟨c2, f2, g2⟩ := v2.get' (h5 ys' t2)
        exact ⟨T, x, y, h1, h2, h3, ⟨c1, by rw [List.getElem?_take_of_lt hi]; exact f1, g1⟩, c2, by rw [List.getElem?_take_of_lt hi]; exact f2, g2⟩
  · obtain ⟨p, xs, rfl, s1, w1⟩ := tup_of q1
    obtain ⟨p2, ys, rfl, s2, w2⟩ := lstD_of r q2 l2
    refine ⟨p, p2, xs, ys, rfl, .inr (.inr ⟨s1, s2, k _ (Trod.pair (n := min es.length fs.length) (by rw [List.length_take]; omega) (by rw [List.length_take]; omega) (fun L' H' h' i x r' e' hi => ?_) (fun L' H' h' x r' e' => ?_) fun L' H' h' i v H'' x r' e' hi hy => ?_)⟩)⟩ <;>
      obtain ⟨p', xs', ep, t1, v1⟩ := tup_of (q1.mono x) <;> cases ep <;> obtain ⟨p', ys', ep, t2, v2⟩ := lstD_of r' (q2.mono x) e' <;> cases ep
    · obtain ⟨u1, e5, _⟩ := v1.get (i := i) (List.getElem?_eq_getElem (by omega))
      obtain ⟨u2, e6, _⟩ := v2.get (i := i) (List.getElem?_eq_getElem (by omega))
      exact ⟨xs', ys', u1, u2, t1, t2, e5, e6⟩
    · refine ⟨xs', ys', t1, t2, ?_⟩
      rw [← v1.length, ← v2.length]; omega
    · obtain ⟨T, x, y, h1, h2, h3, h4, h5⟩ := hy
      obtain ⟨c1, f1, g1⟩ := v1.get' (h4 xs' t1)
      obtain ⟨c2, f2, g2⟩ := v2.get' (h5 ys' t2)
      exact ⟨T, x, y, h1, h2, h3, ⟨c1, by rw [List.getElem?_take_of_lt hi]; exact f1, g1⟩, c2, by rw [List.getElem?_take_of_lt hi]; exact f2, g2⟩
end
end MM
set_option maxHeartbeats 2000000
namespace MM
open PySem PySem.Spec PyProof.Rows L2
open Classical in
section
variable {K : PySem.W.Frag} {S1' : List Nat} {g1 : MG} {cond1 : MT} {elt : ME} {vs1 : List Nat} {L1 L4 : TL} {H1 H4 : Hp} {h4 : MH} {δ1 : MS} {σ2 : L2.St} {Dl : Addr} {n : Nat} {J1 : L2.It} {Sr : Src} {kk : Unit → MH → R D} {Q : VK} {E : XK} {Nx : Hp → Prop}
end
section
variable {X : Cx} {W : WX} {elt tg iter tg1 iter1 : Expr} {ifs ifs1 : List Expr} {scope : Scope} {own : List (Str × Nat)} {vs1 : List Nat} {pos : Pos} {mi mi1 : MI} {S S1' : List Nat} {g g1 : MG} {cond cond1 : MT} {me : ME}
end
end MM
namespace MM
open PySem PySem.Spec PyProof.Rows L2
end MM
set_option maxHeartbeats 2000000
namespace MM
open PySem PySem.Spec PyProof.Rows L2
section
variable {X : Cx} {W : WX} {pos p : Pos} {e o : Expr} {tg : Expr} {es : List Expr} {me mo mv : ME} {mas : MA} {K : PySem.W.Frag}
def opSlN (x : D) (lo hi : Option Int) (h : MH) : R D := match lstD x h with
  | some ds => .ok (.ref h.length) (h ++ [.lst (cutD ds lo hi)])
  | none => .stuck
theorem opSlN_ok : SlM K (rSl3 K) opSlN := by
  intro L H h dx x lo hi Q E r px a
  unfold opSlN at a
  cases e : lstD dx h with
  | none => rw [e] at a; exact a.elim
  | some ds =>
    rw [e] at a
    obtain ⟨p, xs, rfl, s, w⟩ := lstD_of r px e
    exact .inl ⟨p, xs, rfl, s, fun q hq => ans_of (rep_new r hq w.cut) a⟩
def mAsgSeq (n : Nat) (gs : MGs) (m : ME) : MSt := fun δ h => (m δ h).st δ fun d h1 => match seqG d h1 with
  | some ds => if ds.length = n then (match gs ds δ with
    | some δ' => .ok (.next δ') h1
    | none => .stuck) else .stuck
  | none => .stuck
theorem psm_asgSeq {S : List Nat} {k n : Nat} {p4 : Pos} {gs : MGs} (hc : X.calm = true) (he : PEM X W e me) (hg : PGsM X es S gs) (hn : (assignEach es X.env).length = n := by rfl) (hst : (assignEach es X.env).findIdx? (·.1) = none := by rfl)
    (hs : swapsWithSole [.Tuple es k p4] e pos.line X.env = pure false := by rfl) (hw : swappedStores [.Tuple es k p4] e X.env = pure none := by rfl) :
    PSM X W (.Assign [.Tuple es k p4] e pos) (mAsgSeq n gs me) := by
  refine PS.imp (ps_asg he (PG.or (pg_tup hc hg hn hst) (pg_lst hc hg hn hst)) hs hw rfl) fun D σ H ⟨L, h, δ, r, s, a⟩ => ⟨L, h, δ, r, s, Ans.imp (AnsS.bind (rp := Rep X.K) s a) fun v H1 ⟨L1, h1, d, x1, r1, q1, s1, a1⟩ => ?_⟩
  split at a1
  · rename_i ds eg
    split at a1
    · rename_i hl
      split at a1
      · rename_i δ' e'
        obtain ⟨q, vs, rfl, sq, w⟩ := seqG_of r1 q1 eg
        rcases sq with sq | sq
        · exact .inr ⟨q, vs, rfl, sq, by rw [← w.length]; exact hl, L1, h1, δ, ds, r1, s1, w, δ', e', fun σ' s' _ => a1.nx r1 s'⟩
        · exact .inl ⟨q, vs, rfl, sq, by rw [← w.length]; exact hl, L1, h1, δ, ds, r1, s1, w, δ', e', fun σ' s' _ => a1.nx r1 s'⟩
      · exact a1.elim
    · exact a1.elim
  · exact a1.elim
def fDictN (ds : List D) (h : MH) : R D := match ds with
  | [.ref n] => (match dic? h n with | some kvs => .ok (.ref h.length) (h ++ [.dic kvs]) | none => .stuck)
  | _ => .stuck
theorem fDictN_ok : CallM K (fun xs H Q => ∃ (a : Addr) (kvs : List (Key × V)), xs = [.ref a] ∧ Rd H a (.dK kvs) ∧ ∀ p, H p = none → Q (.ref p) (upd H p (.dK kvs))) fDictN := by
  intro L H h ds vs Q E r w a
  unfold fDictN at a
  split at a
  · rename_i n
    obtain ⟨v, rfl, q⟩ := w.one
    cases e : dic? h n with
    | none => rw [e] at a; exact a.elim
    | some kvs =>
      simp only [e] at a
      obtain ⟨b, ws, e1, e2, w2⟩ := r.dic (dic?_at e)
      exact ⟨b, ws, by rw [q.ref e1], .of e2, fun l hl => ans_of (rep_newD r hl w2) a⟩
  · exact a.elim
theorem Trod.rngC {K : PySem.W.Frag} {L H} {lo c : Int} {n : Nat} (g : MH → Prop) : Trod K L H (Itc lo c n) ((List.range n).map fun (i : Nat) => .int (lo + i * c)) g := by
  refine ⟨fun L' H' h' i x r' e' hi => ?_, fun L' H' h' x r' e' => ?_, fun L' H' h' i x H'' y r' e' hi hy => ?_⟩
  · show i < n
    simpa using hi
  · show n ≤ _
    simp
  · obtain ⟨rfl, rfl⟩ := hy
    have hi' : i < n := by simpa using hi
    exact ⟨Ext.refl _ _, r', .int (lo + i * c), by rw [List.getElem?_map, List.getElem?_range hi']; rfl, rep_int⟩
noncomputable def fRange3 (ds : List D) (h : MH) : R Src := match ds with
  | [.int i, .int j, .int c] => if (c ≠ 0 ∧ c.natAbs < 1073741824) ∧ Builtin.Range.small i j c = true ∧ Builtin.Range.rangeSize i j c = ((Builtin.Range.rangeSize i j c).toNat : Int) then .ok ⟨(List.range (Builtin.Range.rangeSize i j c).toNat).map fun (k : Nat) => .int (i + k * c), fun _ => True⟩ h else .stuck
  | _ => .stuck
theorem pim_range3 {a b c : Expr} (hg : Gl X "range") (hm : X.mg "range" = none) (ha : PAM X W [a, b, c] mas) (hs : starEach [a, b, c] X.env = (false, eval a X.env) :: starEach [b, c] X.env := by rfl) (hpl : (backTo pos (starEach [b, c] X.env)).any (·.1) = false := by rfl) :
    PIM X W tg (.Call (.Name "range" p) [a, b, c] [] pos) (fun δ h => (mas δ h).bnd fRange3) := by
  refine PI.imp (pi_range3 hg hm ha hs hpl) fun σ H R t => ?_
  refine tI_args (G := fun vs H1 R => ∃ (i j c : Int) (n : Nat), vs = [.int i, .int j, .int c] ∧ RgC i j c n ∧ R (Itc i c n) H1) (fun L H h ds vs S Q r w e k => ?_) (fun ds h => ?_) t
  · unfold fRange3 at e
    split at e
    · rename_i i j c
      split at e
      · rename_i z
        cases e
        obtain ⟨v, us, rfl, q1, w⟩ := w.cons_inv
        obtain ⟨u, t, rfl, q2, q3⟩ := w.two
        exact ⟨i, j, c, _, by rw [rep_int_inv q1, rep_int_inv q2, rep_int_inv q3], ⟨z.1.1, z.1.2, z.2.1, z.2.2⟩, k _ (Trod.rngC _)⟩
      · cases e
    · cases e
  · unfold fRange3
    split
    · split
      · exact .inl ⟨_, rfl⟩
      · exact .inr rfl
    · exact .inr rfl
end
end MM
namespace K18
open PySem PySem.Spec PyProof.Rows L2 MM
def topS (i : Nat) : Stmt := PySem.Challenge.pw_escheat_k18_shared_cells.main.body.getD i (.Pass ⟨0, 0, 0, 0⟩)
abbrev s__law_cell : Stmt := topS 55
theorem sc__law_cell : FnScope ["script", "at"] ["script", "at"] (defScope s__law_cell) := ⟨rfl, rfl, rfl, by decide +kernel, rfl, by decide +kernel, by decide +kernel⟩
abbrev s__law_deeds : Stmt := topS 61
theorem sc__law_deeds : FnScope ["cells", "many", "deeds", "cell", "deed", "which", "index", "value"] ["cells", "many"] (defScope s__law_deeds) := ⟨rfl, rfl, rfl, by decide +kernel, rfl, by decide +kernel, by decide +kernel⟩
abbrev s__law_whole : Stmt := topS 56
theorem sc__law_whole : FnScope [] [] (defScope s__law_whole) := ⟨rfl, rfl, rfl, by decide +kernel, rfl, by decide +kernel, by decide +kernel⟩
abbrev s__law_let : Stmt := topS 60
theorem sc__law_let : FnScope ["name", "value", "body"] ["name", "value", "body"] (defScope s__law_let) := ⟨rfl, rfl, rfl, by decide +kernel, rfl, by decide +kernel, by decide +kernel⟩
abbrev s__law_name : Stmt := topS 58
theorem sc__law_name : FnScope ["kind", "name"] ["kind", "name"] (defScope s__law_name) := ⟨rfl, rfl, rfl, by decide +kernel, rfl, by decide +kernel, by decide +kernel⟩
abbrev s__law_print : Stmt := topS 62
theorem sc__law_print : FnScope ["kid"] ["kid"] (defScope s__law_print) := ⟨rfl, rfl, rfl, by decide +kernel, rfl, by decide +kernel, by decide +kernel⟩
abbrev s__law_int : Stmt := topS 57
theorem sc__law_int : FnScope ["value"] ["value"] (defScope s__law_int) := ⟨rfl, rfl, rfl, by decide +kernel, rfl, by decide +kernel, by decide +kernel⟩
abbrev s__law_expression : Stmt := topS 63
theorem sc__law_expression : FnScope ["deed", "unit", "whole", "ref", "array", "kept", "row", "copied"] ["deed"] (defScope s__law_expression) := ⟨rfl, rfl, rfl, by decide +kernel, rfl, by decide +kernel, by decide +kernel⟩
abbrev s__law_seq : Stmt := topS 59
theorem sc__law_seq : FnScope ["first", "second"] ["first", "second"] (defScope s__law_seq) := ⟨rfl, rfl, rfl, by decide +kernel, rfl, by decide +kernel, by decide +kernel⟩
abbrev s__law_program : Stmt := topS 64
theorem sc__law_program : FnScope ["many", "start", "deeds", "whole", "ref", "array", "groups", "at", "group", "deed", "body", "functions", "kinds", "names", "call", "row"] ["many", "start", "deeds"] (defScope s__law_program) := ⟨rfl, rfl, rfl, by decide +kernel, rfl, by decide +kernel, by decide +kernel⟩
abbrev s_Outcome___init__ : Stmt := inClass (topS 20) 0
theorem sc_Outcome___init__ : FnScope ["self", "fuel"] ["self", "fuel"] (defScope s_Outcome___init__) := ⟨rfl, rfl, rfl, by decide +kernel, rfl, by decide +kernel, by decide +kernel⟩
abbrev s_Evaluation___init__ : Stmt := inClass (topS 26) 0
theorem sc_Evaluation___init__ : FnScope ["self", "program", "fuel", "_", "exceptions", "functions"] ["self", "program", "fuel"] (defScope s_Evaluation___init__) := ⟨rfl, rfl, rfl, by decide +kernel, rfl, by decide +kernel, by decide +kernel⟩
abbrev s_Evaluation_begin : Stmt := inClass (topS 26) 3
theorem sc_Evaluation_begin : FnScope ["self", "expression", "scope"] ["self", "expression", "scope"] (defScope s_Evaluation_begin) := ⟨rfl, rfl, rfl, by decide +kernel, rfl, by decide +kernel, by decide +kernel⟩
abbrev s_Outcome_end_stuck : Stmt := inClass (topS 20) 2
theorem sc_Outcome_end_stuck : FnScope ["self"] ["self"] (defScope s_Outcome_end_stuck) := ⟨rfl, rfl, rfl, by decide +kernel, rfl, by decide +kernel, by decide +kernel⟩
abbrev s__bound : Stmt := topS 27
theorem sc__bound : FnScope ["parameters", "values", "name", "_", "value"] ["parameters", "values"] (defScope s__bound) := ⟨rfl, rfl, rfl, by decide +kernel, rfl, by decide +kernel, by decide +kernel⟩
abbrev s__begin_kids : Stmt := topS 28
theorem sc__begin_kids : FnScope ["evaluation", "expression", "scope", "op", "_", "kids", "kid"] ["evaluation", "expression", "scope"] (defScope s__begin_kids) := ⟨rfl, rfl, rfl, by decide +kernel, rfl, by decide +kernel, by decide +kernel⟩
abbrev s_Evaluation_give : Stmt := inClass (topS 26) 4
theorem sc_Evaluation_give : FnScope ["self", "value"] ["self", "value"] (defScope s_Evaluation_give) := ⟨rfl, rfl, rfl, by decide +kernel, rfl, by decide +kernel, by decide +kernel⟩
abbrev s__begin_literal : Stmt := topS 29
theorem sc__begin_literal : FnScope ["evaluation", "expression", "scope"] ["evaluation", "expression", "scope"] (defScope s__begin_literal) := ⟨rfl, rfl, rfl, by decide +kernel, rfl, by decide +kernel, by decide +kernel⟩
abbrev s__begin_name : Stmt := topS 30
theorem sc__begin_name : FnScope ["evaluation", "expression", "scope"] ["evaluation", "expression", "scope"] (defScope s__begin_name) := ⟨rfl, rfl, rfl, by decide +kernel, rfl, by decide +kernel, by decide +kernel⟩
abbrev s__begin_fn : Stmt := topS 31
theorem sc__begin_fn : FnScope ["evaluation", "expression", "scope", "variable", "_", "body"] ["evaluation", "expression", "scope"] (defScope s__begin_fn) := ⟨rfl, rfl, rfl, by decide +kernel, rfl, by decide +kernel, by decide +kernel⟩
abbrev s__begin_handle : Stmt := topS 32
theorem sc__begin_handle : FnScope ["evaluation", "expression", "scope"] ["evaluation", "expression", "scope"] (defScope s__begin_handle) := ⟨rfl, rfl, rfl, by decide +kernel, rfl, by decide +kernel, by decide +kernel⟩
abbrev s_Outcome_spend : Stmt := inClass (topS 20) 1
theorem sc_Outcome_spend : FnScope ["self", "ticks"] ["self", "ticks"] (defScope s_Outcome_spend) := ⟨rfl, rfl, rfl, by decide +kernel, rfl, by decide +kernel, by decide +kernel⟩
abbrev s__end_call : Stmt := topS 34
theorem sc__end_call : FnScope ["evaluation", "expression", "scope", "values", "_", "parameters", "body"] ["evaluation", "expression", "scope", "values"] (defScope s__end_call) := ⟨rfl, rfl, rfl, by decide +kernel, rfl, by decide +kernel, by decide +kernel⟩
abbrev s__end_make : Stmt := topS 35
theorem sc__end_make : FnScope ["evaluation", "expression", "scope", "values"] ["evaluation", "expression", "scope", "values"] (defScope s__end_make) := ⟨rfl, rfl, rfl, by decide +kernel, rfl, by decide +kernel, by decide +kernel⟩
abbrev s__end_tuple : Stmt := topS 36
theorem sc__end_tuple : FnScope ["evaluation", "expression", "scope", "values"] ["evaluation", "expression", "scope", "values"] (defScope s__end_tuple) := ⟨rfl, rfl, rfl, by decide +kernel, rfl, by decide +kernel, by decide +kernel⟩
abbrev s__end_get : Stmt := topS 37
theorem sc__end_get : FnScope ["evaluation", "expression", "scope", "values"] ["evaluation", "expression", "scope", "values"] (defScope s__end_get) := ⟨rfl, rfl, rfl, by decide +kernel, rfl, by decide +kernel, by decide +kernel⟩
abbrev s_inner_scope : Stmt := topS 22
theorem sc_inner_scope : FnScope ["scope", "names", "values", "inner", "name", "value"] ["scope", "names", "values"] (defScope s_inner_scope) := ⟨rfl, rfl, rfl, by decide +kernel, rfl, by decide +kernel, by decide +kernel⟩
abbrev s__end_let : Stmt := topS 38
theorem sc__end_let : FnScope ["evaluation", "expression", "scope", "values"] ["evaluation", "expression", "scope", "values"] (defScope s__end_let) := ⟨rfl, rfl, rfl, by decide +kernel, rfl, by decide +kernel, by decide +kernel⟩
abbrev s__end_if : Stmt := topS 39
theorem sc__end_if : FnScope ["evaluation", "expression", "scope", "values", "_", "first", "second"] ["evaluation", "expression", "scope", "values"] (defScope s__end_if) := ⟨rfl, rfl, rfl, by decide +kernel, rfl, by decide +kernel, by decide +kernel⟩
abbrev s__end_case : Stmt := topS 40
theorem sc__end_case : FnScope ["evaluation", "expression", "scope", "values", "number", "fields", "_", "variables", "body"] ["evaluation", "expression", "scope", "values"] (defScope s__end_case) := ⟨rfl, rfl, rfl, by decide +kernel, rfl, by decide +kernel, by decide +kernel⟩
abbrev s__end_apply : Stmt := topS 41
theorem sc__end_apply : FnScope ["evaluation", "expression", "scope", "values", "variable", "body", "around", "argument"] ["evaluation", "expression", "scope", "values"] (defScope s__end_apply) := ⟨rfl, rfl, rfl, by decide +kernel, rfl, by decide +kernel, by decide +kernel⟩
abbrev s__end_ref : Stmt := topS 42
theorem sc__end_ref : FnScope ["evaluation", "expression", "scope", "values"] ["evaluation", "expression", "scope", "values"] (defScope s__end_ref) := ⟨rfl, rfl, rfl, by decide +kernel, rfl, by decide +kernel, by decide +kernel⟩
abbrev s__end_deref : Stmt := topS 43
theorem sc__end_deref : FnScope ["evaluation", "expression", "scope", "values"] ["evaluation", "expression", "scope", "values"] (defScope s__end_deref) := ⟨rfl, rfl, rfl, by decide +kernel, rfl, by decide +kernel, by decide +kernel⟩
abbrev s__end_set : Stmt := topS 44
theorem sc__end_set : FnScope ["evaluation", "expression", "scope", "values", "reference", "value"] ["evaluation", "expression", "scope", "values"] (defScope s__end_set) := ⟨rfl, rfl, rfl, by decide +kernel, rfl, by decide +kernel, by decide +kernel⟩
abbrev s_Evaluation_throw : Stmt := inClass (topS 26) 6
theorem sc_Evaluation_throw : FnScope ["self", "number", "payload", "word", "expression", "scope", "around", "many", "name", "variables", "body"] ["self", "number", "payload"] (defScope s_Evaluation_throw) := ⟨rfl, rfl, rfl, by decide +kernel, rfl, by decide +kernel, by decide +kernel⟩
abbrev s__end_array : Stmt := topS 45
theorem sc__end_array : FnScope ["evaluation", "expression", "scope", "values", "many", "element"] ["evaluation", "expression", "scope", "values"] (defScope s__end_array) := ⟨rfl, rfl, rfl, by decide +kernel, rfl, by decide +kernel, by decide +kernel⟩
abbrev s__end_at : Stmt := topS 46
theorem sc__end_at : FnScope ["evaluation", "expression", "scope", "values", "array", "index"] ["evaluation", "expression", "scope", "values"] (defScope s__end_at) := ⟨rfl, rfl, rfl, by decide +kernel, rfl, by decide +kernel, by decide +kernel⟩
abbrev s__end_put : Stmt := topS 47
theorem sc__end_put : FnScope ["evaluation", "expression", "scope", "values", "array", "index", "value"] ["evaluation", "expression", "scope", "values"] (defScope s__end_put) := ⟨rfl, rfl, rfl, by decide +kernel, rfl, by decide +kernel, by decide +kernel⟩
abbrev s__end_len : Stmt := topS 48
theorem sc__end_len : FnScope ["evaluation", "expression", "scope", "values"] ["evaluation", "expression", "scope", "values"] (defScope s__end_len) := ⟨rfl, rfl, rfl, by decide +kernel, rfl, by decide +kernel, by decide +kernel⟩
abbrev s__end_raise : Stmt := topS 49
theorem sc__end_raise : FnScope ["evaluation", "expression", "scope", "values"] ["evaluation", "expression", "scope", "values"] (defScope s__end_raise) := ⟨rfl, rfl, rfl, by decide +kernel, rfl, by decide +kernel, by decide +kernel⟩
abbrev s__end_print : Stmt := topS 50
theorem sc__end_print : FnScope ["evaluation", "expression", "scope", "values"] ["evaluation", "expression", "scope", "values"] (defScope s__end_print) := ⟨rfl, rfl, rfl, by decide +kernel, rfl, by decide +kernel, by decide +kernel⟩
abbrev s__end_seq : Stmt := topS 51
theorem sc__end_seq : FnScope ["evaluation", "expression", "scope", "values"] ["evaluation", "expression", "scope", "values"] (defScope s__end_seq) := ⟨rfl, rfl, rfl, by decide +kernel, rfl, by decide +kernel, by decide +kernel⟩
abbrev s_divides_by_zero : Stmt := topS 6
theorem sc_divides_by_zero : FnScope ["op", "second"] ["op", "second"] (defScope s_divides_by_zero) := ⟨rfl, rfl, rfl, by decide +kernel, rfl, by decide +kernel, by decide +kernel⟩
abbrev s_wrap : Stmt := topS 5
theorem sc_wrap : FnScope ["number"] ["number"] (defScope s_wrap) := ⟨rfl, rfl, rfl, by decide +kernel, rfl, by decide +kernel, by decide +kernel⟩
abbrev s__add : Stmt := topS 8
theorem sc__add : FnScope ["first", "second"] ["first", "second"] (defScope s__add) := ⟨rfl, rfl, rfl, by decide +kernel, rfl, by decide +kernel, by decide +kernel⟩
abbrev s__sub : Stmt := topS 9
theorem sc__sub : FnScope ["first", "second"] ["first", "second"] (defScope s__sub) := ⟨rfl, rfl, rfl, by decide +kernel, rfl, by decide +kernel, by decide +kernel⟩
abbrev s__mul : Stmt := topS 10
theorem sc__mul : FnScope ["first", "second"] ["first", "second"] (defScope s__mul) := ⟨rfl, rfl, rfl, by decide +kernel, rfl, by decide +kernel, by decide +kernel⟩
abbrev s__quotient : Stmt := topS 11
theorem sc__quotient : FnScope ["first", "second", "quotient"] ["first", "second"] (defScope s__quotient) := ⟨rfl, rfl, rfl, by decide +kernel, rfl, by decide +kernel, by decide +kernel⟩
abbrev s__div : Stmt := topS 12
theorem sc__div : FnScope ["first", "second"] ["first", "second"] (defScope s__div) := ⟨rfl, rfl, rfl, by decide +kernel, rfl, by decide +kernel, by decide +kernel⟩
abbrev s__rem : Stmt := topS 13
theorem sc__rem : FnScope ["first", "second"] ["first", "second"] (defScope s__rem) := ⟨rfl, rfl, rfl, by decide +kernel, rfl, by decide +kernel, by decide +kernel⟩
abbrev s__equal : Stmt := topS 14
theorem sc__equal : FnScope ["first", "second"] ["first", "second"] (defScope s__equal) := ⟨rfl, rfl, rfl, by decide +kernel, rfl, by decide +kernel, by decide +kernel⟩
abbrev s__less : Stmt := topS 15
theorem sc__less : FnScope ["first", "second"] ["first", "second"] (defScope s__less) := ⟨rfl, rfl, rfl, by decide +kernel, rfl, by decide +kernel, by decide +kernel⟩
abbrev s_compute : Stmt := topS 7
theorem sc_compute : FnScope ["op", "first", "second", "action"] ["op", "first", "second"] (defScope s_compute) := ⟨rfl, rfl, rfl, by decide +kernel, rfl, by decide +kernel, by decide +kernel⟩
abbrev s__end_operation : Stmt := topS 52
theorem sc__end_operation : FnScope ["evaluation", "expression", "scope", "values", "op", "first", "second"] ["evaluation", "expression", "scope", "values"] (defScope s__end_operation) := ⟨rfl, rfl, rfl, by decide +kernel, rfl, by decide +kernel, by decide +kernel⟩
abbrev s_Evaluation_take : Stmt := inClass (topS 26) 5
theorem sc_Evaluation_take : FnScope ["self", "many", "start", "taken"] ["self", "many"] (defScope s_Evaluation_take) := ⟨rfl, rfl, rfl, by decide +kernel, rfl, by decide +kernel, by decide +kernel⟩
abbrev s_Evaluation_do_task : Stmt := inClass (topS 26) 2
theorem sc_Evaluation_do_task : FnScope ["self", "word", "expression", "scope", "action", "op", "_", "kids"] ["self"] (defScope s_Evaluation_do_task) := ⟨rfl, rfl, rfl, by decide +kernel, rfl, by decide +kernel, by decide +kernel⟩
abbrev s_Evaluation_evaluate : Stmt := inClass (topS 26) 1
theorem sc_Evaluation_evaluate : FnScope ["self", "arguments", "_", "parameters", "body", "argument"] ["self", "arguments"] (defScope s_Evaluation_evaluate) := ⟨rfl, rfl, rfl, by decide +kernel, rfl, by decide +kernel, by decide +kernel⟩
abbrev s_Outcome_result : Stmt := inClass (topS 20) 3
theorem sc_Outcome_result : FnScope ["self"] ["self"] (defScope s_Outcome_result) := ⟨rfl, rfl, rfl, by decide +kernel, rfl, by decide +kernel, by decide +kernel⟩
abbrev s_run : Stmt := topS 25
theorem sc_run : FnScope ["program", "arguments", "fuel", "evaluation"] ["program", "arguments", "fuel"] (defScope s_run) := ⟨rfl, rfl, rfl, by decide +kernel, rfl, by decide +kernel, by decide +kernel⟩
abbrev s__law_due : Stmt := topS 65
theorem sc__law_due : FnScope ["many", "start", "deeds", "limit", "ticks", "kept", "row", "outs", "deed", "which", "index", "value", "k"] ["many", "start", "deeds", "limit"] (defScope s__law_due) := ⟨rfl, rfl, rfl, by decide +kernel, rfl, by decide +kernel, by decide +kernel⟩
abbrev s_law : Stmt := topS 66
theorem sc_law : FnScope ["script", "head", "many", "start", "deeds", "limit", "program", "actual", "due"] ["script"] (defScope s_law) := ⟨rfl, rfl, rfl, by decide +kernel, rfl, by decide +kernel, by decide +kernel⟩
def c_MAX_FUEL : D := (.int 200)
def kv_EARLY : List (Str × D) := [("let", (.int 1)), ("if", (.int 1))]
def c_MAX_ARRAY : D := (.int 12)
def c_SIZE : D := (.int 2)
def c_INDEX : D := (.int 1)
def c_HALF : D := (.int 2147483648)
def kv_OPERATIONS : List (Str × D) := [("add", (.kon "_add")), ("sub", (.kon "_sub")), ("mul", (.kon "_mul")), ("div", (.kon "_div")), ("rem", (.kon "_rem")), ("equal", (.kon "_equal")), ("less", (.kon "_less"))]
def c_DIV : D := (.int 0)
def kv_BEGINNINGS : List (Str × D) := [("int", (.kon "_begin_literal")), ("bool", (.kon "_begin_literal")), ("unit", (.kon "_begin_literal")), ("name", (.kon "_begin_name")), ("fn", (.kon "_begin_fn")), ("handle", (.kon "_begin_handle"))]
def kv_ENDS : List (Str × D) := [("call", (.kon "_end_call")), ("make", (.kon "_end_make")), ("tuple", (.kon "_end_tuple")), ("get", (.kon "_end_get")), ("let", (.kon "_end_let")), ("if", (.kon "_end_if")), ("case", (.kon "_end_case")), ("apply", (.kon "_end_apply")), ("ref", (.kon "_end_ref")), ("deref", (.kon "_end_deref")), ("set", (.kon "_end_set")), ("array", (.kon "_end_array")), ("at", (.kon "_end_at")), ("put", (.kon "_end_put")), ("len", (.kon "_end_len")), ("raise", (.kon "_end_raise")), ("print", (.kon "_end_print")), ("seq", (.kon "_end_seq")), ("add", (.kon "_end_operation")), ("sub", (.kon "_end_operation")), ("mul", (.kon "_end_operation")), ("div", (.kon "_end_operation")), ("rem", (.kon "_end_operation")), ("equal", (.kon "_end_operation")), ("less", (.kon "_end_operation"))]
set_option genInjectivity false in
set_option genSizeOf false in
structure Top (w : World) (K : PySem.W.Frag) (mg : Str → Option Value) where
  a__law_cell : Addr
  f__law_cell : FuncData
  d__law_cell : DefAt K mg "_law_cell" s__law_cell a__law_cell f__law_cell ["script", "at"]
  a__law_deeds : Addr
  f__law_deeds : FuncData
  d__law_deeds : DefAt K mg "_law_deeds" s__law_deeds a__law_deeds f__law_deeds ["cells", "many"]
  a__law_whole : Addr
  f__law_whole : FuncData
  d__law_whole : DefAt K mg "_law_whole" s__law_whole a__law_whole f__law_whole []
  a__law_let : Addr
  f__law_let : FuncData
  d__law_let : DefAt K mg "_law_let" s__law_let a__law_let f__law_let ["name", "value", "body"]
  a__law_name : Addr
  f__law_name : FuncData
  d__law_name : DefAt K mg "_law_name" s__law_name a__law_name f__law_name ["kind", "name"]
  a__law_print : Addr
  f__law_print : FuncData
  d__law_print : DefAt K mg "_law_print" s__law_print a__law_print f__law_print ["kid"]
  a__law_int : Addr
  f__law_int : FuncData
  d__law_int : DefAt K mg "_law_int" s__law_int a__law_int f__law_int ["value"]
  a__law_expression : Addr
  f__law_expression : FuncData
  d__law_expression : DefAt K mg "_law_expression" s__law_expression a__law_expression f__law_expression ["deed"]
  a__law_seq : Addr
  f__law_seq : FuncData
  d__law_seq : DefAt K mg "_law_seq" s__law_seq a__law_seq f__law_seq ["first", "second"]
  a__law_program : Addr
  f__law_program : FuncData
  d__law_program : DefAt K mg "_law_program" s__law_program a__law_program f__law_program ["many", "start", "deeds"]
  a_Outcome___init__ : Addr
  f_Outcome___init__ : FuncData
  a_Evaluation___init__ : Addr
  f_Evaluation___init__ : FuncData
  a_Evaluation_begin : Addr
  f_Evaluation_begin : FuncData
  a_Outcome_end_stuck : Addr
  f_Outcome_end_stuck : FuncData
  a__bound : Addr
  f__bound : FuncData
  d__bound : DefAt K mg "_bound" s__bound a__bound f__bound ["parameters", "values"]
  a__begin_kids : Addr
  f__begin_kids : FuncData
  d__begin_kids : DefAt K mg "_begin_kids" s__begin_kids a__begin_kids f__begin_kids ["evaluation", "expression", "scope"]
  a_Evaluation_give : Addr
  f_Evaluation_give : FuncData
  a__begin_literal : Addr
  f__begin_literal : FuncData
  d__begin_literal : DefAt K mg "_begin_literal" s__begin_literal a__begin_literal f__begin_literal ["evaluation", "expression", "scope"]
  a__begin_name : Addr
  f__begin_name : FuncData
  d__begin_name : DefAt K mg "_begin_name" s__begin_name a__begin_name f__begin_name ["evaluation", "expression", "scope"]
  a__begin_fn : Addr
  f__begin_fn : FuncData
  d__begin_fn : DefAt K mg "_begin_fn" s__begin_fn a__begin_fn f__begin_fn ["evaluation", "expression", "scope"]
  a__begin_handle : Addr
  f__begin_handle : FuncData
  d__begin_handle : DefAt K mg "_begin_handle" s__begin_handle a__begin_handle f__begin_handle ["evaluation", "expression", "scope"]
  a_Outcome_spend : Addr
  f_Outcome_spend : FuncData
  a__end_call : Addr
  f__end_call : FuncData
  d__end_call : DefAt K mg "_end_call" s__end_call a__end_call f__end_call ["evaluation", "expression", "scope", "values"]
  a__end_make : Addr
  f__end_make : FuncData
  d__end_make : DefAt K mg "_end_make" s__end_make a__end_make f__end_make ["evaluation", "expression", "scope", "values"]
  a__end_tuple : Addr
  f__end_tuple : FuncData
  d__end_tuple : DefAt K mg "_end_tuple" s__end_tuple a__end_tuple f__end_tuple ["evaluation", "expression", "scope", "values"]
  a__end_get : Addr
  f__end_get : FuncData
  d__end_get : DefAt K mg "_end_get" s__end_get a__end_get f__end_get ["evaluation", "expression", "scope", "values"]
  a_inner_scope : Addr
  f_inner_scope : FuncData
  d_inner_scope : DefAt K mg "inner_scope" s_inner_scope a_inner_scope f_inner_scope ["scope", "names", "values"]
  a__end_let : Addr
  f__end_let : FuncData
  d__end_let : DefAt K mg "_end_let" s__end_let a__end_let f__end_let ["evaluation", "expression", "scope", "values"]
  a__end_if : Addr
  f__end_if : FuncData
  d__end_if : DefAt K mg "_end_if" s__end_if a__end_if f__end_if ["evaluation", "expression", "scope", "values"]
  a__end_case : Addr
  f__end_case : FuncData
  d__end_case : DefAt K mg "_end_case" s__end_case a__end_case f__end_case ["evaluation", "expression", "scope", "values"]
  a__end_apply : Addr
  f__end_apply : FuncData
  d__end_apply : DefAt K mg "_end_apply" s__end_apply a__end_apply f__end_apply ["evaluation", "expression", "scope", "values"]
  a__end_ref : Addr
  f__end_ref : FuncData
  d__end_ref : DefAt K mg "_end_ref" s__end_ref a__end_ref f__end_ref ["evaluation", "expression", "scope", "values"]
  a__end_deref : Addr
  f__end_deref : FuncData
  d__end_deref : DefAt K mg "_end_deref" s__end_deref a__end_deref f__end_deref ["evaluation", "expression", "scope", "values"]
  a__end_set : Addr
  f__end_set : FuncData
  d__end_set : DefAt K mg "_end_set" s__end_set a__end_set f__end_set ["evaluation", "expression", "scope", "values"]
  a_Evaluation_throw : Addr
  f_Evaluation_throw : FuncData
  a__end_array : Addr
  f__end_array : FuncData
  d__end_array : DefAt K mg "_end_array" s__end_array a__end_array f__end_array ["evaluation", "expression", "scope", "values"]
  a__end_at : Addr
  f__end_at : FuncData
  d__end_at : DefAt K mg "_end_at" s__end_at a__end_at f__end_at ["evaluation", "expression", "scope", "values"]
  a__end_put : Addr
  f__end_put : FuncData
  d__end_put : DefAt K mg "_end_put" s__end_put a__end_put f__end_put ["evaluation", "expression", "scope", "values"]
  a__end_len : Addr
  f__end_len : FuncData
  d__end_len : DefAt K mg "_end_len" s__end_len a__end_len f__end_len ["evaluation", "expression", "scope", "values"]
  a__end_raise : Addr
  f__end_raise : FuncData
  d__end_raise : DefAt K mg "_end_raise" s__end_raise a__end_raise f__end_raise ["evaluation", "expression", "scope", "values"]
  a__end_print : Addr
  f__end_print : FuncData
  d__end_print : DefAt K mg "_end_print" s__end_print a__end_print f__end_print ["evaluation", "expression", "scope", "values"]
  a__end_seq : Addr
  f__end_seq : FuncData
  d__end_seq : DefAt K mg "_end_seq" s__end_seq a__end_seq f__end_seq ["evaluation", "expression", "scope", "values"]
  a_divides_by_zero : Addr
  f_divides_by_zero : FuncData
  d_divides_by_zero : DefAt K mg "divides_by_zero" s_divides_by_zero a_divides_by_zero f_divides_by_zero ["op", "second"]
  a_wrap : Addr
  f_wrap : FuncData
  d_wrap : DefAt K mg "wrap" s_wrap a_wrap f_wrap ["number"]
  a__add : Addr
  f__add : FuncData
  d__add : DefAt K mg "_add" s__add a__add f__add ["first", "second"]
  a__sub : Addr
  f__sub : FuncData
  d__sub : DefAt K mg "_sub" s__sub a__sub f__sub ["first", "second"]
  a__mul : Addr
  f__mul : FuncData
  d__mul : DefAt K mg "_mul" s__mul a__mul f__mul ["first", "second"]
  a__quotient : Addr
  f__quotient : FuncData
  d__quotient : DefAt K mg "_quotient" s__quotient a__quotient f__quotient ["first", "second"]
  a__div : Addr
  f__div : FuncData
  d__div : DefAt K mg "_div" s__div a__div f__div ["first", "second"]
  a__rem : Addr
  f__rem : FuncData
  d__rem : DefAt K mg "_rem" s__rem a__rem f__rem ["first", "second"]
  a__equal : Addr
  f__equal : FuncData
  d__equal : DefAt K mg "_equal" s__equal a__equal f__equal ["first", "second"]
  a__less : Addr
  f__less : FuncData
  d__less : DefAt K mg "_less" s__less a__less f__less ["first", "second"]
  a_compute : Addr
  f_compute : FuncData
  d_compute : DefAt K mg "compute" s_compute a_compute f_compute ["op", "first", "second"]
  a__end_operation : Addr
  f__end_operation : FuncData
  d__end_operation : DefAt K mg "_end_operation" s__end_operation a__end_operation f__end_operation ["evaluation", "expression", "scope", "values"]
  a_Evaluation_take : Addr
  f_Evaluation_take : FuncData
  a_Evaluation_do_task : Addr
  f_Evaluation_do_task : FuncData
  a_Evaluation_evaluate : Addr
  f_Evaluation_evaluate : FuncData
  a_Outcome_result : Addr
  f_Outcome_result : FuncData
  a_run : Addr
  f_run : FuncData
  d_run : DefKw K mg "run" s_run a_run f_run [("fuel", .int 200)]
  a__law_due : Addr
  f__law_due : FuncData
  d__law_due : DefAt K mg "_law_due" s__law_due a__law_due f__law_due ["many", "start", "deeds", "limit"]
  a_law : Addr
  f_law : FuncData
  d_law : DefAt K mg "law" s_law a_law f_law ["script"]
  a_cls_Outcome : Addr
  a_cls_Evaluation : Addr
  d_Outcome___init__ : MthAt K a_cls_Outcome "__init__" "Outcome.__init__" s_Outcome___init__ a_Outcome___init__ f_Outcome___init__ ["self", "fuel"]
  d_Evaluation___init__ : MthAt K a_cls_Evaluation "__init__" "Evaluation.__init__" s_Evaluation___init__ a_Evaluation___init__ f_Evaluation___init__ ["self", "program", "fuel"]
  d_Evaluation_begin : MthAt K a_cls_Evaluation "begin" "Evaluation.begin" s_Evaluation_begin a_Evaluation_begin f_Evaluation_begin ["self", "expression", "scope"]
  d_Outcome_end_stuck : MthAt K a_cls_Outcome "end_stuck" "Outcome.end_stuck" s_Outcome_end_stuck a_Outcome_end_stuck f_Outcome_end_stuck ["self"]
  d_Evaluation_give : MthAt K a_cls_Evaluation "give" "Evaluation.give" s_Evaluation_give a_Evaluation_give f_Evaluation_give ["self", "value"]
  d_Outcome_spend : MthAt K a_cls_Outcome "spend" "Outcome.spend" s_Outcome_spend a_Outcome_spend f_Outcome_spend ["self", "ticks"]
  d_Evaluation_throw : MthAt K a_cls_Evaluation "throw" "Evaluation.throw" s_Evaluation_throw a_Evaluation_throw f_Evaluation_throw ["self", "number", "payload"]
  d_Evaluation_take : MthAt K a_cls_Evaluation "take" "Evaluation.take" s_Evaluation_take a_Evaluation_take f_Evaluation_take ["self", "many"]
  d_Evaluation_do_task : MthAt K a_cls_Evaluation "do_task" "Evaluation.do_task" s_Evaluation_do_task a_Evaluation_do_task f_Evaluation_do_task ["self"]
  d_Evaluation_evaluate : MthAt K a_cls_Evaluation "evaluate" "Evaluation.evaluate" s_Evaluation_evaluate a_Evaluation_evaluate f_Evaluation_evaluate ["self", "arguments"]
  d_Outcome_result : MthAt K a_cls_Outcome "result" "Outcome.result" s_Outcome_result a_Outcome_result f_Outcome_result ["self"]
  cls_Outcome : ClsT K "Outcome" a_cls_Outcome ["fault", "fuel", "outs", "returned", "ticks"]
  mg_Outcome : mg "Outcome" = some (.ref a_cls_Outcome)
  mk_Outcome : Mk K a_cls_Outcome a_Outcome___init__
  cls_Evaluation : ClsT K "Evaluation" a_cls_Evaluation ["done", "exceptions", "functions", "outcome", "tasks"]
  mg_Evaluation : mg "Evaluation" = some (.ref a_cls_Evaluation)
  mk_Evaluation : Mk K a_cls_Evaluation a_Evaluation___init__
  z_len : mg "len" = none
  z_int : mg "int" = none
  z_range : mg "range" = none
  z_tuple : mg "tuple" = none
  z_str : mg "str" = none
  z_max : mg "max" = none
  z_min : mg "min" = none
  z_zip : mg "zip" = none
  z_list : mg "list" = none
  z_reversed : mg "reversed" = none
  z_dict : mg "dict" = none
  z_abs : mg "abs" = none
  z_isinstance : mg "isinstance" = none
  z_bool : mg "bool" = none
  n__add : PySem.W.nsIn K mainGlobals "_add" = some (some (.ref a__add))
  n__sub : PySem.W.nsIn K mainGlobals "_sub" = some (some (.ref a__sub))
  n__mul : PySem.W.nsIn K mainGlobals "_mul" = some (some (.ref a__mul))
  n__div : PySem.W.nsIn K mainGlobals "_div" = some (some (.ref a__div))
  n__rem : PySem.W.nsIn K mainGlobals "_rem" = some (some (.ref a__rem))
  n__equal : PySem.W.nsIn K mainGlobals "_equal" = some (some (.ref a__equal))
  n__less : PySem.W.nsIn K mainGlobals "_less" = some (some (.ref a__less))
  n__begin_kids : PySem.W.nsIn K mainGlobals "_begin_kids" = some (some (.ref a__begin_kids))
  n__begin_literal : PySem.W.nsIn K mainGlobals "_begin_literal" = some (some (.ref a__begin_literal))
  n__begin_name : PySem.W.nsIn K mainGlobals "_begin_name" = some (some (.ref a__begin_name))
  n__begin_fn : PySem.W.nsIn K mainGlobals "_begin_fn" = some (some (.ref a__begin_fn))
  n__begin_handle : PySem.W.nsIn K mainGlobals "_begin_handle" = some (some (.ref a__begin_handle))
  n__end_call : PySem.W.nsIn K mainGlobals "_end_call" = some (some (.ref a__end_call))
  n__end_make : PySem.W.nsIn K mainGlobals "_end_make" = some (some (.ref a__end_make))
  n__end_tuple : PySem.W.nsIn K mainGlobals "_end_tuple" = some (some (.ref a__end_tuple))
  n__end_get : PySem.W.nsIn K mainGlobals "_end_get" = some (some (.ref a__end_get))
  n__end_let : PySem.W.nsIn K mainGlobals "_end_let" = some (some (.ref a__end_let))
  n__end_if : PySem.W.nsIn K mainGlobals "_end_if" = some (some (.ref a__end_if))
  n__end_case : PySem.W.nsIn K mainGlobals "_end_case" = some (some (.ref a__end_case))
  n__end_apply : PySem.W.nsIn K mainGlobals "_end_apply" = some (some (.ref a__end_apply))
  n__end_ref : PySem.W.nsIn K mainGlobals "_end_ref" = some (some (.ref a__end_ref))
  n__end_deref : PySem.W.nsIn K mainGlobals "_end_deref" = some (some (.ref a__end_deref))
  n__end_set : PySem.W.nsIn K mainGlobals "_end_set" = some (some (.ref a__end_set))
  n__end_array : PySem.W.nsIn K mainGlobals "_end_array" = some (some (.ref a__end_array))
  n__end_at : PySem.W.nsIn K mainGlobals "_end_at" = some (some (.ref a__end_at))
  n__end_put : PySem.W.nsIn K mainGlobals "_end_put" = some (some (.ref a__end_put))
  n__end_len : PySem.W.nsIn K mainGlobals "_end_len" = some (some (.ref a__end_len))
  n__end_raise : PySem.W.nsIn K mainGlobals "_end_raise" = some (some (.ref a__end_raise))
  n__end_print : PySem.W.nsIn K mainGlobals "_end_print" = some (some (.ref a__end_print))
  n__end_seq : PySem.W.nsIn K mainGlobals "_end_seq" = some (some (.ref a__end_seq))
  n__end_operation : PySem.W.nsIn K mainGlobals "_end_operation" = some (some (.ref a__end_operation))
  c_MAX_FUEL : CAt K mg "MAX_FUEL" c_MAX_FUEL
  k_EARLY : KAt K w mg "EARLY" kv_EARLY
  c_MAX_ARRAY : CAt K mg "MAX_ARRAY" c_MAX_ARRAY
  c_SIZE : CAt K mg "SIZE" c_SIZE
  c_INDEX : CAt K mg "INDEX" c_INDEX
  c_HALF : CAt K mg "HALF" c_HALF
  k_OPERATIONS : KAt K w mg "OPERATIONS" kv_OPERATIONS
  c_DIV : CAt K mg "DIV" c_DIV
  k_BEGINNINGS : KAt K w mg "BEGINNINGS" kv_BEGINNINGS
  k_ENDS : KAt K w mg "ENDS" kv_ENDS
noncomputable def b__law_cell : MSt :=
  mSeq (mIfS (mB (mOp opLt (mVar 1) (mCall fLen (mCons (mVar 0) (mNil))))) (mRet (mOp opIx (mVar 0) (mVar 1))) (mNext)) (mRet (mC (.int 0)))
noncomputable def m__law_cell : List D → MH → R D := mFn 2 2 b__law_cell
noncomputable def b__law_deeds_1 : MSt :=
  mSeq (mSet 4 (mOp opMod (mVar 3) (mC (.int 6)))) (mSeq (mSet 5 (mOp opMod (mOp opDiv (mVar 3) (mC (.int 6))) (mC (.int 4)))) (mSeq (mSet 6 (mOp opSub (mOp opMod (mOp opDiv (mVar 3) (mC (.int 24))) (mOp opAddL (mVar 1) (mC (.int 2)))) (mC (.int 1)))) (mSeq (mSet 7 (mOp opSub (mOp opMod (mCall fInt (mCons (mOp opDiv (mVar 3) (mC (.int 24))) (mNil))) (mOp opPow (mC (.int 2)) (mC (.int 31)))) (mOp opPow (mC (.int 2)) (mC (.int 30))))) (mDrop (mMtd "list" fAppend (mVar 2) (mCons (mTup (mCons (mVar 4) (mCons (mVar 5) (mCons (mVar 6) (mCons (mVar 7) (mNil)))))) (mNil)))))))
noncomputable def b__law_deeds : MSt :=
  mSeq (mSet 2 (mLstN (mNil))) (mSeq (mFor (mSrc (mVar 0)) (mgName 3) (b__law_deeds_1)) (mRet (mFrz (mVar 2))))
noncomputable def m__law_deeds : List D → MH → R D := mFn 2 8 b__law_deeds
noncomputable def b__law_whole : MSt :=
  mRet (mTup (mCons (mC (.str "int")) (mCons (mTup (mNil)) (mCons (mC (.int 0)) (mNil)))))
noncomputable def m__law_whole : List D → MH → R D := mFn 0 0 b__law_whole
noncomputable def b__law_let : MSt :=
  mRet (mTup (mCons (mC (.str "let")) (mCons (mOp opIx (mVar 2) (mC (.int 1))) (mCons (mVar 0) (mCons (mTup (mCons (mVar 1) (mCons (mVar 2) (mNil)))) (mCons (mTup (mNil)) (mNil)))))))
noncomputable def m__law_let : List D → MH → R D := mFn 3 3 b__law_let
noncomputable def b__law_name : MSt :=
  mRet (mTup (mCons (mC (.str "name")) (mCons (mVar 0) (mCons (mVar 1) (mCons (mTup (mNil)) (mCons (mTup (mNil)) (mNil)))))))
noncomputable def m__law_name : List D → MH → R D := mFn 2 2 b__law_name
noncomputable def b__law_print : MSt :=
  mRet (mTup (mCons (mC (.str "print")) (mCons (mTup (mCons (mC (.str "unit")) (mCons (mTup (mNil)) (mCons (mC (.int 0)) (mNil))))) (mCons (mC .non) (mCons (mTup (mCons (mVar 0) (mNil))) (mCons (mTup (mNil)) (mNil)))))))
noncomputable def m__law_print : List D → MH → R D := mFn 1 1 b__law_print
noncomputable def b__law_int : MSt :=
  mRet (mTup (mCons (mC (.str "int")) (mCons (mCall m__law_whole mNil) (mCons (mVar 0) (mCons (mTup (mNil)) (mCons (mTup (mNil)) (mNil)))))))
noncomputable def m__law_int : List D → MH → R D := mFn 1 1 b__law_int
noncomputable def b__law_expression : MSt :=
  mSeq (mSet 1 (mTup (mCons (mC (.str "unit")) (mCons (mTup (mNil)) (mCons (mC (.int 0)) (mNil)))))) (mSeq (mSet 2 (mCall m__law_whole mNil)) (mSeq (mSet 3 (mTup (mCons (mC (.str "ref")) (mCons (mTup (mCons (mVar 2) (mNil))) (mCons (mC (.int 0)) (mNil)))))) (mSeq (mSet 4 (mTup (mCons (mC (.str "array")) (mCons (mTup (mCons (mVar 2) (mNil))) (mCons (mC (.int 0)) (mNil)))))) (mSeq (mSet 5 (mCall m__law_name (mCons (mVar 3) (mCons (mOp opIx (mLst (mCons (mC (.str "a")) (mCons (mC (.str "b")) (mCons (mC (.str "c")) (mCons (mC (.str "d")) (mNil)))))) (mOp opIx (mVar 0) (mC (.int 1)))) (mNil))))) (mSeq (mSet 6 (mCall m__law_name (mCons (mVar 4) (mCons (mOp opIx (mLst (mCons (mC (.str "v")) (mCons (mC (.str "w")) (mCons (mC (.str "v")) (mCons (mC (.str "w")) (mNil)))))) (mOp opIx (mVar 0) (mC (.int 1)))) (mNil))))) (mSeq (mIfS (mB (mOp opEq (mOp opIx (mVar 0) (mC (.int 0))) (mC (.int 0)))) (mRet (mTup (mCons (mC (.str "set")) (mCons (mVar 1) (mCons (mC .non) (mCons (mTup (mCons (mVar 5) (mCons (mCall m__law_int (mCons (mOp opIx (mVar 0) (mC (.int 3))) (mNil))) (mNil)))) (mCons (mTup (mNil)) (mNil)))))))) (mNext)) (mSeq (mIfS (mB (mOp opEq (mOp opIx (mVar 0) (mC (.int 0))) (mC (.int 1)))) (mRet (mCall m__law_print (mCons (mTup (mCons (mC (.str "deref")) (mCons (mVar 2) (mCons (mC .non) (mCons (mTup (mCons (mVar 5) (mNil))) (mCons (mTup (mNil)) (mNil))))))) (mNil)))) (mNext)) (mSeq (mIfS (mB (mOp opEq (mOp opIx (mVar 0) (mC (.int 0))) (mC (.int 2)))) (mRet (mTup (mCons (mC (.str "put")) (mCons (mVar 1) (mCons (mC .non) (mCons (mTup (mCons (mVar 6) (mCons (mCall m__law_int (mCons (mOp opIx (mVar 0) (mC (.int 2))) (mNil))) (mCons (mCall m__law_int (mCons (mOp opIx (mVar 0) (mC (.int 3))) (mNil))) (mNil))))) (mCons (mTup (mNil)) (mNil)))))))) (mNext)) (mSeq (mIfS (mB (mOp opEq (mOp opIx (mVar 0) (mC (.int 0))) (mC (.int 3)))) (mRet (mCall m__law_print (mCons (mTup (mCons (mC (.str "at")) (mCons (mVar 2) (mCons (mC .non) (mCons (mTup (mCons (mVar 6) (mCons (mCall m__law_int (mCons (mOp opIx (mVar 0) (mC (.int 2))) (mNil))) (mNil)))) (mCons (mTup (mNil)) (mNil))))))) (mNil)))) (mNext)) (mSeq (mIfS (mB (mOp opEq (mOp opIx (mVar 0) (mC (.int 0))) (mC (.int 4)))) (mRet (mCall m__law_print (mCons (mTup (mCons (mC (.str "len")) (mCons (mVar 2) (mCons (mC .non) (mCons (mTup (mCons (mVar 6) (mNil))) (mCons (mTup (mNil)) (mNil))))))) (mNil)))) (mNext)) (mSeq (mSet 7 (mTup (mCons (mC (.str "at")) (mCons (mVar 2) (mCons (mC .non) (mCons (mTup (mCons (mVar 6) (mCons (mCall m__law_int (mCons (mOp opIx (mVar 0) (mC (.int 2))) (mNil))) (mNil)))) (mCons (mTup (mNil)) (mNil)))))))) (mRet (mTup (mCons (mC (.str "set")) (mCons (mVar 1) (mCons (mC .non) (mCons (mTup (mCons (mVar 5) (mCons (mVar 7) (mNil)))) (mCons (mTup (mNil)) (mNil)))))))))))))))))))
noncomputable def m__law_expression : List D → MH → R D := mFn 1 8 b__law_expression
noncomputable def b__law_seq : MSt :=
  mRet (mTup (mCons (mC (.str "seq")) (mCons (mOp opIx (mVar 1) (mC (.int 1))) (mCons (mC .non) (mCons (mTup (mCons (mVar 0) (mCons (mVar 1) (mNil)))) (mCons (mTup (mNil)) (mNil)))))))
noncomputable def m__law_seq : List D → MH → R D := mFn 2 2 b__law_seq
noncomputable def b__law_program_1 : MSt :=
  mSet 8 (mCall m__law_seq (mCons (mVar 8) (mCons (mCall m__law_expression (mCons (mVar 9) (mNil))) (mNil))))
noncomputable def b__law_program_2 : MSt :=
  mSeq (mSet 8 (mCall m__law_expression (mCons (mOp opIx (mVar 2) (mVar 7)) (mNil)))) (mSeq (mFor (mSrc (mSl opSl (mVar 2) (mPart (mOp opAddL (mVar 7) (mC (.int 1)))) (mPart (mOp opAddL (mVar 7) (mC (.int 8)))))) (mgName 9) (b__law_program_1)) (mDrop (mMtd "list" fAppend (mVar 6) (mCons (mVar 8) (mNil)))))
noncomputable def b__law_program_3 : MSt :=
  mSeq (mIfS (mTru (mVar 11)) (mSeq (mSet 14 (mTup (mCons (mC (.str "call")) (mCons (mTup (mCons (mC (.str "unit")) (mCons (mTup (mNil)) (mCons (mC (.int 0)) (mNil))))) (mCons (mOp opSub (mCall fLen (mCons (mVar 11) (mNil))) (mC (.int 1))) (mCons (mVar 13) (mCons (mTup (mNil)) (mNil)))))))) (mSet 8 (mCall m__law_seq (mCons (mVar 14) (mCons (mVar 8) (mNil)))))) (mNext)) (mDrop (mMtd "list" fAppend (mVar 11) (mCons (mTup (mCons (mOp opAddL (mC (.str "part")) (mCall fStr3 (mCons (mCall fLen (mCons (mVar 11) (mNil))) (mNil)))) (mCons (mVar 12) (mCons (mTup (mCons (mC (.str "unit")) (mCons (mTup (mNil)) (mCons (mC (.int 0)) (mNil))))) (mCons (mVar 8) (mNil)))))) (mNil))))
noncomputable def b__law_program : MSt :=
  mSeq (mSet 3 (mCall m__law_whole mNil)) (mSeq (mSet 4 (mTup (mCons (mC (.str "ref")) (mCons (mTup (mCons (mVar 3) (mNil))) (mCons (mC (.int 0)) (mNil)))))) (mSeq (mSet 5 (mTup (mCons (mC (.str "array")) (mCons (mTup (mCons (mVar 3) (mNil))) (mCons (mC (.int 0)) (mNil)))))) (mSeq (mSet 6 (mLstN (mNil))) (mSeq (mFor (mCallI fRange3 (mCons (mC (.int 0)) (mCons (mCall fLen (mCons (mVar 2) (mNil))) (mCons (mC (.int 8)) (mNil))))) (mgName 7) (b__law_program_2)) (mSeq (mSet 10 (mTup (mCons (mC (.str "deref")) (mCons (mVar 3) (mCons (mC .non) (mCons (mTup (mCons (mCall m__law_name (mCons (mVar 4) (mCons (mC (.str "c")) (mNil)))) (mNil))) (mCons (mTup (mNil)) (mNil)))))))) (mSeq (mSet 11 (mLstN (mNil))) (mSeq (mSet 12 (mTup (mCons (mTup (mCons (mC (.str "a")) (mCons (mVar 4) (mNil)))) (mCons (mTup (mCons (mC (.str "b")) (mCons (mVar 4) (mNil)))) (mCons (mTup (mCons (mC (.str "c")) (mCons (mVar 4) (mNil)))) (mCons (mTup (mCons (mC (.str "d")) (mCons (mVar 4) (mNil)))) (mCons (mTup (mCons (mC (.str "v")) (mCons (mVar 5) (mNil)))) (mCons (mTup (mCons (mC (.str "w")) (mCons (mVar 5) (mNil)))) (mNil))))))))) (mSeq (mSet 13 (mCall fTuple (mCons (mLc (mSrc (mVar 12)) (mgName 15) (mYes) (mCall m__law_name (mCons (mOp opIx (mVar 15) (mC (.int 1))) (mCons (mOp opIx (mVar 15) (mC (.int 0))) (mNil)))) [15]) (mNil)))) (mSeq (mFor (mSrc (mVar 6)) (mgName 8) (b__law_program_3)) (mSeq (mIfS (mTru (mVar 11)) (mSet 10 (mCall m__law_seq (mCons (mTup (mCons (mC (.str "call")) (mCons (mTup (mCons (mC (.str "unit")) (mCons (mTup (mNil)) (mCons (mC (.int 0)) (mNil))))) (mCons (mOp opSub (mCall fLen (mCons (mVar 11) (mNil))) (mC (.int 1))) (mCons (mVar 13) (mCons (mTup (mNil)) (mNil))))))) (mCons (mVar 10) (mNil))))) (mNext)) (mSeq (mSet 10 (mCall m__law_let (mCons (mC (.str "w")) (mCons (mCall m__law_name (mCons (mVar 5) (mCons (mC (.str "v")) (mNil)))) (mCons (mVar 10) (mNil)))))) (mSeq (mSet 10 (mCall m__law_let (mCons (mC (.str "v")) (mCons (mTup (mCons (mC (.str "array")) (mCons (mVar 5) (mCons (mC .non) (mCons (mTup (mCons (mCall m__law_int (mCons (mVar 0) (mNil))) (mCons (mCall m__law_int (mCons (mVar 1) (mNil))) (mNil)))) (mCons (mTup (mNil)) (mNil))))))) (mCons (mVar 10) (mNil)))))) (mSeq (mSet 10 (mCall m__law_let (mCons (mC (.str "d")) (mCons (mCall m__law_name (mCons (mVar 4) (mCons (mC (.str "b")) (mNil)))) (mCons (mVar 10) (mNil)))))) (mSeq (mSet 10 (mCall m__law_let (mCons (mC (.str "c")) (mCons (mCall m__law_name (mCons (mVar 4) (mCons (mC (.str "a")) (mNil)))) (mCons (mVar 10) (mNil)))))) (mSeq (mSet 10 (mCall m__law_let (mCons (mC (.str "b")) (mCons (mTup (mCons (mC (.str "ref")) (mCons (mVar 4) (mCons (mC .non) (mCons (mTup (mCons (mCall m__law_int (mCons (mOp opAddL (mVar 1) (mC (.int 1))) (mNil))) (mNil))) (mCons (mTup (mNil)) (mNil))))))) (mCons (mVar 10) (mNil)))))) (mSeq (mSet 10 (mCall m__law_let (mCons (mC (.str "a")) (mCons (mTup (mCons (mC (.str "ref")) (mCons (mVar 4) (mCons (mC .non) (mCons (mTup (mCons (mCall m__law_int (mCons (mVar 1) (mNil))) (mNil))) (mCons (mTup (mNil)) (mNil))))))) (mCons (mVar 10) (mNil)))))) (mRet (mTup (mCons (mTup (mNil)) (mCons (mTup (mCons (mC (.str "Div")) (mCons (mC (.str "Index")) (mCons (mC (.str "Size")) (mNil))))) (mCons (mCall fTuple (mCons (mOp opAddL (mVar 11) (mLst (mCons (mTup (mCons (mC (.str "main")) (mCons (mTup (mNil)) (mCons (mVar 3) (mCons (mVar 10) (mNil)))))) (mNil)))) (mNil))) (mNil))))))))))))))))))))))
noncomputable def m__law_program : List D → MH → R D := mFn 3 16 b__law_program
noncomputable def b_Outcome___init__ : MSt :=
  mSeq (mFldS ["Outcome"] "fuel" (mCall fMin2 (mCons (mCall fMax2 (mCons (mVar 1) (mCons (mC (.int 0)) (mNil)))) (mCons (mC c_MAX_FUEL) (mNil)))) (mVar 0)) (mSeq (mFldS ["Outcome"] "ticks" (mC (.int 0)) (mVar 0)) (mSeq (mFldS ["Outcome"] "outs" (mLstN (mNil)) (mVar 0)) (mSeq (mFldS ["Outcome"] "fault" (mC .non) (mVar 0)) (mFldS ["Outcome"] "returned" (mC (.int 0)) (mVar 0)))))
noncomputable def m_Outcome___init__ : List D → MH → R D := mFnN 2 2 b_Outcome___init__
noncomputable def b_Evaluation___init__ : MSt :=
  mSeq (mAsgSeq 3 (mgCons (mgName 3) (mgCons (mgName 4) (mgCons (mgName 5) (mgNil)))) (mVar 1)) (mSeq (mFldS ["Evaluation"] "exceptions" (mVar 4) (mVar 0)) (mSeq (mFldS ["Evaluation"] "functions" (mVar 5) (mVar 0)) (mSeq (mFldS ["Evaluation"] "outcome" (mMake "Outcome" m_Outcome___init__ (mCons (mVar 2) (mNil))) (mVar 0)) (mSeq (mFldS ["Evaluation"] "tasks" (mLstN (mNil)) (mVar 0)) (mFldS ["Evaluation"] "done" (mLstN (mNil)) (mVar 0))))))
noncomputable def m_Evaluation___init__ : List D → MH → R D := mFnN 3 6 b_Evaluation___init__
noncomputable def b_Evaluation_begin : MSt :=
  mDrop (mMtd "list" fAppend (mFld ["Evaluation"] "tasks" (mVar 0)) (mCons (mTup (mCons (mC (.str "begin")) (mCons (mVar 1) (mCons (mVar 2) (mNil))))) (mNil)))
noncomputable def m_Evaluation_begin : List D → MH → R D := mFnN 3 3 b_Evaluation_begin
noncomputable def b_Outcome_end_stuck : MSt :=
  mFldS ["Outcome"] "fault" (mTup (mCons (mC (.str "stuck")) (mNil))) (mVar 0)
noncomputable def m_Outcome_end_stuck : List D → MH → R D := mFnN 1 1 b_Outcome_end_stuck
noncomputable def b__bound : MSt :=
  mRet (mDcN (mCallI fZip3 (mCons (mVar 0) (mCons (mVar 1) (mNil)))) (mgSeq 2 (mgCons (mgSeq 2 (mgCons (mgName 2) (mgCons (mgName 3) (mgNil)))) (mgCons (mgName 4) (mgNil)))) (mYes) (mVar 2) (mVar 4) [2, 3, 4])
noncomputable def m__bound : List D → MH → R D := mFnN 2 5 b__bound
noncomputable def b__begin_kids_1 : MSt :=
  mDrop (mMeth "Evaluation" "begin" m_Evaluation_begin (mVar 0) (mCons (mVar 6) (mCons (mVar 2) (mNil))))
noncomputable def b__begin_kids : MSt :=
  mSeq (mAsgSeq 5 (mgCons (mgName 3) (mgCons (mgName 4) (mgCons (mgName 4) (mgCons (mgName 5) (mgCons (mgName 4) (mgNil)))))) (mVar 1)) (mSeq (mDrop (mMtd "list" fAppend (mFld ["Evaluation"] "tasks" (mVar 0)) (mCons (mTup (mCons (mC (.str "finish")) (mCons (mVar 1) (mCons (mVar 2) (mNil))))) (mNil)))) (mFor (mSrc (mRevT (mSl opSl (mVar 5) (mNoP) (mPart (mKGet2 kv_EARLY (mVar 3) (mCall fLen (mCons (mVar 5) (mNil)))))))) (mgName 6) (b__begin_kids_1)))
noncomputable def m__begin_kids : List D → MH → R D := mFnN 3 7 b__begin_kids
noncomputable def b_Evaluation_give : MSt :=
  mDrop (mMtd "list" fAppend (mFld ["Evaluation"] "done" (mVar 0)) (mCons (mVar 1) (mNil)))
noncomputable def m_Evaluation_give : List D → MH → R D := mFnN 2 2 b_Evaluation_give
noncomputable def b__begin_literal : MSt :=
  mDrop (mMeth "Evaluation" "give" m_Evaluation_give (mVar 0) (mCons (mOp opIx (mVar 1) (mC (.int 2))) (mNil)))
noncomputable def m__begin_literal : List D → MH → R D := mFnN 3 3 b__begin_literal
noncomputable def b__begin_name : MSt :=
  mDrop (mMeth "Evaluation" "give" m_Evaluation_give (mVar 0) (mCons (mOp opIx (mVar 2) (mOp opIx (mVar 1) (mC (.int 2)))) (mNil)))
noncomputable def m__begin_name : List D → MH → R D := mFnN 3 3 b__begin_name
noncomputable def b__begin_fn : MSt :=
  mSeq (mAsgSeq 2 (mgCons (mgSeq 2 (mgCons (mgName 3) (mgCons (mgName 4) (mgNil)))) (mgCons (mgSeq 1 (mgCons (mgName 5) (mgNil))) (mgNil))) (mSl opSl (mVar 1) (mPart (mC (.int 2))) (mPart (mC (.int 4))))) (mDrop (mMeth "Evaluation" "give" m_Evaluation_give (mVar 0) (mCons (mTup (mCons (mVar 3) (mCons (mVar 5) (mCons (mVar 2) (mNil))))) (mNil))))
noncomputable def m__begin_fn : List D → MH → R D := mFnN 3 6 b__begin_fn
noncomputable def b__begin_handle : MSt :=
  mSeq (mDrop (mMtd "list" fAppend (mFld ["Evaluation"] "tasks" (mVar 0)) (mCons (mTup (mCons (mC (.str "handler")) (mCons (mVar 1) (mCons (mTup (mCons (mVar 2) (mCons (mCall fLen (mCons (mFld ["Evaluation"] "done" (mVar 0)) (mNil))) (mNil)))) (mNil))))) (mNil)))) (mDrop (mMeth "Evaluation" "begin" m_Evaluation_begin (mVar 0) (mCons (mOp opIx (mOp opIx (mVar 1) (mC (.int 3))) (mC (.int 0))) (mCons (mVar 2) (mNil)))))
noncomputable def m__begin_handle : List D → MH → R D := mFnN 3 3 b__begin_handle
noncomputable def b_Outcome_spend : MSt :=
  mSeq (mIfS (mB (mOp opGt (mOp opAddL (mFld ["Outcome"] "ticks" (mVar 0)) (mVar 1)) (mFld ["Outcome"] "fuel" (mVar 0)))) (mSeq (mFldS ["Outcome"] "ticks" (mFld ["Outcome"] "fuel" (mVar 0)) (mVar 0)) (mSeq (mFldS ["Outcome"] "fault" (mTup (mCons (mC (.str "fuel")) (mNil))) (mVar 0)) (mRet (mC (.bl false))))) (mNext)) (mSeq (mFldAug ["Outcome"] "ticks" opAddI (mVar 0) (mVar 1)) (mRet (mC (.bl true))))
noncomputable def m_Outcome_spend : List D → MH → R D := mFnN 2 2 b_Outcome_spend
noncomputable def b__end_call : MSt :=
  mSeq (mAsgSeq 4 (mgCons (mgName 4) (mgCons (mgName 5) (mgCons (mgName 4) (mgCons (mgName 6) (mgNil))))) (mOp opIx (mFld ["Evaluation"] "functions" (mVar 0)) (mOp opIx (mVar 1) (mC (.int 2))))) (mIfS (mTru (mMeth "Outcome" "spend" m_Outcome_spend (mFld ["Evaluation"] "outcome" (mVar 0)) (mCons (mC (.int 1)) (mNil)))) (mDrop (mMeth "Evaluation" "begin" m_Evaluation_begin (mVar 0) (mCons (mVar 6) (mCons (mCall m__bound (mCons (mVar 5) (mCons (mVar 3) (mNil)))) (mNil))))) (mNext))
noncomputable def m__end_call : List D → MH → R D := mFnN 4 7 b__end_call
noncomputable def b__end_make : MSt :=
  mDrop (mMeth "Evaluation" "give" m_Evaluation_give (mVar 0) (mCons (mTup (mCons (mOp opIx (mVar 1) (mC (.int 2))) (mCons (mVar 3) (mNil)))) (mNil)))
noncomputable def m__end_make : List D → MH → R D := mFnN 4 4 b__end_make
noncomputable def b__end_tuple : MSt :=
  mDrop (mMeth "Evaluation" "give" m_Evaluation_give (mVar 0) (mCons (mVar 3) (mNil)))
noncomputable def m__end_tuple : List D → MH → R D := mFnN 4 4 b__end_tuple
noncomputable def b__end_get : MSt :=
  mDrop (mMeth "Evaluation" "give" m_Evaluation_give (mVar 0) (mCons (mOp opIx (mOp opIx (mVar 3) (mC (.int 0))) (mOp opIx (mVar 1) (mC (.int 2)))) (mNil)))
noncomputable def m__end_get : List D → MH → R D := mFnN 4 4 b__end_get
noncomputable def b_inner_scope_1 : MSt :=
  mSetIx2 (mVar 5) (mVar 3) (mVar 4)
noncomputable def b_inner_scope : MSt :=
  mSeq (mSet 3 (mCall fDictN (mCons (mVar 0) (mNil)))) (mSeq (mFor (mCallI fZip3 (mCons (mVar 1) (mCons (mVar 2) (mNil)))) (mgSeq 2 (mgCons (mgName 4) (mgCons (mgName 5) (mgNil)))) (b_inner_scope_1)) (mRet (mVar 3)))
noncomputable def m_inner_scope : List D → MH → R D := mFnN 3 6 b_inner_scope
noncomputable def b__end_let : MSt :=
  mDrop (mMeth "Evaluation" "begin" m_Evaluation_begin (mVar 0) (mCons (mOp opIx (mOp opIx (mVar 1) (mC (.int 3))) (mC (.int 1))) (mCons (mCall m_inner_scope (mCons (mVar 2) (mCons (mTup (mCons (mOp opIx (mVar 1) (mC (.int 2))) (mNil))) (mCons (mVar 3) (mNil))))) (mNil))))
noncomputable def m__end_let : List D → MH → R D := mFnN 4 4 b__end_let
noncomputable def b__end_if : MSt :=
  mSeq (mAsgSeq 3 (mgCons (mgName 4) (mgCons (mgName 5) (mgCons (mgName 6) (mgNil)))) (mOp opIx (mVar 1) (mC (.int 3)))) (mDrop (mMeth "Evaluation" "begin" m_Evaluation_begin (mVar 0) (mCons (mIf (mTru (mOp opIx (mVar 3) (mC (.int 0)))) (mVar 5) (mVar 6)) (mCons (mVar 2) (mNil)))))
noncomputable def m__end_if : List D → MH → R D := mFnN 4 7 b__end_if
noncomputable def b__end_case : MSt :=
  mSeq (mAsgSeq 2 (mgCons (mgName 4) (mgCons (mgName 5) (mgNil))) (mOp opIx (mVar 3) (mC (.int 0)))) (mSeq (mAsgSeq 3 (mgCons (mgName 6) (mgCons (mgName 7) (mgCons (mgName 8) (mgNil)))) (mOp opIx (mOp opIx (mVar 1) (mC (.int 4))) (mVar 4))) (mDrop (mMeth "Evaluation" "begin" m_Evaluation_begin (mVar 0) (mCons (mVar 8) (mCons (mCall m_inner_scope (mCons (mVar 2) (mCons (mVar 7) (mCons (mVar 5) (mNil))))) (mNil))))))
noncomputable def m__end_case : List D → MH → R D := mFnN 4 9 b__end_case
noncomputable def b__end_apply : MSt :=
  mSeq (mAsgSeq 2 (mgCons (mgSeq 3 (mgCons (mgName 4) (mgCons (mgName 5) (mgCons (mgName 6) (mgNil))))) (mgCons (mgName 7) (mgNil))) (mVar 3)) (mIfS (mTru (mMeth "Outcome" "spend" m_Outcome_spend (mFld ["Evaluation"] "outcome" (mVar 0)) (mCons (mC (.int 1)) (mNil)))) (mDrop (mMeth "Evaluation" "begin" m_Evaluation_begin (mVar 0) (mCons (mVar 5) (mCons (mCall m_inner_scope (mCons (mVar 6) (mCons (mTup (mCons (mVar 4) (mNil))) (mCons (mLst (mCons (mVar 7) (mNil))) (mNil))))) (mNil))))) (mNext))
noncomputable def m__end_apply : List D → MH → R D := mFnN 4 8 b__end_apply
noncomputable def b__end_ref : MSt :=
  mDrop (mMeth "Evaluation" "give" m_Evaluation_give (mVar 0) (mCons (mVar 3) (mNil)))
noncomputable def m__end_ref : List D → MH → R D := mFnN 4 4 b__end_ref
noncomputable def b__end_deref : MSt :=
  mDrop (mMeth "Evaluation" "give" m_Evaluation_give (mVar 0) (mCons (mOp opIx (mOp opIx (mVar 3) (mC (.int 0))) (mC (.int 0))) (mNil)))
noncomputable def m__end_deref : List D → MH → R D := mFnN 4 4 b__end_deref
noncomputable def b__end_set : MSt :=
  mSeq (mAsgSeq 2 (mgCons (mgName 4) (mgCons (mgName 5) (mgNil))) (mVar 3)) (mSeq (mSetIx2 (mVar 5) (mVar 4) (mC (.int 0))) (mDrop (mMeth "Evaluation" "give" m_Evaluation_give (mVar 0) (mCons (mC .non) (mNil)))))
noncomputable def m__end_set : List D → MH → R D := mFnN 4 6 b__end_set
noncomputable def b_Evaluation_throw_1 : MSt :=
  mIfS (mB (mOp opEq (mVar 8) (mVar 1))) (mSeq (mDelT (mFld ["Evaluation"] "done" (mVar 0)) (mPart (mVar 7)) (mNoP)) (mSeq (mDrop (mMeth "Evaluation" "begin" m_Evaluation_begin (mVar 0) (mCons (mVar 10) (mCons (mCall m_inner_scope (mCons (mVar 6) (mCons (mVar 9) (mCons (mLst (mCons (mVar 2) (mNil))) (mNil))))) (mNil))))) (mRet (mC .non)))) (mNext)
noncomputable def b_Evaluation_throw_2 : MSt :=
  mSeq (mAsgSeq 3 (mgCons (mgName 3) (mgCons (mgName 4) (mgCons (mgName 5) (mgNil)))) (mMtd "list" fPop (mFld ["Evaluation"] "tasks" (mVar 0)) mNil)) (mIfS (mB (mOp opEq (mVar 3) (mC (.str "handler")))) (mSeq (mAsgSeq 2 (mgCons (mgName 6) (mgCons (mgName 7) (mgNil))) (mVar 5)) (mFor (mSrc (mOp opIx (mVar 4) (mC (.int 4)))) (mgSeq 3 (mgCons (mgName 8) (mgCons (mgName 9) (mgCons (mgName 10) (mgNil))))) (b_Evaluation_throw_1))) (mNext))
noncomputable def b_Evaluation_throw : MSt :=
  mSeq (mWhile (mTru (mFld ["Evaluation"] "tasks" (mVar 0))) (b_Evaluation_throw_2)) (mFldS ["Outcome"] "fault" (mTup (mCons (mC (.str "raised")) (mCons (mOp opIx (mFld ["Evaluation"] "exceptions" (mVar 0)) (mVar 1)) (mCons (mVar 2) (mNil))))) (mFld ["Evaluation"] "outcome" (mVar 0)))
noncomputable def m_Evaluation_throw : List D → MH → R D := mFnN 3 11 b_Evaluation_throw
noncomputable def b__end_array : MSt :=
  mSeq (mAsgSeq 2 (mgCons (mgName 4) (mgCons (mgName 5) (mgNil))) (mVar 3)) (mIfS (mNot (mB (mChain opLe opLe (mC (.int 0)) (mVar 4) (mC c_MAX_ARRAY)))) (mDrop (mMeth "Evaluation" "throw" m_Evaluation_throw (mVar 0) (mCons (mC c_SIZE) (mCons (mVar 4) (mNil))))) (mIfS (mTru (mMeth "Outcome" "spend" m_Outcome_spend (mFld ["Evaluation"] "outcome" (mVar 0)) (mCons (mVar 4) (mNil)))) (mDrop (mMeth "Evaluation" "give" m_Evaluation_give (mVar 0) (mCons (mOp opRep (mLstN (mCons (mVar 5) (mNil))) (mVar 4)) (mNil)))) (mNext)))
noncomputable def m__end_array : List D → MH → R D := mFnN 4 6 b__end_array
noncomputable def b__end_at : MSt :=
  mSeq (mAsgSeq 2 (mgCons (mgName 4) (mgCons (mgName 5) (mgNil))) (mVar 3)) (mIfS (mNot (mB (mChain opLe opLt (mC (.int 0)) (mVar 5) (mCall fLen (mCons (mVar 4) (mNil)))))) (mDrop (mMeth "Evaluation" "throw" m_Evaluation_throw (mVar 0) (mCons (mC c_INDEX) (mCons (mVar 5) (mNil))))) (mDrop (mMeth "Evaluation" "give" m_Evaluation_give (mVar 0) (mCons (mOp opIx (mVar 4) (mVar 5)) (mNil)))))
noncomputable def m__end_at : List D → MH → R D := mFnN 4 6 b__end_at
noncomputable def b__end_put : MSt :=
  mSeq (mAsgSeq 3 (mgCons (mgName 4) (mgCons (mgName 5) (mgCons (mgName 6) (mgNil)))) (mVar 3)) (mIfS (mNot (mB (mChain opLe opLt (mC (.int 0)) (mVar 5) (mCall fLen (mCons (mVar 4) (mNil)))))) (mDrop (mMeth "Evaluation" "throw" m_Evaluation_throw (mVar 0) (mCons (mC c_INDEX) (mCons (mVar 5) (mNil))))) (mSeq (mSetIx2 (mVar 6) (mVar 4) (mVar 5)) (mDrop (mMeth "Evaluation" "give" m_Evaluation_give (mVar 0) (mCons (mC .non) (mNil))))))
noncomputable def m__end_put : List D → MH → R D := mFnN 4 7 b__end_put
noncomputable def b__end_len : MSt :=
  mDrop (mMeth "Evaluation" "give" m_Evaluation_give (mVar 0) (mCons (mCall fLen (mCons (mOp opIx (mVar 3) (mC (.int 0))) (mNil))) (mNil)))
noncomputable def m__end_len : List D → MH → R D := mFnN 4 4 b__end_len
noncomputable def b__end_raise : MSt :=
  mDrop (mMeth "Evaluation" "throw" m_Evaluation_throw (mVar 0) (mCons (mOp opIx (mVar 1) (mC (.int 2))) (mCons (mOp opIx (mVar 3) (mC (.int 0))) (mNil))))
noncomputable def m__end_raise : List D → MH → R D := mFnN 4 4 b__end_raise
noncomputable def b__end_print : MSt :=
  mSeq (mDrop (mMtd "list" fAppend (mFld ["Outcome"] "outs" (mFld ["Evaluation"] "outcome" (mVar 0))) (mCons (mOp opIx (mVar 3) (mC (.int 0))) (mNil)))) (mDrop (mMeth "Evaluation" "give" m_Evaluation_give (mVar 0) (mCons (mC .non) (mNil))))
noncomputable def m__end_print : List D → MH → R D := mFnN 4 4 b__end_print
noncomputable def b__end_seq : MSt :=
  mDrop (mMeth "Evaluation" "give" m_Evaluation_give (mVar 0) (mCons (mOp opIx (mVar 3) (mC (.int 1))) (mNil)))
noncomputable def m__end_seq : List D → MH → R D := mFnN 4 4 b__end_seq
noncomputable def b_divides_by_zero : MSt :=
  mRet (mAndV (mOp opIn2 (mVar 0) (mTup (mCons (mC (.str "div")) (mCons (mC (.str "rem")) (mNil))))) (mOp opEq (mVar 1) (mC (.int 0))))
noncomputable def m_divides_by_zero : List D → MH → R D := mFn 2 2 b_divides_by_zero
noncomputable def b_wrap : MSt :=
  mRet (mOp opSub (mOp opMod (mOp opAddL (mVar 0) (mC c_HALF)) (mOp opMul (mC (.int 2)) (mC c_HALF))) (mC c_HALF))
noncomputable def m_wrap : List D → MH → R D := mFn 1 1 b_wrap
noncomputable def b__add : MSt :=
  mRet (mCall m_wrap (mCons (mOp opAddL (mVar 0) (mVar 1)) (mNil)))
noncomputable def m__add : List D → MH → R D := mFn 2 2 b__add
noncomputable def b__sub : MSt :=
  mRet (mCall m_wrap (mCons (mOp opSub (mVar 0) (mVar 1)) (mNil)))
noncomputable def m__sub : List D → MH → R D := mFn 2 2 b__sub
noncomputable def b__mul : MSt :=
  mRet (mCall m_wrap (mCons (mOp opMul (mVar 0) (mVar 1)) (mNil)))
noncomputable def m__mul : List D → MH → R D := mFn 2 2 b__mul
noncomputable def b__quotient : MSt :=
  mSeq (mSet 2 (mOp opDiv (mCall fAbs (mCons (mVar 0) (mNil))) (mCall fAbs (mCons (mVar 1) (mNil))))) (mRet (mIf (mB (mOp opEq (mOp opLt (mVar 0) (mC (.int 0))) (mOp opLt (mVar 1) (mC (.int 0))))) (mVar 2) (mUn opNeg (mVar 2))))
noncomputable def m__quotient : List D → MH → R D := mFn 2 3 b__quotient
noncomputable def b__div : MSt :=
  mRet (mCall m_wrap (mCons (mCall m__quotient (mCons (mVar 0) (mCons (mVar 1) (mNil)))) (mNil)))
noncomputable def m__div : List D → MH → R D := mFn 2 2 b__div
noncomputable def b__rem : MSt :=
  mRet (mOp opSub (mVar 0) (mOp opMul (mVar 1) (mCall m__quotient (mCons (mVar 0) (mCons (mVar 1) (mNil))))))
noncomputable def m__rem : List D → MH → R D := mFn 2 2 b__rem
noncomputable def b__equal : MSt :=
  mRet (mOp opEq (mVar 0) (mVar 1))
noncomputable def m__equal : List D → MH → R D := mFn 2 2 b__equal
noncomputable def b__less : MSt :=
  mRet (mOp opLt (mVar 0) (mVar 1))
noncomputable def m__less : List D → MH → R D := mFn 2 2 b__less
noncomputable def tab_compute_action : List (Str × (List D → MH → R D)) :=
  [("_add", m__add), ("_sub", m__sub), ("_mul", m__mul), ("_div", m__div), ("_rem", m__rem), ("_equal", m__equal), ("_less", m__less)]
noncomputable def b_compute : MSt :=
  mSeq (mSet 3 (mKIx kv_OPERATIONS (mVar 0))) (mRet (mCallV tab_compute_action (mVar 3) (mCons (mVar 1) (mCons (mVar 2) (mNil)))))
noncomputable def m_compute : List D → MH → R D := mFn 3 4 b_compute
noncomputable def b__end_operation : MSt :=
  mSeq (mSet 4 (mOp opIx (mVar 1) (mC (.int 0)))) (mSeq (mAsgSeq 2 (mgCons (mgName 5) (mgCons (mgName 6) (mgNil))) (mVar 3)) (mIfS (mTru (mCall m_divides_by_zero (mCons (mVar 4) (mCons (mVar 6) (mNil))))) (mDrop (mMeth "Evaluation" "throw" m_Evaluation_throw (mVar 0) (mCons (mC c_DIV) (mCons (mC (.int 0)) (mNil))))) (mDrop (mMeth "Evaluation" "give" m_Evaluation_give (mVar 0) (mCons (mCall m_compute (mCons (mVar 4) (mCons (mVar 5) (mCons (mVar 6) (mNil))))) (mNil))))))
noncomputable def m__end_operation : List D → MH → R D := mFnN 4 7 b__end_operation
noncomputable def b_Evaluation_take : MSt :=
  mSeq (mSet 2 (mOp opSub (mCall fLen (mCons (mFld ["Evaluation"] "done" (mVar 0)) (mNil))) (mVar 1))) (mSeq (mSet 3 (mSl opSlN (mFld ["Evaluation"] "done" (mVar 0)) (mPart (mVar 2)) (mNoP))) (mSeq (mDelT (mFld ["Evaluation"] "done" (mVar 0)) (mPart (mVar 2)) (mNoP)) (mRet (mVar 3))))
noncomputable def m_Evaluation_take : List D → MH → R D := mFnN 2 4 b_Evaluation_take
noncomputable def tab_Evaluation_do_task_action : List (Str × (List D → MH → R D)) :=
  [("_begin_kids", m__begin_kids), ("_begin_literal", m__begin_literal), ("_begin_name", m__begin_name), ("_begin_fn", m__begin_fn), ("_begin_handle", m__begin_handle), ("_end_call", m__end_call), ("_end_make", m__end_make), ("_end_tuple", m__end_tuple), ("_end_get", m__end_get), ("_end_let", m__end_let), ("_end_if", m__end_if), ("_end_case", m__end_case), ("_end_apply", m__end_apply), ("_end_ref", m__end_ref), ("_end_deref", m__end_deref), ("_end_set", m__end_set), ("_end_array", m__end_array), ("_end_at", m__end_at), ("_end_put", m__end_put), ("_end_len", m__end_len), ("_end_raise", m__end_raise), ("_end_print", m__end_print), ("_end_seq", m__end_seq), ("_end_operation", m__end_operation)]
noncomputable def b_Evaluation_do_task : MSt :=
  mSeq (mAsgSeq 3 (mgCons (mgName 1) (mgCons (mgName 2) (mgCons (mgName 3) (mgNil)))) (mMtd "list" fPop (mFld ["Evaluation"] "tasks" (mVar 0)) mNil)) (mIfS (mB (mOp opEq (mVar 1) (mC (.str "begin")))) (mSeq (mSet 4 (mKGet2 kv_BEGINNINGS (mOp opIx (mVar 2) (mC (.int 0))) (mC (.kon "_begin_kids")))) (mDrop (mCallV tab_Evaluation_do_task_action (mVar 4) (mCons (mVar 0) (mCons (mVar 2) (mCons (mVar 3) (mNil))))))) (mIfS (mB (mOp opEq (mVar 1) (mC (.str "finish")))) (mSeq (mAsgSeq 5 (mgCons (mgName 5) (mgCons (mgName 6) (mgCons (mgName 6) (mgCons (mgName 7) (mgCons (mgName 6) (mgNil)))))) (mVar 2)) (mSeq (mSet 4 (mKIx kv_ENDS (mVar 5))) (mDrop (mCallV tab_Evaluation_do_task_action (mVar 4) (mCons (mVar 0) (mCons (mVar 2) (mCons (mVar 3) (mCons (mMeth "Evaluation" "take" m_Evaluation_take (mVar 0) (mCons (mKGet2 kv_EARLY (mVar 5) (mCall fLen (mCons (mVar 7) (mNil)))) (mNil))) (mNil))))))))) (mNext)))
noncomputable def m_Evaluation_do_task : List D → MH → R D := mFnN 1 8 b_Evaluation_do_task
noncomputable def b_Evaluation_evaluate_1 : MSt :=
  mDrop (mMeth "Evaluation" "do_task" m_Evaluation_do_task (mVar 0) mNil)
noncomputable def b_Evaluation_evaluate : MSt :=
  mSeq (mAsgSeq 4 (mgCons (mgName 2) (mgCons (mgName 3) (mgCons (mgName 2) (mgCons (mgName 4) (mgNil))))) (mOp opIx (mFld ["Evaluation"] "functions" (mVar 0)) (mUn opNeg (mC (.int 1))))) (mSeq (mIfS (mB (mOp opNe (mCall fLen (mCons (mVar 1) (mNil))) (mCall fLen (mCons (mVar 3) (mNil))))) (mSeq (mDrop (mMeth "Outcome" "end_stuck" m_Outcome_end_stuck (mFld ["Evaluation"] "outcome" (mVar 0)) mNil)) (mRet (mC .non))) (mNext)) (mSeq (mDrop (mMeth "Evaluation" "begin" m_Evaluation_begin (mVar 0) (mCons (mVar 4) (mCons (mCall m__bound (mCons (mVar 3) (mCons (mLc (mSrc (mVar 1)) (mgName 5) (mYes) (mCall m_wrap (mCons (mVar 5) (mNil))) [5]) (mNil)))) (mNil))))) (mSeq (mWhile (mAnd (mTru (mFld ["Evaluation"] "tasks" (mVar 0))) (mB (mOp opIsN (mFld ["Outcome"] "fault" (mFld ["Evaluation"] "outcome" (mVar 0))) (mC .non)))) (b_Evaluation_evaluate_1)) (mIfS (mB (mOp opIsN (mFld ["Outcome"] "fault" (mFld ["Evaluation"] "outcome" (mVar 0))) (mC .non))) (mFldS ["Outcome"] "returned" (mOp opIx (mFld ["Evaluation"] "done" (mVar 0)) (mC (.int 0))) (mFld ["Evaluation"] "outcome" (mVar 0))) (mNext)))))
noncomputable def m_Evaluation_evaluate : List D → MH → R D := mFnN 2 6 b_Evaluation_evaluate
noncomputable def b_Outcome_result : MSt :=
  mRet (mTup (mCons (mFld ["Outcome"] "fault" (mVar 0)) (mCons (mFld ["Outcome"] "returned" (mVar 0)) (mCons (mCall fTuple (mCons (mFld ["Outcome"] "outs" (mVar 0)) (mNil))) (mCons (mFld ["Outcome"] "ticks" (mVar 0)) (mNil))))))
noncomputable def m_Outcome_result : List D → MH → R D := mFn 1 1 b_Outcome_result
noncomputable def b_run : MSt :=
  mSeq (mSet 3 (mMake "Evaluation" m_Evaluation___init__ (mCons (mVar 0) (mCons (mVar 2) (mNil))))) (mSeq (mDrop (mMeth "Evaluation" "evaluate" m_Evaluation_evaluate (mVar 3) (mCons (mVar 1) (mNil)))) (mRet (mMeth "Outcome" "result" m_Outcome_result (mFld ["Evaluation"] "outcome" (mVar 3)) mNil)))
noncomputable def m_run : List D → MH → R D := mFn 3 4 b_run
noncomputable def b__law_due_1 : MSt :=
  mSeq (mIfS (mAnd (mB (mOp opIn2 (mVar 8) (mTup (mCons (mC (.int 2)) (mCons (mC (.int 3)) (mCons (mC (.int 5)) (mNil))))))) (mOr (mB (mOp opLt (mVar 10) (mC (.int 0)))) (mB (mOp opGe (mVar 10) (mVar 0))))) (mRet (mTup (mCons (mTup (mCons (mC (.str "raised")) (mCons (mC (.str "Index")) (mCons (mVar 10) (mNil))))) (mCons (mC (.int 0)) (mCons (mCall fTuple (mCons (mVar 7) (mNil))) (mCons (mVar 4) (mNil))))))) (mNext)) (mIfS (mB (mOp opEq (mVar 8) (mC (.int 0)))) (mSetIx2 (mVar 11) (mVar 5) (mOp opMod (mVar 9) (mC (.int 2)))) (mIfS (mB (mOp opEq (mVar 8) (mC (.int 1)))) (mDrop (mMtd "list" fAppend (mVar 7) (mCons (mOp opIx (mVar 5) (mOp opMod (mVar 9) (mC (.int 2)))) (mNil)))) (mIfS (mB (mOp opEq (mVar 8) (mC (.int 2)))) (mSetIx2 (mVar 11) (mVar 6) (mVar 10)) (mIfS (mB (mOp opEq (mVar 8) (mC (.int 3)))) (mDrop (mMtd "list" fAppend (mVar 7) (mCons (mOp opIx (mVar 6) (mVar 10)) (mNil)))) (mIfS (mB (mOp opEq (mVar 8) (mC (.int 4)))) (mDrop (mMtd "list" fAppend (mVar 7) (mCons (mVar 0) (mNil)))) (mSetIx2 (mOp opIx (mVar 6) (mVar 10)) (mVar 5) (mOp opMod (mVar 9) (mC (.int 2)))))))))
noncomputable def b__law_due : MSt :=
  mSeq (mSet 4 (mOp opAddL (mVar 0) (mOp opDiv (mOp opAddL (mCall fLen (mCons (mVar 2) (mNil))) (mC (.int 7))) (mC (.int 8))))) (mSeq (mIfS (mB (mOp opLt (mVar 3) (mVar 4))) (mRet (mTup (mCons (mTup (mCons (mC (.str "fuel")) (mNil))) (mCons (mC (.int 0)) (mCons (mTup (mNil)) (mCons (mVar 3) (mNil))))))) (mNext)) (mSeq (mSet 5 (mLstN (mCons (mVar 1) (mCons (mOp opAddL (mVar 1) (mC (.int 1))) (mNil))))) (mSeq (mSet 6 (mLcN (mCallI fRange1 (mCons (mVar 0) (mNil))) (mgName 12) (mYes) (mVar 1) [12])) (mSeq (mSet 7 (mLstN (mNil))) (mSeq (mFor (mSrc (mVar 2)) (mgSeq 4 (mgCons (mgName 8) (mgCons (mgName 9) (mgCons (mgName 10) (mgCons (mgName 11) (mgNil)))))) (b__law_due_1)) (mRet (mTup (mCons (mC .non) (mCons (mOp opIx (mVar 5) (mC (.int 0))) (mCons (mCall fTuple (mCons (mVar 7) (mNil))) (mCons (mVar 4) (mNil))))))))))))
noncomputable def m__law_due : List D → MH → R D := mFn 4 13 b__law_due
noncomputable def b_law : MSt :=
  mSeq (mSet 1 (mCall m__law_cell (mCons (mVar 0) (mCons (mC (.int 0)) (mNil))))) (mSeq (mSet 2 (mOp opMod (mVar 1) (mC (.int 13)))) (mSeq (mSet 3 (mOp opMod (mOp opDiv (mVar 1) (mC (.int 13))) (mOp opPow (mC (.int 2)) (mC (.int 30))))) (mSeq (mSet 4 (mCall m__law_deeds (mCons (mSl opSl (mVar 0) (mPart (mC (.int 1))) (mPart (mC (.int 41)))) (mCons (mVar 2) (mNil))))) (mSeq (mSet 5 (mOp opAddL (mVar 2) (mOp opDiv (mOp opAddL (mCall fLen (mCons (mVar 4) (mNil))) (mC (.int 7))) (mC (.int 8))))) (mSeq (mIfS (mB (mOp opEq (mOp opMod (mOp opDiv (mOp opDiv (mVar 1) (mC (.int 13))) (mOp opPow (mC (.int 2)) (mC (.int 30)))) (mC (.int 4))) (mC (.int 1)))) (mSet 5 (mOp opMod (mOp opDiv (mOp opDiv (mVar 1) (mC (.int 13))) (mOp opPow (mC (.int 2)) (mC (.int 32)))) (mOp opAddL (mVar 5) (mC (.int 1))))) (mNext)) (mSeq (mSet 6 (mCall m__law_program (mCons (mVar 2) (mCons (mVar 3) (mCons (mVar 4) (mNil)))))) (mSeq (mSet 7 (mCallN 2 1 m_run (mCons (mVar 6) (mCons (mLst (mNil)) (mNil))) (mCons (mVar 5) (mNil)))) (mSeq (mIfS (mOr (mNot (mTru (mCall fIsi (mCons (mVar 7) (mCons (mC (.ty "tuple")) (mNil)))))) (mOr (mB (mOp opNe (mCall fLen (mCons (mVar 7) (mNil))) (mC (.int 4)))) (mTru (mCall fIsi (mCons (mOp opIx (mVar 7) (mC (.int 1))) (mCons (mC (.ty "bool")) (mNil))))))) (mRet (mC (.bl false))) (mNext)) (mSeq (mSet 8 (mCall m__law_due (mCons (mVar 2) (mCons (mVar 3) (mCons (mVar 4) (mCons (mVar 5) (mNil))))))) (mRet (mAndV (mOp opEq (mVar 7) (mVar 8)) (mOp opEq (mCallN 2 1 m_run (mCons (mVar 6) (mCons (mTup (mNil)) (mNil))) (mCons (mVar 5) (mNil))) (mVar 8)))))))))))))
noncomputable def m_law : List D → MH → R D := mFn 1 9 b_law
section
variable {P : Program} {w : World} {K : PySem.W.Frag} {mg : Str → Option Value} {base : Heap}
theorem ok__law_cell (T : Top w K mg) : FnM P w K mg base 1 T.a__law_cell T.f__law_cell ["script", "at"] m__law_cell := by
  refine fnM_body T.d__law_cell.fn sc__law_cell hg_fn fun cdv A outer s H E hr tk hp => ?_
  exact pssm_cons (psm_if (ptm_cmp op_lt2 opCmp_ok (nomark _) (mv 1) (pem_callB call_len2 fLen_ok (by rfl) T.z_len (by decide +kernel) (pam_cons (mv 0) (pam_nil)))) (pssm_one (psm_ret (pem_ix (ix_all2 hr.units) opIx_ok (mv 0) (mv 1) (fun _ _ => rfl)))) (pssm_nil)) (pssm_one (psm_ret (pem_int)))
theorem ok__law_deeds (T : Top w K mg) : FnM P w K mg base 1 T.a__law_deeds T.f__law_deeds ["cells", "many"] m__law_deeds := by
  refine fnM_body T.d__law_deeds.fn sc__law_deeds hg_fn fun cdv A outer s H E hr tk hp => ?_
  exact pssm_cons (ss 2 sc__law_deeds.nd (pem_lstN (pam_nil))) (pssm_cons (psm_for hp rfl (pim_src (mv 0)) (gn 3 sc__law_deeds.nd) (pssm_cons (ss 4 sc__law_deeds.nd (pem_op op_mod opMod_ok (mv 3) (pem_int))) (pssm_cons (ss 5 sc__law_deeds.nd (pem_op op_mod opMod_ok (pem_op op_fdivW opDiv_ok (mv 3) (pem_int)) (pem_int))) (pssm_cons (ss 6 sc__law_deeds.nd (pem_op op_sub opSub_ok (pem_op op_mod opMod_ok (pem_op op_fdivW opDiv_ok (mv 3) (pem_int)) (pem_op op_addS opAddL_ok (mv 1) (pem_int))) (pem_int))) (pssm_cons (ss 7 sc__law_deeds.nd (pem_op op_sub opSub_ok (pem_op op_mod opMod_ok (pem_callTy call_int2 fInt_ok (by rfl) T.z_int (by decide +kernel) (pam_cons (pem_op op_fdivW opDiv_ok (mv 3) (pem_int)) (pam_nil))) (pem_op op_pow opPow_ok (pem_int) (pem_int))) (pem_op op_pow opPow_ok (pem_int) (pem_int)))) (pssm_one (psm_expr (pem_bm PySem.F.plainAttrs_list PySem.F.slot_list_append PySem.F.type_list_append mt_append fAppend_ok (mv 2) (pam_cons (pem_tup (pam_cons (mv 4) (pam_cons (mv 5) (pam_cons (mv 6) (pam_cons (mv 7) (pam_nil)))))) (pam_nil)))))))))) (pssm_one (psm_ret (pem_frz (mv 2)))))
theorem ok__law_whole (T : Top w K mg) : FnM P w K mg base 1 T.a__law_whole T.f__law_whole [] m__law_whole := by
  refine fnM_body T.d__law_whole.fn sc__law_whole hg_fn fun cdv A outer s H E hr tk hp => ?_
  exact pssm_one (psm_ret (pem_tup (pam_cons (pem_str) (pam_cons (pem_tup (pam_nil)) (pam_cons (pem_int) (pam_nil))))))
theorem ok__law_let (T : Top w K mg) : FnM P w K mg base 1 T.a__law_let T.f__law_let ["name", "value", "body"] m__law_let := by
  refine fnM_body T.d__law_let.fn sc__law_let hg_fn fun cdv A outer s H E hr tk hp => ?_
  exact pssm_one (psm_ret (pem_tup (pam_cons (pem_str) (pam_cons (pem_ix (ix_all2 hr.units) opIx_ok (mv 2) (pem_int) (fun _ _ => rfl)) (pam_cons (mv 0) (pam_cons (pem_tup (pam_cons (mv 1) (pam_cons (mv 2) (pam_nil)))) (pam_cons (pem_tup (pam_nil)) (pam_nil))))))))
theorem ok__law_name (T : Top w K mg) : FnM P w K mg base 1 T.a__law_name T.f__law_name ["kind", "name"] m__law_name := by
  refine fnM_body T.d__law_name.fn sc__law_name hg_fn fun cdv A outer s H E hr tk hp => ?_
  exact pssm_one (psm_ret (pem_tup (pam_cons (pem_str) (pam_cons (mv 0) (pam_cons (mv 1) (pam_cons (pem_tup (pam_nil)) (pam_cons (pem_tup (pam_nil)) (pam_nil))))))))
theorem ok__law_print (T : Top w K mg) : FnM P w K mg base 1 T.a__law_print T.f__law_print ["kid"] m__law_print := by
  refine fnM_body T.d__law_print.fn sc__law_print hg_fn fun cdv A outer s H E hr tk hp => ?_
  exact pssm_one (psm_ret (pem_tup (pam_cons (pem_str) (pam_cons (pem_tup (pam_cons (pem_str) (pam_cons (pem_tup (pam_nil)) (pam_cons (pem_int) (pam_nil))))) (pam_cons (pem_non) (pam_cons (pem_tup (pam_cons (mv 0) (pam_nil))) (pam_cons (pem_tup (pam_nil)) (pam_nil))))))))
theorem ok__law_int (T : Top w K mg) (k__law_whole : FnM P w K mg base 1 T.a__law_whole T.f__law_whole [] m__law_whole) : FnM P w K mg base 2 T.a__law_int T.f__law_int ["value"] m__law_int := by
  refine fnM_body T.d__law_int.fn sc__law_int hg_fn fun cdv A outer s H E hr tk hp => ?_
  exact pssm_one (psm_ret (pem_tup (pam_cons (pem_str) (pam_cons (pem_call0 k__law_whole T.d__law_whole hr tk (by rfl)) (pam_cons (mv 0) (pam_cons (pem_tup (pam_nil)) (pam_cons (pem_tup (pam_nil)) (pam_nil))))))))
theorem ok__law_expression (T : Top w K mg) (k__law_whole : FnM P w K mg base 2 T.a__law_whole T.f__law_whole [] m__law_whole) (k__law_name : FnM P w K mg base 2 T.a__law_name T.f__law_name ["kind", "name"] m__law_name) (k__law_int : FnM P w K mg base 2 T.a__law_int T.f__law_int ["value"] m__law_int) (k__law_print : FnM P w K mg base 2 T.a__law_print T.f__law_print ["kid"] m__law_print) : FnM P w K mg base 3 T.a__law_expression T.f__law_expression ["deed"] m__law_expression := by
  refine fnM_body T.d__law_expression.fn sc__law_expression hg_fn fun cdv A outer s H E hr tk hp => ?_
  exact pssm_cons (ss 1 sc__law_expression.nd (pem_tup (pam_cons (pem_str) (pam_cons (pem_tup (pam_nil)) (pam_cons (pem_int) (pam_nil)))))) (pssm_cons (ss 2 sc__law_expression.nd (pem_call0 k__law_whole T.d__law_whole hr tk (by rfl))) (pssm_cons (ss 3 sc__law_expression.nd (pem_tup (pam_cons (pem_str) (pam_cons (pem_tup (pam_cons (mv 2) (pam_nil))) (pam_cons (pem_int) (pam_nil)))))) (pssm_cons (ss 4 sc__law_expression.nd (pem_tup (pam_cons (pem_str) (pam_cons (pem_tup (pam_cons (mv 2) (pam_nil))) (pam_cons (pem_int) (pam_nil)))))) (pssm_cons (ss 5 sc__law_expression.nd (pem_call k__law_name T.d__law_name hr tk (by rfl) (pam_cons (mv 3) (pam_cons (pem_ix (ix_all2 hr.units) opIx_ok (pem_lst (pam_cons (pem_str) (pam_cons (pem_str) (pam_cons (pem_str) (pam_cons (pem_str) (pam_nil)))))) (pem_ix (ix_all2 hr.units) opIx_ok (mv 0) (pem_int) (fun _ _ => rfl)) (fun _ _ => rfl)) (pam_nil))))) (pssm_cons (ss 6 sc__law_expression.nd (pem_call k__law_name T.d__law_name hr tk (by rfl) (pam_cons (mv 4) (pam_cons (pem_ix (ix_all2 hr.units) opIx_ok (pem_lst (pam_cons (pem_str) (pam_cons (pem_str) (pam_cons (pem_str) (pam_cons (pem_str) (pam_nil)))))) (pem_ix (ix_all2 hr.units) opIx_ok (mv 0) (pem_int) (fun _ _ => rfl)) (fun _ _ => rfl)) (pam_nil))))) (pssm_cons (psm_if (ptm_cmp (op_eq2 hr.units) opEq_ok (nomark _) (pem_ix (ix_all2 hr.units) opIx_ok (mv 0) (pem_int) (fun _ _ => rfl)) (pem_int)) (pssm_one (psm_ret (pem_tup (pam_cons (pem_str) (pam_cons (mv 1) (pam_cons (pem_non) (pam_cons (pem_tup (pam_cons (mv 5) (pam_cons (pem_call k__law_int T.d__law_int hr tk (by rfl) (pam_cons (pem_ix (ix_all2 hr.units) opIx_ok (mv 0) (pem_int) (fun _ _ => rfl)) (pam_nil))) (pam_nil)))) (pam_cons (pem_tup (pam_nil)) (pam_nil))))))))) (pssm_nil)) (pssm_cons (psm_if (ptm_cmp (op_eq2 hr.units) opEq_ok (nomark _) (pem_ix (ix_all2 hr.units) opIx_ok (mv 0) (pem_int) (fun _ _ => rfl)) (pem_int)) (pssm_one (psm_ret (pem_call k__law_print T.d__law_print hr tk (by rfl) (pam_cons (pem_tup (pam_cons (pem_str) (pam_cons (mv 2) (pam_cons (pem_non) (pam_cons (pem_tup (pam_cons (mv 5) (pam_nil))) (pam_cons (pem_tup (pam_nil)) (pam_nil))))))) (pam_nil))))) (pssm_nil)) (pssm_cons (psm_if (ptm_cmp (op_eq2 hr.units) opEq_ok (nomark _) (pem_ix (ix_all2 hr.units) opIx_ok (mv 0) (pem_int) (fun _ _ => rfl)) (pem_int)) (pssm_one (psm_ret (pem_tup (pam_cons (pem_str) (pam_cons (mv 1) (pam_cons (pem_non) (pam_cons (pem_tup (pam_cons (mv 6) (pam_cons (pem_call k__law_int T.d__law_int hr tk (by rfl) (pam_cons (pem_ix (ix_all2 hr.units) opIx_ok (mv 0) (pem_int) (fun _ _ => rfl)) (pam_nil))) (pam_cons (pem_call k__law_int T.d__law_int hr tk (by rfl) (pam_cons (pem_ix (ix_all2 hr.units) opIx_ok (mv 0) (pem_int) (fun _ _ => rfl)) (pam_nil))) (pam_nil))))) (pam_cons (pem_tup (pam_nil)) (pam_nil))))))))) (pssm_nil)) (pssm_cons (psm_if (ptm_cmp (op_eq2 hr.units) opEq_ok (nomark _) (pem_ix (ix_all2 hr.units) opIx_ok (mv 0) (pem_int) (fun _ _ => rfl)) (pem_int)) (pssm_one (psm_ret (pem_call k__law_print T.d__law_print hr tk (by rfl) (pam_cons (pem_tup (pam_cons (pem_str) (pam_cons (mv 2) (pam_cons (pem_non) (pam_cons (pem_tup (pam_cons (mv 6) (pam_cons (pem_call k__law_int T.d__law_int hr tk (by rfl) (pam_cons (pem_ix (ix_all2 hr.units) opIx_ok (mv 0) (pem_int) (fun _ _ => rfl)) (pam_nil))) (pam_nil)))) (pam_cons (pem_tup (pam_nil)) (pam_nil))))))) (pam_nil))))) (pssm_nil)) (pssm_cons (psm_if (ptm_cmp (op_eq2 hr.units) opEq_ok (nomark _) (pem_ix (ix_all2 hr.units) opIx_ok (mv 0) (pem_int) (fun _ _ => rfl)) (pem_int)) (pssm_one (psm_ret (pem_call k__law_print T.d__law_print hr tk (by rfl) (pam_cons (pem_tup (pam_cons (pem_str) (pam_cons (mv 2) (pam_cons (pem_non) (pam_cons (pem_tup (pam_cons (mv 6) (pam_nil))) (pam_cons (pem_tup (pam_nil)) (pam_nil))))))) (pam_nil))))) (pssm_nil)) (pssm_cons (ss 7 sc__law_expression.nd (pem_tup (pam_cons (pem_str) (pam_cons (mv 2) (pam_cons (pem_non) (pam_cons (pem_tup (pam_cons (mv 6) (pam_cons (pem_call k__law_int T.d__law_int hr tk (by rfl) (pam_cons (pem_ix (ix_all2 hr.units) opIx_ok (mv 0) (pem_int) (fun _ _ => rfl)) (pam_nil))) (pam_nil)))) (pam_cons (pem_tup (pam_nil)) (pam_nil)))))))) (pssm_one (psm_ret (pem_tup (pam_cons (pem_str) (pam_cons (mv 1) (pam_cons (pem_non) (pam_cons (pem_tup (pam_cons (mv 5) (pam_cons (mv 7) (pam_nil)))) (pam_cons (pem_tup (pam_nil)) (pam_nil))))))))))))))))))))
theorem ok__law_seq (T : Top w K mg) : FnM P w K mg base 1 T.a__law_seq T.f__law_seq ["first", "second"] m__law_seq := by
  refine fnM_body T.d__law_seq.fn sc__law_seq hg_fn fun cdv A outer s H E hr tk hp => ?_
  exact pssm_one (psm_ret (pem_tup (pam_cons (pem_str) (pam_cons (pem_ix (ix_all2 hr.units) opIx_ok (mv 1) (pem_int) (fun _ _ => rfl)) (pam_cons (pem_non) (pam_cons (pem_tup (pam_cons (mv 0) (pam_cons (mv 1) (pam_nil)))) (pam_cons (pem_tup (pam_nil)) (pam_nil))))))))
theorem ok__law_program (T : Top w K mg) (k__law_whole : FnM P w K mg base 3 T.a__law_whole T.f__law_whole [] m__law_whole) (k__law_expression : FnM P w K mg base 3 T.a__law_expression T.f__law_expression ["deed"] m__law_expression) (k__law_seq : FnM P w K mg base 3 T.a__law_seq T.f__law_seq ["first", "second"] m__law_seq) (k__law_name : FnM P w K mg base 3 T.a__law_name T.f__law_name ["kind", "name"] m__law_name) (k__law_let : FnM P w K mg base 3 T.a__law_let T.f__law_let ["name", "value", "body"] m__law_let) (k__law_int : FnM P w K mg base 3 T.a__law_int T.f__law_int ["value"] m__law_int) : FnM P w K mg base 4 T.a__law_program T.f__law_program ["many", "start", "deeds"] m__law_program := by
  refine fnM_body T.d__law_program.fn sc__law_program hg_fn fun cdv A outer s H E hr tk hp => ?_
  exact pssm_cons (ss 3 sc__law_program.nd (pem_call0 k__law_whole T.d__law_whole hr tk (by rfl))) (pssm_cons (ss 4 sc__law_program.nd (pem_tup (pam_cons (pem_str) (pam_cons (pem_tup (pam_cons (mv 3) (pam_nil))) (pam_cons (pem_int) (pam_nil)))))) (pssm_cons (ss 5 sc__law_program.nd (pem_tup (pam_cons (pem_str) (pam_cons (pem_tup (pam_cons (mv 3) (pam_nil))) (pam_cons (pem_int) (pam_nil)))))) (pssm_cons (ss 6 sc__law_program.nd (pem_lstN (pam_nil))) (pssm_cons (psm_for hp rfl (pim_range3 (by rfl) T.z_range (pam_cons (pem_int) (pam_cons (pem_callB call_len2 fLen_ok (by rfl) T.z_len (by decide +kernel) (pam_cons (mv 2) (pam_nil))) (pam_cons (pem_int) (pam_nil))))) (gn 7 sc__law_program.nd) (pssm_cons (ss 8 sc__law_program.nd (pem_call k__law_expression T.d__law_expression hr tk (by rfl) (pam_cons (pem_ix (ix_all2 hr.units) opIx_ok (mv 2) (mv 7) (fun _ _ => rfl)) (pam_nil)))) (pssm_cons (psm_for hp rfl (pim_src (pem_slice sl_all opSl_ok (mv 2) (pom_some (pem_op op_addS opAddL_ok (mv 7) (pem_int))) (pom_some (pem_op op_addS opAddL_ok (mv 7) (pem_int))))) (gn 9 sc__law_program.nd) (pssm_one (ss 8 sc__law_program.nd (pem_call k__law_seq T.d__law_seq hr tk (by rfl) (pam_cons (mv 8) (pam_cons (pem_call k__law_expression T.d__law_expression hr tk (by rfl) (pam_cons (mv 9) (pam_nil))) (pam_nil))))))) (pssm_one (psm_expr (pem_bm PySem.F.plainAttrs_list PySem.F.slot_list_append PySem.F.type_list_append mt_append fAppend_ok (mv 6) (pam_cons (mv 8) (pam_nil)))))))) (pssm_cons (ss 10 sc__law_program.nd (pem_tup (pam_cons (pem_str) (pam_cons (mv 3) (pam_cons (pem_non) (pam_cons (pem_tup (pam_cons (pem_call k__law_name T.d__law_name hr tk (by rfl) (pam_cons (mv 4) (pam_cons (pem_str) (pam_nil)))) (pam_nil))) (pam_cons (pem_tup (pam_nil)) (pam_nil)))))))) (pssm_cons (ss 11 sc__law_program.nd (pem_lstN (pam_nil))) (pssm_cons (ss 12 sc__law_program.nd (pem_tup (pam_cons (pem_tup (pam_cons (pem_str) (pam_cons (mv 4) (pam_nil)))) (pam_cons (pem_tup (pam_cons (pem_str) (pam_cons (mv 4) (pam_nil)))) (pam_cons (pem_tup (pam_cons (pem_str) (pam_cons (mv 4) (pam_nil)))) (pam_cons (pem_tup (pam_cons (pem_str) (pam_cons (mv 4) (pam_nil)))) (pam_cons (pem_tup (pam_cons (pem_str) (pam_cons (mv 5) (pam_nil)))) (pam_cons (pem_tup (pam_cons (pem_str) (pam_cons (mv 5) (pam_nil)))) (pam_nil))))))))) (pssm_cons (ss 13 sc__law_program.nd (pem_callTy call_tuple_of fTuple_ok (by rfl) T.z_tuple (by decide +kernel) (pam_cons (pem_lc (own := [("row", 15)]) rfl sc__law_program.nd (pim_src (mv 12)) (blkOk_by (N := ["many", "start", "deeds", "whole", "ref", "array", "groups", "at", "group", "deed", "body", "functions", "kinds", "names", "call", "row"]) (sc := defScope s__law_program) (by decide +kernel)) (by decide) (fun _ _ _ _ _ => gn 15 sc__law_program.nd) (fun _ _ _ _ _ => ptsm_nil) (fun _ _ _ _ _ => pem_call k__law_name T.d__law_name hr takesW0 (by rfl) (pam_cons (pem_ix (ix_all2 hr.units) opIx_ok (mv 15) (pem_int) (fun _ _ => rfl)) (pam_cons (pem_ix (ix_all2 hr.units) opIx_ok (mv 15) (pem_int) (fun _ _ => rfl)) (pam_nil))))) (pam_nil)))) (pssm_cons (psm_for hp rfl (pim_src (mv 6)) (gn 8 sc__law_program.nd) (pssm_cons (psm_if (ptm_val (mv 11)) (pssm_cons (ss 14 sc__law_program.nd (pem_tup (pam_cons (pem_str) (pam_cons (pem_tup (pam_cons (pem_str) (pam_cons (pem_tup (pam_nil)) (pam_cons (pem_int) (pam_nil))))) (pam_cons (pem_op op_sub opSub_ok (pem_callB call_len2 fLen_ok (by rfl) T.z_len (by decide +kernel) (pam_cons (mv 11) (pam_nil))) (pem_int)) (pam_cons (mv 13) (pam_cons (pem_tup (pam_nil)) (pam_nil)))))))) (pssm_one (ss 8 sc__law_program.nd (pem_call k__law_seq T.d__law_seq hr tk (by rfl) (pam_cons (mv 14) (pam_cons (mv 8) (pam_nil))))))) (pssm_nil)) (pssm_one (psm_expr (pem_bm PySem.F.plainAttrs_list PySem.F.slot_list_append PySem.F.type_list_append mt_append fAppend_ok (mv 11) (pam_cons (pem_tup (pam_cons (pem_op op_addS opAddL_ok (pem_str) (pem_callTy call_str3 fStr3_ok (by rfl) T.z_str (by decide +kernel) (pam_cons (pem_callB call_len2 fLen_ok (by rfl) T.z_len (by decide +kernel) (pam_cons (mv 11) (pam_nil))) (pam_nil)))) (pam_cons (mv 12) (pam_cons (pem_tup (pam_cons (pem_str) (pam_cons (pem_tup (pam_nil)) (pam_cons (pem_int) (pam_nil))))) (pam_cons (mv 8) (pam_nil)))))) (pam_nil))))))) (pssm_cons (psm_if (ptm_val (mv 11)) (pssm_one (ss 10 sc__law_program.nd (pem_call k__law_seq T.d__law_seq hr tk (by rfl) (pam_cons (pem_tup (pam_cons (pem_str) (pam_cons (pem_tup (pam_cons (pem_str) (pam_cons (pem_tup (pam_nil)) (pam_cons (pem_int) (pam_nil))))) (pam_cons (pem_op op_sub opSub_ok (pem_callB call_len2 fLen_ok (by rfl) T.z_len (by decide +kernel) (pam_cons (mv 11) (pam_nil))) (pem_int)) (pam_cons (mv 13) (pam_cons (pem_tup (pam_nil)) (pam_nil))))))) (pam_cons (mv 10) (pam_nil)))))) (pssm_nil)) (pssm_cons (ss 10 sc__law_program.nd (pem_call k__law_let T.d__law_let hr tk (by rfl) (pam_cons (pem_str) (pam_cons (pem_call k__law_name T.d__law_name hr tk (by rfl) (pam_cons (mv 5) (pam_cons (pem_str) (pam_nil)))) (pam_cons (mv 10) (pam_nil)))))) (pssm_cons (ss 10 sc__law_program.nd (pem_call k__law_let T.d__law_let hr tk (by rfl) (pam_cons (pem_str) (pam_cons (pem_tup (pam_cons (pem_str) (pam_cons (mv 5) (pam_cons (pem_non) (pam_cons (pem_tup (pam_cons (pem_call k__law_int T.d__law_int hr tk (by rfl) (pam_cons (mv 0) (pam_nil))) (pam_cons (pem_call k__law_int T.d__law_int hr tk (by rfl) (pam_cons (mv 1) (pam_nil))) (pam_nil)))) (pam_cons (pem_tup (pam_nil)) (pam_nil))))))) (pam_cons (mv 10) (pam_nil)))))) (pssm_cons (ss 10 sc__law_program.nd (pem_call k__law_let T.d__law_let hr tk (by rfl) (pam_cons (pem_str) (pam_cons (pem_call k__law_name T.d__law_name hr tk (by rfl) (pam_cons (mv 4) (pam_cons (pem_str) (pam_nil)))) (pam_cons (mv 10) (pam_nil)))))) (pssm_cons (ss 10 sc__law_program.nd (pem_call k__law_let T.d__law_let hr tk (by rfl) (pam_cons (pem_str) (pam_cons (pem_call k__law_name T.d__law_name hr tk (by rfl) (pam_cons (mv 4) (pam_cons (pem_str) (pam_nil)))) (pam_cons (mv 10) (pam_nil)))))) (pssm_cons (ss 10 sc__law_program.nd (pem_call k__law_let T.d__law_let hr tk (by rfl) (pam_cons (pem_str) (pam_cons (pem_tup (pam_cons (pem_str) (pam_cons (mv 4) (pam_cons (pem_non) (pam_cons (pem_tup (pam_cons (pem_call k__law_int T.d__law_int hr tk (by rfl) (pam_cons (pem_op op_addS opAddL_ok (mv 1) (pem_int)) (pam_nil))) (pam_nil))) (pam_cons (pem_tup (pam_nil)) (pam_nil))))))) (pam_cons (mv 10) (pam_nil)))))) (pssm_cons (ss 10 sc__law_program.nd (pem_call k__law_let T.d__law_let hr tk (by rfl) (pam_cons (pem_str) (pam_cons (pem_tup (pam_cons (pem_str) (pam_cons (mv 4) (pam_cons (pem_non) (pam_cons (pem_tup (pam_cons (pem_call k__law_int T.d__law_int hr tk (by rfl) (pam_cons (mv 1) (pam_nil))) (pam_nil))) (pam_cons (pem_tup (pam_nil)) (pam_nil))))))) (pam_cons (mv 10) (pam_nil)))))) (pssm_one (psm_ret (pem_tup (pam_cons (pem_tup (pam_nil)) (pam_cons (pem_tup (pam_cons (pem_str) (pam_cons (pem_str) (pam_cons (pem_str) (pam_nil))))) (pam_cons (pem_callTy call_tuple_of fTuple_ok (by rfl) T.z_tuple (by decide +kernel) (pam_cons (pem_op op_addS opAddL_ok (mv 11) (pem_lst (pam_cons (pem_tup (pam_cons (pem_str) (pam_cons (pem_tup (pam_nil)) (pam_cons (mv 3) (pam_cons (mv 10) (pam_nil)))))) (pam_nil)))) (pam_nil))) (pam_nil)))))))))))))))))))))))
theorem ok_Outcome___init__ (T : Top w K mg) : FnM P w K mg base 1 T.a_Outcome___init__ T.f_Outcome___init__ ["self", "fuel"] m_Outcome___init__ := by
  refine fnM_body T.d_Outcome___init__.fn sc_Outcome___init__ hg_fnN fun cdv A outer s H E hr tk hp => ?_
  exact pssm_cons (psm_fld (fldT_cons T.cls_Outcome fldT_nil) (mv 0) (pem_callB (call_min2 rfl) fMin2_ok (by rfl) T.z_min (by decide +kernel) (pam_cons (pem_callB (call_max2 rfl) fMax2_ok (by rfl) T.z_max (by decide +kernel) (pam_cons (mv 1) (pam_cons (pem_int) (pam_nil)))) (pam_cons (mk T.c_MAX_FUEL) (pam_nil))))) (pssm_cons (psm_fld (fldT_cons T.cls_Outcome fldT_nil) (mv 0) (pem_int)) (pssm_cons (psm_fld (fldT_cons T.cls_Outcome fldT_nil) (mv 0) (pem_lstN (pam_nil))) (pssm_cons (psm_fld (fldT_cons T.cls_Outcome fldT_nil) (mv 0) (pem_non)) (pssm_one (psm_fld (fldT_cons T.cls_Outcome fldT_nil) (mv 0) (pem_int))))))
theorem ok_Evaluation___init__ (T : Top w K mg) (k_Outcome___init__ : FnM P w K mg base 1 T.a_Outcome___init__ T.f_Outcome___init__ ["self", "fuel"] m_Outcome___init__) : FnM P w K mg base 3 T.a_Evaluation___init__ T.f_Evaluation___init__ ["self", "program", "fuel"] m_Evaluation___init__ := by
  refine fnM_body T.d_Evaluation___init__.fn sc_Evaluation___init__ hg_fnN fun cdv A outer s H E hr tk hp => ?_
  exact pssm_cons (psm_asgSeq rfl (mv 1) (pgsm_cons (gn 3 sc_Evaluation___init__.nd) (pgsm_cons (gn 4 sc_Evaluation___init__.nd) (pgsm_cons (gn 5 sc_Evaluation___init__.nd) (pgsm_nil))))) (pssm_cons (psm_fld (fldT_cons T.cls_Evaluation fldT_nil) (mv 0) (mv 4)) (pssm_cons (psm_fld (fldT_cons T.cls_Evaluation fldT_nil) (mv 0) (mv 5)) (pssm_cons (psm_fld (fldT_cons T.cls_Evaluation fldT_nil) (mv 0) (pem_make (qn := "") (st := .Pass ⟨0, 0, 0, 0⟩) T.cls_Outcome T.mk_Outcome k_Outcome___init__ T.d_Outcome___init__.bi hr tk (by rfl) T.mg_Outcome (pam_cons (mv 2) (pam_nil)))) (pssm_cons (psm_fld (fldT_cons T.cls_Evaluation fldT_nil) (mv 0) (pem_lstN (pam_nil))) (pssm_one (psm_fld (fldT_cons T.cls_Evaluation fldT_nil) (mv 0) (pem_lstN (pam_nil))))))))
theorem ok_Evaluation_begin (T : Top w K mg) : FnM P w K mg base 1 T.a_Evaluation_begin T.f_Evaluation_begin ["self", "expression", "scope"] m_Evaluation_begin := by
  refine fnM_body T.d_Evaluation_begin.fn sc_Evaluation_begin hg_fnN fun cdv A outer s H E hr tk hp => ?_
  exact pssm_one (psm_expr (pem_bm PySem.F.plainAttrs_list PySem.F.slot_list_append PySem.F.type_list_append mt_append fAppend_ok (pem_fld (fldT_cons T.cls_Evaluation fldT_nil) (mv 0)) (pam_cons (pem_tup (pam_cons (pem_str) (pam_cons (mv 1) (pam_cons (mv 2) (pam_nil))))) (pam_nil))))
theorem ok_Outcome_end_stuck (T : Top w K mg) : FnM P w K mg base 1 T.a_Outcome_end_stuck T.f_Outcome_end_stuck ["self"] m_Outcome_end_stuck := by
  refine fnM_body T.d_Outcome_end_stuck.fn sc_Outcome_end_stuck hg_fnN fun cdv A outer s H E hr tk hp => ?_
  exact pssm_one (psm_fld (fldT_cons T.cls_Outcome fldT_nil) (mv 0) (pem_tup (pam_cons (pem_str) (pam_nil))))
theorem ok__bound (T : Top w K mg) : FnM P w K mg base 1 T.a__bound T.f__bound ["parameters", "values"] m__bound := by
  refine fnM_body T.d__bound.fn sc__bound hg_fnN fun cdv A outer s H E hr tk hp => ?_
  exact pssm_one (psm_ret (pem_dcN (own := [("name", 2), ("_", 3), ("value", 4)]) rfl sc__bound.nd (pim_zip3 (by rfl) T.z_zip (pam_cons (mv 0) (pam_cons (mv 1) (pam_nil)))) (blkOk_by (N := ["parameters", "values", "name", "_", "value"]) (sc := defScope s__bound) (by decide +kernel)) (by decide) (fun _ _ _ _ _ => pgm_seq rfl (pgsm_cons (pgm_seq rfl (pgsm_cons (gn 2 sc__bound.nd) (pgsm_cons (gn 3 sc__bound.nd) (pgsm_nil)))) (pgsm_cons (gn 4 sc__bound.nd) (pgsm_nil)))) (fun _ _ _ _ _ => ptsm_nil) (fun _ _ _ _ _ => mv 2) (fun _ _ _ _ _ => mv 4)))
theorem ok__begin_kids (T : Top w K mg) (k_Evaluation_begin : FnM P w K mg base 1 T.a_Evaluation_begin T.f_Evaluation_begin ["self", "expression", "scope"] m_Evaluation_begin) : FnM P w K mg base 2 T.a__begin_kids T.f__begin_kids ["evaluation", "expression", "scope"] m__begin_kids := by
  refine fnM_body T.d__begin_kids.fn sc__begin_kids hg_fnN fun cdv A outer s H E hr tk hp => ?_
  exact pssm_cons (psm_asgSeq rfl (mv 1) (pgsm_cons (gn 3 sc__begin_kids.nd) (pgsm_cons (gn 4 sc__begin_kids.nd) (pgsm_cons (gn 4 sc__begin_kids.nd) (pgsm_cons (gn 5 sc__begin_kids.nd) (pgsm_cons (gn 4 sc__begin_kids.nd) (pgsm_nil))))))) (pssm_cons (psm_expr (pem_bm PySem.F.plainAttrs_list PySem.F.slot_list_append PySem.F.type_list_append mt_append fAppend_ok (pem_fld (fldT_cons T.cls_Evaluation fldT_nil) (mv 0)) (pam_cons (pem_tup (pam_cons (pem_str) (pam_cons (mv 1) (pam_cons (mv 2) (pam_nil))))) (pam_nil)))) (pssm_one (psm_for hp rfl (pim_src (pem_revT rfl (by rfl) T.z_list (by rfl) T.z_reversed (pem_slice sl_all opSl_ok (mv 5) (pom_none) (pom_some (pem_kget2 T.k_EARLY (by rfl) (mv 3) (pem_callB call_len2 fLen_ok (by rfl) T.z_len (by decide +kernel) (pam_cons (mv 5) (pam_nil))) ⟨rfl, rfl, rfl, rfl⟩))))) (gn 6 sc__begin_kids.nd) (pssm_one (psm_expr (pem_meth T.cls_Evaluation k_Evaluation_begin T.d_Evaluation_begin hr tk (mv 0) (pam_cons (mv 6) (pam_cons (mv 2) (pam_nil)))))))))
theorem ok_Evaluation_give (T : Top w K mg) : FnM P w K mg base 1 T.a_Evaluation_give T.f_Evaluation_give ["self", "value"] m_Evaluation_give := by
  refine fnM_body T.d_Evaluation_give.fn sc_Evaluation_give hg_fnN fun cdv A outer s H E hr tk hp => ?_
  exact pssm_one (psm_expr (pem_bm PySem.F.plainAttrs_list PySem.F.slot_list_append PySem.F.type_list_append mt_append fAppend_ok (pem_fld (fldT_cons T.cls_Evaluation fldT_nil) (mv 0)) (pam_cons (mv 1) (pam_nil))))
theorem ok__begin_literal (T : Top w K mg) (k_Evaluation_give : FnM P w K mg base 1 T.a_Evaluation_give T.f_Evaluation_give ["self", "value"] m_Evaluation_give) : FnM P w K mg base 2 T.a__begin_literal T.f__begin_literal ["evaluation", "expression", "scope"] m__begin_literal := by
  refine fnM_body T.d__begin_literal.fn sc__begin_literal hg_fnN fun cdv A outer s H E hr tk hp => ?_
  exact pssm_one (psm_expr (pem_meth T.cls_Evaluation k_Evaluation_give T.d_Evaluation_give hr tk (mv 0) (pam_cons (pem_ix (ix_all2 hr.units) opIx_ok (mv 1) (pem_int) (fun _ _ => rfl)) (pam_nil))))
theorem ok__begin_name (T : Top w K mg) (k_Evaluation_give : FnM P w K mg base 1 T.a_Evaluation_give T.f_Evaluation_give ["self", "value"] m_Evaluation_give) : FnM P w K mg base 2 T.a__begin_name T.f__begin_name ["evaluation", "expression", "scope"] m__begin_name := by
  refine fnM_body T.d__begin_name.fn sc__begin_name hg_fnN fun cdv A outer s H E hr tk hp => ?_
  exact pssm_one (psm_expr (pem_meth T.cls_Evaluation k_Evaluation_give T.d_Evaluation_give hr tk (mv 0) (pam_cons (pem_ix (ix_all2 hr.units) opIx_ok (mv 2) (pem_ix (ix_all2 hr.units) opIx_ok (mv 1) (pem_int) (fun _ _ => rfl)) (fun _ _ => rfl)) (pam_nil))))
theorem ok__begin_fn (T : Top w K mg) (k_Evaluation_give : FnM P w K mg base 1 T.a_Evaluation_give T.f_Evaluation_give ["self", "value"] m_Evaluation_give) : FnM P w K mg base 2 T.a__begin_fn T.f__begin_fn ["evaluation", "expression", "scope"] m__begin_fn := by
  refine fnM_body T.d__begin_fn.fn sc__begin_fn hg_fnN fun cdv A outer s H E hr tk hp => ?_
  exact pssm_cons (psm_asgSeq rfl (pem_slice sl_all opSl_ok (mv 1) (pom_some (pem_int)) (pom_some (pem_int))) (pgsm_cons (pgm_seq rfl (pgsm_cons (gn 3 sc__begin_fn.nd) (pgsm_cons (gn 4 sc__begin_fn.nd) (pgsm_nil)))) (pgsm_cons (pgm_seq rfl (pgsm_cons (gn 5 sc__begin_fn.nd) (pgsm_nil))) (pgsm_nil)))) (pssm_one (psm_expr (pem_meth T.cls_Evaluation k_Evaluation_give T.d_Evaluation_give hr tk (mv 0) (pam_cons (pem_tup (pam_cons (mv 3) (pam_cons (mv 5) (pam_cons (mv 2) (pam_nil))))) (pam_nil)))))
theorem ok__begin_handle (T : Top w K mg) (k_Evaluation_begin : FnM P w K mg base 1 T.a_Evaluation_begin T.f_Evaluation_begin ["self", "expression", "scope"] m_Evaluation_begin) : FnM P w K mg base 2 T.a__begin_handle T.f__begin_handle ["evaluation", "expression", "scope"] m__begin_handle := by
  refine fnM_body T.d__begin_handle.fn sc__begin_handle hg_fnN fun cdv A outer s H E hr tk hp => ?_
  exact pssm_cons (psm_expr (pem_bm PySem.F.plainAttrs_list PySem.F.slot_list_append PySem.F.type_list_append mt_append fAppend_ok (pem_fld (fldT_cons T.cls_Evaluation fldT_nil) (mv 0)) (pam_cons (pem_tup (pam_cons (pem_str) (pam_cons (mv 1) (pam_cons (pem_tup (pam_cons (mv 2) (pam_cons (pem_callB call_len2 fLen_ok (by rfl) T.z_len (by decide +kernel) (pam_cons (pem_fld (fldT_cons T.cls_Evaluation fldT_nil) (mv 0)) (pam_nil))) (pam_nil)))) (pam_nil))))) (pam_nil)))) (pssm_one (psm_expr (pem_meth T.cls_Evaluation k_Evaluation_begin T.d_Evaluation_begin hr tk (mv 0) (pam_cons (pem_ix (ix_all2 hr.units) opIx_ok (pem_ix (ix_all2 hr.units) opIx_ok (mv 1) (pem_int) (fun _ _ => rfl)) (pem_int) (fun _ _ => rfl)) (pam_cons (mv 2) (pam_nil))))))
theorem ok_Outcome_spend (T : Top w K mg) : FnM P w K mg base 1 T.a_Outcome_spend T.f_Outcome_spend ["self", "ticks"] m_Outcome_spend := by
  refine fnM_body T.d_Outcome_spend.fn sc_Outcome_spend hg_fnN fun cdv A outer s H E hr tk hp => ?_
  exact pssm_cons (psm_if (ptm_cmp op_gt2 opCmp_ok (nomark _) (pem_op op_addS opAddL_ok (pem_fld (fldT_cons T.cls_Outcome fldT_nil) (mv 0)) (mv 1)) (pem_fld (fldT_cons T.cls_Outcome fldT_nil) (mv 0))) (pssm_cons (psm_fld (fldT_cons T.cls_Outcome fldT_nil) (mv 0) (pem_fld (fldT_cons T.cls_Outcome fldT_nil) (mv 0))) (pssm_cons (psm_fld (fldT_cons T.cls_Outcome fldT_nil) (mv 0) (pem_tup (pam_cons (pem_str) (pam_nil)))) (pssm_one (psm_ret (pem_bl))))) (pssm_nil)) (pssm_cons (psm_fldAug (fldT_cons T.cls_Outcome fldT_nil) iop_addI opAddI_ok (mv 0) (mv 1)) (pssm_one (psm_ret (pem_bl))))
theorem ok__end_call (T : Top w K mg) (k_Outcome_spend : FnM P w K mg base 1 T.a_Outcome_spend T.f_Outcome_spend ["self", "ticks"] m_Outcome_spend) (k_Evaluation_begin : FnM P w K mg base 1 T.a_Evaluation_begin T.f_Evaluation_begin ["self", "expression", "scope"] m_Evaluation_begin) (k__bound : FnM P w K mg base 1 T.a__bound T.f__bound ["parameters", "values"] m__bound) : FnM P w K mg base 2 T.a__end_call T.f__end_call ["evaluation", "expression", "scope", "values"] m__end_call := by
  refine fnM_body T.d__end_call.fn sc__end_call hg_fnN fun cdv A outer s H E hr tk hp => ?_
  exact pssm_cons (psm_asgSeq rfl (pem_ix (ix_all2 hr.units) opIx_ok (pem_fld (fldT_cons T.cls_Evaluation fldT_nil) (mv 0)) (pem_ix (ix_all2 hr.units) opIx_ok (mv 1) (pem_int) (fun _ _ => rfl)) (fun _ _ => rfl)) (pgsm_cons (gn 4 sc__end_call.nd) (pgsm_cons (gn 5 sc__end_call.nd) (pgsm_cons (gn 4 sc__end_call.nd) (pgsm_cons (gn 6 sc__end_call.nd) (pgsm_nil)))))) (pssm_one (psm_if (ptm_val (pem_meth T.cls_Outcome k_Outcome_spend T.d_Outcome_spend hr tk (pem_fld (fldT_cons T.cls_Evaluation fldT_nil) (mv 0)) (pam_cons (pem_int) (pam_nil)))) (pssm_one (psm_expr (pem_meth T.cls_Evaluation k_Evaluation_begin T.d_Evaluation_begin hr tk (mv 0) (pam_cons (mv 6) (pam_cons (pem_call k__bound T.d__bound hr tk (by rfl) (pam_cons (mv 5) (pam_cons (mv 3) (pam_nil)))) (pam_nil)))))) (pssm_nil)))
theorem ok__end_make (T : Top w K mg) (k_Evaluation_give : FnM P w K mg base 1 T.a_Evaluation_give T.f_Evaluation_give ["self", "value"] m_Evaluation_give) : FnM P w K mg base 2 T.a__end_make T.f__end_make ["evaluation", "expression", "scope", "values"] m__end_make := by
  refine fnM_body T.d__end_make.fn sc__end_make hg_fnN fun cdv A outer s H E hr tk hp => ?_
  exact pssm_one (psm_expr (pem_meth T.cls_Evaluation k_Evaluation_give T.d_Evaluation_give hr tk (mv 0) (pam_cons (pem_tup (pam_cons (pem_ix (ix_all2 hr.units) opIx_ok (mv 1) (pem_int) (fun _ _ => rfl)) (pam_cons (mv 3) (pam_nil)))) (pam_nil))))
theorem ok__end_tuple (T : Top w K mg) (k_Evaluation_give : FnM P w K mg base 1 T.a_Evaluation_give T.f_Evaluation_give ["self", "value"] m_Evaluation_give) : FnM P w K mg base 2 T.a__end_tuple T.f__end_tuple ["evaluation", "expression", "scope", "values"] m__end_tuple := by
  refine fnM_body T.d__end_tuple.fn sc__end_tuple hg_fnN fun cdv A outer s H E hr tk hp => ?_
  exact pssm_one (psm_expr (pem_meth T.cls_Evaluation k_Evaluation_give T.d_Evaluation_give hr tk (mv 0) (pam_cons (mv 3) (pam_nil))))
theorem ok__end_get (T : Top w K mg) (k_Evaluation_give : FnM P w K mg base 1 T.a_Evaluation_give T.f_Evaluation_give ["self", "value"] m_Evaluation_give) : FnM P w K mg base 2 T.a__end_get T.f__end_get ["evaluation", "expression", "scope", "values"] m__end_get := by
  refine fnM_body T.d__end_get.fn sc__end_get hg_fnN fun cdv A outer s H E hr tk hp => ?_
  exact pssm_one (psm_expr (pem_meth T.cls_Evaluation k_Evaluation_give T.d_Evaluation_give hr tk (mv 0) (pam_cons (pem_ix (ix_all2 hr.units) opIx_ok (pem_ix (ix_all2 hr.units) opIx_ok (mv 3) (pem_int) (fun _ _ => rfl)) (pem_ix (ix_all2 hr.units) opIx_ok (mv 1) (pem_int) (fun _ _ => rfl)) (fun _ _ => rfl)) (pam_nil))))
theorem ok_inner_scope (T : Top w K mg) : FnM P w K mg base 1 T.a_inner_scope T.f_inner_scope ["scope", "names", "values"] m_inner_scope := by
  refine fnM_body T.d_inner_scope.fn sc_inner_scope hg_fnN fun cdv A outer s H E hr tk hp => ?_
  exact pssm_cons (ss 3 sc_inner_scope.nd (pem_callTy call_dictD fDictN_ok (by rfl) T.z_dict (by decide +kernel) (pam_cons (mv 0) (pam_nil)))) (pssm_cons (psm_for hp rfl (pim_zip3 (by rfl) T.z_zip (pam_cons (mv 1) (pam_cons (mv 2) (pam_nil)))) (pgm_seq rfl (pgsm_cons (gn 4 sc_inner_scope.nd) (pgsm_cons (gn 5 sc_inner_scope.nd) (pgsm_nil)))) (pssm_one (psm_setIx2 hr.units (mv 5) (mv 3) (mv 4)))) (pssm_one (psm_ret (mv 3))))
theorem ok__end_let (T : Top w K mg) (k_Evaluation_begin : FnM P w K mg base 1 T.a_Evaluation_begin T.f_Evaluation_begin ["self", "expression", "scope"] m_Evaluation_begin) (k_inner_scope : FnM P w K mg base 1 T.a_inner_scope T.f_inner_scope ["scope", "names", "values"] m_inner_scope) : FnM P w K mg base 2 T.a__end_let T.f__end_let ["evaluation", "expression", "scope", "values"] m__end_let := by
  refine fnM_body T.d__end_let.fn sc__end_let hg_fnN fun cdv A outer s H E hr tk hp => ?_
  exact pssm_one (psm_expr (pem_meth T.cls_Evaluation k_Evaluation_begin T.d_Evaluation_begin hr tk (mv 0) (pam_cons (pem_ix (ix_all2 hr.units) opIx_ok (pem_ix (ix_all2 hr.units) opIx_ok (mv 1) (pem_int) (fun _ _ => rfl)) (pem_int) (fun _ _ => rfl)) (pam_cons (pem_call k_inner_scope T.d_inner_scope hr tk (by rfl) (pam_cons (mv 2) (pam_cons (pem_tup (pam_cons (pem_ix (ix_all2 hr.units) opIx_ok (mv 1) (pem_int) (fun _ _ => rfl)) (pam_nil))) (pam_cons (mv 3) (pam_nil))))) (pam_nil)))))
theorem ok__end_if (T : Top w K mg) (k_Evaluation_begin : FnM P w K mg base 1 T.a_Evaluation_begin T.f_Evaluation_begin ["self", "expression", "scope"] m_Evaluation_begin) : FnM P w K mg base 2 T.a__end_if T.f__end_if ["evaluation", "expression", "scope", "values"] m__end_if := by
  refine fnM_body T.d__end_if.fn sc__end_if hg_fnN fun cdv A outer s H E hr tk hp => ?_
  exact pssm_cons (psm_asgSeq rfl (pem_ix (ix_all2 hr.units) opIx_ok (mv 1) (pem_int) (fun _ _ => rfl)) (pgsm_cons (gn 4 sc__end_if.nd) (pgsm_cons (gn 5 sc__end_if.nd) (pgsm_cons (gn 6 sc__end_if.nd) (pgsm_nil))))) (pssm_one (psm_expr (pem_meth T.cls_Evaluation k_Evaluation_begin T.d_Evaluation_begin hr tk (mv 0) (pam_cons (pem_if (ptm_val (pem_ix (ix_all2 hr.units) opIx_ok (mv 3) (pem_int) (fun _ _ => rfl))) (mv 5) (mv 6)) (pam_cons (mv 2) (pam_nil))))))
theorem ok__end_case (T : Top w K mg) (k_Evaluation_begin : FnM P w K mg base 1 T.a_Evaluation_begin T.f_Evaluation_begin ["self", "expression", "scope"] m_Evaluation_begin) (k_inner_scope : FnM P w K mg base 1 T.a_inner_scope T.f_inner_scope ["scope", "names", "values"] m_inner_scope) : FnM P w K mg base 2 T.a__end_case T.f__end_case ["evaluation", "expression", "scope", "values"] m__end_case := by
  refine fnM_body T.d__end_case.fn sc__end_case hg_fnN fun cdv A outer s H E hr tk hp => ?_
  exact pssm_cons (psm_asgSeq rfl (pem_ix (ix_all2 hr.units) opIx_ok (mv 3) (pem_int) (fun _ _ => rfl)) (pgsm_cons (gn 4 sc__end_case.nd) (pgsm_cons (gn 5 sc__end_case.nd) (pgsm_nil)))) (pssm_cons (psm_asgSeq rfl (pem_ix (ix_all2 hr.units) opIx_ok (pem_ix (ix_all2 hr.units) opIx_ok (mv 1) (pem_int) (fun _ _ => rfl)) (mv 4) (fun _ _ => rfl)) (pgsm_cons (gn 6 sc__end_case.nd) (pgsm_cons (gn 7 sc__end_case.nd) (pgsm_cons (gn 8 sc__end_case.nd) (pgsm_nil))))) (pssm_one (psm_expr (pem_meth T.cls_Evaluation k_Evaluation_begin T.d_Evaluation_begin hr tk (mv 0) (pam_cons (mv 8) (pam_cons (pem_call k_inner_scope T.d_inner_scope hr tk (by rfl) (pam_cons (mv 2) (pam_cons (mv 7) (pam_cons (mv 5) (pam_nil))))) (pam_nil)))))))
theorem ok__end_apply (T : Top w K mg) (k_Outcome_spend : FnM P w K mg base 1 T.a_Outcome_spend T.f_Outcome_spend ["self", "ticks"] m_Outcome_spend) (k_Evaluation_begin : FnM P w K mg base 1 T.a_Evaluation_begin T.f_Evaluation_begin ["self", "expression", "scope"] m_Evaluation_begin) (k_inner_scope : FnM P w K mg base 1 T.a_inner_scope T.f_inner_scope ["scope", "names", "values"] m_inner_scope) : FnM P w K mg base 2 T.a__end_apply T.f__end_apply ["evaluation", "expression", "scope", "values"] m__end_apply := by
  refine fnM_body T.d__end_apply.fn sc__end_apply hg_fnN fun cdv A outer s H E hr tk hp => ?_
  exact pssm_cons (psm_asgSeq rfl (mv 3) (pgsm_cons (pgm_seq rfl (pgsm_cons (gn 4 sc__end_apply.nd) (pgsm_cons (gn 5 sc__end_apply.nd) (pgsm_cons (gn 6 sc__end_apply.nd) (pgsm_nil))))) (pgsm_cons (gn 7 sc__end_apply.nd) (pgsm_nil)))) (pssm_one (psm_if (ptm_val (pem_meth T.cls_Outcome k_Outcome_spend T.d_Outcome_spend hr tk (pem_fld (fldT_cons T.cls_Evaluation fldT_nil) (mv 0)) (pam_cons (pem_int) (pam_nil)))) (pssm_one (psm_expr (pem_meth T.cls_Evaluation k_Evaluation_begin T.d_Evaluation_begin hr tk (mv 0) (pam_cons (mv 5) (pam_cons (pem_call k_inner_scope T.d_inner_scope hr tk (by rfl) (pam_cons (mv 6) (pam_cons (pem_tup (pam_cons (mv 4) (pam_nil))) (pam_cons (pem_lst (pam_cons (mv 7) (pam_nil))) (pam_nil))))) (pam_nil)))))) (pssm_nil)))
theorem ok__end_ref (T : Top w K mg) (k_Evaluation_give : FnM P w K mg base 1 T.a_Evaluation_give T.f_Evaluation_give ["self", "value"] m_Evaluation_give) : FnM P w K mg base 2 T.a__end_ref T.f__end_ref ["evaluation", "expression", "scope", "values"] m__end_ref := by
  refine fnM_body T.d__end_ref.fn sc__end_ref hg_fnN fun cdv A outer s H E hr tk hp => ?_
  exact pssm_one (psm_expr (pem_meth T.cls_Evaluation k_Evaluation_give T.d_Evaluation_give hr tk (mv 0) (pam_cons (mv 3) (pam_nil))))
theorem ok__end_deref (T : Top w K mg) (k_Evaluation_give : FnM P w K mg base 1 T.a_Evaluation_give T.f_Evaluation_give ["self", "value"] m_Evaluation_give) : FnM P w K mg base 2 T.a__end_deref T.f__end_deref ["evaluation", "expression", "scope", "values"] m__end_deref := by
  refine fnM_body T.d__end_deref.fn sc__end_deref hg_fnN fun cdv A outer s H E hr tk hp => ?_
  exact pssm_one (psm_expr (pem_meth T.cls_Evaluation k_Evaluation_give T.d_Evaluation_give hr tk (mv 0) (pam_cons (pem_ix (ix_all2 hr.units) opIx_ok (pem_ix (ix_all2 hr.units) opIx_ok (mv 3) (pem_int) (fun _ _ => rfl)) (pem_int) (fun _ _ => rfl)) (pam_nil))))
theorem ok__end_set (T : Top w K mg) (k_Evaluation_give : FnM P w K mg base 1 T.a_Evaluation_give T.f_Evaluation_give ["self", "value"] m_Evaluation_give) : FnM P w K mg base 2 T.a__end_set T.f__end_set ["evaluation", "expression", "scope", "values"] m__end_set := by
  refine fnM_body T.d__end_set.fn sc__end_set hg_fnN fun cdv A outer s H E hr tk hp => ?_
  exact pssm_cons (psm_asgSeq rfl (mv 3) (pgsm_cons (gn 4 sc__end_set.nd) (pgsm_cons (gn 5 sc__end_set.nd) (pgsm_nil)))) (pssm_cons (psm_setIx2 hr.units (mv 5) (mv 4) (pem_int)) (pssm_one (psm_expr (pem_meth T.cls_Evaluation k_Evaluation_give T.d_Evaluation_give hr tk (mv 0) (pam_cons (pem_non) (pam_nil))))))
theorem ok_Evaluation_throw (T : Top w K mg) (k_Evaluation_begin : FnM P w K mg base 1 T.a_Evaluation_begin T.f_Evaluation_begin ["self", "expression", "scope"] m_Evaluation_begin) (k_inner_scope : FnM P w K mg base 1 T.a_inner_scope T.f_inner_scope ["scope", "names", "values"] m_inner_scope) : FnM P w K mg base 2 T.a_Evaluation_throw T.f_Evaluation_throw ["self", "number", "payload"] m_Evaluation_throw := by
  refine fnM_body T.d_Evaluation_throw.fn sc_Evaluation_throw hg_fnN fun cdv A outer s H E hr tk hp => ?_
  exact pssm_cons (psm_while hp (ptm_val (pem_fld (fldT_cons T.cls_Evaluation fldT_nil) (mv 0))) (pssm_cons (psm_asgSeq rfl (pem_bm0 PySem.F.plainAttrs_list PySem.F.slot_list_pop PySem.F.type_list_pop mt_pop fPop_ok (pem_fld (fldT_cons T.cls_Evaluation fldT_nil) (mv 0))) (pgsm_cons (gn 3 sc_Evaluation_throw.nd) (pgsm_cons (gn 4 sc_Evaluation_throw.nd) (pgsm_cons (gn 5 sc_Evaluation_throw.nd) (pgsm_nil))))) (pssm_one (psm_if (ptm_cmp (op_eq2 hr.units) opEq_ok (nomark _) (mv 3) (pem_str)) (pssm_cons (psm_asgSeq rfl (mv 5) (pgsm_cons (gn 6 sc_Evaluation_throw.nd) (pgsm_cons (gn 7 sc_Evaluation_throw.nd) (pgsm_nil)))) (pssm_one (psm_for hp rfl (pim_src (pem_ix (ix_all2 hr.units) opIx_ok (mv 4) (pem_int) (fun _ _ => rfl))) (pgm_seq rfl (pgsm_cons (gn 8 sc_Evaluation_throw.nd) (pgsm_cons (gn 9 sc_Evaluation_throw.nd) (pgsm_cons (gn 10 sc_Evaluation_throw.nd) (pgsm_nil))))) (pssm_one (psm_if (ptm_cmp (op_eq2 hr.units) opEq_ok (nomark _) (mv 8) (mv 1)) (pssm_cons (psm_delT (pem_fld (fldT_cons T.cls_Evaluation fldT_nil) (mv 0)) (pom_some (mv 7)) (pom_none)) (pssm_cons (psm_expr (pem_meth T.cls_Evaluation k_Evaluation_begin T.d_Evaluation_begin hr tk (mv 0) (pam_cons (mv 10) (pam_cons (pem_call k_inner_scope T.d_inner_scope hr tk (by rfl) (pam_cons (mv 6) (pam_cons (mv 9) (pam_cons (pem_lst (pam_cons (mv 2) (pam_nil))) (pam_nil))))) (pam_nil))))) (pssm_one (psm_retN)))) (pssm_nil)))))) (pssm_nil))))) (pssm_one (psm_fld (fldT_cons T.cls_Outcome fldT_nil) (pem_fld (fldT_cons T.cls_Evaluation fldT_nil) (mv 0)) (pem_tup (pam_cons (pem_str) (pam_cons (pem_ix (ix_all2 hr.units) opIx_ok (pem_fld (fldT_cons T.cls_Evaluation fldT_nil) (mv 0)) (mv 1) (fun _ _ => rfl)) (pam_cons (mv 2) (pam_nil)))))))
theorem ok__end_array (T : Top w K mg) (k_Evaluation_throw : FnM P w K mg base 2 T.a_Evaluation_throw T.f_Evaluation_throw ["self", "number", "payload"] m_Evaluation_throw) (k_Outcome_spend : FnM P w K mg base 2 T.a_Outcome_spend T.f_Outcome_spend ["self", "ticks"] m_Outcome_spend) (k_Evaluation_give : FnM P w K mg base 2 T.a_Evaluation_give T.f_Evaluation_give ["self", "value"] m_Evaluation_give) : FnM P w K mg base 3 T.a__end_array T.f__end_array ["evaluation", "expression", "scope", "values"] m__end_array := by
  refine fnM_body T.d__end_array.fn sc__end_array hg_fnN fun cdv A outer s H E hr tk hp => ?_
  exact pssm_cons (psm_asgSeq rfl (mv 3) (pgsm_cons (gn 4 sc__end_array.nd) (pgsm_cons (gn 5 sc__end_array.nd) (pgsm_nil)))) (pssm_one (psm_if (ptm_not (ptm_chain op_le2 op_le2 opCmp_ok opCmp_ok (pem_int) (mv 4) (mk T.c_MAX_ARRAY) (by with_unfolding_all rfl))) (pssm_one (psm_expr (pem_meth T.cls_Evaluation k_Evaluation_throw T.d_Evaluation_throw hr tk (mv 0) (pam_cons (mk T.c_SIZE) (pam_cons (mv 4) (pam_nil)))))) (pssm_one (psm_if (ptm_val (pem_meth T.cls_Outcome k_Outcome_spend T.d_Outcome_spend hr tk (pem_fld (fldT_cons T.cls_Evaluation fldT_nil) (mv 0)) (pam_cons (mv 4) (pam_nil)))) (pssm_one (psm_expr (pem_meth T.cls_Evaluation k_Evaluation_give T.d_Evaluation_give hr tk (mv 0) (pam_cons (pem_op op_rep opRep_ok (pem_lstN (pam_cons (mv 5) (pam_nil))) (mv 4)) (pam_nil))))) (pssm_nil)))))
theorem ok__end_at (T : Top w K mg) (k_Evaluation_throw : FnM P w K mg base 2 T.a_Evaluation_throw T.f_Evaluation_throw ["self", "number", "payload"] m_Evaluation_throw) (k_Evaluation_give : FnM P w K mg base 2 T.a_Evaluation_give T.f_Evaluation_give ["self", "value"] m_Evaluation_give) : FnM P w K mg base 3 T.a__end_at T.f__end_at ["evaluation", "expression", "scope", "values"] m__end_at := by
  refine fnM_body T.d__end_at.fn sc__end_at hg_fnN fun cdv A outer s H E hr tk hp => ?_
  exact pssm_cons (psm_asgSeq rfl (mv 3) (pgsm_cons (gn 4 sc__end_at.nd) (pgsm_cons (gn 5 sc__end_at.nd) (pgsm_nil)))) (pssm_one (psm_if (ptm_not (ptm_chain op_le2 op_lt2 opCmp_ok opCmp_ok (pem_int) (mv 5) (pem_callB call_len2 fLen_ok (by rfl) T.z_len (by decide +kernel) (pam_cons (mv 4) (pam_nil))) (by with_unfolding_all rfl))) (pssm_one (psm_expr (pem_meth T.cls_Evaluation k_Evaluation_throw T.d_Evaluation_throw hr tk (mv 0) (pam_cons (mk T.c_INDEX) (pam_cons (mv 5) (pam_nil)))))) (pssm_one (psm_expr (pem_meth T.cls_Evaluation k_Evaluation_give T.d_Evaluation_give hr tk (mv 0) (pam_cons (pem_ix (ix_all2 hr.units) opIx_ok (mv 4) (mv 5) (fun _ _ => rfl)) (pam_nil)))))))
theorem ok__end_put (T : Top w K mg) (k_Evaluation_throw : FnM P w K mg base 2 T.a_Evaluation_throw T.f_Evaluation_throw ["self", "number", "payload"] m_Evaluation_throw) (k_Evaluation_give : FnM P w K mg base 2 T.a_Evaluation_give T.f_Evaluation_give ["self", "value"] m_Evaluation_give) : FnM P w K mg base 3 T.a__end_put T.f__end_put ["evaluation", "expression", "scope", "values"] m__end_put := by
  refine fnM_body T.d__end_put.fn sc__end_put hg_fnN fun cdv A outer s H E hr tk hp => ?_
  exact pssm_cons (psm_asgSeq rfl (mv 3) (pgsm_cons (gn 4 sc__end_put.nd) (pgsm_cons (gn 5 sc__end_put.nd) (pgsm_cons (gn 6 sc__end_put.nd) (pgsm_nil))))) (pssm_one (psm_if (ptm_not (ptm_chain op_le2 op_lt2 opCmp_ok opCmp_ok (pem_int) (mv 5) (pem_callB call_len2 fLen_ok (by rfl) T.z_len (by decide +kernel) (pam_cons (mv 4) (pam_nil))) (by with_unfolding_all rfl))) (pssm_one (psm_expr (pem_meth T.cls_Evaluation k_Evaluation_throw T.d_Evaluation_throw hr tk (mv 0) (pam_cons (mk T.c_INDEX) (pam_cons (mv 5) (pam_nil)))))) (pssm_cons (psm_setIx2 hr.units (mv 6) (mv 4) (mv 5)) (pssm_one (psm_expr (pem_meth T.cls_Evaluation k_Evaluation_give T.d_Evaluation_give hr tk (mv 0) (pam_cons (pem_non) (pam_nil))))))))
theorem ok__end_len (T : Top w K mg) (k_Evaluation_give : FnM P w K mg base 1 T.a_Evaluation_give T.f_Evaluation_give ["self", "value"] m_Evaluation_give) : FnM P w K mg base 2 T.a__end_len T.f__end_len ["evaluation", "expression", "scope", "values"] m__end_len := by
  refine fnM_body T.d__end_len.fn sc__end_len hg_fnN fun cdv A outer s H E hr tk hp => ?_
  exact pssm_one (psm_expr (pem_meth T.cls_Evaluation k_Evaluation_give T.d_Evaluation_give hr tk (mv 0) (pam_cons (pem_callB call_len2 fLen_ok (by rfl) T.z_len (by decide +kernel) (pam_cons (pem_ix (ix_all2 hr.units) opIx_ok (mv 3) (pem_int) (fun _ _ => rfl)) (pam_nil))) (pam_nil))))
theorem ok__end_raise (T : Top w K mg) (k_Evaluation_throw : FnM P w K mg base 2 T.a_Evaluation_throw T.f_Evaluation_throw ["self", "number", "payload"] m_Evaluation_throw) : FnM P w K mg base 3 T.a__end_raise T.f__end_raise ["evaluation", "expression", "scope", "values"] m__end_raise := by
  refine fnM_body T.d__end_raise.fn sc__end_raise hg_fnN fun cdv A outer s H E hr tk hp => ?_
  exact pssm_one (psm_expr (pem_meth T.cls_Evaluation k_Evaluation_throw T.d_Evaluation_throw hr tk (mv 0) (pam_cons (pem_ix (ix_all2 hr.units) opIx_ok (mv 1) (pem_int) (fun _ _ => rfl)) (pam_cons (pem_ix (ix_all2 hr.units) opIx_ok (mv 3) (pem_int) (fun _ _ => rfl)) (pam_nil)))))
theorem ok__end_print (T : Top w K mg) (k_Evaluation_give : FnM P w K mg base 1 T.a_Evaluation_give T.f_Evaluation_give ["self", "value"] m_Evaluation_give) : FnM P w K mg base 2 T.a__end_print T.f__end_print ["evaluation", "expression", "scope", "values"] m__end_print := by
  refine fnM_body T.d__end_print.fn sc__end_print hg_fnN fun cdv A outer s H E hr tk hp => ?_
  exact pssm_cons (psm_expr (pem_bm PySem.F.plainAttrs_list PySem.F.slot_list_append PySem.F.type_list_append mt_append fAppend_ok (pem_fld (fldT_cons T.cls_Outcome fldT_nil) (pem_fld (fldT_cons T.cls_Evaluation fldT_nil) (mv 0))) (pam_cons (pem_ix (ix_all2 hr.units) opIx_ok (mv 3) (pem_int) (fun _ _ => rfl)) (pam_nil)))) (pssm_one (psm_expr (pem_meth T.cls_Evaluation k_Evaluation_give T.d_Evaluation_give hr tk (mv 0) (pam_cons (pem_non) (pam_nil)))))
theorem ok__end_seq (T : Top w K mg) (k_Evaluation_give : FnM P w K mg base 1 T.a_Evaluation_give T.f_Evaluation_give ["self", "value"] m_Evaluation_give) : FnM P w K mg base 2 T.a__end_seq T.f__end_seq ["evaluation", "expression", "scope", "values"] m__end_seq := by
  refine fnM_body T.d__end_seq.fn sc__end_seq hg_fnN fun cdv A outer s H E hr tk hp => ?_
  exact pssm_one (psm_expr (pem_meth T.cls_Evaluation k_Evaluation_give T.d_Evaluation_give hr tk (mv 0) (pam_cons (pem_ix (ix_all2 hr.units) opIx_ok (mv 3) (pem_int) (fun _ _ => rfl)) (pam_nil))))
theorem ok_divides_by_zero (T : Top w K mg) : FnM P w K mg base 1 T.a_divides_by_zero T.f_divides_by_zero ["op", "second"] m_divides_by_zero := by
  refine fnM_body T.d_divides_by_zero.fn sc_divides_by_zero hg_fn fun cdv A outer s H E hr tk hp => ?_
  exact pssm_one (psm_ret (pem_and (pem_cmp (op_in3 hr.units) opIn2_ok rfl (mv 0) (pem_tup (pam_cons (pem_str) (pam_cons (pem_str) (pam_nil))))) (pem_one (pem_cmp (op_eq2 hr.units) opEq_ok (nomark _) (mv 1) (pem_int)))))
theorem ok_wrap (T : Top w K mg) : FnM P w K mg base 1 T.a_wrap T.f_wrap ["number"] m_wrap := by
  refine fnM_body T.d_wrap.fn sc_wrap hg_fn fun cdv A outer s H E hr tk hp => ?_
  exact pssm_one (psm_ret (pem_op op_sub opSub_ok (pem_op op_mod opMod_ok (pem_op op_addS opAddL_ok (mv 0) (mk T.c_HALF)) (pem_op op_mul2 opMul_ok (pem_int) (mk T.c_HALF))) (mk T.c_HALF)))
theorem ok__add (T : Top w K mg) (k_wrap : FnM P w K mg base 1 T.a_wrap T.f_wrap ["number"] m_wrap) : FnM P w K mg base 2 T.a__add T.f__add ["first", "second"] m__add := by
  refine fnM_body T.d__add.fn sc__add hg_fn fun cdv A outer s H E hr tk hp => ?_
  exact pssm_one (psm_ret (pem_call k_wrap T.d_wrap hr tk (by rfl) (pam_cons (pem_op op_addS opAddL_ok (mv 0) (mv 1)) (pam_nil))))
theorem ok__sub (T : Top w K mg) (k_wrap : FnM P w K mg base 1 T.a_wrap T.f_wrap ["number"] m_wrap) : FnM P w K mg base 2 T.a__sub T.f__sub ["first", "second"] m__sub := by
  refine fnM_body T.d__sub.fn sc__sub hg_fn fun cdv A outer s H E hr tk hp => ?_
  exact pssm_one (psm_ret (pem_call k_wrap T.d_wrap hr tk (by rfl) (pam_cons (pem_op op_sub opSub_ok (mv 0) (mv 1)) (pam_nil))))
theorem ok__mul (T : Top w K mg) (k_wrap : FnM P w K mg base 1 T.a_wrap T.f_wrap ["number"] m_wrap) : FnM P w K mg base 2 T.a__mul T.f__mul ["first", "second"] m__mul := by
  refine fnM_body T.d__mul.fn sc__mul hg_fn fun cdv A outer s H E hr tk hp => ?_
  exact pssm_one (psm_ret (pem_call k_wrap T.d_wrap hr tk (by rfl) (pam_cons (pem_op op_mul2 opMul_ok (mv 0) (mv 1)) (pam_nil))))
theorem ok__quotient (T : Top w K mg) : FnM P w K mg base 1 T.a__quotient T.f__quotient ["first", "second"] m__quotient := by
  refine fnM_body T.d__quotient.fn sc__quotient hg_fn fun cdv A outer s H E hr tk hp => ?_
  exact pssm_cons (ss 2 sc__quotient.nd (pem_op op_fdivW opDiv_ok (pem_callB call_abs fAbs_ok (by rfl) T.z_abs (by decide +kernel) (pam_cons (mv 0) (pam_nil))) (pem_callB call_abs fAbs_ok (by rfl) T.z_abs (by decide +kernel) (pam_cons (mv 1) (pam_nil))))) (pssm_one (psm_ret (pem_if (ptm_cmp (op_eq2 hr.units) opEq_ok (nomark _) (pem_cmp op_lt2 opCmp_ok (nomark _) (mv 0) (pem_int)) (pem_cmp op_lt2 opCmp_ok (nomark _) (mv 1) (pem_int))) (mv 2) (pem_un un_neg opNeg_ok (mv 2)))))
theorem ok__div (T : Top w K mg) (k_wrap : FnM P w K mg base 1 T.a_wrap T.f_wrap ["number"] m_wrap) (k__quotient : FnM P w K mg base 1 T.a__quotient T.f__quotient ["first", "second"] m__quotient) : FnM P w K mg base 2 T.a__div T.f__div ["first", "second"] m__div := by
  refine fnM_body T.d__div.fn sc__div hg_fn fun cdv A outer s H E hr tk hp => ?_
  exact pssm_one (psm_ret (pem_call k_wrap T.d_wrap hr tk (by rfl) (pam_cons (pem_call k__quotient T.d__quotient hr tk (by rfl) (pam_cons (mv 0) (pam_cons (mv 1) (pam_nil)))) (pam_nil))))
theorem ok__rem (T : Top w K mg) (k__quotient : FnM P w K mg base 1 T.a__quotient T.f__quotient ["first", "second"] m__quotient) : FnM P w K mg base 2 T.a__rem T.f__rem ["first", "second"] m__rem := by
  refine fnM_body T.d__rem.fn sc__rem hg_fn fun cdv A outer s H E hr tk hp => ?_
  exact pssm_one (psm_ret (pem_op op_sub opSub_ok (mv 0) (pem_op op_mul2 opMul_ok (mv 1) (pem_call k__quotient T.d__quotient hr tk (by rfl) (pam_cons (mv 0) (pam_cons (mv 1) (pam_nil)))))))
theorem ok__equal (T : Top w K mg) : FnM P w K mg base 1 T.a__equal T.f__equal ["first", "second"] m__equal := by
  refine fnM_body T.d__equal.fn sc__equal hg_fn fun cdv A outer s H E hr tk hp => ?_
  exact pssm_one (psm_ret (pem_cmp (op_eq2 hr.units) opEq_ok (nomark _) (mv 0) (mv 1)))
theorem ok__less (T : Top w K mg) : FnM P w K mg base 1 T.a__less T.f__less ["first", "second"] m__less := by
  refine fnM_body T.d__less.fn sc__less hg_fn fun cdv A outer s H E hr tk hp => ?_
  exact pssm_one (psm_ret (pem_cmp op_lt2 opCmp_ok (nomark _) (mv 0) (mv 1)))
theorem ok_compute (T : Top w K mg) (k__add : FnM P w K mg base 2 T.a__add T.f__add ["first", "second"] m__add) (k__sub : FnM P w K mg base 2 T.a__sub T.f__sub ["first", "second"] m__sub) (k__mul : FnM P w K mg base 2 T.a__mul T.f__mul ["first", "second"] m__mul) (k__div : FnM P w K mg base 2 T.a__div T.f__div ["first", "second"] m__div) (k__rem : FnM P w K mg base 2 T.a__rem T.f__rem ["first", "second"] m__rem) (k__equal : FnM P w K mg base 2 T.a__equal T.f__equal ["first", "second"] m__equal) (k__less : FnM P w K mg base 2 T.a__less T.f__less ["first", "second"] m__less) : FnM P w K mg base 3 T.a_compute T.f_compute ["op", "first", "second"] m_compute := by
  refine fnM_body T.d_compute.fn sc_compute hg_fn fun cdv A outer s H E hr tk hp => ?_
  exact pssm_cons (ss 3 sc_compute.nd (pem_kix T.k_OPERATIONS (by rfl) (mv 0) (fun _ _ => rfl))) (pssm_one (psm_ret (pem_callV (tab := tab_compute_action) (mv 3) (tab_cons ⟨T.a__add, T.f__add, _, T.n__add, k__add, T.d__add.fn.kp, T.d__add.bi⟩ (tab_cons ⟨T.a__sub, T.f__sub, _, T.n__sub, k__sub, T.d__sub.fn.kp, T.d__sub.bi⟩ (tab_cons ⟨T.a__mul, T.f__mul, _, T.n__mul, k__mul, T.d__mul.fn.kp, T.d__mul.bi⟩ (tab_cons ⟨T.a__div, T.f__div, _, T.n__div, k__div, T.d__div.fn.kp, T.d__div.bi⟩ (tab_cons ⟨T.a__rem, T.f__rem, _, T.n__rem, k__rem, T.d__rem.fn.kp, T.d__rem.bi⟩ (tab_cons ⟨T.a__equal, T.f__equal, _, T.n__equal, k__equal, T.d__equal.fn.kp, T.d__equal.bi⟩ (tab_cons ⟨T.a__less, T.f__less, _, T.n__less, k__less, T.d__less.fn.kp, T.d__less.bi⟩ (tab_nil)))))))) hr tk (pam_cons (mv 1) (pam_cons (mv 2) (pam_nil))))))
theorem ok__end_operation (T : Top w K mg) (k_divides_by_zero : FnM P w K mg base 3 T.a_divides_by_zero T.f_divides_by_zero ["op", "second"] m_divides_by_zero) (k_Evaluation_throw : FnM P w K mg base 3 T.a_Evaluation_throw T.f_Evaluation_throw ["self", "number", "payload"] m_Evaluation_throw) (k_Evaluation_give : FnM P w K mg base 3 T.a_Evaluation_give T.f_Evaluation_give ["self", "value"] m_Evaluation_give) (k_compute : FnM P w K mg base 3 T.a_compute T.f_compute ["op", "first", "second"] m_compute) : FnM P w K mg base 4 T.a__end_operation T.f__end_operation ["evaluation", "expression", "scope", "values"] m__end_operation := by
  refine fnM_body T.d__end_operation.fn sc__end_operation hg_fnN fun cdv A outer s H E hr tk hp => ?_
  exact pssm_cons (ss 4 sc__end_operation.nd (pem_ix (ix_all2 hr.units) opIx_ok (mv 1) (pem_int) (fun _ _ => rfl))) (pssm_cons (psm_asgSeq rfl (mv 3) (pgsm_cons (gn 5 sc__end_operation.nd) (pgsm_cons (gn 6 sc__end_operation.nd) (pgsm_nil)))) (pssm_one (psm_if (ptm_val (pem_call k_divides_by_zero T.d_divides_by_zero hr tk (by rfl) (pam_cons (mv 4) (pam_cons (mv 6) (pam_nil))))) (pssm_one (psm_expr (pem_meth T.cls_Evaluation k_Evaluation_throw T.d_Evaluation_throw hr tk (mv 0) (pam_cons (mk T.c_DIV) (pam_cons (pem_int) (pam_nil)))))) (pssm_one (psm_expr (pem_meth T.cls_Evaluation k_Evaluation_give T.d_Evaluation_give hr tk (mv 0) (pam_cons (pem_call k_compute T.d_compute hr tk (by rfl) (pam_cons (mv 4) (pam_cons (mv 5) (pam_cons (mv 6) (pam_nil))))) (pam_nil))))))))
theorem ok_Evaluation_take (T : Top w K mg) : FnM P w K mg base 1 T.a_Evaluation_take T.f_Evaluation_take ["self", "many"] m_Evaluation_take := by
  refine fnM_body T.d_Evaluation_take.fn sc_Evaluation_take hg_fnN fun cdv A outer s H E hr tk hp => ?_
  exact pssm_cons (ss 2 sc_Evaluation_take.nd (pem_op op_sub opSub_ok (pem_callB call_len2 fLen_ok (by rfl) T.z_len (by decide +kernel) (pam_cons (pem_fld (fldT_cons T.cls_Evaluation fldT_nil) (mv 0)) (pam_nil))) (mv 1))) (pssm_cons (ss 3 sc_Evaluation_take.nd (pem_slice sl_all opSlN_ok (pem_fld (fldT_cons T.cls_Evaluation fldT_nil) (mv 0)) (pom_some (mv 2)) (pom_none))) (pssm_cons (psm_delT (pem_fld (fldT_cons T.cls_Evaluation fldT_nil) (mv 0)) (pom_some (mv 2)) (pom_none)) (pssm_one (psm_ret (mv 3)))))
theorem ok_Evaluation_do_task (T : Top w K mg) (k__begin_kids : FnM P w K mg base 4 T.a__begin_kids T.f__begin_kids ["evaluation", "expression", "scope"] m__begin_kids) (k__begin_literal : FnM P w K mg base 4 T.a__begin_literal T.f__begin_literal ["evaluation", "expression", "scope"] m__begin_literal) (k__begin_name : FnM P w K mg base 4 T.a__begin_name T.f__begin_name ["evaluation", "expression", "scope"] m__begin_name) (k__begin_fn : FnM P w K mg base 4 T.a__begin_fn T.f__begin_fn ["evaluation", "expression", "scope"] m__begin_fn) (k__begin_handle : FnM P w K mg base 4 T.a__begin_handle T.f__begin_handle ["evaluation", "expression", "scope"] m__begin_handle) (k__end_call : FnM P w K mg base 4 T.a__end_call T.f__end_call ["evaluation", "expression", "scope", "values"] m__end_call) (k__end_make : FnM P w K mg base 4 T.a__end_make T.f__end_make ["evaluation", "expression", "scope", "values"] m__end_make) (k__end_tuple : FnM P w K mg base 4 T.a__end_tuple T.f__end_tuple ["evaluation", "expression", "scope", "values"] m__end_tuple) (k__end_get : FnM P w K mg base 4 T.a__end_get T.f__end_get ["evaluation", "expression", "scope", "values"] m__end_get) (k__end_let : FnM P w K mg base 4 T.a__end_let T.f__end_let ["evaluation", "expression", "scope", "values"] m__end_let) (k__end_if : FnM P w K mg base 4 T.a__end_if T.f__end_if ["evaluation", "expression", "scope", "values"] m__end_if) (k__end_case : FnM P w K mg base 4 T.a__end_case T.f__end_case ["evaluation", "expression", "scope", "values"] m__end_case) (k__end_apply : FnM P w K mg base 4 T.a__end_apply T.f__end_apply ["evaluation", "expression", "scope", "values"] m__end_apply) (k__end_ref : FnM P w K mg base 4 T.a__end_ref T.f__end_ref ["evaluation", "expression", "scope", "values"] m__end_ref) (k__end_deref : FnM P w K mg base 4 T.a__end_deref T.f__end_deref ["evaluation", "expression", "scope", "values"] m__end_deref) (k__end_set : FnM P w K mg base 4 T.a__end_set T.f__end_set ["evaluation", "expression", "scope", "values"] m__end_set) (k__end_array : FnM P w K mg base 4 T.a__end_array T.f__end_array ["evaluation", "expression", "scope", "values"] m__end_array) (k__end_at : FnM P w K mg base 4 T.a__end_at T.f__end_at ["evaluation", "expression", "scope", "values"] m__end_at) (k__end_put : FnM P w K mg base 4 T.a__end_put T.f__end_put ["evaluation", "expression", "scope", "values"] m__end_put) (k__end_len : FnM P w K mg base 4 T.a__end_len T.f__end_len ["evaluation", "expression", "scope", "values"] m__end_len) (k__end_raise : FnM P w K mg base 4 T.a__end_raise T.f__end_raise ["evaluation", "expression", "scope", "values"] m__end_raise) (k__end_print : FnM P w K mg base 4 T.a__end_print T.f__end_print ["evaluation", "expression", "scope", "values"] m__end_print) (k__end_seq : FnM P w K mg base 4 T.a__end_seq T.f__end_seq ["evaluation", "expression", "scope", "values"] m__end_seq) (k__end_operation : FnM P w K mg base 4 T.a__end_operation T.f__end_operation ["evaluation", "expression", "scope", "values"] m__end_operation) (k_Evaluation_take : FnM P w K mg base 4 T.a_Evaluation_take T.f_Evaluation_take ["self", "many"] m_Evaluation_take) : FnM P w K mg base 5 T.a_Evaluation_do_task T.f_Evaluation_do_task ["self"] m_Evaluation_do_task := by
  refine fnM_body T.d_Evaluation_do_task.fn sc_Evaluation_do_task hg_fnN fun cdv A outer s H E hr tk hp => ?_
  exact pssm_cons (psm_asgSeq rfl (pem_bm0 PySem.F.plainAttrs_list PySem.F.slot_list_pop PySem.F.type_list_pop mt_pop fPop_ok (pem_fld (fldT_cons T.cls_Evaluation fldT_nil) (mv 0))) (pgsm_cons (gn 1 sc_Evaluation_do_task.nd) (pgsm_cons (gn 2 sc_Evaluation_do_task.nd) (pgsm_cons (gn 3 sc_Evaluation_do_task.nd) (pgsm_nil))))) (pssm_one (psm_if (ptm_cmp (op_eq2 hr.units) opEq_ok (nomark _) (mv 1) (pem_str)) (pssm_cons (ss 4 sc_Evaluation_do_task.nd (pem_kget2 T.k_BEGINNINGS (by rfl) (pem_ix (ix_all2 hr.units) opIx_ok (mv 2) (pem_int) (fun _ _ => rfl)) (pem_kon T.d__begin_kids T.n__begin_kids (by rfl)) ⟨rfl, rfl, rfl, rfl⟩)) (pssm_one (psm_expr (pem_callV (tab := tab_Evaluation_do_task_action) (mv 4) (tab_cons ⟨T.a__begin_kids, T.f__begin_kids, _, T.n__begin_kids, k__begin_kids, T.d__begin_kids.fn.kp, T.d__begin_kids.bi⟩ (tab_cons ⟨T.a__begin_literal, T.f__begin_literal, _, T.n__begin_literal, k__begin_literal, T.d__begin_literal.fn.kp, T.d__begin_literal.bi⟩ (tab_cons ⟨T.a__begin_name, T.f__begin_name, _, T.n__begin_name, k__begin_name, T.d__begin_name.fn.kp, T.d__begin_name.bi⟩ (tab_cons ⟨T.a__begin_fn, T.f__begin_fn, _, T.n__begin_fn, k__begin_fn, T.d__begin_fn.fn.kp, T.d__begin_fn.bi⟩ (tab_cons ⟨T.a__begin_handle, T.f__begin_handle, _, T.n__begin_handle, k__begin_handle, T.d__begin_handle.fn.kp, T.d__begin_handle.bi⟩ (tab_cons ⟨T.a__end_call, T.f__end_call, _, T.n__end_call, k__end_call, T.d__end_call.fn.kp, T.d__end_call.bi⟩ (tab_cons ⟨T.a__end_make, T.f__end_make, _, T.n__end_make, k__end_make, T.d__end_make.fn.kp, T.d__end_make.bi⟩ (tab_cons ⟨T.a__end_tuple, T.f__end_tuple, _, T.n__end_tuple, k__end_tuple, T.d__end_tuple.fn.kp, T.d__end_tuple.bi⟩ (tab_cons ⟨T.a__end_get, T.f__end_get, _, T.n__end_get, k__end_get, T.d__end_get.fn.kp, T.d__end_get.bi⟩ (tab_cons ⟨T.a__end_let, T.f__end_let, _, T.n__end_let, k__end_let, T.d__end_let.fn.kp, T.d__end_let.bi⟩ (tab_cons ⟨T.a__end_if, T.f__end_if, _, T.n__end_if, k__end_if, T.d__end_if.fn.kp, T.d__end_if.bi⟩ (tab_cons ⟨T.a__end_case, T.f__end_case, _, T.n__end_case, k__end_case, T.d__end_case.fn.kp, T.d__end_case.bi⟩ (tab_cons ⟨T.a__end_apply, T.f__end_apply, _, T.n__end_apply, k__end_apply, T.d__end_apply.fn.kp, T.d__end_apply.bi⟩ (tab_cons ⟨T.a__end_ref, T.f__end_ref, _, T.n__end_ref, k__end_ref, T.d__end_ref.fn.kp, T.d__end_ref.bi⟩ (tab_cons ⟨T.a__end_deref, T.f__end_deref, _, T.n__end_deref, k__end_deref, T.d__end_deref.fn.kp, T.d__end_deref.bi⟩ (tab_cons ⟨T.a__end_set, T.f__end_set, _, T.n__end_set, k__end_set, T.d__end_set.fn.kp, T.d__end_set.bi⟩ (tab_cons ⟨T.a__end_array, T.f__end_array, _, T.n__end_array, k__end_array, T.d__end_array.fn.kp, T.d__end_array.bi⟩ (tab_cons ⟨T.a__end_at, T.f__end_at, _, T.n__end_at, k__end_at, T.d__end_at.fn.kp, T.d__end_at.bi⟩ (tab_cons ⟨T.a__end_put, T.f__end_put, _, T.n__end_put, k__end_put, T.d__end_put.fn.kp, T.d__end_put.bi⟩ (tab_cons ⟨T.a__end_len, T.f__end_len, _, T.n__end_len, k__end_len, T.d__end_len.fn.kp, T.d__end_len.bi⟩ (tab_cons ⟨T.a__end_raise, T.f__end_raise, _, T.n__end_raise, k__end_raise, T.d__end_raise.fn.kp, T.d__end_raise.bi⟩ (tab_cons ⟨T.a__end_print, T.f__end_print, _, T.n__end_print, k__end_print, T.d__end_print.fn.kp, T.d__end_print.bi⟩ (tab_cons ⟨T.a__end_seq, T.f__end_seq, _, T.n__end_seq, k__end_seq, T.d__end_seq.fn.kp, T.d__end_seq.bi⟩ (tab_cons ⟨T.a__end_operation, T.f__end_operation, _, T.n__end_operation, k__end_operation, T.d__end_operation.fn.kp, T.d__end_operation.bi⟩ (tab_nil))))))))))))))))))))))))) hr tk (pam_cons (mv 0) (pam_cons (mv 2) (pam_cons (mv 3) (pam_nil)))))))) (pssm_one (psm_if (ptm_cmp (op_eq2 hr.units) opEq_ok (nomark _) (mv 1) (pem_str)) (pssm_cons (psm_asgSeq rfl (mv 2) (pgsm_cons (gn 5 sc_Evaluation_do_task.nd) (pgsm_cons (gn 6 sc_Evaluation_do_task.nd) (pgsm_cons (gn 6 sc_Evaluation_do_task.nd) (pgsm_cons (gn 7 sc_Evaluation_do_task.nd) (pgsm_cons (gn 6 sc_Evaluation_do_task.nd) (pgsm_nil))))))) (pssm_cons (ss 4 sc_Evaluation_do_task.nd (pem_kix T.k_ENDS (by rfl) (mv 5) (fun _ _ => rfl))) (pssm_one (psm_expr (pem_callV (tab := tab_Evaluation_do_task_action) (mv 4) (tab_cons ⟨T.a__begin_kids, T.f__begin_kids, _, T.n__begin_kids, k__begin_kids, T.d__begin_kids.fn.kp, T.d__begin_kids.bi⟩ (tab_cons ⟨T.a__begin_literal, T.f__begin_literal, _, T.n__begin_literal, k__begin_literal, T.d__begin_literal.fn.kp, T.d__begin_literal.bi⟩ (tab_cons ⟨T.a__begin_name, T.f__begin_name, _, T.n__begin_name, k__begin_name, T.d__begin_name.fn.kp, T.d__begin_name.bi⟩ (tab_cons ⟨T.a__begin_fn, T.f__begin_fn, _, T.n__begin_fn, k__begin_fn, T.d__begin_fn.fn.kp, T.d__begin_fn.bi⟩ (tab_cons ⟨T.a__begin_handle, T.f__begin_handle, _, T.n__begin_handle, k__begin_handle, T.d__begin_handle.fn.kp, T.d__begin_handle.bi⟩ (tab_cons ⟨T.a__end_call, T.f__end_call, _, T.n__end_call, k__end_call, T.d__end_call.fn.kp, T.d__end_call.bi⟩ (tab_cons ⟨T.a__end_make, T.f__end_make, _, T.n__end_make, k__end_make, T.d__end_make.fn.kp, T.d__end_make.bi⟩ (tab_cons ⟨T.a__end_tuple, T.f__end_tuple, _, T.n__end_tuple, k__end_tuple, T.d__end_tuple.fn.kp, T.d__end_tuple.bi⟩ (tab_cons ⟨T.a__end_get, T.f__end_get, _, T.n__end_get, k__end_get, T.d__end_get.fn.kp, T.d__end_get.bi⟩ (tab_cons ⟨T.a__end_let, T.f__end_let, _, T.n__end_let, k__end_let, T.d__end_let.fn.kp, T.d__end_let.bi⟩ (tab_cons ⟨T.a__end_if, T.f__end_if, _, T.n__end_if, k__end_if, T.d__end_if.fn.kp, T.d__end_if.bi⟩ (tab_cons ⟨T.a__end_case, T.f__end_case, _, T.n__end_case, k__end_case, T.d__end_case.fn.kp, T.d__end_case.bi⟩ (tab_cons ⟨T.a__end_apply, T.f__end_apply, _, T.n__end_apply, k__end_apply, T.d__end_apply.fn.kp, T.d__end_apply.bi⟩ (tab_cons ⟨T.a__end_ref, T.f__end_ref, _, T.n__end_ref, k__end_ref, T.d__end_ref.fn.kp, T.d__end_ref.bi⟩ (tab_cons ⟨T.a__end_deref, T.f__end_deref, _, T.n__end_deref, k__end_deref, T.d__end_deref.fn.kp, T.d__end_deref.bi⟩ (tab_cons ⟨T.a__end_set, T.f__end_set, _, T.n__end_set, k__end_set, T.d__end_set.fn.kp, T.d__end_set.bi⟩ (tab_cons ⟨T.a__end_array, T.f__end_array, _, T.n__end_array, k__end_array, T.d__end_array.fn.kp, T.d__end_array.bi⟩ (tab_cons ⟨T.a__end_at, T.f__end_at, _, T.n__end_at, k__end_at, T.d__end_at.fn.kp, T.d__end_at.bi⟩ (tab_cons ⟨T.a__end_put, T.f__end_put, _, T.n__end_put, k__end_put, T.d__end_put.fn.kp, T.d__end_put.bi⟩ (tab_cons ⟨T.a__end_len, T.f__end_len, _, T.n__end_len, k__end_len, T.d__end_len.fn.kp, T.d__end_len.bi⟩ (tab_cons ⟨T.a__end_raise, T.f__end_raise, _, T.n__end_raise, k__end_raise, T.d__end_raise.fn.kp, T.d__end_raise.bi⟩ (tab_cons ⟨T.a__end_print, T.f__end_print, _, T.n__end_print, k__end_print, T.d__end_print.fn.kp, T.d__end_print.bi⟩ (tab_cons ⟨T.a__end_seq, T.f__end_seq, _, T.n__end_seq, k__end_seq, T.d__end_seq.fn.kp, T.d__end_seq.bi⟩ (tab_cons ⟨T.a__end_operation, T.f__end_operation, _, T.n__end_operation, k__end_operation, T.d__end_operation.fn.kp, T.d__end_operation.bi⟩ (tab_nil))))))))))))))))))))))))) hr tk (pam_cons (mv 0) (pam_cons (mv 2) (pam_cons (mv 3) (pam_cons (pem_meth T.cls_Evaluation k_Evaluation_take T.d_Evaluation_take hr tk (mv 0) (pam_cons (pem_kget2 T.k_EARLY (by rfl) (mv 5) (pem_callB call_len2 fLen_ok (by rfl) T.z_len (by decide +kernel) (pam_cons (mv 7) (pam_nil))) ⟨rfl, rfl, rfl, rfl⟩) (pam_nil))) (pam_nil)))))))))) (pssm_nil)))))
theorem ok_Evaluation_evaluate (T : Top w K mg) (k_Outcome_end_stuck : FnM P w K mg base 5 T.a_Outcome_end_stuck T.f_Outcome_end_stuck ["self"] m_Outcome_end_stuck) (k_Evaluation_begin : FnM P w K mg base 5 T.a_Evaluation_begin T.f_Evaluation_begin ["self", "expression", "scope"] m_Evaluation_begin) (k__bound : FnM P w K mg base 5 T.a__bound T.f__bound ["parameters", "values"] m__bound) (k_wrap : FnM P w K mg base 5 T.a_wrap T.f_wrap ["number"] m_wrap) (k_Evaluation_do_task : FnM P w K mg base 5 T.a_Evaluation_do_task T.f_Evaluation_do_task ["self"] m_Evaluation_do_task) : FnM P w K mg base 6 T.a_Evaluation_evaluate T.f_Evaluation_evaluate ["self", "arguments"] m_Evaluation_evaluate := by
  refine fnM_body T.d_Evaluation_evaluate.fn sc_Evaluation_evaluate hg_fnN fun cdv A outer s H E hr tk hp => ?_
  exact pssm_cons (psm_asgSeq rfl (pem_ix (ix_all2 hr.units) opIx_ok (pem_fld (fldT_cons T.cls_Evaluation fldT_nil) (mv 0)) (pem_un un_neg opNeg_ok (pem_int)) (fun _ _ => rfl)) (pgsm_cons (gn 2 sc_Evaluation_evaluate.nd) (pgsm_cons (gn 3 sc_Evaluation_evaluate.nd) (pgsm_cons (gn 2 sc_Evaluation_evaluate.nd) (pgsm_cons (gn 4 sc_Evaluation_evaluate.nd) (pgsm_nil)))))) (pssm_cons (psm_if (ptm_cmp (op_ne2 hr.units) opNe_ok (nomark _) (pem_callB call_len2 fLen_ok (by rfl) T.z_len (by decide +kernel) (pam_cons (mv 1) (pam_nil))) (pem_callB call_len2 fLen_ok (by rfl) T.z_len (by decide +kernel) (pam_cons (mv 3) (pam_nil)))) (pssm_cons (psm_expr (pem_meth0 T.cls_Outcome k_Outcome_end_stuck T.d_Outcome_end_stuck hr tk (pem_fld (fldT_cons T.cls_Evaluation fldT_nil) (mv 0)))) (pssm_one (psm_retN))) (pssm_nil)) (pssm_cons (psm_expr (pem_meth T.cls_Evaluation k_Evaluation_begin T.d_Evaluation_begin hr tk (mv 0) (pam_cons (mv 4) (pam_cons (pem_call k__bound T.d__bound hr tk (by rfl) (pam_cons (mv 3) (pam_cons (pem_lc (own := [("argument", 5)]) rfl sc_Evaluation_evaluate.nd (pim_src (mv 1)) (blkOk_by (N := ["self", "arguments", "_", "parameters", "body", "argument"]) (sc := defScope s_Evaluation_evaluate) (by decide +kernel)) (by decide) (fun _ _ _ _ _ => gn 5 sc_Evaluation_evaluate.nd) (fun _ _ _ _ _ => ptsm_nil) (fun _ _ _ _ _ => pem_call k_wrap T.d_wrap hr takesW0 (by rfl) (pam_cons (mv 5) (pam_nil)))) (pam_nil)))) (pam_nil))))) (pssm_cons (psm_while hp (ptm_w (pwm_and (ptm_val (pem_fld (fldT_cons T.cls_Evaluation fldT_nil) (mv 0))) (pwm_and1 (ptm_cmp op_isN opIsN_ok (nomark _) (pem_fld (fldT_cons T.cls_Outcome fldT_nil) (pem_fld (fldT_cons T.cls_Evaluation fldT_nil) (mv 0))) (pem_non))))) (pssm_one (psm_expr (pem_meth0 T.cls_Evaluation k_Evaluation_do_task T.d_Evaluation_do_task hr tk (mv 0))))) (pssm_one (psm_if (ptm_cmp op_isN opIsN_ok (nomark _) (pem_fld (fldT_cons T.cls_Outcome fldT_nil) (pem_fld (fldT_cons T.cls_Evaluation fldT_nil) (mv 0))) (pem_non)) (pssm_one (psm_fld (fldT_cons T.cls_Outcome fldT_nil) (pem_fld (fldT_cons T.cls_Evaluation fldT_nil) (mv 0)) (pem_ix (ix_all2 hr.units) opIx_ok (pem_fld (fldT_cons T.cls_Evaluation fldT_nil) (mv 0)) (pem_int) (fun _ _ => rfl)))) (pssm_nil))))))
theorem ok_Outcome_result (T : Top w K mg) : FnM P w K mg base 1 T.a_Outcome_result T.f_Outcome_result ["self"] m_Outcome_result := by
  refine fnM_body T.d_Outcome_result.fn sc_Outcome_result hg_fn fun cdv A outer s H E hr tk hp => ?_
  exact pssm_one (psm_ret (pem_tup (pam_cons (pem_fld (fldT_cons T.cls_Outcome fldT_nil) (mv 0)) (pam_cons (pem_fld (fldT_cons T.cls_Outcome fldT_nil) (mv 0)) (pam_cons (pem_callTy call_tuple_of fTuple_ok (by rfl) T.z_tuple (by decide +kernel) (pam_cons (pem_fld (fldT_cons T.cls_Outcome fldT_nil) (mv 0)) (pam_nil))) (pam_cons (pem_fld (fldT_cons T.cls_Outcome fldT_nil) (mv 0)) (pam_nil)))))))
theorem ok_run (T : Top w K mg) (k_Evaluation_evaluate : FnM P w K mg base 6 T.a_Evaluation_evaluate T.f_Evaluation_evaluate ["self", "arguments"] m_Evaluation_evaluate) (k_Outcome_result : FnM P w K mg base 6 T.a_Outcome_result T.f_Outcome_result ["self"] m_Outcome_result) (k_Evaluation___init__ : FnM P w K mg base 5 T.a_Evaluation___init__ T.f_Evaluation___init__ ["self", "program", "fuel"] m_Evaluation___init__) : FnM P w K mg base 7 T.a_run T.f_run ["program", "arguments", "fuel"] m_run := by
  refine fnM_bodyD T.d_run.fn sc_run hg_fn fun cdv A outer s H E hr tk hp => ?_
  exact pssm_cons (ss 3 sc_run.nd (pem_make (qn := "") (st := .Pass ⟨0, 0, 0, 0⟩) T.cls_Evaluation T.mk_Evaluation k_Evaluation___init__ T.d_Evaluation___init__.bi hr tk (by rfl) T.mg_Evaluation (pam_cons (mv 0) (pam_cons (mv 2) (pam_nil))))) (pssm_cons (psm_expr (pem_meth T.cls_Evaluation k_Evaluation_evaluate T.d_Evaluation_evaluate hr tk (mv 3) (pam_cons (mv 1) (pam_nil)))) (pssm_one (psm_ret (pem_meth0 T.cls_Outcome k_Outcome_result T.d_Outcome_result hr tk (pem_fld (fldT_cons T.cls_Evaluation fldT_nil) (mv 3))))))
theorem ok__law_due (T : Top w K mg) : FnM P w K mg base 1 T.a__law_due T.f__law_due ["many", "start", "deeds", "limit"] m__law_due := by
  refine fnM_body T.d__law_due.fn sc__law_due hg_fn fun cdv A outer s H E hr tk hp => ?_
  exact pssm_cons (ss 4 sc__law_due.nd (pem_op op_addS opAddL_ok (mv 0) (pem_op op_fdivW opDiv_ok (pem_op op_addS opAddL_ok (pem_callB call_len2 fLen_ok (by rfl) T.z_len (by decide +kernel) (pam_cons (mv 2) (pam_nil))) (pem_int)) (pem_int)))) (pssm_cons (psm_if (ptm_cmp op_lt2 opCmp_ok (nomark _) (mv 3) (mv 4)) (pssm_one (psm_ret (pem_tup (pam_cons (pem_tup (pam_cons (pem_str) (pam_nil))) (pam_cons (pem_int) (pam_cons (pem_tup (pam_nil)) (pam_cons (mv 3) (pam_nil)))))))) (pssm_nil)) (pssm_cons (ss 5 sc__law_due.nd (pem_lstN (pam_cons (mv 1) (pam_cons (pem_op op_addS opAddL_ok (mv 1) (pem_int)) (pam_nil))))) (pssm_cons (psm_setLcN (i := 6) (own := [("k", 12)]) rfl sc__law_due.nd rfl rfl (sw_true rfl rfl rfl (by decide +kernel)) (pim_range1 (by rfl) T.z_range (pam_cons (mv 0) (pam_nil))) (blkOk_by (N := ["many", "start", "deeds", "limit", "ticks", "kept", "row", "outs", "deed", "which", "index", "value", "k"]) (sc := defScope s__law_due) (by decide +kernel)) (by decide) (fun _ _ _ _ _ => gn 12 sc__law_due.nd) (fun _ _ _ _ _ => ptsm_nil) (fun _ _ _ _ _ => mv 1)) (pssm_cons (ss 7 sc__law_due.nd (pem_lstN (pam_nil))) (pssm_cons (psm_for hp rfl (pim_src (mv 2)) (pgm_seq rfl (pgsm_cons (gn 8 sc__law_due.nd) (pgsm_cons (gn 9 sc__law_due.nd) (pgsm_cons (gn 10 sc__law_due.nd) (pgsm_cons (gn 11 sc__law_due.nd) (pgsm_nil)))))) (pssm_cons (psm_if (ptm_w (pwm_and (ptm_cmp (op_in3 hr.units) opIn2_ok rfl (mv 8) (pem_tup (pam_cons (pem_int) (pam_cons (pem_int) (pam_cons (pem_int) (pam_nil)))))) (pwm_and1 (ptm_w (pwm_or (ptm_cmp op_lt2 opCmp_ok (nomark _) (mv 10) (pem_int)) (pwm_or1 (ptm_cmp op_ge2 opCmp_ok (nomark _) (mv 10) (mv 0)))))))) (pssm_one (psm_ret (pem_tup (pam_cons (pem_tup (pam_cons (pem_str) (pam_cons (pem_str) (pam_cons (mv 10) (pam_nil))))) (pam_cons (pem_int) (pam_cons (pem_callTy call_tuple_of fTuple_ok (by rfl) T.z_tuple (by decide +kernel) (pam_cons (mv 7) (pam_nil))) (pam_cons (mv 4) (pam_nil)))))))) (pssm_nil)) (pssm_one (psm_if (ptm_cmp (op_eq2 hr.units) opEq_ok (nomark _) (mv 8) (pem_int)) (pssm_one (psm_setIx2 hr.units (mv 11) (mv 5) (pem_op op_mod opMod_ok (mv 9) (pem_int)))) (pssm_one (psm_if (ptm_cmp (op_eq2 hr.units) opEq_ok (nomark _) (mv 8) (pem_int)) (pssm_one (psm_expr (pem_bm PySem.F.plainAttrs_list PySem.F.slot_list_append PySem.F.type_list_append mt_append fAppend_ok (mv 7) (pam_cons (pem_ix (ix_all2 hr.units) opIx_ok (mv 5) (pem_op op_mod opMod_ok (mv 9) (pem_int)) (fun _ _ => rfl)) (pam_nil))))) (pssm_one (psm_if (ptm_cmp (op_eq2 hr.units) opEq_ok (nomark _) (mv 8) (pem_int)) (pssm_one (psm_setIx2 hr.units (mv 11) (mv 6) (mv 10))) (pssm_one (psm_if (ptm_cmp (op_eq2 hr.units) opEq_ok (nomark _) (mv 8) (pem_int)) (pssm_one (psm_expr (pem_bm PySem.F.plainAttrs_list PySem.F.slot_list_append PySem.F.type_list_append mt_append fAppend_ok (mv 7) (pam_cons (pem_ix (ix_all2 hr.units) opIx_ok (mv 6) (mv 10) (fun _ _ => rfl)) (pam_nil))))) (pssm_one (psm_if (ptm_cmp (op_eq2 hr.units) opEq_ok (nomark _) (mv 8) (pem_int)) (pssm_one (psm_expr (pem_bm PySem.F.plainAttrs_list PySem.F.slot_list_append PySem.F.type_list_append mt_append fAppend_ok (mv 7) (pam_cons (mv 0) (pam_nil))))) (pssm_one (psm_setIx2 hr.units (pem_ix (ix_all2 hr.units) opIx_ok (mv 6) (mv 10) (fun _ _ => rfl)) (mv 5) (pem_op op_mod opMod_ok (mv 9) (pem_int)))))))))))))))) (pssm_one (psm_ret (pem_tup (pam_cons (pem_non) (pam_cons (pem_ix (ix_all2 hr.units) opIx_ok (mv 5) (pem_int) (fun _ _ => rfl)) (pam_cons (pem_callTy call_tuple_of fTuple_ok (by rfl) T.z_tuple (by decide +kernel) (pam_cons (mv 7) (pam_nil))) (pam_cons (mv 4) (pam_nil)))))))))))))
theorem ok_law (T : Top w K mg) (k__law_cell : FnM P w K mg base 7 T.a__law_cell T.f__law_cell ["script", "at"] m__law_cell) (k__law_deeds : FnM P w K mg base 7 T.a__law_deeds T.f__law_deeds ["cells", "many"] m__law_deeds) (k__law_program : FnM P w K mg base 7 T.a__law_program T.f__law_program ["many", "start", "deeds"] m__law_program) (k_run : FnM P w K mg base 7 T.a_run T.f_run ["program", "arguments", "fuel"] m_run) (k__law_due : FnM P w K mg base 7 T.a__law_due T.f__law_due ["many", "start", "deeds", "limit"] m__law_due) : FnM P w K mg base 8 T.a_law T.f_law ["script"] m_law := by
  refine fnM_body T.d_law.fn sc_law hg_fn fun cdv A outer s H E hr tk hp => ?_
  exact pssm_cons (ss 1 sc_law.nd (pem_call k__law_cell T.d__law_cell hr tk (by rfl) (pam_cons (mv 0) (pam_cons (pem_int) (pam_nil))))) (pssm_cons (ss 2 sc_law.nd (pem_op op_mod opMod_ok (mv 1) (pem_int))) (pssm_cons (ss 3 sc_law.nd (pem_op op_mod opMod_ok (pem_op op_fdivW opDiv_ok (mv 1) (pem_int)) (pem_op op_pow opPow_ok (pem_int) (pem_int)))) (pssm_cons (ss 4 sc_law.nd (pem_call k__law_deeds T.d__law_deeds hr tk (by rfl) (pam_cons (pem_slice sl_all opSl_ok (mv 0) (pom_some (pem_int)) (pom_some (pem_int))) (pam_cons (mv 2) (pam_nil))))) (pssm_cons (ss 5 sc_law.nd (pem_op op_addS opAddL_ok (mv 2) (pem_op op_fdivW opDiv_ok (pem_op op_addS opAddL_ok (pem_callB call_len2 fLen_ok (by rfl) T.z_len (by decide +kernel) (pam_cons (mv 4) (pam_nil))) (pem_int)) (pem_int)))) (pssm_cons (psm_if (ptm_cmp (op_eq2 hr.units) opEq_ok (nomark _) (pem_op op_mod opMod_ok (pem_op op_fdivW opDiv_ok (pem_op op_fdivW opDiv_ok (mv 1) (pem_int)) (pem_op op_pow opPow_ok (pem_int) (pem_int))) (pem_int)) (pem_int)) (pssm_one (ss 5 sc_law.nd (pem_op op_mod opMod_ok (pem_op op_fdivW opDiv_ok (pem_op op_fdivW opDiv_ok (mv 1) (pem_int)) (pem_op op_pow opPow_ok (pem_int) (pem_int))) (pem_op op_addS opAddL_ok (mv 5) (pem_int))))) (pssm_nil)) (pssm_cons (ss 6 sc_law.nd (pem_call k__law_program T.d__law_program hr tk (by rfl) (pam_cons (mv 2) (pam_cons (mv 3) (pam_cons (mv 4) (pam_nil)))))) (pssm_cons (ss 7 sc_law.nd (pem_callN (n := 2) (ks := ["fuel"]) k_run T.d_run hr tk (by rfl) (fun _ _ _ _ _ _ us ws h1 h2 => match us, ws, h1, h2 with | [_, _], [_], _, _ => rfl) (pam_cons (mv 6) (pam_cons (pem_lst (pam_nil)) (pam_nil))) (pkm_cons (mv 5) (pkm_nil)))) (pssm_cons (psm_if (ptm_w (pwm_or (ptm_not (ptm_val (pem_callB call_isi fIsi_ok (by rfl) T.z_isinstance (by decide +kernel) (pam_cons (mv 7) (pam_cons (mty "tuple" T.z_tuple (by decide +kernel)) (pam_nil)))))) (pwm_or (ptm_cmp (op_ne2 hr.units) opNe_ok (nomark _) (pem_callB call_len2 fLen_ok (by rfl) T.z_len (by decide +kernel) (pam_cons (mv 7) (pam_nil))) (pem_int)) (pwm_or1 (ptm_val (pem_callB call_isi fIsi_ok (by rfl) T.z_isinstance (by decide +kernel) (pam_cons (pem_ix (ix_all2 hr.units) opIx_ok (mv 7) (pem_int) (fun _ _ => rfl)) (pam_cons (mty "bool" T.z_bool (by decide +kernel)) (pam_nil))))))))) (pssm_one (psm_ret (pem_bl))) (pssm_nil)) (pssm_cons (ss 8 sc_law.nd (pem_call k__law_due T.d__law_due hr tk (by rfl) (pam_cons (mv 2) (pam_cons (mv 3) (pam_cons (mv 4) (pam_cons (mv 5) (pam_nil))))))) (pssm_one (psm_ret (pem_and (pem_cmp (op_eq2 hr.units) opEq_ok (nomark _) (mv 7) (mv 8)) (pem_one (pem_cmp (op_eq2 hr.units) opEq_ok (nomark _) (pem_callN (n := 2) (ks := ["fuel"]) k_run T.d_run hr tk (by rfl) (fun _ _ _ _ _ _ us ws h1 h2 => match us, ws, h1, h2 with | [_, _], [_], _, _ => rfl) (pam_cons (mv 6) (pam_cons (pem_tup (pam_nil)) (pam_nil))) (pkm_cons (mv 5) (pkm_nil))) (mv 8)))))))))))))))
theorem ok_all (T : Top w K mg) : FnM P w K mg base 8 T.a_law T.f_law ["script"] m_law := by
  have h__law_cell := ok__law_cell (P := P) (w := w) (base := base) T 
  have h__law_deeds := ok__law_deeds (P := P) (w := w) (base := base) T 
  have h__law_whole := ok__law_whole (P := P) (w := w) (base := base) T 
  have h__law_let := ok__law_let (P := P) (w := w) (base := base) T 
  have h__law_name := ok__law_name (P := P) (w := w) (base := base) T 
  have h__law_print := ok__law_print (P := P) (w := w) (base := base) T 
  have h__law_int := ok__law_int (P := P) (w := w) (base := base) T (h__law_whole.mono (by decide))
  have h__law_expression := ok__law_expression (P := P) (w := w) (base := base) T (h__law_whole.mono (by decide)) (h__law_name.mono (by decide)) (h__law_int.mono (by decide)) (h__law_print.mono (by decide))
  have h__law_seq := ok__law_seq (P := P) (w := w) (base := base) T 
  have h__law_program := ok__law_program (P := P) (w := w) (base := base) T (h__law_whole.mono (by decide)) (h__law_expression.mono (by decide)) (h__law_seq.mono (by decide)) (h__law_name.mono (by decide)) (h__law_let.mono (by decide)) (h__law_int.mono (by decide))
  have h_Outcome___init__ := ok_Outcome___init__ (P := P) (w := w) (base := base) T 
  have h_Evaluation___init__ := ok_Evaluation___init__ (P := P) (w := w) (base := base) T (h_Outcome___init__.mono (by decide))
  have h_Evaluation_begin := ok_Evaluation_begin (P := P) (w := w) (base := base) T 
  have h_Outcome_end_stuck := ok_Outcome_end_stuck (P := P) (w := w) (base := base) T 
  have h__bound := ok__bound (P := P) (w := w) (base := base) T 
  have h__begin_kids := ok__begin_kids (P := P) (w := w) (base := base) T (h_Evaluation_begin.mono (by decide))
  have h_Evaluation_give := ok_Evaluation_give (P := P) (w := w) (base := base) T 
  have h__begin_literal := ok__begin_literal (P := P) (w := w) (base := base) T (h_Evaluation_give.mono (by decide))
  have h__begin_name := ok__begin_name (P := P) (w := w) (base := base) T (h_Evaluation_give.mono (by decide))
  have h__begin_fn := ok__begin_fn (P := P) (w := w) (base := base) T (h_Evaluation_give.mono (by decide))
  have h__begin_handle := ok__begin_handle (P := P) (w := w) (base := base) T (h_Evaluation_begin.mono (by decide))
  have h_Outcome_spend := ok_Outcome_spend (P := P) (w := w) (base := base) T 
  have h__end_call := ok__end_call (P := P) (w := w) (base := base) T (h_Outcome_spend.mono (by decide)) (h_Evaluation_begin.mono (by decide)) (h__bound.mono (by decide))
  have h__end_make := ok__end_make (P := P) (w := w) (base := base) T (h_Evaluation_give.mono (by decide))
  have h__end_tuple := ok__end_tuple (P := P) (w := w) (base := base) T (h_Evaluation_give.mono (by decide))
  have h__end_get := ok__end_get (P := P) (w := w) (base := base) T (h_Evaluation_give.mono (by decide))
  have h_inner_scope := ok_inner_scope (P := P) (w := w) (base := base) T 
  have h__end_let := ok__end_let (P := P) (w := w) (base := base) T (h_Evaluation_begin.mono (by decide)) (h_inner_scope.mono (by decide))
  have h__end_if := ok__end_if (P := P) (w := w) (base := base) T (h_Evaluation_begin.mono (by decide))
  have h__end_case := ok__end_case (P := P) (w := w) (base := base) T (h_Evaluation_begin.mono (by decide)) (h_inner_scope.mono (by decide))
  have h__end_apply := ok__end_apply (P := P) (w := w) (base := base) T (h_Outcome_spend.mono (by decide)) (h_Evaluation_begin.mono (by decide)) (h_inner_scope.mono (by decide))
  have h__end_ref := ok__end_ref (P := P) (w := w) (base := base) T (h_Evaluation_give.mono (by decide))
  have h__end_deref := ok__end_deref (P := P) (w := w) (base := base) T (h_Evaluation_give.mono (by decide))
  have h__end_set := ok__end_set (P := P) (w := w) (base := base) T (h_Evaluation_give.mono (by decide))
  have h_Evaluation_throw := ok_Evaluation_throw (P := P) (w := w) (base := base) T (h_Evaluation_begin.mono (by decide)) (h_inner_scope.mono (by decide))
  have h__end_array := ok__end_array (P := P) (w := w) (base := base) T (h_Evaluation_throw.mono (by decide)) (h_Outcome_spend.mono (by decide)) (h_Evaluation_give.mono (by decide))
  have h__end_at := ok__end_at (P := P) (w := w) (base := base) T (h_Evaluation_throw.mono (by decide)) (h_Evaluation_give.mono (by decide))
  have h__end_put := ok__end_put (P := P) (w := w) (base := base) T (h_Evaluation_throw.mono (by decide)) (h_Evaluation_give.mono (by decide))
  have h__end_len := ok__end_len (P := P) (w := w) (base := base) T (h_Evaluation_give.mono (by decide))
  have h__end_raise := ok__end_raise (P := P) (w := w) (base := base) T (h_Evaluation_throw.mono (by decide))
  have h__end_print := ok__end_print (P := P) (w := w) (base := base) T (h_Evaluation_give.mono (by decide))
  have h__end_seq := ok__end_seq (P := P) (w := w) (base := base) T (h_Evaluation_give.mono (by decide))
  have h_divides_by_zero := ok_divides_by_zero (P := P) (w := w) (base := base) T 
  have h_wrap := ok_wrap (P := P) (w := w) (base := base) T 
  have h__add := ok__add (P := P) (w := w) (base := base) T (h_wrap.mono (by decide))
  have h__sub := ok__sub (P := P) (w := w) (base := base) T (h_wrap.mono (by decide))
  have h__mul := ok__mul (P := P) (w := w) (base := base) T (h_wrap.mono (by decide))
  have h__quotient := ok__quotient (P := P) (w := w) (base := base) T 
  have h__div := ok__div (P := P) (w := w) (base := base) T (h_wrap.mono (by decide)) (h__quotient.mono (by decide))
  have h__rem := ok__rem (P := P) (w := w) (base := base) T (h__quotient.mono (by decide))
  have h__equal := ok__equal (P := P) (w := w) (base := base) T 
  have h__less := ok__less (P := P) (w := w) (base := base) T 
  have h_compute := ok_compute (P := P) (w := w) (base := base) T (h__add.mono (by decide)) (h__sub.mono (by decide)) (h__mul.mono (by decide)) (h__div.mono (by decide)) (h__rem.mono (by decide)) (h__equal.mono (by decide)) (h__less.mono (by decide))
  have h__end_operation := ok__end_operation (P := P) (w := w) (base := base) T (h_divides_by_zero.mono (by decide)) (h_Evaluation_throw.mono (by decide)) (h_Evaluation_give.mono (by decide)) (h_compute.mono (by decide))
  have h_Evaluation_take := ok_Evaluation_take (P := P) (w := w) (base := base) T 
  have h_Evaluation_do_task := ok_Evaluation_do_task (P := P) (w := w) (base := base) T (h__begin_kids.mono (by decide)) (h__begin_literal.mono (by decide)) (h__begin_name.mono (by decide)) (h__begin_fn.mono (by decide)) (h__begin_handle.mono (by decide)) (h__end_call.mono (by decide)) (h__end_make.mono (by decide)) (h__end_tuple.mono (by decide)) (h__end_get.mono (by decide)) (h__end_let.mono (by decide)) (h__end_if.mono (by decide)) (h__end_case.mono (by decide)) (h__end_apply.mono (by decide)) (h__end_ref.mono (by decide)) (h__end_deref.mono (by decide)) (h__end_set.mono (by decide)) (h__end_array.mono (by decide)) (h__end_at.mono (by decide)) (h__end_put.mono (by decide)) (h__end_len.mono (by decide)) (h__end_raise.mono (by decide)) (h__end_print.mono (by decide)) (h__end_seq.mono (by decide)) (h__end_operation.mono (by decide)) (h_Evaluation_take.mono (by decide))
  have h_Evaluation_evaluate := ok_Evaluation_evaluate (P := P) (w := w) (base := base) T (h_Outcome_end_stuck.mono (by decide)) (h_Evaluation_begin.mono (by decide)) (h__bound.mono (by decide)) (h_wrap.mono (by decide)) (h_Evaluation_do_task.mono (by decide))
  have h_Outcome_result := ok_Outcome_result (P := P) (w := w) (base := base) T 
  have h_run := ok_run (P := P) (w := w) (base := base) T (h_Evaluation_evaluate.mono (by decide)) (h_Outcome_result.mono (by decide)) (h_Evaluation___init__.mono (by decide))
  have h__law_due := ok__law_due (P := P) (w := w) (base := base) T 
  have h_law := ok_law (P := P) (w := w) (base := base) T (h__law_cell.mono (by decide)) (h__law_deeds.mono (by decide)) (h__law_program.mono (by decide)) (h_run.mono (by decide)) (h__law_due.mono (by decide))
  exact h_law
end
section
set_option maxHeartbeats 2000000 in
theorem law_facts {l : PySem.W.OpenLaw} {w : World} {K : PySem.W.Frag} {h : Heap} {mg : Str → Option Value} {fa : Addr} (X : K.In h) (G : h.Ns mainGlobals mg) (hfa : mg "law" = some (.ref fa))
    {a_cls_Outcome : Addr} (ac_Outcome : PySem.W.nsIn K mainGlobals "Outcome" = some (some (.ref a_cls_Outcome)))
    (pg_Outcome : PySem.W.plainGet K a_cls_Outcome Str.empty = true) (hd_Outcome : PySem.W.hasDictIn K a_cls_Outcome = true) (po_Outcome : PySem.W.plainOver K a_cls_Outcome = true) (sa_Outcome : PySem.W.findIn K (.ref a_cls_Outcome) "__setattr__" = some (some (.builtin "object.__setattr__")))
    (no_Outcome_fault : PySem.W.findIn K (.ref a_cls_Outcome) "fault" = some none)
    (no_Outcome_fuel : PySem.W.findIn K (.ref a_cls_Outcome) "fuel" = some none)
    (no_Outcome_outs : PySem.W.findIn K (.ref a_cls_Outcome) "outs" = some none)
    (no_Outcome_returned : PySem.W.findIn K (.ref a_cls_Outcome) "returned" = some none)
    (no_Outcome_ticks : PySem.W.findIn K (.ref a_cls_Outcome) "ticks" = some none)
    (mk_Outcome : PySem.W.makesIn K a_cls_Outcome = true) (kc_Outcome : PySem.W.keepIn K (.ref a_cls_Outcome) = true)
    {a_cls_Evaluation : Addr} (ac_Evaluation : PySem.W.nsIn K mainGlobals "Evaluation" = some (some (.ref a_cls_Evaluation)))
    (pg_Evaluation : PySem.W.plainGet K a_cls_Evaluation Str.empty = true) (hd_Evaluation : PySem.W.hasDictIn K a_cls_Evaluation = true) (po_Evaluation : PySem.W.plainOver K a_cls_Evaluation = true) (sa_Evaluation : PySem.W.findIn K (.ref a_cls_Evaluation) "__setattr__" = some (some (.builtin "object.__setattr__")))
    (no_Evaluation_done : PySem.W.findIn K (.ref a_cls_Evaluation) "done" = some none)
    (no_Evaluation_exceptions : PySem.W.findIn K (.ref a_cls_Evaluation) "exceptions" = some none)
    (no_Evaluation_functions : PySem.W.findIn K (.ref a_cls_Evaluation) "functions" = some none)
    (no_Evaluation_outcome : PySem.W.findIn K (.ref a_cls_Evaluation) "outcome" = some none)
    (no_Evaluation_tasks : PySem.W.findIn K (.ref a_cls_Evaluation) "tasks" = some none)
    (mk_Evaluation : PySem.W.makesIn K a_cls_Evaluation = true) (kc_Evaluation : PySem.W.keepIn K (.ref a_cls_Evaluation) = true)
    {f0 : Addr} {od0 an0 : Option Addr} {sl0 : Array (Option Value)} {oc0 kV0 dc0 pm0 cd0 ct0 : Value}
    (a0 : PySem.W.nsIn K mainGlobals "_law_cell" = some (some (.ref f0))) (l0 : K.lookup f0 = some ⟨oc0, od0, .func (PySem.W.fnOf "_law_cell" "_law_cell" (defArgs s__law_cell) (defBody s__law_cell) (defScope s__law_cell) .none kV0 dc0 pm0 an0 cd0 ct0), sl0⟩) (c0 : PySem.W.codeIn K cd0 "_law_cell" = true) (k0 : PySem.W.keepIn K (.ref f0) = true)
    {f1 : Addr} {od1 an1 : Option Addr} {sl1 : Array (Option Value)} {oc1 kV1 dc1 pm1 cd1 ct1 : Value}
    (a1 : PySem.W.nsIn K mainGlobals "_law_deeds" = some (some (.ref f1))) (l1 : K.lookup f1 = some ⟨oc1, od1, .func (PySem.W.fnOf "_law_deeds" "_law_deeds" (defArgs s__law_deeds) (defBody s__law_deeds) (defScope s__law_deeds) .none kV1 dc1 pm1 an1 cd1 ct1), sl1⟩) (c1 : PySem.W.codeIn K cd1 "_law_deeds" = true) (k1 : PySem.W.keepIn K (.ref f1) = true)
    {f2 : Addr} {od2 an2 : Option Addr} {sl2 : Array (Option Value)} {oc2 kV2 dc2 pm2 cd2 ct2 : Value}
    (a2 : PySem.W.nsIn K mainGlobals "_law_whole" = some (some (.ref f2))) (l2 : K.lookup f2 = some ⟨oc2, od2, .func (PySem.W.fnOf "_law_whole" "_law_whole" (defArgs s__law_whole) (defBody s__law_whole) (defScope s__law_whole) .none kV2 dc2 pm2 an2 cd2 ct2), sl2⟩) (c2 : PySem.W.codeIn K cd2 "_law_whole" = true) (k2 : PySem.W.keepIn K (.ref f2) = true)
    {f3 : Addr} {od3 an3 : Option Addr} {sl3 : Array (Option Value)} {oc3 kV3 dc3 pm3 cd3 ct3 : Value}
    (a3 : PySem.W.nsIn K mainGlobals "_law_let" = some (some (.ref f3))) (l3 : K.lookup f3 = some ⟨oc3, od3, .func (PySem.W.fnOf "_law_let" "_law_let" (defArgs s__law_let) (defBody s__law_let) (defScope s__law_let) .none kV3 dc3 pm3 an3 cd3 ct3), sl3⟩) (c3 : PySem.W.codeIn K cd3 "_law_let" = true) (k3 : PySem.W.keepIn K (.ref f3) = true)
    {f4 : Addr} {od4 an4 : Option Addr} {sl4 : Array (Option Value)} {oc4 kV4 dc4 pm4 cd4 ct4 : Value}
    (a4 : PySem.W.nsIn K mainGlobals "_law_name" = some (some (.ref f4))) (l4 : K.lookup f4 = some ⟨oc4, od4, .func (PySem.W.fnOf "_law_name" "_law_name" (defArgs s__law_name) (defBody s__law_name) (defScope s__law_name) .none kV4 dc4 pm4 an4 cd4 ct4), sl4⟩) (c4 : PySem.W.codeIn K cd4 "_law_name" = true) (k4 : PySem.W.keepIn K (.ref f4) = true)
    {f5 : Addr} {od5 an5 : Option Addr} {sl5 : Array (Option Value)} {oc5 kV5 dc5 pm5 cd5 ct5 : Value}
    (a5 : PySem.W.nsIn K mainGlobals "_law_print" = some (some (.ref f5))) (l5 : K.lookup f5 = some ⟨oc5, od5, .func (PySem.W.fnOf "_law_print" "_law_print" (defArgs s__law_print) (defBody s__law_print) (defScope s__law_print) .none kV5 dc5 pm5 an5 cd5 ct5), sl5⟩) (c5 : PySem.W.codeIn K cd5 "_law_print" = true) (k5 : PySem.W.keepIn K (.ref f5) = true)
    {f6 : Addr} {od6 an6 : Option Addr} {sl6 : Array (Option Value)} {oc6 kV6 dc6 pm6 cd6 ct6 : Value}
    (a6 : PySem.W.nsIn K mainGlobals "_law_int" = some (some (.ref f6))) (l6 : K.lookup f6 = some ⟨oc6, od6, .func (PySem.W.fnOf "_law_int" "_law_int" (defArgs s__law_int) (defBody s__law_int) (defScope s__law_int) .none kV6 dc6 pm6 an6 cd6 ct6), sl6⟩) (c6 : PySem.W.codeIn K cd6 "_law_int" = true) (k6 : PySem.W.keepIn K (.ref f6) = true)
    {f7 : Addr} {od7 an7 : Option Addr} {sl7 : Array (Option Value)} {oc7 kV7 dc7 pm7 cd7 ct7 : Value}
    (a7 : PySem.W.nsIn K mainGlobals "_law_expression" = some (some (.ref f7))) (l7 : K.lookup f7 = some ⟨oc7, od7, .func (PySem.W.fnOf "_law_expression" "_law_expression" (defArgs s__law_expression) (defBody s__law_expression) (defScope s__law_expression) .none kV7 dc7 pm7 an7 cd7 ct7), sl7⟩) (c7 : PySem.W.codeIn K cd7 "_law_expression" = true) (k7 : PySem.W.keepIn K (.ref f7) = true)
    {f8 : Addr} {od8 an8 : Option Addr} {sl8 : Array (Option Value)} {oc8 kV8 dc8 pm8 cd8 ct8 : Value}
    (a8 : PySem.W.nsIn K mainGlobals "_law_seq" = some (some (.ref f8))) (l8 : K.lookup f8 = some ⟨oc8, od8, .func (PySem.W.fnOf "_law_seq" "_law_seq" (defArgs s__law_seq) (defBody s__law_seq) (defScope s__law_seq) .none kV8 dc8 pm8 an8 cd8 ct8), sl8⟩) (c8 : PySem.W.codeIn K cd8 "_law_seq" = true) (k8 : PySem.W.keepIn K (.ref f8) = true)
    {f9 : Addr} {od9 an9 : Option Addr} {sl9 : Array (Option Value)} {oc9 kV9 dc9 pm9 cd9 ct9 : Value}
    (a9 : PySem.W.nsIn K mainGlobals "_law_program" = some (some (.ref f9))) (l9 : K.lookup f9 = some ⟨oc9, od9, .func (PySem.W.fnOf "_law_program" "_law_program" (defArgs s__law_program) (defBody s__law_program) (defScope s__law_program) .none kV9 dc9 pm9 an9 cd9 ct9), sl9⟩) (c9 : PySem.W.codeIn K cd9 "_law_program" = true) (k9 : PySem.W.keepIn K (.ref f9) = true)
    {f10 : Addr} {od10 an10 : Option Addr} {sl10 : Array (Option Value)} {oc10 kV10 dc10 pm10 cd10 ct10 : Value}
    (a10 : PySem.W.findIn K (.ref a_cls_Outcome) "__init__" = some (some (.ref f10))) (j10 : PySem.W.isFn K (.ref f10) = true) (l10 : K.lookup f10 = some ⟨oc10, od10, .func (PySem.W.fnOf "__init__" "Outcome.__init__" (defArgs s_Outcome___init__) (defBody s_Outcome___init__) (defScope s_Outcome___init__) .none kV10 dc10 pm10 an10 cd10 ct10), sl10⟩) (c10 : PySem.W.codeIn K cd10 "Outcome.__init__" = true) (k10 : PySem.W.keepIn K (.ref f10) = true)
    {f11 : Addr} {od11 an11 : Option Addr} {sl11 : Array (Option Value)} {oc11 kV11 dc11 pm11 cd11 ct11 : Value}
    (a11 : PySem.W.findIn K (.ref a_cls_Evaluation) "__init__" = some (some (.ref f11))) (j11 : PySem.W.isFn K (.ref f11) = true) (l11 : K.lookup f11 = some ⟨oc11, od11, .func (PySem.W.fnOf "__init__" "Evaluation.__init__" (defArgs s_Evaluation___init__) (defBody s_Evaluation___init__) (defScope s_Evaluation___init__) .none kV11 dc11 pm11 an11 cd11 ct11), sl11⟩) (c11 : PySem.W.codeIn K cd11 "Evaluation.__init__" = true) (k11 : PySem.W.keepIn K (.ref f11) = true)
    {f12 : Addr} {od12 an12 : Option Addr} {sl12 : Array (Option Value)} {oc12 kV12 dc12 pm12 cd12 ct12 : Value}
    (a12 : PySem.W.findIn K (.ref a_cls_Evaluation) "begin" = some (some (.ref f12))) (j12 : PySem.W.isFn K (.ref f12) = true) (l12 : K.lookup f12 = some ⟨oc12, od12, .func (PySem.W.fnOf "begin" "Evaluation.begin" (defArgs s_Evaluation_begin) (defBody s_Evaluation_begin) (defScope s_Evaluation_begin) .none kV12 dc12 pm12 an12 cd12 ct12), sl12⟩) (c12 : PySem.W.codeIn K cd12 "Evaluation.begin" = true) (k12 : PySem.W.keepIn K (.ref f12) = true)
    {f13 : Addr} {od13 an13 : Option Addr} {sl13 : Array (Option Value)} {oc13 kV13 dc13 pm13 cd13 ct13 : Value}
    (a13 : PySem.W.findIn K (.ref a_cls_Outcome) "end_stuck" = some (some (.ref f13))) (j13 : PySem.W.isFn K (.ref f13) = true) (l13 : K.lookup f13 = some ⟨oc13, od13, .func (PySem.W.fnOf "end_stuck" "Outcome.end_stuck" (defArgs s_Outcome_end_stuck) (defBody s_Outcome_end_stuck) (defScope s_Outcome_end_stuck) .none kV13 dc13 pm13 an13 cd13 ct13), sl13⟩) (c13 : PySem.W.codeIn K cd13 "Outcome.end_stuck" = true) (k13 : PySem.W.keepIn K (.ref f13) = true)
    {f14 : Addr} {od14 an14 : Option Addr} {sl14 : Array (Option Value)} {oc14 kV14 dc14 pm14 cd14 ct14 : Value}
    (a14 : PySem.W.nsIn K mainGlobals "_bound" = some (some (.ref f14))) (l14 : K.lookup f14 = some ⟨oc14, od14, .func (PySem.W.fnOf "_bound" "_bound" (defArgs s__bound) (defBody s__bound) (defScope s__bound) .none kV14 dc14 pm14 an14 cd14 ct14), sl14⟩) (c14 : PySem.W.codeIn K cd14 "_bound" = true) (k14 : PySem.W.keepIn K (.ref f14) = true)
    {f15 : Addr} {od15 an15 : Option Addr} {sl15 : Array (Option Value)} {oc15 kV15 dc15 pm15 cd15 ct15 : Value}
    (a15 : PySem.W.nsIn K mainGlobals "_begin_kids" = some (some (.ref f15))) (l15 : K.lookup f15 = some ⟨oc15, od15, .func (PySem.W.fnOf "_begin_kids" "_begin_kids" (defArgs s__begin_kids) (defBody s__begin_kids) (defScope s__begin_kids) .none kV15 dc15 pm15 an15 cd15 ct15), sl15⟩) (c15 : PySem.W.codeIn K cd15 "_begin_kids" = true) (k15 : PySem.W.keepIn K (.ref f15) = true)
    {f16 : Addr} {od16 an16 : Option Addr} {sl16 : Array (Option Value)} {oc16 kV16 dc16 pm16 cd16 ct16 : Value}
    (a16 : PySem.W.findIn K (.ref a_cls_Evaluation) "give" = some (some (.ref f16))) (j16 : PySem.W.isFn K (.ref f16) = true) (l16 : K.lookup f16 = some ⟨oc16, od16, .func (PySem.W.fnOf "give" "Evaluation.give" (defArgs s_Evaluation_give) (defBody s_Evaluation_give) (defScope s_Evaluation_give) .none kV16 dc16 pm16 an16 cd16 ct16), sl16⟩) (c16 : PySem.W.codeIn K cd16 "Evaluation.give" = true) (k16 : PySem.W.keepIn K (.ref f16) = true)
    {f17 : Addr} {od17 an17 : Option Addr} {sl17 : Array (Option Value)} {oc17 kV17 dc17 pm17 cd17 ct17 : Value}
    (a17 : PySem.W.nsIn K mainGlobals "_begin_literal" = some (some (.ref f17))) (l17 : K.lookup f17 = some ⟨oc17, od17, .func (PySem.W.fnOf "_begin_literal" "_begin_literal" (defArgs s__begin_literal) (defBody s__begin_literal) (defScope s__begin_literal) .none kV17 dc17 pm17 an17 cd17 ct17), sl17⟩) (c17 : PySem.W.codeIn K cd17 "_begin_literal" = true) (k17 : PySem.W.keepIn K (.ref f17) = true)
    {f18 : Addr} {od18 an18 : Option Addr} {sl18 : Array (Option Value)} {oc18 kV18 dc18 pm18 cd18 ct18 : Value}
    (a18 : PySem.W.nsIn K mainGlobals "_begin_name" = some (some (.ref f18))) (l18 : K.lookup f18 = some ⟨oc18, od18, .func (PySem.W.fnOf "_begin_name" "_begin_name" (defArgs s__begin_name) (defBody s__begin_name) (defScope s__begin_name) .none kV18 dc18 pm18 an18 cd18 ct18), sl18⟩) (c18 : PySem.W.codeIn K cd18 "_begin_name" = true) (k18 : PySem.W.keepIn K (.ref f18) = true)
    {f19 : Addr} {od19 an19 : Option Addr} {sl19 : Array (Option Value)} {oc19 kV19 dc19 pm19 cd19 ct19 : Value}
    (a19 : PySem.W.nsIn K mainGlobals "_begin_fn" = some (some (.ref f19))) (l19 : K.lookup f19 = some ⟨oc19, od19, .func (PySem.W.fnOf "_begin_fn" "_begin_fn" (defArgs s__begin_fn) (defBody s__begin_fn) (defScope s__begin_fn) .none kV19 dc19 pm19 an19 cd19 ct19), sl19⟩) (c19 : PySem.W.codeIn K cd19 "_begin_fn" = true) (k19 : PySem.W.keepIn K (.ref f19) = true)
    {f20 : Addr} {od20 an20 : Option Addr} {sl20 : Array (Option Value)} {oc20 kV20 dc20 pm20 cd20 ct20 : Value}
    (a20 : PySem.W.nsIn K mainGlobals "_begin_handle" = some (some (.ref f20))) (l20 : K.lookup f20 = some ⟨oc20, od20, .func (PySem.W.fnOf "_begin_handle" "_begin_handle" (defArgs s__begin_handle) (defBody s__begin_handle) (defScope s__begin_handle) .none kV20 dc20 pm20 an20 cd20 ct20), sl20⟩) (c20 : PySem.W.codeIn K cd20 "_begin_handle" = true) (k20 : PySem.W.keepIn K (.ref f20) = true)
    {f21 : Addr} {od21 an21 : Option Addr} {sl21 : Array (Option Value)} {oc21 kV21 dc21 pm21 cd21 ct21 : Value}
    (a21 : PySem.W.findIn K (.ref a_cls_Outcome) "spend" = some (some (.ref f21))) (j21 : PySem.W.isFn K (.ref f21) = true) (l21 : K.lookup f21 = some ⟨oc21, od21, .func (PySem.W.fnOf "spend" "Outcome.spend" (defArgs s_Outcome_spend) (defBody s_Outcome_spend) (defScope s_Outcome_spend) .none kV21 dc21 pm21 an21 cd21 ct21), sl21⟩) (c21 : PySem.W.codeIn K cd21 "Outcome.spend" = true) (k21 : PySem.W.keepIn K (.ref f21) = true)
    {f22 : Addr} {od22 an22 : Option Addr} {sl22 : Array (Option Value)} {oc22 kV22 dc22 pm22 cd22 ct22 : Value}
    (a22 : PySem.W.nsIn K mainGlobals "_end_call" = some (some (.ref f22))) (l22 : K.lookup f22 = some ⟨oc22, od22, .func (PySem.W.fnOf "_end_call" "_end_call" (defArgs s__end_call) (defBody s__end_call) (defScope s__end_call) .none kV22 dc22 pm22 an22 cd22 ct22), sl22⟩) (c22 : PySem.W.codeIn K cd22 "_end_call" = true) (k22 : PySem.W.keepIn K (.ref f22) = true)
    {f23 : Addr} {od23 an23 : Option Addr} {sl23 : Array (Option Value)} {oc23 kV23 dc23 pm23 cd23 ct23 : Value}
    (a23 : PySem.W.nsIn K mainGlobals "_end_make" = some (some (.ref f23))) (l23 : K.lookup f23 = some ⟨oc23, od23, .func (PySem.W.fnOf "_end_make" "_end_make" (defArgs s__end_make) (defBody s__end_make) (defScope s__end_make) .none kV23 dc23 pm23 an23 cd23 ct23), sl23⟩) (c23 : PySem.W.codeIn K cd23 "_end_make" = true) (k23 : PySem.W.keepIn K (.ref f23) = true)
    {f24 : Addr} {od24 an24 : Option Addr} {sl24 : Array (Option Value)} {oc24 kV24 dc24 pm24 cd24 ct24 : Value}
    (a24 : PySem.W.nsIn K mainGlobals "_end_tuple" = some (some (.ref f24))) (l24 : K.lookup f24 = some ⟨oc24, od24, .func (PySem.W.fnOf "_end_tuple" "_end_tuple" (defArgs s__end_tuple) (defBody s__end_tuple) (defScope s__end_tuple) .none kV24 dc24 pm24 an24 cd24 ct24), sl24⟩) (c24 : PySem.W.codeIn K cd24 "_end_tuple" = true) (k24 : PySem.W.keepIn K (.ref f24) = true)
    {f25 : Addr} {od25 an25 : Option Addr} {sl25 : Array (Option Value)} {oc25 kV25 dc25 pm25 cd25 ct25 : Value}
    (a25 : PySem.W.nsIn K mainGlobals "_end_get" = some (some (.ref f25))) (l25 : K.lookup f25 = some ⟨oc25, od25, .func (PySem.W.fnOf "_end_get" "_end_get" (defArgs s__end_get) (defBody s__end_get) (defScope s__end_get) .none kV25 dc25 pm25 an25 cd25 ct25), sl25⟩) (c25 : PySem.W.codeIn K cd25 "_end_get" = true) (k25 : PySem.W.keepIn K (.ref f25) = true)
    {f26 : Addr} {od26 an26 : Option Addr} {sl26 : Array (Option Value)} {oc26 kV26 dc26 pm26 cd26 ct26 : Value}
    (a26 : PySem.W.nsIn K mainGlobals "inner_scope" = some (some (.ref f26))) (l26 : K.lookup f26 = some ⟨oc26, od26, .func (PySem.W.fnOf "inner_scope" "inner_scope" (defArgs s_inner_scope) (defBody s_inner_scope) (defScope s_inner_scope) .none kV26 dc26 pm26 an26 cd26 ct26), sl26⟩) (c26 : PySem.W.codeIn K cd26 "inner_scope" = true) (k26 : PySem.W.keepIn K (.ref f26) = true)
    {f27 : Addr} {od27 an27 : Option Addr} {sl27 : Array (Option Value)} {oc27 kV27 dc27 pm27 cd27 ct27 : Value}
    (a27 : PySem.W.nsIn K mainGlobals "_end_let" = some (some (.ref f27))) (l27 : K.lookup f27 = some ⟨oc27, od27, .func (PySem.W.fnOf "_end_let" "_end_let" (defArgs s__end_let) (defBody s__end_let) (defScope s__end_let) .none kV27 dc27 pm27 an27 cd27 ct27), sl27⟩) (c27 : PySem.W.codeIn K cd27 "_end_let" = true) (k27 : PySem.W.keepIn K (.ref f27) = true)
    {f28 : Addr} {od28 an28 : Option Addr} {sl28 : Array (Option Value)} {oc28 kV28 dc28 pm28 cd28 ct28 : Value}
    (a28 : PySem.W.nsIn K mainGlobals "_end_if" = some (some (.ref f28))) (l28 : K.lookup f28 = some ⟨oc28, od28, .func (PySem.W.fnOf "_end_if" "_end_if" (defArgs s__end_if) (defBody s__end_if) (defScope s__end_if) .none kV28 dc28 pm28 an28 cd28 ct28), sl28⟩) (c28 : PySem.W.codeIn K cd28 "_end_if" = true) (k28 : PySem.W.keepIn K (.ref f28) = true)
    {f29 : Addr} {od29 an29 : Option Addr} {sl29 : Array (Option Value)} {oc29 kV29 dc29 pm29 cd29 ct29 : Value}
    (a29 : PySem.W.nsIn K mainGlobals "_end_case" = some (some (.ref f29))) (l29 : K.lookup f29 = some ⟨oc29, od29, .func (PySem.W.fnOf "_end_case" "_end_case" (defArgs s__end_case) (defBody s__end_case) (defScope s__end_case) .none kV29 dc29 pm29 an29 cd29 ct29), sl29⟩) (c29 : PySem.W.codeIn K cd29 "_end_case" = true) (k29 : PySem.W.keepIn K (.ref f29) = true)
    {f30 : Addr} {od30 an30 : Option Addr} {sl30 : Array (Option Value)} {oc30 kV30 dc30 pm30 cd30 ct30 : Value}
    (a30 : PySem.W.nsIn K mainGlobals "_end_apply" = some (some (.ref f30))) (l30 : K.lookup f30 = some ⟨oc30, od30, .func (PySem.W.fnOf "_end_apply" "_end_apply" (defArgs s__end_apply) (defBody s__end_apply) (defScope s__end_apply) .none kV30 dc30 pm30 an30 cd30 ct30), sl30⟩) (c30 : PySem.W.codeIn K cd30 "_end_apply" = true) (k30 : PySem.W.keepIn K (.ref f30) = true)
    {f31 : Addr} {od31 an31 : Option Addr} {sl31 : Array (Option Value)} {oc31 kV31 dc31 pm31 cd31 ct31 : Value}
    (a31 : PySem.W.nsIn K mainGlobals "_end_ref" = some (some (.ref f31))) (l31 : K.lookup f31 = some ⟨oc31, od31, .func (PySem.W.fnOf "_end_ref" "_end_ref" (defArgs s__end_ref) (defBody s__end_ref) (defScope s__end_ref) .none kV31 dc31 pm31 an31 cd31 ct31), sl31⟩) (c31 : PySem.W.codeIn K cd31 "_end_ref" = true) (k31 : PySem.W.keepIn K (.ref f31) = true)
    {f32 : Addr} {od32 an32 : Option Addr} {sl32 : Array (Option Value)} {oc32 kV32 dc32 pm32 cd32 ct32 : Value}
    (a32 : PySem.W.nsIn K mainGlobals "_end_deref" = some (some (.ref f32))) (l32 : K.lookup f32 = some ⟨oc32, od32, .func (PySem.W.fnOf "_end_deref" "_end_deref" (defArgs s__end_deref) (defBody s__end_deref) (defScope s__end_deref) .none kV32 dc32 pm32 an32 cd32 ct32), sl32⟩) (c32 : PySem.W.codeIn K cd32 "_end_deref" = true) (k32 : PySem.W.keepIn K (.ref f32) = true)
    {f33 : Addr} {od33 an33 : Option Addr} {sl33 : Array (Option Value)} {oc33 kV33 dc33 pm33 cd33 ct33 : Value}
    (a33 : PySem.W.nsIn K mainGlobals "_end_set" = some (some (.ref f33))) (l33 : K.lookup f33 = some ⟨oc33, od33, .func (PySem.W.fnOf "_end_set" "_end_set" (defArgs s__end_set) (defBody s__end_set) (defScope s__end_set) .none kV33 dc33 pm33 an33 cd33 ct33), sl33⟩) (c33 : PySem.W.codeIn K cd33 "_end_set" = true) (k33 : PySem.W.keepIn K (.ref f33) = true)
    {f34 : Addr} {od34 an34 : Option Addr} {sl34 : Array (Option Value)} {oc34 kV34 dc34 pm34 cd34 ct34 : Value}
    (a34 : PySem.W.findIn K (.ref a_cls_Evaluation) "throw" = some (some (.ref f34))) (j34 : PySem.W.isFn K (.ref f34) = true) (l34 : K.lookup f34 = some ⟨oc34, od34, .func (PySem.W.fnOf "throw" "Evaluation.throw" (defArgs s_Evaluation_throw) (defBody s_Evaluation_throw) (defScope s_Evaluation_throw) .none kV34 dc34 pm34 an34 cd34 ct34), sl34⟩) (c34 : PySem.W.codeIn K cd34 "Evaluation.throw" = true) (k34 : PySem.W.keepIn K (.ref f34) = true)
    {f35 : Addr} {od35 an35 : Option Addr} {sl35 : Array (Option Value)} {oc35 kV35 dc35 pm35 cd35 ct35 : Value}
    (a35 : PySem.W.nsIn K mainGlobals "_end_array" = some (some (.ref f35))) (l35 : K.lookup f35 = some ⟨oc35, od35, .func (PySem.W.fnOf "_end_array" "_end_array" (defArgs s__end_array) (defBody s__end_array) (defScope s__end_array) .none kV35 dc35 pm35 an35 cd35 ct35), sl35⟩) (c35 : PySem.W.codeIn K cd35 "_end_array" = true) (k35 : PySem.W.keepIn K (.ref f35) = true)
    {f36 : Addr} {od36 an36 : Option Addr} {sl36 : Array (Option Value)} {oc36 kV36 dc36 pm36 cd36 ct36 : Value}
    (a36 : PySem.W.nsIn K mainGlobals "_end_at" = some (some (.ref f36))) (l36 : K.lookup f36 = some ⟨oc36, od36, .func (PySem.W.fnOf "_end_at" "_end_at" (defArgs s__end_at) (defBody s__end_at) (defScope s__end_at) .none kV36 dc36 pm36 an36 cd36 ct36), sl36⟩) (c36 : PySem.W.codeIn K cd36 "_end_at" = true) (k36 : PySem.W.keepIn K (.ref f36) = true)
    {f37 : Addr} {od37 an37 : Option Addr} {sl37 : Array (Option Value)} {oc37 kV37 dc37 pm37 cd37 ct37 : Value}
    (a37 : PySem.W.nsIn K mainGlobals "_end_put" = some (some (.ref f37))) (l37 : K.lookup f37 = some ⟨oc37, od37, .func (PySem.W.fnOf "_end_put" "_end_put" (defArgs s__end_put) (defBody s__end_put) (defScope s__end_put) .none kV37 dc37 pm37 an37 cd37 ct37), sl37⟩) (c37 : PySem.W.codeIn K cd37 "_end_put" = true) (k37 : PySem.W.keepIn K (.ref f37) = true)
    {f38 : Addr} {od38 an38 : Option Addr} {sl38 : Array (Option Value)} {oc38 kV38 dc38 pm38 cd38 ct38 : Value}
    (a38 : PySem.W.nsIn K mainGlobals "_end_len" = some (some (.ref f38))) (l38 : K.lookup f38 = some ⟨oc38, od38, .func (PySem.W.fnOf "_end_len" "_end_len" (defArgs s__end_len) (defBody s__end_len) (defScope s__end_len) .none kV38 dc38 pm38 an38 cd38 ct38), sl38⟩) (c38 : PySem.W.codeIn K cd38 "_end_len" = true) (k38 : PySem.W.keepIn K (.ref f38) = true)
    {f39 : Addr} {od39 an39 : Option Addr} {sl39 : Array (Option Value)} {oc39 kV39 dc39 pm39 cd39 ct39 : Value}
    (a39 : PySem.W.nsIn K mainGlobals "_end_raise" = some (some (.ref f39))) (l39 : K.lookup f39 = some ⟨oc39, od39, .func (PySem.W.fnOf "_end_raise" "_end_raise" (defArgs s__end_raise) (defBody s__end_raise) (defScope s__end_raise) .none kV39 dc39 pm39 an39 cd39 ct39), sl39⟩) (c39 : PySem.W.codeIn K cd39 "_end_raise" = true) (k39 : PySem.W.keepIn K (.ref f39) = true)
    {f40 : Addr} {od40 an40 : Option Addr} {sl40 : Array (Option Value)} {oc40 kV40 dc40 pm40 cd40 ct40 : Value}
    (a40 : PySem.W.nsIn K mainGlobals "_end_print" = some (some (.ref f40))) (l40 : K.lookup f40 = some ⟨oc40, od40, .func (PySem.W.fnOf "_end_print" "_end_print" (defArgs s__end_print) (defBody s__end_print) (defScope s__end_print) .none kV40 dc40 pm40 an40 cd40 ct40), sl40⟩) (c40 : PySem.W.codeIn K cd40 "_end_print" = true) (k40 : PySem.W.keepIn K (.ref f40) = true)
    {f41 : Addr} {od41 an41 : Option Addr} {sl41 : Array (Option Value)} {oc41 kV41 dc41 pm41 cd41 ct41 : Value}
    (a41 : PySem.W.nsIn K mainGlobals "_end_seq" = some (some (.ref f41))) (l41 : K.lookup f41 = some ⟨oc41, od41, .func (PySem.W.fnOf "_end_seq" "_end_seq" (defArgs s__end_seq) (defBody s__end_seq) (defScope s__end_seq) .none kV41 dc41 pm41 an41 cd41 ct41), sl41⟩) (c41 : PySem.W.codeIn K cd41 "_end_seq" = true) (k41 : PySem.W.keepIn K (.ref f41) = true)
    {f42 : Addr} {od42 an42 : Option Addr} {sl42 : Array (Option Value)} {oc42 kV42 dc42 pm42 cd42 ct42 : Value}
    (a42 : PySem.W.nsIn K mainGlobals "divides_by_zero" = some (some (.ref f42))) (l42 : K.lookup f42 = some ⟨oc42, od42, .func (PySem.W.fnOf "divides_by_zero" "divides_by_zero" (defArgs s_divides_by_zero) (defBody s_divides_by_zero) (defScope s_divides_by_zero) .none kV42 dc42 pm42 an42 cd42 ct42), sl42⟩) (c42 : PySem.W.codeIn K cd42 "divides_by_zero" = true) (k42 : PySem.W.keepIn K (.ref f42) = true)
    {f43 : Addr} {od43 an43 : Option Addr} {sl43 : Array (Option Value)} {oc43 kV43 dc43 pm43 cd43 ct43 : Value}
    (a43 : PySem.W.nsIn K mainGlobals "wrap" = some (some (.ref f43))) (l43 : K.lookup f43 = some ⟨oc43, od43, .func (PySem.W.fnOf "wrap" "wrap" (defArgs s_wrap) (defBody s_wrap) (defScope s_wrap) .none kV43 dc43 pm43 an43 cd43 ct43), sl43⟩) (c43 : PySem.W.codeIn K cd43 "wrap" = true) (k43 : PySem.W.keepIn K (.ref f43) = true)
    {f44 : Addr} {od44 an44 : Option Addr} {sl44 : Array (Option Value)} {oc44 kV44 dc44 pm44 cd44 ct44 : Value}
    (a44 : PySem.W.nsIn K mainGlobals "_add" = some (some (.ref f44))) (l44 : K.lookup f44 = some ⟨oc44, od44, .func (PySem.W.fnOf "_add" "_add" (defArgs s__add) (defBody s__add) (defScope s__add) .none kV44 dc44 pm44 an44 cd44 ct44), sl44⟩) (c44 : PySem.W.codeIn K cd44 "_add" = true) (k44 : PySem.W.keepIn K (.ref f44) = true)
    {f45 : Addr} {od45 an45 : Option Addr} {sl45 : Array (Option Value)} {oc45 kV45 dc45 pm45 cd45 ct45 : Value}
    (a45 : PySem.W.nsIn K mainGlobals "_sub" = some (some (.ref f45))) (l45 : K.lookup f45 = some ⟨oc45, od45, .func (PySem.W.fnOf "_sub" "_sub" (defArgs s__sub) (defBody s__sub) (defScope s__sub) .none kV45 dc45 pm45 an45 cd45 ct45), sl45⟩) (c45 : PySem.W.codeIn K cd45 "_sub" = true) (k45 : PySem.W.keepIn K (.ref f45) = true)
    {f46 : Addr} {od46 an46 : Option Addr} {sl46 : Array (Option Value)} {oc46 kV46 dc46 pm46 cd46 ct46 : Value}
    (a46 : PySem.W.nsIn K mainGlobals "_mul" = some (some (.ref f46))) (l46 : K.lookup f46 = some ⟨oc46, od46, .func (PySem.W.fnOf "_mul" "_mul" (defArgs s__mul) (defBody s__mul) (defScope s__mul) .none kV46 dc46 pm46 an46 cd46 ct46), sl46⟩) (c46 : PySem.W.codeIn K cd46 "_mul" = true) (k46 : PySem.W.keepIn K (.ref f46) = true)
    {f47 : Addr} {od47 an47 : Option Addr} {sl47 : Array (Option Value)} {oc47 kV47 dc47 pm47 cd47 ct47 : Value}
    (a47 : PySem.W.nsIn K mainGlobals "_quotient" = some (some (.ref f47))) (l47 : K.lookup f47 = some ⟨oc47, od47, .func (PySem.W.fnOf "_quotient" "_quotient" (defArgs s__quotient) (defBody s__quotient) (defScope s__quotient) .none kV47 dc47 pm47 an47 cd47 ct47), sl47⟩) (c47 : PySem.W.codeIn K cd47 "_quotient" = true) (k47 : PySem.W.keepIn K (.ref f47) = true)
    {f48 : Addr} {od48 an48 : Option Addr} {sl48 : Array (Option Value)} {oc48 kV48 dc48 pm48 cd48 ct48 : Value}
    (a48 : PySem.W.nsIn K mainGlobals "_div" = some (some (.ref f48))) (l48 : K.lookup f48 = some ⟨oc48, od48, .func (PySem.W.fnOf "_div" "_div" (defArgs s__div) (defBody s__div) (defScope s__div) .none kV48 dc48 pm48 an48 cd48 ct48), sl48⟩) (c48 : PySem.W.codeIn K cd48 "_div" = true) (k48 : PySem.W.keepIn K (.ref f48) = true)
    {f49 : Addr} {od49 an49 : Option Addr} {sl49 : Array (Option Value)} {oc49 kV49 dc49 pm49 cd49 ct49 : Value}
    (a49 : PySem.W.nsIn K mainGlobals "_rem" = some (some (.ref f49))) (l49 : K.lookup f49 = some ⟨oc49, od49, .func (PySem.W.fnOf "_rem" "_rem" (defArgs s__rem) (defBody s__rem) (defScope s__rem) .none kV49 dc49 pm49 an49 cd49 ct49), sl49⟩) (c49 : PySem.W.codeIn K cd49 "_rem" = true) (k49 : PySem.W.keepIn K (.ref f49) = true)
    {f50 : Addr} {od50 an50 : Option Addr} {sl50 : Array (Option Value)} {oc50 kV50 dc50 pm50 cd50 ct50 : Value}
    (a50 : PySem.W.nsIn K mainGlobals "_equal" = some (some (.ref f50))) (l50 : K.lookup f50 = some ⟨oc50, od50, .func (PySem.W.fnOf "_equal" "_equal" (defArgs s__equal) (defBody s__equal) (defScope s__equal) .none kV50 dc50 pm50 an50 cd50 ct50), sl50⟩) (c50 : PySem.W.codeIn K cd50 "_equal" = true) (k50 : PySem.W.keepIn K (.ref f50) = true)
    {f51 : Addr} {od51 an51 : Option Addr} {sl51 : Array (Option Value)} {oc51 kV51 dc51 pm51 cd51 ct51 : Value}
    (a51 : PySem.W.nsIn K mainGlobals "_less" = some (some (.ref f51))) (l51 : K.lookup f51 = some ⟨oc51, od51, .func (PySem.W.fnOf "_less" "_less" (defArgs s__less) (defBody s__less) (defScope s__less) .none kV51 dc51 pm51 an51 cd51 ct51), sl51⟩) (c51 : PySem.W.codeIn K cd51 "_less" = true) (k51 : PySem.W.keepIn K (.ref f51) = true)
    {f52 : Addr} {od52 an52 : Option Addr} {sl52 : Array (Option Value)} {oc52 kV52 dc52 pm52 cd52 ct52 : Value}
    (a52 : PySem.W.nsIn K mainGlobals "compute" = some (some (.ref f52))) (l52 : K.lookup f52 = some ⟨oc52, od52, .func (PySem.W.fnOf "compute" "compute" (defArgs s_compute) (defBody s_compute) (defScope s_compute) .none kV52 dc52 pm52 an52 cd52 ct52), sl52⟩) (c52 : PySem.W.codeIn K cd52 "compute" = true) (k52 : PySem.W.keepIn K (.ref f52) = true)
    {f53 : Addr} {od53 an53 : Option Addr} {sl53 : Array (Option Value)} {oc53 kV53 dc53 pm53 cd53 ct53 : Value}
    (a53 : PySem.W.nsIn K mainGlobals "_end_operation" = some (some (.ref f53))) (l53 : K.lookup f53 = some ⟨oc53, od53, .func (PySem.W.fnOf "_end_operation" "_end_operation" (defArgs s__end_operation) (defBody s__end_operation) (defScope s__end_operation) .none kV53 dc53 pm53 an53 cd53 ct53), sl53⟩) (c53 : PySem.W.codeIn K cd53 "_end_operation" = true) (k53 : PySem.W.keepIn K (.ref f53) = true)
    {f54 : Addr} {od54 an54 : Option Addr} {sl54 : Array (Option Value)} {oc54 kV54 dc54 pm54 cd54 ct54 : Value}
    (a54 : PySem.W.findIn K (.ref a_cls_Evaluation) "take" = some (some (.ref f54))) (j54 : PySem.W.isFn K (.ref f54) = true) (l54 : K.lookup f54 = some ⟨oc54, od54, .func (PySem.W.fnOf "take" "Evaluation.take" (defArgs s_Evaluation_take) (defBody s_Evaluation_take) (defScope s_Evaluation_take) .none kV54 dc54 pm54 an54 cd54 ct54), sl54⟩) (c54 : PySem.W.codeIn K cd54 "Evaluation.take" = true) (k54 : PySem.W.keepIn K (.ref f54) = true)
    {f55 : Addr} {od55 an55 : Option Addr} {sl55 : Array (Option Value)} {oc55 kV55 dc55 pm55 cd55 ct55 : Value}
    (a55 : PySem.W.findIn K (.ref a_cls_Evaluation) "do_task" = some (some (.ref f55))) (j55 : PySem.W.isFn K (.ref f55) = true) (l55 : K.lookup f55 = some ⟨oc55, od55, .func (PySem.W.fnOf "do_task" "Evaluation.do_task" (defArgs s_Evaluation_do_task) (defBody s_Evaluation_do_task) (defScope s_Evaluation_do_task) .none kV55 dc55 pm55 an55 cd55 ct55), sl55⟩) (c55 : PySem.W.codeIn K cd55 "Evaluation.do_task" = true) (k55 : PySem.W.keepIn K (.ref f55) = true)
    {f56 : Addr} {od56 an56 : Option Addr} {sl56 : Array (Option Value)} {oc56 kV56 dc56 pm56 cd56 ct56 : Value}
    (a56 : PySem.W.findIn K (.ref a_cls_Evaluation) "evaluate" = some (some (.ref f56))) (j56 : PySem.W.isFn K (.ref f56) = true) (l56 : K.lookup f56 = some ⟨oc56, od56, .func (PySem.W.fnOf "evaluate" "Evaluation.evaluate" (defArgs s_Evaluation_evaluate) (defBody s_Evaluation_evaluate) (defScope s_Evaluation_evaluate) .none kV56 dc56 pm56 an56 cd56 ct56), sl56⟩) (c56 : PySem.W.codeIn K cd56 "Evaluation.evaluate" = true) (k56 : PySem.W.keepIn K (.ref f56) = true)
    {f57 : Addr} {od57 an57 : Option Addr} {sl57 : Array (Option Value)} {oc57 kV57 dc57 pm57 cd57 ct57 : Value}
    (a57 : PySem.W.findIn K (.ref a_cls_Outcome) "result" = some (some (.ref f57))) (j57 : PySem.W.isFn K (.ref f57) = true) (l57 : K.lookup f57 = some ⟨oc57, od57, .func (PySem.W.fnOf "result" "Outcome.result" (defArgs s_Outcome_result) (defBody s_Outcome_result) (defScope s_Outcome_result) .none kV57 dc57 pm57 an57 cd57 ct57), sl57⟩) (c57 : PySem.W.codeIn K cd57 "Outcome.result" = true) (k57 : PySem.W.keepIn K (.ref f57) = true)
    {f58 : Addr} {od58 an58 : Option Addr} {sl58 : Array (Option Value)} {oc58 dc58 pm58 cd58 ct58  : Value}
    {kD58 : Addr} (a58 : PySem.W.nsIn K mainGlobals "run" = some (some (.ref f58))) (l58 : K.lookup f58 = some ⟨oc58, od58, .func (PySem.W.fnOf "run" "run" (defArgs s_run) (defBody s_run) (defScope s_run) .none (.ref kD58) dc58 pm58 an58 cd58 ct58), sl58⟩) (c58 : PySem.W.codeIn K cd58 "run" = true) (k58 : PySem.W.keepIn K (.ref f58) = true)
    {kt58_0 : Tok} (q58_0 : PySem.W.nsIn K kD58 "fuel" = some (some (.int 200 kt58_0)))
    {f59 : Addr} {od59 an59 : Option Addr} {sl59 : Array (Option Value)} {oc59 kV59 dc59 pm59 cd59 ct59 : Value}
    (a59 : PySem.W.nsIn K mainGlobals "_law_due" = some (some (.ref f59))) (l59 : K.lookup f59 = some ⟨oc59, od59, .func (PySem.W.fnOf "_law_due" "_law_due" (defArgs s__law_due) (defBody s__law_due) (defScope s__law_due) .none kV59 dc59 pm59 an59 cd59 ct59), sl59⟩) (c59 : PySem.W.codeIn K cd59 "_law_due" = true) (k59 : PySem.W.keepIn K (.ref f59) = true)
    {f60 : Addr} {od60 an60 : Option Addr} {sl60 : Array (Option Value)} {oc60 kV60 dc60 pm60 cd60 ct60 : Value}
    (a60 : PySem.W.nsIn K mainGlobals "law" = some (some (.ref f60))) (l60 : K.lookup f60 = some ⟨oc60, od60, .func (PySem.W.fnOf "law" "law" (defArgs s_law) (defBody s_law) (defScope s_law) .none kV60 dc60 pm60 an60 cd60 ct60), sl60⟩) (c60 : PySem.W.codeIn K cd60 "law" = true) (k60 : PySem.W.keepIn K (.ref f60) = true)
    (z_len : PySem.W.nsIn K mainGlobals "len" = some none)
    (z_int : PySem.W.nsIn K mainGlobals "int" = some none)
    (z_range : PySem.W.nsIn K mainGlobals "range" = some none)
    (z_tuple : PySem.W.nsIn K mainGlobals "tuple" = some none)
    (z_str : PySem.W.nsIn K mainGlobals "str" = some none)
    (z_max : PySem.W.nsIn K mainGlobals "max" = some none)
    (z_min : PySem.W.nsIn K mainGlobals "min" = some none)
    (z_zip : PySem.W.nsIn K mainGlobals "zip" = some none)
    (z_list : PySem.W.nsIn K mainGlobals "list" = some none)
    (z_reversed : PySem.W.nsIn K mainGlobals "reversed" = some none)
    (z_dict : PySem.W.nsIn K mainGlobals "dict" = some none)
    (z_abs : PySem.W.nsIn K mainGlobals "abs" = some none)
    (z_isinstance : PySem.W.nsIn K mainGlobals "isinstance" = some none)
    (z_bool : PySem.W.nsIn K mainGlobals "bool" = some none)
    {t_MAX_FUEL : Tok} (g_MAX_FUEL : PySem.W.nsIn K mainGlobals "MAX_FUEL" = some (some (.int 200 t_MAX_FUEL)))
    {p_EARLY : Addr} {es_EARLY : Array DictEntry} {n_EARLY : Nat} (g_EARLY : PySem.W.nsIn K mainGlobals "EARLY" = some (some (.ref p_EARLY))) (l_EARLY : K.lookup p_EARLY = some ⟨.type "dict", none, .dict es_EARLY n_EARLY, #[]⟩) (y_EARLY : PySem.W.KeysLit w.params es_EARLY.toList) (o_EARLY : (p_EARLY == sysModules) = false) (r_EARLY : kDic K kv_EARLY es_EARLY.toList = true)
    {t_MAX_ARRAY : Tok} (g_MAX_ARRAY : PySem.W.nsIn K mainGlobals "MAX_ARRAY" = some (some (.int 12 t_MAX_ARRAY)))
    {t_SIZE : Tok} (g_SIZE : PySem.W.nsIn K mainGlobals "SIZE" = some (some (.int 2 t_SIZE)))
    {t_INDEX : Tok} (g_INDEX : PySem.W.nsIn K mainGlobals "INDEX" = some (some (.int 1 t_INDEX)))
    {t_HALF : Tok} (g_HALF : PySem.W.nsIn K mainGlobals "HALF" = some (some (.int 2147483648 t_HALF)))
    {p_OPERATIONS : Addr} {es_OPERATIONS : Array DictEntry} {n_OPERATIONS : Nat} (g_OPERATIONS : PySem.W.nsIn K mainGlobals "OPERATIONS" = some (some (.ref p_OPERATIONS))) (l_OPERATIONS : K.lookup p_OPERATIONS = some ⟨.type "dict", none, .dict es_OPERATIONS n_OPERATIONS, #[]⟩) (y_OPERATIONS : PySem.W.KeysLit w.params es_OPERATIONS.toList) (o_OPERATIONS : (p_OPERATIONS == sysModules) = false) (r_OPERATIONS : kDic K kv_OPERATIONS es_OPERATIONS.toList = true)
    {t_DIV : Tok} (g_DIV : PySem.W.nsIn K mainGlobals "DIV" = some (some (.int 0 t_DIV)))
    {p_BEGINNINGS : Addr} {es_BEGINNINGS : Array DictEntry} {n_BEGINNINGS : Nat} (g_BEGINNINGS : PySem.W.nsIn K mainGlobals "BEGINNINGS" = some (some (.ref p_BEGINNINGS))) (l_BEGINNINGS : K.lookup p_BEGINNINGS = some ⟨.type "dict", none, .dict es_BEGINNINGS n_BEGINNINGS, #[]⟩) (y_BEGINNINGS : PySem.W.KeysLit w.params es_BEGINNINGS.toList) (o_BEGINNINGS : (p_BEGINNINGS == sysModules) = false) (r_BEGINNINGS : kDic K kv_BEGINNINGS es_BEGINNINGS.toList = true)
    {p_ENDS : Addr} {es_ENDS : Array DictEntry} {n_ENDS : Nat} (g_ENDS : PySem.W.nsIn K mainGlobals "ENDS" = some (some (.ref p_ENDS))) (l_ENDS : K.lookup p_ENDS = some ⟨.type "dict", none, .dict es_ENDS n_ENDS, #[]⟩) (y_ENDS : PySem.W.KeysLit w.params es_ENDS.toList) (o_ENDS : (p_ENDS == sysModules) = false) (r_ENDS : kDic K kv_ENDS es_ENDS.toList = true)
    : ∃ fd : FuncData, (∀ (s : Shared) (v : Value), BindsTo s fd ⟨[v], []⟩ [("script", v)]) ∧ ∀ base : Heap, K.In base → base.Ns mainGlobals mg → FnOk l.prog w K mg base (L2N.CX l.prog w) 8 fa fd ["script"] (spOf K m_law) := by
  have e := hfa.symm.trans (PySem.W.mg_of X G a60)
  cases e
  have F0 := fun_mk (st := s__law_cell) l0 c0 k0
  have b0 := F0.binds (ps := ["script", "at"]) fun _ _ _ _ _ _ us hl => match us, hl with | [_, _], _ => rfl
  have F1 := fun_mk (st := s__law_deeds) l1 c1 k1
  have b1 := F1.binds (ps := ["cells", "many"]) fun _ _ _ _ _ _ us hl => match us, hl with | [_, _], _ => rfl
  have F2 := fun_mk (st := s__law_whole) l2 c2 k2
  have b2 := F2.binds (ps := []) fun _ _ _ _ _ _ us hl => match us, hl with | [], _ => rfl
  have F3 := fun_mk (st := s__law_let) l3 c3 k3
  have b3 := F3.binds (ps := ["name", "value", "body"]) fun _ _ _ _ _ _ us hl => match us, hl with | [_, _, _], _ => rfl
  have F4 := fun_mk (st := s__law_name) l4 c4 k4
  have b4 := F4.binds (ps := ["kind", "name"]) fun _ _ _ _ _ _ us hl => match us, hl with | [_, _], _ => rfl
  have F5 := fun_mk (st := s__law_print) l5 c5 k5
  have b5 := F5.binds (ps := ["kid"]) fun _ _ _ _ _ _ us hl => match us, hl with | [_], _ => rfl
  have F6 := fun_mk (st := s__law_int) l6 c6 k6
  have b6 := F6.binds (ps := ["value"]) fun _ _ _ _ _ _ us hl => match us, hl with | [_], _ => rfl
  have F7 := fun_mk (st := s__law_expression) l7 c7 k7
  have b7 := F7.binds (ps := ["deed"]) fun _ _ _ _ _ _ us hl => match us, hl with | [_], _ => rfl
  have F8 := fun_mk (st := s__law_seq) l8 c8 k8
  have b8 := F8.binds (ps := ["first", "second"]) fun _ _ _ _ _ _ us hl => match us, hl with | [_, _], _ => rfl
  have F9 := fun_mk (st := s__law_program) l9 c9 k9
  have b9 := F9.binds (ps := ["many", "start", "deeds"]) fun _ _ _ _ _ _ us hl => match us, hl with | [_, _, _], _ => rfl
  have F10 := fun_mk (st := s_Outcome___init__) l10 c10 k10
  have b10 := F10.binds (ps := ["self", "fuel"]) fun _ _ _ _ _ _ us hl => match us, hl with | [_, _], _ => rfl
  have F11 := fun_mk (st := s_Evaluation___init__) l11 c11 k11
  have b11 := F11.binds (ps := ["self", "program", "fuel"]) fun _ _ _ _ _ _ us hl => match us, hl with | [_, _, _], _ => rfl
  have F12 := fun_mk (st := s_Evaluation_begin) l12 c12 k12
  have b12 := F12.binds (ps := ["self", "expression", "scope"]) fun _ _ _ _ _ _ us hl => match us, hl with | [_, _, _], _ => rfl
  have F13 := fun_mk (st := s_Outcome_end_stuck) l13 c13 k13
  have b13 := F13.binds (ps := ["self"]) fun _ _ _ _ _ _ us hl => match us, hl with | [_], _ => rfl
  have F14 := fun_mk (st := s__bound) l14 c14 k14
  have b14 := F14.binds (ps := ["parameters", "values"]) fun _ _ _ _ _ _ us hl => match us, hl with | [_, _], _ => rfl
  have F15 := fun_mk (st := s__begin_kids) l15 c15 k15
  have b15 := F15.binds (ps := ["evaluation", "expression", "scope"]) fun _ _ _ _ _ _ us hl => match us, hl with | [_, _, _], _ => rfl
  have F16 := fun_mk (st := s_Evaluation_give) l16 c16 k16
  have b16 := F16.binds (ps := ["self", "value"]) fun _ _ _ _ _ _ us hl => match us, hl with | [_, _], _ => rfl
  have F17 := fun_mk (st := s__begin_literal) l17 c17 k17
  have b17 := F17.binds (ps := ["evaluation", "expression", "scope"]) fun _ _ _ _ _ _ us hl => match us, hl with | [_, _, _], _ => rfl
  have F18 := fun_mk (st := s__begin_name) l18 c18 k18
  have b18 := F18.binds (ps := ["evaluation", "expression", "scope"]) fun _ _ _ _ _ _ us hl => match us, hl with | [_, _, _], _ => rfl
  have F19 := fun_mk (st := s__begin_fn) l19 c19 k19
  have b19 := F19.binds (ps := ["evaluation", "expression", "scope"]) fun _ _ _ _ _ _ us hl => match us, hl with | [_, _, _], _ => rfl
  have F20 := fun_mk (st := s__begin_handle) l20 c20 k20
  have b20 := F20.binds (ps := ["evaluation", "expression", "scope"]) fun _ _ _ _ _ _ us hl => match us, hl with | [_, _, _], _ => rfl
  have F21 := fun_mk (st := s_Outcome_spend) l21 c21 k21
  have b21 := F21.binds (ps := ["self", "ticks"]) fun _ _ _ _ _ _ us hl => match us, hl with | [_, _], _ => rfl
  have F22 := fun_mk (st := s__end_call) l22 c22 k22
  have b22 := F22.binds (ps := ["evaluation", "expression", "scope", "values"]) fun _ _ _ _ _ _ us hl => match us, hl with | [_, _, _, _], _ => rfl
  have F23 := fun_mk (st := s__end_make) l23 c23 k23
  have b23 := F23.binds (ps := ["evaluation", "expression", "scope", "values"]) fun _ _ _ _ _ _ us hl => match us, hl with | [_, _, _, _], _ => rfl
  have F24 := fun_mk (st := s__end_tuple) l24 c24 k24
  have b24 := F24.binds (ps := ["evaluation", "expression", "scope", "values"]) fun _ _ _ _ _ _ us hl => match us, hl with | [_, _, _, _], _ => rfl
  have F25 := fun_mk (st := s__end_get) l25 c25 k25
  have b25 := F25.binds (ps := ["evaluation", "expression", "scope", "values"]) fun _ _ _ _ _ _ us hl => match us, hl with | [_, _, _, _], _ => rfl
  have F26 := fun_mk (st := s_inner_scope) l26 c26 k26
  have b26 := F26.binds (ps := ["scope", "names", "values"]) fun _ _ _ _ _ _ us hl => match us, hl with | [_, _, _], _ => rfl
  have F27 := fun_mk (st := s__end_let) l27 c27 k27
  have b27 := F27.binds (ps := ["evaluation", "expression", "scope", "values"]) fun _ _ _ _ _ _ us hl => match us, hl with | [_, _, _, _], _ => rfl
  have F28 := fun_mk (st := s__end_if) l28 c28 k28
  have b28 := F28.binds (ps := ["evaluation", "expression", "scope", "values"]) fun _ _ _ _ _ _ us hl => match us, hl with | [_, _, _, _], _ => rfl
  have F29 := fun_mk (st := s__end_case) l29 c29 k29
  have b29 := F29.binds (ps := ["evaluation", "expression", "scope", "values"]) fun _ _ _ _ _ _ us hl => match us, hl with | [_, _, _, _], _ => rfl
  have F30 := fun_mk (st := s__end_apply) l30 c30 k30
  have b30 := F30.binds (ps := ["evaluation", "expression", "scope", "values"]) fun _ _ _ _ _ _ us hl => match us, hl with | [_, _, _, _], _ => rfl
  have F31 := fun_mk (st := s__end_ref) l31 c31 k31
  have b31 := F31.binds (ps := ["evaluation", "expression", "scope", "values"]) fun _ _ _ _ _ _ us hl => match us, hl with | [_, _, _, _], _ => rfl
  have F32 := fun_mk (st := s__end_deref) l32 c32 k32
  have b32 := F32.binds (ps := ["evaluation", "expression", "scope", "values"]) fun _ _ _ _ _ _ us hl => match us, hl with | [_, _, _, _], _ => rfl
  have F33 := fun_mk (st := s__end_set) l33 c33 k33
  have b33 := F33.binds (ps := ["evaluation", "expression", "scope", "values"]) fun _ _ _ _ _ _ us hl => match us, hl with | [_, _, _, _], _ => rfl
  have F34 := fun_mk (st := s_Evaluation_throw) l34 c34 k34
  have b34 := F34.binds (ps := ["self", "number", "payload"]) fun _ _ _ _ _ _ us hl => match us, hl with | [_, _, _], _ => rfl
  have F35 := fun_mk (st := s__end_array) l35 c35 k35
  have b35 := F35.binds (ps := ["evaluation", "expression", "scope", "values"]) fun _ _ _ _ _ _ us hl => match us, hl with | [_, _, _, _], _ => rfl
  have F36 := fun_mk (st := s__end_at) l36 c36 k36
  have b36 := F36.binds (ps := ["evaluation", "expression", "scope", "values"]) fun _ _ _ _ _ _ us hl => match us, hl with | [_, _, _, _], _ => rfl
  have F37 := fun_mk (st := s__end_put) l37 c37 k37
  have b37 := F37.binds (ps := ["evaluation", "expression", "scope", "values"]) fun _ _ _ _ _ _ us hl => match us, hl with | [_, _, _, _], _ => rfl
  have F38 := fun_mk (st := s__end_len) l38 c38 k38
  have b38 := F38.binds (ps := ["evaluation", "expression", "scope", "values"]) fun _ _ _ _ _ _ us hl => match us, hl with | [_, _, _, _], _ => rfl
  have F39 := fun_mk (st := s__end_raise) l39 c39 k39
  have b39 := F39.binds (ps := ["evaluation", "expression", "scope", "values"]) fun _ _ _ _ _ _ us hl => match us, hl with | [_, _, _, _], _ => rfl
  have F40 := fun_mk (st := s__end_print) l40 c40 k40
  have b40 := F40.binds (ps := ["evaluation", "expression", "scope", "values"]) fun _ _ _ _ _ _ us hl => match us, hl with | [_, _, _, _], _ => rfl
  have F41 := fun_mk (st := s__end_seq) l41 c41 k41
  have b41 := F41.binds (ps := ["evaluation", "expression", "scope", "values"]) fun _ _ _ _ _ _ us hl => match us, hl with | [_, _, _, _], _ => rfl
  have F42 := fun_mk (st := s_divides_by_zero) l42 c42 k42
  have b42 := F42.binds (ps := ["op", "second"]) fun _ _ _ _ _ _ us hl => match us, hl with | [_, _], _ => rfl
  have F43 := fun_mk (st := s_wrap) l43 c43 k43
  have b43 := F43.binds (ps := ["number"]) fun _ _ _ _ _ _ us hl => match us, hl with | [_], _ => rfl
  have F44 := fun_mk (st := s__add) l44 c44 k44
  have b44 := F44.binds (ps := ["first", "second"]) fun _ _ _ _ _ _ us hl => match us, hl with | [_, _], _ => rfl
  have F45 := fun_mk (st := s__sub) l45 c45 k45
  have b45 := F45.binds (ps := ["first", "second"]) fun _ _ _ _ _ _ us hl => match us, hl with | [_, _], _ => rfl
  have F46 := fun_mk (st := s__mul) l46 c46 k46
  have b46 := F46.binds (ps := ["first", "second"]) fun _ _ _ _ _ _ us hl => match us, hl with | [_, _], _ => rfl
  have F47 := fun_mk (st := s__quotient) l47 c47 k47
  have b47 := F47.binds (ps := ["first", "second"]) fun _ _ _ _ _ _ us hl => match us, hl with | [_, _], _ => rfl
  have F48 := fun_mk (st := s__div) l48 c48 k48
  have b48 := F48.binds (ps := ["first", "second"]) fun _ _ _ _ _ _ us hl => match us, hl with | [_, _], _ => rfl
  have F49 := fun_mk (st := s__rem) l49 c49 k49
  have b49 := F49.binds (ps := ["first", "second"]) fun _ _ _ _ _ _ us hl => match us, hl with | [_, _], _ => rfl
  have F50 := fun_mk (st := s__equal) l50 c50 k50
  have b50 := F50.binds (ps := ["first", "second"]) fun _ _ _ _ _ _ us hl => match us, hl with | [_, _], _ => rfl
  have F51 := fun_mk (st := s__less) l51 c51 k51
  have b51 := F51.binds (ps := ["first", "second"]) fun _ _ _ _ _ _ us hl => match us, hl with | [_, _], _ => rfl
  have F52 := fun_mk (st := s_compute) l52 c52 k52
  have b52 := F52.binds (ps := ["op", "first", "second"]) fun _ _ _ _ _ _ us hl => match us, hl with | [_, _, _], _ => rfl
  have F53 := fun_mk (st := s__end_operation) l53 c53 k53
  have b53 := F53.binds (ps := ["evaluation", "expression", "scope", "values"]) fun _ _ _ _ _ _ us hl => match us, hl with | [_, _, _, _], _ => rfl
  have F54 := fun_mk (st := s_Evaluation_take) l54 c54 k54
  have b54 := F54.binds (ps := ["self", "many"]) fun _ _ _ _ _ _ us hl => match us, hl with | [_, _], _ => rfl
  have F55 := fun_mk (st := s_Evaluation_do_task) l55 c55 k55
  have b55 := F55.binds (ps := ["self"]) fun _ _ _ _ _ _ us hl => match us, hl with | [_], _ => rfl
  have F56 := fun_mk (st := s_Evaluation_evaluate) l56 c56 k56
  have b56 := F56.binds (ps := ["self", "arguments"]) fun _ _ _ _ _ _ us hl => match us, hl with | [_, _], _ => rfl
  have F57 := fun_mk (st := s_Outcome_result) l57 c57 k57
  have b57 := F57.binds (ps := ["self"]) fun _ _ _ _ _ _ us hl => match us, hl with | [_], _ => rfl
  have F58 : FunD K "run" "run" (defArgs s_run) (defBody s_run) (defScope s_run) [] [("fuel", .int 200)] f58 _ := ⟨⟨_, _, _, _, _, _, _, _, _, _, rfl, l58, c58, .inl ⟨rfl, rfl⟩, .inr ⟨kD58, rfl, fun q hq => by simp only [List.mem_cons, List.not_mem_nil, or_false] at hq; rcases hq with rfl <;> first | exact ⟨_, q58_0, ⟨_, rfl⟩⟩⟩⟩, k58⟩
  have F59 := fun_mk (st := s__law_due) l59 c59 k59
  have b59 := F59.binds (ps := ["many", "start", "deeds", "limit"]) fun _ _ _ _ _ _ us hl => match us, hl with | [_, _, _, _], _ => rfl
  have F60 := fun_mk (st := s_law) l60 c60 k60
  have b60 := F60.binds (ps := ["script"]) fun _ _ _ _ _ _ us hl => match us, hl with | [_], _ => rfl
  let T : Top w K mg := { a_cls_Outcome := a_cls_Outcome, cls_Outcome := ⟨ac_Outcome, ⟨pg_Outcome, hd_Outcome, po_Outcome, sa_Outcome⟩, fun x hx => by simp only [List.mem_cons, List.not_mem_nil, or_false] at hx; rcases hx with rfl | rfl | rfl | rfl | rfl <;> assumption⟩, mg_Outcome := PySem.W.mg_of X G ac_Outcome, mk_Outcome := ⟨mk_Outcome, a10, j10, kc_Outcome⟩, a_cls_Evaluation := a_cls_Evaluation, cls_Evaluation := ⟨ac_Evaluation, ⟨pg_Evaluation, hd_Evaluation, po_Evaluation, sa_Evaluation⟩, fun x hx => by simp only [List.mem_cons, List.not_mem_nil, or_false] at hx; rcases hx with rfl | rfl | rfl | rfl | rfl <;> assumption⟩, mg_Evaluation := PySem.W.mg_of X G ac_Evaluation, mk_Evaluation := ⟨mk_Evaluation, a11, j11, kc_Evaluation⟩, a__law_cell := f0, f__law_cell := _, d__law_cell := ⟨F0, PySem.W.mg_of X G a0, b0⟩, a__law_deeds := f1, f__law_deeds := _, d__law_deeds := ⟨F1, PySem.W.mg_of X G a1, b1⟩, a__law_whole := f2, f__law_whole := _, d__law_whole := ⟨F2, PySem.W.mg_of X G a2, b2⟩, a__law_let := f3, f__law_let := _, d__law_let := ⟨F3, PySem.W.mg_of X G a3, b3⟩, a__law_name := f4, f__law_name := _, d__law_name := ⟨F4, PySem.W.mg_of X G a4, b4⟩, a__law_print := f5, f__law_print := _, d__law_print := ⟨F5, PySem.W.mg_of X G a5, b5⟩, a__law_int := f6, f__law_int := _, d__law_int := ⟨F6, PySem.W.mg_of X G a6, b6⟩, a__law_expression := f7, f__law_expression := _, d__law_expression := ⟨F7, PySem.W.mg_of X G a7, b7⟩, a__law_seq := f8, f__law_seq := _, d__law_seq := ⟨F8, PySem.W.mg_of X G a8, b8⟩, a__law_program := f9, f__law_program := _, d__law_program := ⟨F9, PySem.W.mg_of X G a9, b9⟩, a_Outcome___init__ := f10, f_Outcome___init__ := _, d_Outcome___init__ := ⟨F10, ⟨a10, j10, k10⟩, b10⟩, a_Evaluation___init__ := f11, f_Evaluation___init__ := _, d_Evaluation___init__ := ⟨F11, ⟨a11, j11, k11⟩, b11⟩, a_Evaluation_begin := f12, f_Evaluation_begin := _, d_Evaluation_begin := ⟨F12, ⟨a12, j12, k12⟩, b12⟩, a_Outcome_end_stuck := f13, f_Outcome_end_stuck := _, d_Outcome_end_stuck := ⟨F13, ⟨a13, j13, k13⟩, b13⟩, a__bound := f14, f__bound := _, d__bound := ⟨F14, PySem.W.mg_of X G a14, b14⟩, a__begin_kids := f15, f__begin_kids := _, d__begin_kids := ⟨F15, PySem.W.mg_of X G a15, b15⟩, a_Evaluation_give := f16, f_Evaluation_give := _, d_Evaluation_give := ⟨F16, ⟨a16, j16, k16⟩, b16⟩, a__begin_literal := f17, f__begin_literal := _, d__begin_literal := ⟨F17, PySem.W.mg_of X G a17, b17⟩, a__begin_name := f18, f__begin_name := _, d__begin_name := ⟨F18, PySem.W.mg_of X G a18, b18⟩, a__begin_fn := f19, f__begin_fn := _, d__begin_fn := ⟨F19, PySem.W.mg_of X G a19, b19⟩, a__begin_handle := f20, f__begin_handle := _, d__begin_handle := ⟨F20, PySem.W.mg_of X G a20, b20⟩, a_Outcome_spend := f21, f_Outcome_spend := _, d_Outcome_spend := ⟨F21, ⟨a21, j21, k21⟩, b21⟩, a__end_call := f22, f__end_call := _, d__end_call := ⟨F22, PySem.W.mg_of X G a22, b22⟩, a__end_make := f23, f__end_make := _, d__end_make := ⟨F23, PySem.W.mg_of X G a23, b23⟩, a__end_tuple := f24, f__end_tuple := _, d__end_tuple := ⟨F24, PySem.W.mg_of X G a24, b24⟩, a__end_get := f25, f__end_get := _, d__end_get := ⟨F25, PySem.W.mg_of X G a25, b25⟩, a_inner_scope := f26, f_inner_scope := _, d_inner_scope := ⟨F26, PySem.W.mg_of X G a26, b26⟩, a__end_let := f27, f__end_let := _, d__end_let := ⟨F27, PySem.W.mg_of X G a27, b27⟩, a__end_if := f28, f__end_if := _, d__end_if := ⟨F28, PySem.W.mg_of X G a28, b28⟩, a__end_case := f29, f__end_case := _, d__end_case := ⟨F29, PySem.W.mg_of X G a29, b29⟩, a__end_apply := f30, f__end_apply := _, d__end_apply := ⟨F30, PySem.W.mg_of X G a30, b30⟩, a__end_ref := f31, f__end_ref := _, d__end_ref := ⟨F31, PySem.W.mg_of X G a31, b31⟩, a__end_deref := f32, f__end_deref := _, d__end_deref := ⟨F32, PySem.W.mg_of X G a32, b32⟩, a__end_set := f33, f__end_set := _, d__end_set := ⟨F33, PySem.W.mg_of X G a33, b33⟩, a_Evaluation_throw := f34, f_Evaluation_throw := _, d_Evaluation_throw := ⟨F34, ⟨a34, j34, k34⟩, b34⟩, a__end_array := f35, f__end_array := _, d__end_array := ⟨F35, PySem.W.mg_of X G a35, b35⟩, a__end_at := f36, f__end_at := _, d__end_at := ⟨F36, PySem.W.mg_of X G a36, b36⟩, a__end_put := f37, f__end_put := _, d__end_put := ⟨F37, PySem.W.mg_of X G a37, b37⟩, a__end_len := f38, f__end_len := _, d__end_len := ⟨F38, PySem.W.mg_of X G a38, b38⟩, a__end_raise := f39, f__end_raise := _, d__end_raise := ⟨F39, PySem.W.mg_of X G a39, b39⟩, a__end_print := f40, f__end_print := _, d__end_print := ⟨F40, PySem.W.mg_of X G a40, b40⟩, a__end_seq := f41, f__end_seq := _, d__end_seq := ⟨F41, PySem.W.mg_of X G a41, b41⟩, a_divides_by_zero := f42, f_divides_by_zero := _, d_divides_by_zero := ⟨F42, PySem.W.mg_of X G a42, b42⟩, a_wrap := f43, f_wrap := _, d_wrap := ⟨F43, PySem.W.mg_of X G a43, b43⟩, a__add := f44, f__add := _, d__add := ⟨F44, PySem.W.mg_of X G a44, b44⟩, a__sub := f45, f__sub := _, d__sub := ⟨F45, PySem.W.mg_of X G a45, b45⟩, a__mul := f46, f__mul := _, d__mul := ⟨F46, PySem.W.mg_of X G a46, b46⟩, a__quotient := f47, f__quotient := _, d__quotient := ⟨F47, PySem.W.mg_of X G a47, b47⟩, a__div := f48, f__div := _, d__div := ⟨F48, PySem.W.mg_of X G a48, b48⟩, a__rem := f49, f__rem := _, d__rem := ⟨F49, PySem.W.mg_of X G a49, b49⟩, a__equal := f50, f__equal := _, d__equal := ⟨F50, PySem.W.mg_of X G a50, b50⟩, a__less := f51, f__less := _, d__less := ⟨F51, PySem.W.mg_of X G a51, b51⟩, a_compute := f52, f_compute := _, d_compute := ⟨F52, PySem.W.mg_of X G a52, b52⟩, a__end_operation := f53, f__end_operation := _, d__end_operation := ⟨F53, PySem.W.mg_of X G a53, b53⟩, a_Evaluation_take := f54, f_Evaluation_take := _, d_Evaluation_take := ⟨F54, ⟨a54, j54, k54⟩, b54⟩, a_Evaluation_do_task := f55, f_Evaluation_do_task := _, d_Evaluation_do_task := ⟨F55, ⟨a55, j55, k55⟩, b55⟩, a_Evaluation_evaluate := f56, f_Evaluation_evaluate := _, d_Evaluation_evaluate := ⟨F56, ⟨a56, j56, k56⟩, b56⟩, a_Outcome_result := f57, f_Outcome_result := _, d_Outcome_result := ⟨F57, ⟨a57, j57, k57⟩, b57⟩, a_run := f58, f_run := _, d_run := ⟨F58, PySem.W.mg_of X G a58⟩, a__law_due := f59, f__law_due := _, d__law_due := ⟨F59, PySem.W.mg_of X G a59, b59⟩, a_law := fa, f_law := _, d_law := ⟨F60, PySem.W.mg_of X G a60, b60⟩, z_len := PySem.W.mg_none_of X G z_len, z_int := PySem.W.mg_none_of X G z_int, z_range := PySem.W.mg_none_of X G z_range, z_tuple := PySem.W.mg_none_of X G z_tuple, z_str := PySem.W.mg_none_of X G z_str, z_max := PySem.W.mg_none_of X G z_max, z_min := PySem.W.mg_none_of X G z_min, z_zip := PySem.W.mg_none_of X G z_zip, z_list := PySem.W.mg_none_of X G z_list, z_reversed := PySem.W.mg_none_of X G z_reversed, z_dict := PySem.W.mg_none_of X G z_dict, z_abs := PySem.W.mg_none_of X G z_abs, z_isinstance := PySem.W.mg_none_of X G z_isinstance, z_bool := PySem.W.mg_none_of X G z_bool, n__add := a44, n__sub := a45, n__mul := a46, n__div := a48, n__rem := a49, n__equal := a50, n__less := a51, n__begin_kids := a15, n__begin_literal := a17, n__begin_name := a18, n__begin_fn := a19, n__begin_handle := a20, n__end_call := a22, n__end_make := a23, n__end_tuple := a24, n__end_get := a25, n__end_let := a27, n__end_if := a28, n__end_case := a29, n__end_apply := a30, n__end_ref := a31, n__end_deref := a32, n__end_set := a33, n__end_array := a35, n__end_at := a36, n__end_put := a37, n__end_len := a38, n__end_raise := a39, n__end_print := a40, n__end_seq := a41, n__end_operation := a53, c_MAX_FUEL := ⟨_, (.int 200), PySem.W.mg_of X G g_MAX_FUEL, ⟨_, rfl⟩, fun _ _ => rep_int⟩, k_EARLY := ⟨p_EARLY, es_EARLY, n_EARLY, PySem.W.mg_of X G g_EARLY, ⟨l_EARLY, y_EARLY, o_EARLY⟩, r_EARLY⟩, c_MAX_ARRAY := ⟨_, (.int 12), PySem.W.mg_of X G g_MAX_ARRAY, ⟨_, rfl⟩, fun _ _ => rep_int⟩, c_SIZE := ⟨_, (.int 2), PySem.W.mg_of X G g_SIZE, ⟨_, rfl⟩, fun _ _ => rep_int⟩, c_INDEX := ⟨_, (.int 1), PySem.W.mg_of X G g_INDEX, ⟨_, rfl⟩, fun _ _ => rep_int⟩, c_HALF := ⟨_, (.int 2147483648), PySem.W.mg_of X G g_HALF, ⟨_, rfl⟩, fun _ _ => rep_int⟩, k_OPERATIONS := ⟨p_OPERATIONS, es_OPERATIONS, n_OPERATIONS, PySem.W.mg_of X G g_OPERATIONS, ⟨l_OPERATIONS, y_OPERATIONS, o_OPERATIONS⟩, r_OPERATIONS⟩, c_DIV := ⟨_, (.int 0), PySem.W.mg_of X G g_DIV, ⟨_, rfl⟩, fun _ _ => rep_int⟩, k_BEGINNINGS := ⟨p_BEGINNINGS, es_BEGINNINGS, n_BEGINNINGS, PySem.W.mg_of X G g_BEGINNINGS, ⟨l_BEGINNINGS, y_BEGINNINGS, o_BEGINNINGS⟩, r_BEGINNINGS⟩, k_ENDS := ⟨p_ENDS, es_ENDS, n_ENDS, PySem.W.mg_of X G g_ENDS, ⟨l_ENDS, y_ENDS, o_ENDS⟩, r_ENDS⟩ }
  exact ⟨T.f_law, fun s v => .of_eq rfl, fun base _ _ => ok_all T⟩
end
end K18
namespace K18
open PySem PySem.Spec PyProof.Rows L2 MM
section
variable {a N : Nat} {ms : MSt} {ds : List D} {d : D} {δ : MS} {h h' : MH}
theorem fnN_non (el : ds.length = a) (r : ms (mStart N ds) h = .ok (.next δ) h') : mFnN a N ms ds h = .ok .non h' := by
  rw [mFnN_eq el, r]; rfl
theorem fnN_ret (el : ds.length = a) (r : ms (mStart N ds) h = .ok (.ret d) h') : mFnN a N ms ds h = .ok d h' := by
  rw [mFnN_eq el, r]; rfl
theorem fn_same (el : ds.length = a) (r : ms (mStart N ds) h = .ok (.ret d) h) (q : d.lows h.length = true) : mFn a N ms ds h = .ok d h := by
  rw [mFn_eq el, r]
  show leave h d h = _
  rw [leave_eq ⟨Nat.le_refl _, fun n o hn e => .inl e⟩ q, List.take_length]
end
section
variable {a b c d e f g : D} {δ : MS} {o1 o2 o3 o4 o5 o6 : Option D} {h : MH}
theorem v0 : mVar 0 (some a :: δ) h = .ok a h := rfl
theorem v1 : mVar 1 (o1 :: some a :: δ) h = .ok a h := rfl
theorem v2 : mVar 2 (o1 :: o2 :: some a :: δ) h = .ok a h := rfl
theorem v3 : mVar 3 (o1 :: o2 :: o3 :: some a :: δ) h = .ok a h := rfl
theorem v4 : mVar 4 (o1 :: o2 :: o3 :: o4 :: some a :: δ) h = .ok a h := rfl
theorem v5 : mVar 5 (o1 :: o2 :: o3 :: o4 :: o5 :: some a :: δ) h = .ok a h := rfl
theorem v6 : mVar 6 (o1 :: o2 :: o3 :: o4 :: o5 :: o6 :: some a :: δ) h = .ok a h := rfl
theorem fAbs_v {i : Int} : fAbs [.int i] h = .ok (.int (i.natAbs : Int)) h := by
  show R.ok (D.int (if i < 0 then -i else i)) h = _
  congr 2
  split <;> omega
end
def exD : D := .tup [.str "Div", .str "Index", .str "Size"]
structure Q where
  fs : D
  f : Int
  tk : Int
  outs : List D
  fl : D
  rt : D
def H (q : Q) (T Dn : List D) (G : MH) : MH :=
  [.ins "Evaluation" [("exceptions", exD), ("functions", q.fs), ("outcome", .ref 1), ("tasks", .ref 3), ("done", .ref 4)],
   .ins "Outcome" [("fuel", .int q.f), ("ticks", .int q.tk), ("outs", .ref 2), ("fault", q.fl), ("returned", q.rt)], .lst q.outs, .lst T, .lst Dn] ++ G
def bg (e sc : D) : D := .tup [.str "begin", e, sc]
def fi (e sc : D) : D := .tup [.str "finish", e, sc]
section
variable {q q' : Q} {T Dn T' Dn' : List D} {G G' : MH} {v e sc : D}
theorem T_at : lst? (H q T Dn G) 3 = some T := rfl
theorem isE (m : Str) (hm : ([("exceptions", exD), ("functions", q.fs), ("outcome", D.ref 1), ("tasks", .ref 3), ("done", .ref 4)] : List (Str × D)).lookup m = none) : isI "Evaluation" m (.ref 0) (H q T Dn G) = true := by
  show decide (("Evaluation" : Str) = "Evaluation" ∧ _) = true
  exact decide_eq_true ⟨rfl, hm⟩
theorem isO (m : Str) (hm : ([("fuel", .int q.f), ("ticks", .int q.tk), ("outs", .ref 2), ("fault", q.fl), ("returned", q.rt)] : List (Str × D)).lookup m = none) : isI "Outcome" m (.ref 1) (H q T Dn G) = true := by
  show decide (("Outcome" : Str) = "Outcome" ∧ _) = true
  exact decide_eq_true ⟨rfl, hm⟩
theorem push_T {x : D} (z : T.length < 16777216) : fAppend (.ref 3) [x] (H q T Dn G) = .ok .non (H q (T ++ [x]) Dn G) := by
  show (if T.length < 16777216 then _ else _) = _
  rw [if_pos z]; rfl
theorem push_D {x : D} (z : Dn.length < 16777216) : fAppend (.ref 4) [x] (H q T Dn G) = .ok .non (H q T (Dn ++ [x]) G) := by
  show (if Dn.length < 16777216 then _ else _) = _
  rw [if_pos z]; rfl
theorem push_O {x : D} (z : q.outs.length < 16777216) : fAppend (.ref 2) [x] (H q T Dn G) = .ok .non (H { q with outs := q.outs ++ [x] } T Dn G) := by
  show (if q.outs.length < 16777216 then _ else _) = _
  rw [if_pos z]; rfl
theorem pop_T {x : D} : fPop (.ref 3) [] (H q (T ++ [x]) Dn G) = .ok x (H q T Dn G) := by
  unfold fPop
  simp only [T_at]
  rw [show (T ++ [x])[(T ++ [x]).length - 1]? = some x by simp]
  simp only [List.dropLast_concat]
  rfl
theorem begin_ok (z : T.length < 16777216) : m_Evaluation_begin [.ref 0, e, sc] (H q T Dn G) = .ok .non (H q (T ++ [bg e sc]) Dn G) := by
  refine fnN_non (δ := [some (.ref 0), some e, some sc]) rfl ?_
  show R.st (fAppend (.ref 3) [bg e sc] (H q T Dn G)) _ _ = _
  rw [push_T z]; rfl
theorem give_ok (z : Dn.length < 16777216) : m_Evaluation_give [.ref 0, v] (H q T Dn G) = .ok .non (H q T (Dn ++ [v]) G) := by
  refine fnN_non (δ := [some (.ref 0), some v]) rfl ?_
  show R.st (fAppend (.ref 4) [v] (H q T Dn G)) _ _ = _
  rw [push_D z]; rfl
theorem gives {δ : MS} {m : ME} {h : MH} (e0 : mVar 0 δ h = .ok (.ref 0) h) (em : m δ h = .ok v (H q T Dn G)) (eh : ∃ q0 T0 D0 G0, h = H q0 T0 D0 G0) (z : Dn.length < 16777216) :
    mDrop (mMeth "Evaluation" "give" m_Evaluation_give (mVar 0) (mCons m (mNil))) δ h = .ok (.next δ) (H q T (Dn ++ [v]) G) := by
  obtain ⟨q0, T0, D0, G0, rfl⟩ := eh
  rw [mDrop_eq, mMeth_eq, e0, R.bnd_ok, if_pos (isE "give" rfl), mCons_eq, em, R.bnd_ok, mNil_eq, R.bnd_ok, R.bnd_ok, give_ok z]
  rfl
theorem begins {δ : MS} {m s : ME} {h h1 : MH} (e0 : mVar 0 δ h = .ok (.ref 0) h) (em : m δ h = .ok e h1) (es : s δ h1 = .ok sc (H q T Dn G)) (eh : ∃ q0 T0 D0 G0, h = H q0 T0 D0 G0) (z : T.length < 16777216) :
    mDrop (mMeth "Evaluation" "begin" m_Evaluation_begin (mVar 0) (mCons m (mCons s (mNil)))) δ h = .ok (.next δ) (H q (T ++ [bg e sc]) Dn G) := by
  obtain ⟨q0, T0, D0, G0, rfl⟩ := eh
  rw [mDrop_eq, mMeth_eq, e0, R.bnd_ok, if_pos (isE "begin" rfl), mCons_eq, em, R.bnd_ok, mCons_eq, es, R.bnd_ok, mNil_eq, R.bnd_ok, R.bnd_ok, R.bnd_ok, begin_ok z]
  rfl
theorem cut_end {X Y : List D} : MM.cutD (X ++ Y) (some (X.length : Int)) none = Y := by
  unfold MM.cutD
  have e1 : HT.sIx (X ++ Y).length 0 (some (X.length : Int)) = X.length := by
    unfold HT.sIx
    simp only [List.length_append]
    split <;> omega
  have e2 : HT.sIx (X ++ Y).length (X ++ Y).length none = (X ++ Y).length := rfl
  rw [e1, e2, List.drop_left, List.length_append, Nat.add_sub_cancel_left, List.take_length]
theorem take_ok {X Y : List D} {k : Nat} (hk : Y.length = k) : m_Evaluation_take [.ref 0, .int k] (H q T (X ++ Y) G) = .ok (.ref (G.length + 5)) (H q T X (G ++ [.lst Y])) := by
  refine fnN_ret rfl ?_
  show b_Evaluation_take [some (.ref 0), some (.int k), none, none] _ = _
  unfold b_Evaluation_take
  have e1 : fLen [.ref 4] (H q T (X ++ Y) G) = .ok (.int ((X ++ Y).length : Int)) (H q T (X ++ Y) G) := rfl
  have e2 : (((X ++ Y).length : Nat) : Int) - k = (X.length : Int) := by rw [List.length_append]; omega
  rw [mSeq_eq, mSet_eq, mOp_eq, mCall_eq, mCons_eq]
  show SR.seq (R.st (R.bnd (R.bnd (R.bnd (R.ok [D.ref 4] (H q T (X ++ Y) G)) fLen) _) _) _ _) _ = _
  rw [R.bnd_ok, e1, R.bnd_ok]
  show SR.seq (R.st (R.ok (D.int (((X ++ Y).length : Int) - k)) (H q T (X ++ Y) G)) _ _) _ = _
  rw [e2, R.st_ok, SR.seq_next, mSeq_eq]
  show SR.seq (R.st (R.ok (D.ref ((H q T (X ++ Y) G).length)) (H q T (X ++ Y) G ++ [.lst (MM.cutD (X ++ Y) (some (X.length : Int)) none)])) _ _) _ = _
  rw [cut_end, R.st_ok, SR.seq_next, mSeq_eq]
  have e3 : delG (.ref 4) (some (X.length : Int)) none (H q T (X ++ Y) G ++ [.lst Y]) = some (H q T X (G ++ [.lst Y])) := by
    show (if (0 : Int) ≤ (X.length : Int) then some (H q T ((X ++ Y).take ((X.length : Int)).toNat) (G ++ [.lst Y])) else none) = _
    rw [if_pos (by omega), Int.toNat_natCast, List.take_left]
  show SR.seq (match delG (.ref 4) (some (X.length : Int)) none (H q T (X ++ Y) G ++ [.lst Y]) with | some h5 => SR.ok (.next _) h5 | none => SR.stuck) _ = _
  rw [e3]
  rfl
end
end K18
namespace K18
open PySem PySem.Spec PyProof.Rows L2 MM
section
variable {q q' : Q} {T Dn T' Dn' : List D} {G G' : MH} {v e sc d : D} {h h' h2 : MH}
def tst : MT := mAnd (mTru (mFld ["Evaluation"] "tasks" (mVar 0))) (mB (mOp opIsN (mFld ["Outcome"] "fault" (mFld ["Evaluation"] "outcome" (mVar 0))) (mC .non)))
noncomputable def loopB : MS → MH → SR := mWhile tst b_Evaluation_evaluate_1
def To (h h' : MH) : Prop := ∀ δ res, loopB (some (.ref 0) :: δ) h' = res → res ≠ .stuck → loopB (some (.ref 0) :: δ) h = res
theorem To.refl : To h h := fun _ _ e _ => e
theorem To.trans (a : To h h') (b : To h' h2) : To h h2 := fun δ res e ne => a δ res (b δ res e ne) ne
theorem To.step (hq : q.fl = .non) (r : m_Evaluation_do_task [.ref 0] (H q (T ++ [e]) Dn G) = .ok d h') : To (H q (T ++ [e]) Dn G) h' := by
  intro δ res w ne
  obtain ⟨fs, f, tk, outs, fl, rt⟩ := q
  have hq : fl = .non := hq
  subst hq
  refine mWhile_next (h1 := H ⟨fs, f, tk, outs, .non, rt⟩ (T ++ [e]) Dn G) (δ2 := some (.ref 0) :: δ) (h2 := h') ?_ ?_ w ne
  · have t1 : truD (.ref 3) (H ⟨fs, f, tk, outs, .non, rt⟩ (T ++ [e]) Dn G) = .ok true (H ⟨fs, f, tk, outs, .non, rt⟩ (T ++ [e]) Dn G) := by
      rw [truD_ref T_at]; simp
    unfold tst
    rw [mAnd_eq, mTru_eq, mFld_eq, v0, R.bnd_ok]
    show R.bnd (R.bnd (R.ok (D.ref 3) (H ⟨fs, f, tk, outs, .non, rt⟩ (T ++ [e]) Dn G)) truD) _ = _
    rw [R.bnd_ok, t1]
    rfl
  · show R.st (if isI "Evaluation" "do_task" (.ref 0) (H ⟨fs, f, tk, outs, .non, rt⟩ (T ++ [e]) Dn G) = true then m_Evaluation_do_task [.ref 0] (H ⟨fs, f, tk, outs, .non, rt⟩ (T ++ [e]) Dn G) else .stuck) _ _ = _
    rw [if_pos (isE "do_task" rfl), r]; rfl
theorem loop_end {δ : MS} : loopB (some (.ref 0) :: δ) (H q [] Dn G) = .ok (.next (some (.ref 0) :: δ)) (H q [] Dn G) := mWhile_end rfl
theorem loop_fl {δ : MS} {xs : List D} (hq : q.fl = .tup xs) : loopB (some (.ref 0) :: δ) (H q T Dn G) = .ok (.next (some (.ref 0) :: δ)) (H q T Dn G) := by
  obtain ⟨fs, f, tk, outs, fl, rt⟩ := q
  have hq : fl = .tup xs := hq
  subst hq
  refine mWhile_end ?_
  unfold tst
  rw [mAnd_eq, mTru_eq, mFld_eq, v0, R.bnd_ok]
  show R.bnd (R.bnd (R.ok (D.ref 3) (H ⟨fs, f, tk, outs, .tup xs, rt⟩ T Dn G)) truD) _ = _
  rw [R.bnd_ok, truD_ref T_at, R.bnd_ok]
  cases T <;> rfl
theorem do_begin {n : Str} {mm : List D → MH → R D} (kop : mKGet2 kv_BEGINNINGS (mOp opIx (mVar 2) (mC (.int 0))) (mC (.kon "_begin_kids")) [some (.ref 0), some (.str "begin"), some e, some sc, none, none, none, none] (H q T Dn G) = .ok (.kon n) (H q T Dn G))
    (tb : tab_Evaluation_do_task_action.lookup n = some mm) (r : mm [.ref 0, e, sc] (H q T Dn G) = .ok d h') :
    m_Evaluation_do_task [.ref 0] (H q (T ++ [bg e sc]) Dn G) = .ok .non h' := by
  refine fnN_non rfl (δ := [some (.ref 0), some (.str "begin"), some e, some sc, some (.kon n), none, none, none]) ?_
  have c : mCallV tab_Evaluation_do_task_action (mVar 4) (mCons (mVar 0) (mCons (mVar 2) (mCons (mVar 3) (mNil)))) [some (.ref 0), some (.str "begin"), some e, some sc, some (.kon n), none, none, none] (H q T Dn G) = .ok d h' := by
    show R.bnd (R.ok (D.kon n) (H q T Dn G)) _ = _
    rw [R.bnd_ok]
    simp only [tb]
    exact r
  show b_Evaluation_do_task [some (.ref 0), none, none, none, none, none, none, none] _ = _
  unfold b_Evaluation_do_task
  have p1 : mAsgSeq 3 (mgCons (mgName 1) (mgCons (mgName 2) (mgCons (mgName 3) (mgNil)))) (mMtd "list" fPop (mFld ["Evaluation"] "tasks" (mVar 0)) mNil) [some (.ref 0), none, none, none, none, none, none, none] (H q (T ++ [bg e sc]) Dn G) = .ok (.next [some (.ref 0), some (.str "begin"), some e, some sc, none, none, none, none]) (H q T Dn G) := by
    show R.st (fPop (.ref 3) [] (H q (T ++ [bg e sc]) Dn G)) _ _ = _
    rw [pop_T]; rfl
  rw [mSeq_eq, p1, SR.seq_next]
  show SR.seq (mSet 4 _ _ _) _ = _
  rw [mSet_eq, kop, R.st_ok, SR.seq_next]
  show R.st (mCallV tab_Evaluation_do_task_action (mVar 4) (mCons (mVar 0) (mCons (mVar 2) (mCons (mVar 3) (mNil)))) [some (.ref 0), some (.str "begin"), some e, some sc, some (.kon n), none, none, none] (H q T Dn G)) _ _ = _
  rw [c]; rfl
theorem do_finish {op : Str} {w i arms : D} {kids : List D} {n : Str} {k : Nat} {X Y : List D} {mm : List D → MH → R D}
    (kop : mKIx kv_ENDS (mVar 5) [some (.ref 0), some (.str "finish"), some (.tup [.str op, w, i, .tup kids, arms]), some sc, none, some (.str op), some arms, some (.tup kids)] (H q T (X ++ Y) G) = .ok (.kon n) (H q T (X ++ Y) G))
    (tb : tab_Evaluation_do_task_action.lookup n = some mm)
    (ke : mKGet2 kv_EARLY (mVar 5) (mCall fLen (mCons (mVar 7) (mNil))) [some (.ref 0), some (.str "finish"), some (.tup [.str op, w, i, .tup kids, arms]), some sc, some (.kon n), some (.str op), some arms, some (.tup kids)] (H q T (X ++ Y) G) = .ok (.int k) (H q T (X ++ Y) G))
    (hk : Y.length = k)
    (r : mm [.ref 0, .tup [.str op, w, i, .tup kids, arms], sc, .ref (G.length + 5)] (H q T X (G ++ [.lst Y])) = .ok d h') :
    m_Evaluation_do_task [.ref 0] (H q (T ++ [fi (.tup [.str op, w, i, .tup kids, arms]) sc]) (X ++ Y) G) = .ok .non h' := by
  refine fnN_non rfl (δ := [some (.ref 0), some (.str "finish"), some (.tup [.str op, w, i, .tup kids, arms]), some sc, some (.kon n), some (.str op), some arms, some (.tup kids)]) ?_
  have c : mCallV tab_Evaluation_do_task_action (mVar 4) (mCons (mVar 0) (mCons (mVar 2) (mCons (mVar 3) (mCons (mMeth "Evaluation" "take" m_Evaluation_take (mVar 0) (mCons (mKGet2 kv_EARLY (mVar 5) (mCall fLen (mCons (mVar 7) (mNil)))) (mNil))) (mNil))))) [some (.ref 0), some (.str "finish"), some (.tup [.str op, w, i, .tup kids, arms]), some sc, some (.kon n), some (.str op), some arms, some (.tup kids)] (H q T (X ++ Y) G) = .ok d h' := by
    show R.bnd (R.ok (D.kon n) (H q T (X ++ Y) G)) _ = _
    rw [R.bnd_ok]
    simp only [tb]
    have t : mMeth "Evaluation" "take" m_Evaluation_take (mVar 0) (mCons (mKGet2 kv_EARLY (mVar 5) (mCall fLen (mCons (mVar 7) (mNil)))) (mNil)) [some (.ref 0), some (.str "finish"), some (.tup [.str op, w, i, .tup kids, arms]), some sc, some (.kon n), some (.str op), some arms, some (.tup kids)] (H q T (X ++ Y) G) = .ok (.ref (G.length + 5)) (H q T X (G ++ [.lst Y])) := by
      rw [mMeth_eq, v0, R.bnd_ok, if_pos (isE "take" rfl), mCons_eq, ke, R.bnd_ok, mNil_eq, R.bnd_ok, R.bnd_ok, take_ok hk]
    rw [mCons_eq, v0, R.bnd_ok, mCons_eq, v2, R.bnd_ok, mCons_eq, v3, R.bnd_ok, mCons_eq, t, R.bnd_ok]
    exact r
  show b_Evaluation_do_task [some (.ref 0), none, none, none, none, none, none, none] _ = _
  unfold b_Evaluation_do_task
  have p1 : mAsgSeq 3 (mgCons (mgName 1) (mgCons (mgName 2) (mgCons (mgName 3) (mgNil)))) (mMtd "list" fPop (mFld ["Evaluation"] "tasks" (mVar 0)) mNil) [some (.ref 0), none, none, none, none, none, none, none] (H q (T ++ [fi (.tup [.str op, w, i, .tup kids, arms]) sc]) (X ++ Y) G) = .ok (.next [some (.ref 0), some (.str "finish"), some (.tup [.str op, w, i, .tup kids, arms]), some sc, none, none, none, none]) (H q T (X ++ Y) G) := by
    show R.st (fPop (.ref 3) [] (H q (T ++ [fi (.tup [.str op, w, i, .tup kids, arms]) sc]) (X ++ Y) G)) _ _ = _
    rw [pop_T]; rfl
  rw [mSeq_eq, p1, SR.seq_next]
  have p2 : mIfS (mB (mOp opEq (mVar 1) (mC (.str "begin")))) = mIfS (mB (mOp opEq (mVar 1) (mC (.str "begin")))) := rfl
  show SR.seq (mSet 4 _ [some (.ref 0), some (.str "finish"), some (.tup [.str op, w, i, .tup kids, arms]), some sc, none, some (.str op), some arms, some (.tup kids)] (H q T (X ++ Y) G)) _ = _
  rw [mSet_eq, kop, R.st_ok, SR.seq_next]
  show R.st (mCallV tab_Evaluation_do_task_action (mVar 4) (mCons (mVar 0) (mCons (mVar 2) (mCons (mVar 3) (mCons (mMeth "Evaluation" "take" m_Evaluation_take (mVar 0) (mCons (mKGet2 kv_EARLY (mVar 5) (mCall fLen (mCons (mVar 7) (mNil)))) (mNil))) (mNil))))) [some (.ref 0), some (.str "finish"), some (.tup [.str op, w, i, .tup kids, arms]), some sc, some (.kon n), some (.str op), some arms, some (.tup kids)] (H q T (X ++ Y) G)) _ _ = _
  rw [c]; rfl
theorem kids_for {x1 x3 x4 x5 : Option D} : ∀ (L : List D) (T : List D) (x : Option D), T.length + L.length < 16777216 → ∃ x', MM.forM (fun _ => True) (mgName 6) b__begin_kids_1 L [some (.ref 0), x1, some sc, x3, x4, x5, x] (H q T Dn G) = .ok (.next [some (.ref 0), x1, some sc, x3, x4, x5, x']) (H q (T ++ L.map fun e => bg e sc) Dn G)
  | [], T, x, z => ⟨x, by
    rw [MM.forM, if_pos trivial, List.map_nil, List.append_nil]⟩
  | e :: L, T, x, z => by
    rw [List.length_cons] at z
    obtain ⟨x', ih⟩ := kids_for L (T ++ [bg e sc]) (some e) (by rw [List.length_append, List.length_singleton]; omega)
    refine ⟨x', ?_⟩
    rw [MM.forM, if_pos trivial]
    have b : b__begin_kids_1 [some (.ref 0), x1, some sc, x3, x4, x5, some e] (H q T Dn G) = .ok (.next [some (.ref 0), x1, some sc, x3, x4, x5, some e]) (H q (T ++ [bg e sc]) Dn G) :=
      begins rfl rfl rfl ⟨_, _, _, _, rfl⟩ (by omega)
    show (match b__begin_kids_1 [some (.ref 0), x1, some sc, x3, x4, x5, some e] (H q T Dn G) with
      | .ok (.next δ2) h2 => MM.forM (fun _ => True) (mgName 6) b__begin_kids_1 L δ2 h2
      | .ok (.cont δ2) h2 => MM.forM (fun _ => True) (mgName 6) b__begin_kids_1 L δ2 h2
      | .ok (.brk δ2) h2 => .ok (.next δ2) h2
      | .ok (.ret d) h2 => .ok (.ret d) h2
      | .exc c fs δ2 h2 => .exc c fs δ2 h2
      | .stuck => .stuck) = _
    rw [b]
    simp only []
    rw [ih, List.append_assoc]; rfl
theorem kids_ok {op : Str} {w i arms : D} {kids L : List D}
    (hs : (mSrc (mRevT (mSl opSl (mVar 5) (mNoP) (mPart (mKGet2 kv_EARLY (mVar 3) (mCall fLen (mCons (mVar 5) (mNil)))))))) [some (.ref 0), some (.tup [.str op, w, i, .tup kids, arms]), some sc, some (.str op), some arms, some (.tup kids), none] (H q (T ++ [fi (.tup [.str op, w, i, .tup kids, arms]) sc]) Dn G) = .ok ⟨L, fun _ => True⟩ (H q (T ++ [fi (.tup [.str op, w, i, .tup kids, arms]) sc]) Dn G))
    (z : T.length + L.length + 1 < 16777216) :
    m__begin_kids [.ref 0, .tup [.str op, w, i, .tup kids, arms], sc] (H q T Dn G) = .ok .non (H q (T ++ [fi (.tup [.str op, w, i, .tup kids, arms]) sc] ++ L.map fun e => bg e sc) Dn G) := by
  obtain ⟨x', fr⟩ := kids_for (q := q) (Dn := Dn) (G := G) (sc := sc) (x1 := some (.tup [.str op, w, i, .tup kids, arms])) (x3 := some (.str op)) (x4 := some arms) (x5 := some (.tup kids)) L (T ++ [fi (.tup [.str op, w, i, .tup kids, arms]) sc]) none (by rw [List.length_append, List.length_singleton]; omega)
  refine fnN_non rfl (δ := [some (.ref 0), some (.tup [.str op, w, i, .tup kids, arms]), some sc, some (.str op), some arms, some (.tup kids), x']) ?_
  show b__begin_kids [some (.ref 0), some (.tup [.str op, w, i, .tup kids, arms]), some sc, none, none, none, none] _ = _
  unfold b__begin_kids
  have p : mDrop (mMtd "list" fAppend (mFld ["Evaluation"] "tasks" (mVar 0)) (mCons (mTup (mCons (mC (.str "finish")) (mCons (mVar 1) (mCons (mVar 2) (mNil))))) (mNil))) [some (.ref 0), some (.tup [.str op, w, i, .tup kids, arms]), some sc, some (.str op), some arms, some (.tup kids), none] (H q T Dn G)
      = .ok (.next [some (.ref 0), some (.tup [.str op, w, i, .tup kids, arms]), some sc, some (.str op), some arms, some (.tup kids), none]) (H q (T ++ [fi (.tup [.str op, w, i, .tup kids, arms]) sc]) Dn G) := by
    show R.st (fAppend (.ref 3) [fi (.tup [.str op, w, i, .tup kids, arms]) sc] (H q T Dn G)) _ _ = _
    rw [push_T (by omega)]; rfl
  rw [mSeq_eq]
  show SR.seq (SR.ok (.next [some (.ref 0), some (.tup [.str op, w, i, .tup kids, arms]), some sc, some (.str op), some arms, some (.tup kids), none]) (H q T Dn G)) _ = _
  rw [SR.seq_next, mSeq_eq, p, SR.seq_next, mFor_eq, hs, R.st_ok]
  exact fr
end
end K18
namespace K18
open PySem PySem.Spec PyProof.Rows L2 MM
def Pl (T : List D) : Prop := ∀ t ∈ T, ∃ w e s, t = .tup [.str w, e, s] ∧ w ≠ "handler"
theorem Pl.add {T : List D} {t : D} (p : Pl T) (h : ∃ w e s, t = .tup [.str w, e, s] ∧ w ≠ "handler") : Pl (T ++ [t]) := fun x hx => by
  rcases List.mem_append.mp hx with hx | hx
  · exact p x hx
  · rw [List.mem_singleton.mp hx]; exact h
theorem pl_bg {e sc : D} : ∃ w e' s, bg e sc = .tup [.str w, e', s] ∧ w ≠ "handler" := ⟨_, _, _, rfl, by decide⟩
theorem pl_fi {e sc : D} : ∃ w e' s, fi e sc = .tup [.str w, e', s] ∧ w ≠ "handler" := ⟨_, _, _, rfl, by decide⟩
theorem Pl.app {T : List D} (p : Pl T) {sc : D} (L : List D) : Pl (T ++ L.map fun e => bg e sc) := fun x hx => by
  rcases List.mem_append.mp hx with hx | hx
  · exact p x hx
  · obtain ⟨e, _, rfl⟩ := List.mem_map.mp hx
    exact pl_bg
abbrev BIG : Nat := 16777216
def Ev (m : Nat) (e sc : D) (q : Q) (G : MH) (v : D) (q' : Q) (G' : MH) : Prop := ∀ T Dn, Pl T → T.length + m < BIG → Dn.length + m < BIG → To (H q (T ++ [bg e sc]) Dn G) (H q' T (Dn ++ [v]) G')
def Fl (m : Nat) (e sc : D) (q : Q) (G : MH) (q' : Q) : Prop := ∀ T Dn, Pl T → T.length + m < BIG → Dn.length + m < BIG → ∃ T' Dn' G', To (H q (T ++ [bg e sc]) Dn G) (H q' T' Dn' G')
def EvL (m : Nat) (ks : List D) (sc : D) (q : Q) (G : MH) (vs : List D) (q' : Q) (G' : MH) : Prop := ∀ T Dn, Pl T → T.length + m < BIG → Dn.length + m < BIG → To (H q (T ++ ks.reverse.map fun e => bg e sc) Dn G) (H q' T (Dn ++ vs) G')
def FlL (m : Nat) (ks : List D) (sc : D) (q : Q) (G : MH) (q' : Q) : Prop := ∀ T Dn, Pl T → T.length + m < BIG → Dn.length + m < BIG → ∃ T' Dn' G', To (H q (T ++ ks.reverse.map fun e => bg e sc) Dn G) (H q' T' Dn' G')
section
variable {q q1 q2 q3 : Q} {G G1 G2 G3 : MH} {m n : Nat} {e e' k sc sc' v : D} {ks vs : List D}
theorem Ev.mono (a : Ev m e sc q G v q1 G1) (h : m ≤ n) : Ev n e sc q G v q1 G1 := fun T Dn p z1 z2 => a T Dn p (by omega) (by omega)
theorem Fl.mono (a : Fl m e sc q G q1) (h : m ≤ n) : Fl n e sc q G q1 := fun T Dn p z1 z2 => a T Dn p (by omega) (by omega)
theorem EvL.nil : EvL m [] sc q G [] q G := fun T Dn _ _ _ => by
  rw [List.reverse_nil, List.map_nil, List.append_nil, List.append_nil]; exact To.refl
theorem rev_app {T : List D} : T ++ (k :: ks).reverse.map (fun e => bg e sc) = (T ++ ks.reverse.map fun e => bg e sc) ++ [bg k sc] := by
  rw [List.reverse_cons, List.map_append, List.append_assoc]; rfl
theorem EvL.cons (a : Ev m k sc q G v q1 G1) (b : EvL (m + ks.length) ks sc q1 G1 vs q2 G2) : EvL (m + (k :: ks).length) (k :: ks) sc q G (v :: vs) q2 G2 := fun T Dn p z1 z2 => by
  rw [List.length_cons] at z1 z2
  rw [rev_app]
  refine (a _ Dn (p.app _) (by rw [List.length_append, List.length_map, List.length_reverse]; omega) (by omega)).trans ?_
  have := b T (Dn ++ [v]) p (by omega) (by rw [List.length_append, List.length_singleton]; omega)
  rw [List.append_assoc] at this
  exact this
theorem EvL.mono (a : EvL m ks sc q G vs q1 G1) (h : m ≤ n) : EvL n ks sc q G vs q1 G1 := fun T Dn p z1 z2 => a T Dn p (by omega) (by omega)
theorem FlL.head (a : Fl m k sc q G q1) : FlL (m + (k :: ks).length) (k :: ks) sc q G q1 := fun T Dn p z1 z2 => by
  rw [List.length_cons] at z1 z2
  rw [rev_app]
  exact a _ Dn (p.app _) (by rw [List.length_append, List.length_map, List.length_reverse]; omega) (by omega)
theorem FlL.cons (a : Ev m k sc q G v q1 G1) (b : FlL (m + ks.length) ks sc q1 G1 q2) : FlL (m + (k :: ks).length) (k :: ks) sc q G q2 := fun T Dn p z1 z2 => by
  rw [List.length_cons] at z1 z2
  rw [rev_app]
  obtain ⟨T', Dn', G', t⟩ := b T (Dn ++ [v]) p (by omega) (by rw [List.length_append, List.length_singleton]; omega)
  exact ⟨T', Dn', G', (a _ Dn (p.app _) (by rw [List.length_append, List.length_map, List.length_reverse]; omega) (by omega)).trans t⟩
end
def mkE (op : Str) (w i : D) (kids : List D) : D := .tup [.str op, w, i, .tup kids, .tup []]
structure OpR (op : Str) (w i : D) (kids ks : List D) (sc : D) (n : Str) (mm : List D → MH → R D) : Prop where
  kb : ∀ q T Dn G, mKGet2 kv_BEGINNINGS (mOp opIx (mVar 2) (mC (.int 0))) (mC (.kon "_begin_kids")) [some (.ref 0), some (.str "begin"), some (mkE op w i kids), some sc, none, none, none, none] (H q T Dn G) = .ok (.kon "_begin_kids") (H q T Dn G)
  hs : ∀ q T Dn G, (mSrc (mRevT (mSl opSl (mVar 5) (mNoP) (mPart (mKGet2 kv_EARLY (mVar 3) (mCall fLen (mCons (mVar 5) (mNil)))))))) [some (.ref 0), some (mkE op w i kids), some sc, some (.str op), some (.tup []), some (.tup kids), none] (H q T Dn G) = .ok ⟨ks.reverse, fun _ => True⟩ (H q T Dn G)
  kop : ∀ q T Dn G, mKIx kv_ENDS (mVar 5) [some (.ref 0), some (.str "finish"), some (mkE op w i kids), some sc, none, some (.str op), some (.tup []), some (.tup kids)] (H q T Dn G) = .ok (.kon n) (H q T Dn G)
  tb : tab_Evaluation_do_task_action.lookup n = some mm
  ke : ∀ q T Dn G, mKGet2 kv_EARLY (mVar 5) (mCall fLen (mCons (mVar 7) (mNil))) [some (.ref 0), some (.str "finish"), some (mkE op w i kids), some sc, some (.kon n), some (.str op), some (.tup []), some (.tup kids)] (H q T Dn G) = .ok (.int ks.length) (H q T Dn G)
section
variable {q q1 q2 q3 : Q} {G G1 G2 G3 : MH} {m : Nat} {w i e e' k sc sc' v d : D} {ks kids vs : List D} {op n : Str} {mm : List D → MH → R D}
theorem OpR.begin (O : OpR op w i kids ks sc n mm) (hq : q.fl = .non) {T Dn : List D} (z : T.length + ks.length + 1 < BIG) : To (H q (T ++ [bg (mkE op w i kids) sc]) Dn G) (H q ((T ++ [fi (mkE op w i kids) sc]) ++ ks.reverse.map fun e => bg e sc) Dn G) := by
  refine To.step hq (do_begin (O.kb q T Dn G) (mm := m__begin_kids) rfl (kids_ok (O.hs q _ Dn G) ?_))
  rw [List.length_reverse]; exact z
theorem OpR.finish (O : OpR op w i kids ks sc n mm) (hq : q.fl = .non) {T X Y : List D} {h' : MH} (hk : Y.length = ks.length) (r : mm [.ref 0, mkE op w i kids, sc, .ref (G.length + 5)] (H q T X (G ++ [.lst Y])) = .ok d h') :
    To (H q (T ++ [fi (mkE op w i kids) sc]) (X ++ Y) G) h' :=
  To.step hq (do_finish (O.kop q T _ G) O.tb (O.ke q T _ G) hk r)
theorem ev_op (O : OpR op w i kids ks sc n mm) (hq : q.fl = .non) (hq1 : q1.fl = .non) (a : EvL (m + ks.length) ks sc q G vs q1 G1) (hl : vs.length = ks.length)
    (r : ∀ T X, Pl T → T.length + 2 < BIG → X.length + 2 < BIG → ∃ d, mm [.ref 0, mkE op w i kids, sc, .ref (G1.length + 5)] (H q1 T X (G1 ++ [.lst vs])) = .ok d (H q2 T (X ++ [v]) G2)) : Ev (m + ks.length + 2) (mkE op w i kids) sc q G v q2 G2 := fun T Dn p z1 z2 => by
  refine (O.begin hq (by omega)).trans ?_
  refine (a _ Dn (p.add pl_fi) (by rw [List.length_append, List.length_singleton]; omega) (by omega)).trans ?_
  obtain ⟨d, r⟩ := r T Dn p (by omega) (by omega)
  exact O.finish hq1 hl r
theorem fl_op (O : OpR op w i kids ks sc n mm) (hq : q.fl = .non) (a : FlL (m + ks.length) ks sc q G q1) : Fl (m + ks.length + 2) (mkE op w i kids) sc q G q1 := fun T Dn p z1 z2 => by
  obtain ⟨T', Dn', G', t⟩ := a _ Dn (p.add (pl_fi (e := mkE op w i kids) (sc := sc))) (by rw [List.length_append, List.length_singleton]; omega) (by omega)
  exact ⟨T', Dn', G', (O.begin hq (by omega)).trans t⟩
theorem fl_end (O : OpR op w i kids ks sc n mm) (hq : q.fl = .non) (hq1 : q1.fl = .non) (a : EvL (m + ks.length) ks sc q G vs q1 G1) (hl : vs.length = ks.length)
    (r : ∀ T X, Pl T → ∃ d T' X' G2, mm [.ref 0, mkE op w i kids, sc, .ref (G1.length + 5)] (H q1 T X (G1 ++ [.lst vs])) = .ok d (H q2 T' X' G2)) : Fl (m + ks.length + 2) (mkE op w i kids) sc q G q2 := fun T Dn p z1 z2 => by
  obtain ⟨d, T', X', G2, r⟩ := r T Dn p
  refine ⟨T', X', G2, (O.begin hq (by omega)).trans ((a _ Dn (p.add pl_fi) (by rw [List.length_append, List.length_singleton]; omega) (by omega)).trans ?_)⟩
  exact O.finish hq1 hl r
theorem ev_tail (O : OpR op w i kids ks sc n mm) (hq : q.fl = .non) (hq1 : q1.fl = .non) (a : EvL (m + ks.length) ks sc q G vs q1 G1) (hl : vs.length = ks.length)
    (r : ∀ T X, T.length + 2 < BIG → ∃ d, mm [.ref 0, mkE op w i kids, sc, .ref (G1.length + 5)] (H q1 T X (G1 ++ [.lst vs])) = .ok d (H q2 (T ++ [bg e' sc']) X G2)) (b : Ev (m + ks.length + 2) e' sc' q2 G2 v q3 G3) : Ev (m + ks.length + 2) (mkE op w i kids) sc q G v q3 G3 := fun T Dn p z1 z2 => by
  refine (O.begin hq (by omega)).trans ((a _ Dn (p.add pl_fi) (by rw [List.length_append, List.length_singleton]; omega) (by omega)).trans ?_)
  obtain ⟨d, r⟩ := r T Dn (by omega)
  exact (O.finish hq1 hl r).trans (b T Dn p z1 z2)
theorem fl_tail (O : OpR op w i kids ks sc n mm) (hq : q.fl = .non) (hq1 : q1.fl = .non) (a : EvL (m + ks.length) ks sc q G vs q1 G1) (hl : vs.length = ks.length)
    (r : ∀ T X, T.length + 2 < BIG → ∃ d, mm [.ref 0, mkE op w i kids, sc, .ref (G1.length + 5)] (H q1 T X (G1 ++ [.lst vs])) = .ok d (H q2 (T ++ [bg e' sc']) X G2)) (b : Fl (m + ks.length + 2) e' sc' q2 G2 q3) : Fl (m + ks.length + 2) (mkE op w i kids) sc q G q3 := fun T Dn p z1 z2 => by
  obtain ⟨d, r⟩ := r T Dn (by omega)
  obtain ⟨T', Dn', G', t⟩ := b T Dn p z1 z2
  exact ⟨T', Dn', G', (O.begin hq (by omega)).trans ((a _ Dn (p.add pl_fi) (by rw [List.length_append, List.length_singleton]; omega) (by omega)).trans ((O.finish hq1 hl r).trans t))⟩
end
abbrev W : D := .tup [.str "int", .tup [], .int 0]
abbrev U : D := .tup [.str "unit", .tup [], .int 0]
abbrev RF : D := .tup [.str "ref", .tup [W], .int 0]
abbrev AR : D := .tup [.str "array", .tup [W], .int 0]
def intE (n : Int) : D := mkE "int" W (.int n) []
def nmE (k : D) (n : Str) : D := mkE "name" k (.str n) []
def Ix (G : MH) (s : Nat) (n : Str) (v : D) : Prop := ∃ kvs, G[s]? = some (.dic kvs) ∧ valD kvs (.inr n) = some v
section
variable {q : Q} {G : MH} {T Dn : List D} {sc kd v : D} {n : Int} {x : Str} {s : Nat}
theorem ev_int (hq : q.fl = .non) : Ev 2 (intE n) sc q G (.int n) q G := fun T Dn p z1 z2 => by
  refine To.step hq (do_begin (n := "_begin_literal") (mm := m__begin_literal) (d := .non) rfl rfl ?_)
  refine fnN_non (δ := [some (.ref 0), some (intE n), some sc]) rfl ?_
  exact gives rfl rfl ⟨_, _, _, _, rfl⟩ (show Dn.length < BIG by omega)
theorem at_H {i : Nat} : (H q T Dn G)[i + 5]? = G[i]? := rfl
theorem ix_H (hx : Ix G s x v) : opIx (.ref (s + 5)) (.str x) (H q T Dn G) = .ok v (H q T Dn G) := by
  obtain ⟨kvs, e1, e2⟩ := hx
  have : dG (.ref (s + 5)) (.str x) (H q T Dn G) = some (some v) := by
    have e3 : dic? (H q T Dn G) (s + 5) = some kvs := by unfold dic?; rw [at_H, e1]
    show (dic? (H q T Dn G) (s + 5)).bind (fun kvs => some (valD kvs (.inr x))) = _
    rw [e3, Option.bind_some, e2]
  unfold opIx
  rw [this]
theorem ev_nm (hq : q.fl = .non) (hx : Ix G s x v) : Ev 2 (nmE kd x) (.ref (s + 5)) q G v q G := fun T Dn p z1 z2 => by
  refine To.step hq (do_begin (n := "_begin_name") (mm := m__begin_name) (d := .non) rfl rfl ?_)
  refine fnN_non (δ := [some (.ref 0), some (nmE kd x), some (.ref (s + 5))]) rfl ?_
  exact gives rfl (ix_H hx) ⟨_, _, _, _, rfl⟩ (show Dn.length < BIG by omega)
end
end K18
namespace K18
open PySem PySem.Spec PyProof.Rows L2 MM
section
variable {q : Q} {G : MH} {T X Y ds : List D} {sc v x e : D} {i : Int} {p : Nat} {δ δ' : MS} {h : MH} {n : Nat} {gs : MGs}
theorem lst_H (e : G[p]? = some (.lst ds)) : lst? (H q T X G) (p + 5) = some ds := by unfold lst?; rw [at_H, e]
theorem Y_at : (G ++ [.lst Y])[G.length]? = some (.lst Y) := by simp
theorem ixl {j : Nat} (e : G[p]? = some (.lst ds)) (e2 : ds[j]? = some v) : opIx (.ref (p + 5)) (.int j) (H q T X G) = .ok v (H q T X G) := by
  refine opIx_of ?_
  rw [ixG_ref, lst_H e, Option.bind_some]
  exact atI_nat e2
theorem seq_at (e0 : mVar 3 δ h = .ok (.ref (p + 5)) h) (eh : h = H q T X G) (e : G[p]? = some (.lst ds)) (hl : ds.length = n) (eg : gs ds δ = some δ') : mAsgSeq n gs (mVar 3) δ h = .ok (.next δ') h := by
  subst eh
  unfold mAsgSeq
  rw [e0, R.st_ok]
  have : seqG (.ref (p + 5)) (H q T X G) = some ds := lst_H e
  simp only [this, if_pos hl, eg]
theorem e_ref (z : X.length + 2 < BIG) : m__end_ref [.ref 0, e, sc, .ref (G.length + 5)] (H q T X (G ++ [.lst Y])) = .ok .non (H q T (X ++ [.ref (G.length + 5)]) (G ++ [.lst Y])) := by
  refine fnN_non (δ := [some (.ref 0), some e, some sc, some (.ref (G.length + 5))]) rfl ?_
  exact gives rfl rfl ⟨_, _, _, _, rfl⟩ (show X.length < BIG by omega)
theorem e_seq {a b : D} (z : X.length + 2 < BIG) : m__end_seq [.ref 0, e, sc, .ref (G.length + 5)] (H q T X (G ++ [.lst [a, b]])) = .ok .non (H q T (X ++ [b]) (G ++ [.lst [a, b]])) := by
  refine fnN_non (δ := [some (.ref 0), some e, some sc, some (.ref (G.length + 5))]) rfl ?_
  exact gives rfl (ixl (j := 1) Y_at rfl) ⟨_, _, _, _, rfl⟩ (show X.length < BIG by omega)
theorem ap_at {o u : MO} (e : G[p]? = some o) : (G ++ [u])[p]? = some o := by
  rw [List.getElem?_append_left (List.getElem?_eq_some_iff.mp e).1, e]
theorem e_deref (hp : G[p]? = some (.lst [v])) (z : X.length + 2 < BIG) : m__end_deref [.ref 0, e, sc, .ref (G.length + 5)] (H q T X (G ++ [.lst [.ref (p + 5)]])) = .ok .non (H q T (X ++ [v]) (G ++ [.lst [.ref (p + 5)]])) := by
  refine fnN_non (δ := [some (.ref 0), some e, some sc, some (.ref (G.length + 5))]) rfl ?_
  refine gives (v := v) rfl ?_ ⟨_, _, _, _, rfl⟩ (show X.length < BIG by omega)
  have e1 : opIx (.ref (G.length + 5)) (.int 0) (H q T X (G ++ [.lst [.ref (p + 5)]])) = .ok (.ref (p + 5)) (H q T X (G ++ [.lst [.ref (p + 5)]])) := ixl (j := 0) Y_at rfl
  have e2 : opIx (.ref (p + 5)) (.int 0) (H q T X (G ++ [.lst [.ref (p + 5)]])) = .ok v (H q T X (G ++ [.lst [.ref (p + 5)]])) := ixl (j := 0) (ap_at hp) rfl
  show R.bnd (opIx (.ref (G.length + 5)) (.int 0) (H q T X (G ++ [.lst [.ref (p + 5)]]))) (fun x h1 => opIx x (.int 0) h1) = _
  rw [e1, R.bnd_ok, e2]
theorem set_ap {o u : MO} (z : p < G.length) : (G ++ [u]).set p o = G.set p o ++ [u] := List.set_append_left p o z
theorem set_H {o : MO} : (H q T X G).set (p + 5) o = H q T X (G.set p o) := rfl
theorem setg {j k : Nat} (hp : G[p]? = some (.lst ds)) (hk : j < ds.length) : setG2 (.ref (p + 5)) (.int j) v (H q T X G) = some (H q T X (G.set p (.lst (ds.set j v)))) := by
  have e1 : (H q T X G)[p + 5]? = some (.lst ds) := by rw [at_H, hp]
  unfold setG2
  simp only [e1]
  unfold setG
  simp only [lst_H hp, Option.bind_some]
  have : ixN ds.length (j : Int) = some j := by
    unfold ixN
    rw [if_pos (by omega), if_pos (by omega), Int.toNat_natCast]
  rw [this]; rfl
theorem e_set (hp : G[p]? = some (.lst [v])) (z : X.length + 2 < BIG) : m__end_set [.ref 0, e, sc, .ref (G.length + 5)] (H q T X (G ++ [.lst [.ref (p + 5), x]])) = .ok .non (H q T (X ++ [.non]) (G.set p (.lst [x]) ++ [.lst [.ref (p + 5), x]])) := by
  refine fnN_non (δ := [some (.ref 0), some e, some sc, some (.ref (G.length + 5)), some (.ref (p + 5)), some x]) rfl ?_
  show b__end_set [some (.ref 0), some e, some sc, some (.ref (G.length + 5)), none, none] _ = _
  unfold b__end_set
  rw [mSeq_eq, seq_at (q := q) (T := T) (X := X) (n := 2) (ds := [.ref (p + 5), x]) (δ' := [some (.ref 0), some e, some sc, some (.ref (G.length + 5)), some (.ref (p + 5)), some x]) rfl rfl Y_at rfl rfl, SR.seq_next, mSeq_eq]
  have e1 : setG2 (.ref (p + 5)) (.int 0) x (H q T X (G ++ [.lst [.ref (p + 5), x]])) = some (H q T X (G.set p (.lst [x]) ++ [.lst [.ref (p + 5), x]])) := by
    rw [← set_ap (List.getElem?_eq_some_iff.mp hp).1]
    exact setg (j := 0) (k := 0) (ap_at hp) (by simp)
  have e2 : mSetIx2 (mVar 5) (mVar 4) (mC (.int 0)) [some (.ref 0), some e, some sc, some (.ref (G.length + 5)), some (.ref (p + 5)), some x] (H q T X (G ++ [.lst [.ref (p + 5), x]])) = .ok (.next [some (.ref 0), some e, some sc, some (.ref (G.length + 5)), some (.ref (p + 5)), some x]) (H q T X (G.set p (.lst [x]) ++ [.lst [.ref (p + 5), x]])) := by
    show (match setG2 (.ref (p + 5)) (.int 0) x (H q T X (G ++ [.lst [.ref (p + 5), x]])) with | some h4 => SR.ok (.next _) h4 | none => .stuck) = _
    rw [e1]
  rw [e2, SR.seq_next]
  exact gives rfl rfl ⟨_, _, _, _, rfl⟩ (show X.length < BIG by omega)
theorem e_print (zo : q.outs.length < BIG) (z : X.length + 2 < BIG) : m__end_print [.ref 0, e, sc, .ref (G.length + 5)] (H q T X (G ++ [.lst [v]])) = .ok .non (H { q with outs := q.outs ++ [v] } T (X ++ [.non]) (G ++ [.lst [v]])) := by
  refine fnN_non (δ := [some (.ref 0), some e, some sc, some (.ref (G.length + 5))]) rfl ?_
  show b__end_print [some (.ref 0), some e, some sc, some (.ref (G.length + 5))] _ = _
  unfold b__end_print
  have e1 : opIx (.ref (G.length + 5)) (.int 0) (H q T X (G ++ [.lst [v]])) = .ok v (H q T X (G ++ [.lst [v]])) := ixl (j := 0) Y_at rfl
  have e2 : mDrop (mMtd "list" fAppend (mFld ["Outcome"] "outs" (mFld ["Evaluation"] "outcome" (mVar 0))) (mCons (mOp opIx (mVar 3) (mC (.int 0))) (mNil))) [some (.ref 0), some e, some sc, some (.ref (G.length + 5))] (H q T X (G ++ [.lst [v]])) = .ok (.next [some (.ref 0), some e, some sc, some (.ref (G.length + 5))]) (H { q with outs := q.outs ++ [v] } T X (G ++ [.lst [v]])) := by
    show R.st (R.bnd (R.bnd (opIx (.ref (G.length + 5)) (.int 0) (H q T X (G ++ [.lst [v]]))) fun d h1 => .ok [d] h1) fun ds h2 => fAppend (.ref 2) ds h2) _ _ = _
    rw [e1, R.bnd_ok, R.bnd_ok, push_O zo]; rfl
  rw [mSeq_eq, e2, SR.seq_next]
  exact gives rfl rfl ⟨_, _, _, _, rfl⟩ (show X.length < BIG by omega)
theorem e_len (hp : G[p]? = some (.lst ds)) (z : X.length + 2 < BIG) : m__end_len [.ref 0, e, sc, .ref (G.length + 5)] (H q T X (G ++ [.lst [.ref (p + 5)]])) = .ok .non (H q T (X ++ [.int ds.length]) (G ++ [.lst [.ref (p + 5)]])) := by
  refine fnN_non (δ := [some (.ref 0), some e, some sc, some (.ref (G.length + 5))]) rfl ?_
  refine gives (v := .int ds.length) rfl ?_ ⟨_, _, _, _, rfl⟩ (show X.length < BIG by omega)
  have e1 : opIx (.ref (G.length + 5)) (.int 0) (H q T X (G ++ [.lst [.ref (p + 5)]])) = .ok (.ref (p + 5)) (H q T X (G ++ [.lst [.ref (p + 5)]])) := ixl (j := 0) Y_at rfl
  have e2 : fLen [.ref (p + 5)] (H q T X (G ++ [.lst [.ref (p + 5)]])) = .ok (.int ds.length) (H q T X (G ++ [.lst [.ref (p + 5)]])) := fLen_ref (lst_H (ap_at hp))
  show R.bnd (R.bnd (opIx (.ref (G.length + 5)) (.int 0) (H q T X (G ++ [.lst [.ref (p + 5)]]))) (fun d h1 => .ok [d] h1)) fLen = _
  rw [e1, R.bnd_ok, R.bnd_ok, e2]
def rng (i : Int) (n : Nat) : Bool := decide (0 ≤ i) && decide (i < n)
theorem chain_in {δ : MS} {h : MH} {hi : ME} {y : ME} (ey : y δ h = .ok (.int i) h) (eh : hi δ h = .ok (.int n) h) : mNot (mB (mChain opLe opLt (mC (.int 0)) y hi)) δ h = .ok (!(rng i n)) h := by
  rw [mNot_eq, mB_eq, mChain_eq, mC_eq, R.bnd_ok, ey, R.bnd_ok, opLe_int, R.bnd_ok, isB_eq, R.bnd_ok]
  unfold rng
  by_cases c : 0 ≤ i
  · rw [decide_eq_true c, if_pos rfl, eh, R.bnd_ok, opLt_int, R.bnd_ok, isB_eq, R.bnd_ok]
    by_cases c2 : i < n
    · rw [decide_eq_true c2]; rfl
    · rw [decide_eq_false c2]; rfl
  · rw [decide_eq_false c, if_neg Bool.false_ne_true, R.bnd_ok, isB_eq, R.bnd_ok]; rfl
theorem at_in {row : List Int} {h : MH} (hr : rng i row.length = true) (el : lst? h n = some (row.map D.int)) : opIx (.ref n) (.int i) h = .ok (.int (row.getD i.toNat 0)) h := by
  unfold rng at hr
  rw [Bool.and_eq_true] at hr
  have c1 := of_decide_eq_true hr.1
  have c2 := of_decide_eq_true hr.2
  refine opIx_of ?_
  rw [ixG_ref, el, Option.bind_some]
  refine atI_ok c1 ?_
  rw [List.getElem?_map, List.getD_eq_getElem?_getD, List.getElem?_eq_getElem (by omega)]
  rfl
theorem e_at {row : List Int} (hr : rng i row.length = true) (hp : G[p]? = some (.lst (row.map D.int))) (z : X.length + 2 < BIG) : m__end_at [.ref 0, e, sc, .ref (G.length + 5)] (H q T X (G ++ [.lst [.ref (p + 5), .int i]])) = .ok .non (H q T (X ++ [.int (row.getD i.toNat 0)]) (G ++ [.lst [.ref (p + 5), .int i]])) := by
  refine fnN_non (δ := [some (.ref 0), some e, some sc, some (.ref (G.length + 5)), some (.ref (p + 5)), some (.int i)]) rfl ?_
  show b__end_at [some (.ref 0), some e, some sc, some (.ref (G.length + 5)), none, none] _ = _
  unfold b__end_at
  have el : fLen [.ref (p + 5)] (H q T X (G ++ [.lst [.ref (p + 5), .int i]])) = .ok (.int row.length) (H q T X (G ++ [.lst [.ref (p + 5), .int i]])) := by
    rw [fLen_ref (lst_H (ap_at hp)), List.length_map]
  have eh : mCall fLen (mCons (mVar 4) (mNil)) [some (.ref 0), some e, some sc, some (.ref (G.length + 5)), some (.ref (p + 5)), some (.int i)] (H q T X (G ++ [.lst [.ref (p + 5), .int i]])) = .ok (.int row.length) (H q T X (G ++ [.lst [.ref (p + 5), .int i]])) := el
  rw [mSeq_eq, seq_at (q := q) (T := T) (X := X) (n := 2) (ds := [.ref (p + 5), .int i]) (δ' := [some (.ref 0), some e, some sc, some (.ref (G.length + 5)), some (.ref (p + 5)), some (.int i)]) rfl rfl Y_at rfl rfl, SR.seq_next, mIfS_eq, chain_in rfl eh, hr, R.st_ok]
  exact gives rfl (at_in hr (lst_H (ap_at hp))) ⟨_, _, _, _, rfl⟩ (show X.length < BIG by omega)
theorem e_put {row : List Int} {y : Int} (hr : rng i row.length = true) (hp : G[p]? = some (.lst (row.map D.int))) (z : X.length + 2 < BIG) : m__end_put [.ref 0, e, sc, .ref (G.length + 5)] (H q T X (G ++ [.lst [.ref (p + 5), .int i, .int y]])) = .ok .non (H q T (X ++ [.non]) (G.set p (.lst ((row.set i.toNat y).map D.int)) ++ [.lst [.ref (p + 5), .int i, .int y]])) := by
  refine fnN_non (δ := [some (.ref 0), some e, some sc, some (.ref (G.length + 5)), some (.ref (p + 5)), some (.int i), some (.int y)]) rfl ?_
  show b__end_put [some (.ref 0), some e, some sc, some (.ref (G.length + 5)), none, none, none] _ = _
  unfold b__end_put
  have el : fLen [.ref (p + 5)] (H q T X (G ++ [.lst [.ref (p + 5), .int i, .int y]])) = .ok (.int row.length) (H q T X (G ++ [.lst [.ref (p + 5), .int i, .int y]])) := by
    rw [fLen_ref (lst_H (ap_at hp)), List.length_map]
  have eh : mCall fLen (mCons (mVar 4) (mNil)) [some (.ref 0), some e, some sc, some (.ref (G.length + 5)), some (.ref (p + 5)), some (.int i), some (.int y)] (H q T X (G ++ [.lst [.ref (p + 5), .int i, .int y]])) = .ok (.int row.length) (H q T X (G ++ [.lst [.ref (p + 5), .int i, .int y]])) := el
  have hr' := hr
  unfold rng at hr'
  rw [Bool.and_eq_true] at hr'
  have c1 := of_decide_eq_true hr'.1
  have c2 := of_decide_eq_true hr'.2
  obtain ⟨j, ej⟩ := Int.eq_ofNat_of_zero_le c1
  have e1 : setG2 (.ref (p + 5)) (.int i) (.int y) (H q T X (G ++ [.lst [.ref (p + 5), .int i, .int y]])) = some (H q T X (G.set p (.lst ((row.set i.toNat y).map D.int)) ++ [.lst [.ref (p + 5), .int i, .int y]])) := by
    have := setg (q := q) (T := T) (X := X) (v := .int y) (j := j) (k := 0) (ap_at (u := .lst [.ref (p + 5), .int i, .int y]) hp) (by rw [List.length_map]; omega)
    rw [set_ap (List.getElem?_eq_some_iff.mp hp).1, ← ej] at this
    rw [this, List.map_set, show i.toNat = j by omega]
  have e2 : mSetIx2 (mVar 6) (mVar 4) (mVar 5) [some (.ref 0), some e, some sc, some (.ref (G.length + 5)), some (.ref (p + 5)), some (.int i), some (.int y)] (H q T X (G ++ [.lst [.ref (p + 5), .int i, .int y]])) = .ok (.next [some (.ref 0), some e, some sc, some (.ref (G.length + 5)), some (.ref (p + 5)), some (.int i), some (.int y)]) (H q T X (G.set p (.lst ((row.set i.toNat y).map D.int)) ++ [.lst [.ref (p + 5), .int i, .int y]])) := by
    show (match setG2 (.ref (p + 5)) (.int i) (.int y) (H q T X (G ++ [.lst [.ref (p + 5), .int i, .int y]])) with | some h4 => SR.ok (.next _) h4 | none => .stuck) = _
    rw [e1]
  rw [mSeq_eq, seq_at (q := q) (T := T) (X := X) (n := 3) (ds := [.ref (p + 5), .int i, .int y]) (δ' := [some (.ref 0), some e, some sc, some (.ref (G.length + 5)), some (.ref (p + 5)), some (.int i), some (.int y)]) rfl rfl Y_at rfl rfl, SR.seq_next, mIfS_eq, chain_in rfl eh, hr, R.st_ok]
  show SR.seq (mSetIx2 (mVar 6) (mVar 4) (mVar 5) _ _) _ = _
  rw [e2, SR.seq_next]
  exact gives rfl rfl ⟨_, _, _, _, rfl⟩ (show X.length < BIG by omega)
theorem unwind {n : Int} {y : D} : ∀ (k : Nat) (T : List D) (x3 x4 x5 : Option D), T.length = k → Pl T → ∃ y3 y4 y5, mWhile (mTru (mFld ["Evaluation"] "tasks" (mVar 0))) (b_Evaluation_throw_2) [some (.ref 0), some (.int n), some y, x3, x4, x5, none, none, none, none, none] (H q T X G) = .ok (.next [some (.ref 0), some (.int n), some y, y3, y4, y5, none, none, none, none, none]) (H q [] X G)
  | 0, T, x3, x4, x5, hl, _ => by
    have : T = [] := List.length_eq_zero_iff.mp hl
    subst this
    exact ⟨x3, x4, x5, mWhile_end (h1 := H q [] X G) rfl⟩
  | k + 1, T, x3, x4, x5, hl, p => by
    have ne : T ≠ [] := fun z => by rw [z] at hl; cases hl
    obtain ⟨T0, t, rfl⟩ : ∃ T0 t, T = T0 ++ [t] := ⟨T.dropLast, T.getLast ne, (List.dropLast_concat_getLast ne).symm⟩
    obtain ⟨w, e', s, rfl, nw⟩ := p t (by simp)
    have hl : T0.length = k := by rw [List.length_append, List.length_singleton] at hl; omega
    obtain ⟨y3, y4, y5, ih⟩ := unwind k T0 (some (.str w)) (some e') (some s) hl fun t ht => p t (List.mem_append_left _ ht)
    refine ⟨y3, y4, y5, mWhile_next (h1 := H q (T0 ++ [.tup [.str w, e', s]]) X G) (δ2 := [some (.ref 0), some (.int n), some y, some (.str w), some e', some s, none, none, none, none, none]) (h2 := H q T0 X G) ?_ ?_ ih (fun z => by cases z)⟩
    · show R.bnd (R.ok (D.ref 3) (H q (T0 ++ [.tup [.str w, e', s]]) X G)) truD = _
      rw [R.bnd_ok, truD_ref T_at]; simp
    · unfold b_Evaluation_throw_2
      have p1 : mAsgSeq 3 (mgCons (mgName 3) (mgCons (mgName 4) (mgCons (mgName 5) (mgNil)))) (mMtd "list" fPop (mFld ["Evaluation"] "tasks" (mVar 0)) mNil) [some (.ref 0), some (.int n), some y, x3, x4, x5, none, none, none, none, none] (H q (T0 ++ [.tup [.str w, e', s]]) X G) = .ok (.next [some (.ref 0), some (.int n), some y, some (.str w), some e', some s, none, none, none, none, none]) (H q T0 X G) := by
        show R.st (fPop (.ref 3) [] (H q (T0 ++ [.tup [.str w, e', s]]) X G)) _ _ = _
        rw [pop_T]; rfl
      rw [mSeq_eq, p1, SR.seq_next]
      have e1 : opEq (.str w) (.str "handler") (H q T0 X G) = .ok (.bl false) (H q T0 X G) := by
        rw [opEq_str, decide_eq_false nw]
      show R.st (R.bnd (opEq (.str w) (.str "handler") (H q T0 X G)) isB) _ _ = _
      rw [e1]; rfl
def rais (x : Str) (i : Int) : D := .tup [.str "raised", .str x, .int i]
theorem throw_ok (p : Pl T) : m_Evaluation_throw [.ref 0, .int 1, .int i] (H q T X G) = .ok .non (H { q with fl := rais "Index" i } [] X G) := by
  obtain ⟨y3, y4, y5, u⟩ := unwind (q := q) (G := G) (X := X) (n := 1) (y := .int i) T.length T none none none rfl p
  refine fnN_non (δ := [some (.ref 0), some (.int 1), some (.int i), y3, y4, y5, none, none, none, none, none]) rfl ?_
  show b_Evaluation_throw [some (.ref 0), some (.int 1), some (.int i), none, none, none, none, none, none, none, none] _ = _
  unfold b_Evaluation_throw
  rw [mSeq_eq, u, SR.seq_next]
  rfl
theorem x_at {row : List Int} (pl : Pl T) (hr : rng i row.length = false) (hp : G[p]? = some (.lst (row.map D.int))) : m__end_at [.ref 0, e, sc, .ref (G.length + 5)] (H q T X (G ++ [.lst [.ref (p + 5), .int i]])) = .ok .non (H { q with fl := rais "Index" i } [] X (G ++ [.lst [.ref (p + 5), .int i]])) := by
  refine fnN_non (δ := [some (.ref 0), some e, some sc, some (.ref (G.length + 5)), some (.ref (p + 5)), some (.int i)]) rfl ?_
  show b__end_at [some (.ref 0), some e, some sc, some (.ref (G.length + 5)), none, none] _ = _
  unfold b__end_at
  have el : fLen [.ref (p + 5)] (H q T X (G ++ [.lst [.ref (p + 5), .int i]])) = .ok (.int row.length) (H q T X (G ++ [.lst [.ref (p + 5), .int i]])) := by
    rw [fLen_ref (lst_H (ap_at hp)), List.length_map]
  have eh : mCall fLen (mCons (mVar 4) (mNil)) [some (.ref 0), some e, some sc, some (.ref (G.length + 5)), some (.ref (p + 5)), some (.int i)] (H q T X (G ++ [.lst [.ref (p + 5), .int i]])) = .ok (.int row.length) (H q T X (G ++ [.lst [.ref (p + 5), .int i]])) := el
  rw [mSeq_eq, seq_at (q := q) (T := T) (X := X) (n := 2) (ds := [.ref (p + 5), .int i]) (δ' := [some (.ref 0), some e, some sc, some (.ref (G.length + 5)), some (.ref (p + 5)), some (.int i)]) rfl rfl Y_at rfl rfl, SR.seq_next, mIfS_eq, chain_in rfl eh, hr, R.st_ok]
  show R.st (if isI "Evaluation" "throw" (.ref 0) (H q T X (G ++ [.lst [.ref (p + 5), .int i]])) = true then m_Evaluation_throw [.ref 0, .int 1, .int i] (H q T X (G ++ [.lst [.ref (p + 5), .int i]])) else .stuck) _ _ = _
  rw [if_pos (isE "throw" rfl), throw_ok pl]; rfl
theorem x_put {row : List Int} {y : Int} (pl : Pl T) (hr : rng i row.length = false) (hp : G[p]? = some (.lst (row.map D.int))) : m__end_put [.ref 0, e, sc, .ref (G.length + 5)] (H q T X (G ++ [.lst [.ref (p + 5), .int i, .int y]])) = .ok .non (H { q with fl := rais "Index" i } [] X (G ++ [.lst [.ref (p + 5), .int i, .int y]])) := by
  refine fnN_non (δ := [some (.ref 0), some e, some sc, some (.ref (G.length + 5)), some (.ref (p + 5)), some (.int i), some (.int y)]) rfl ?_
  show b__end_put [some (.ref 0), some e, some sc, some (.ref (G.length + 5)), none, none, none] _ = _
  unfold b__end_put
  have el : fLen [.ref (p + 5)] (H q T X (G ++ [.lst [.ref (p + 5), .int i, .int y]])) = .ok (.int row.length) (H q T X (G ++ [.lst [.ref (p + 5), .int i, .int y]])) := by
    rw [fLen_ref (lst_H (ap_at hp)), List.length_map]
  have eh : mCall fLen (mCons (mVar 4) (mNil)) [some (.ref 0), some e, some sc, some (.ref (G.length + 5)), some (.ref (p + 5)), some (.int i), some (.int y)] (H q T X (G ++ [.lst [.ref (p + 5), .int i, .int y]])) = .ok (.int row.length) (H q T X (G ++ [.lst [.ref (p + 5), .int i, .int y]])) := el
  rw [mSeq_eq, seq_at (q := q) (T := T) (X := X) (n := 3) (ds := [.ref (p + 5), .int i, .int y]) (δ' := [some (.ref 0), some e, some sc, some (.ref (G.length + 5)), some (.ref (p + 5)), some (.int i), some (.int y)]) rfl rfl Y_at rfl rfl, SR.seq_next, mIfS_eq, chain_in rfl eh, hr, R.st_ok]
  show R.st (if isI "Evaluation" "throw" (.ref 0) (H q T X (G ++ [.lst [.ref (p + 5), .int i, .int y]])) = true then m_Evaluation_throw [.ref 0, .int 1, .int i] (H q T X (G ++ [.lst [.ref (p + 5), .int i, .int y]])) else .stuck) _ _ = _
  rw [if_pos (isE "throw" rfl), throw_ok pl]; rfl
end
end K18
namespace K18
open PySem PySem.Spec PyProof.Rows L2 MM
structure Sx where
  A : Int
  B : Int
  row : List Int
  outs : List Int
structure Dd where
  k : Nat
  w : Nat
  i : Int
  v : Int
inductive Ot where
  | ok (s : Sx)
  | idx (i : Int) (outs : List Int)
def kp (s : Sx) (w : Nat) : Int := if w % 2 = 0 then s.A else s.B
def setK (s : Sx) (w : Nat) (v : Int) : Sx := if w % 2 = 0 then { s with A := v } else { s with B := v }
def stp (s : Sx) (d : Dd) : Ot := match d.k with
  | 0 => .ok (setK s d.w d.v)
  | 1 => .ok { s with outs := s.outs ++ [kp s d.w] }
  | 2 => if rng d.i s.row.length = true then .ok { s with row := s.row.set d.i.toNat d.v } else .idx d.i s.outs
  | 3 => if rng d.i s.row.length = true then .ok { s with outs := s.outs ++ [s.row.getD d.i.toNat 0] } else .idx d.i s.outs
  | 4 => .ok { s with outs := s.outs ++ [(s.row.length : Int)] }
  | _ => if rng d.i s.row.length = true then .ok (setK s d.w (s.row.getD d.i.toNat 0)) else .idx d.i s.outs
def kn (w : Nat) : Str := ["a", "b", "c", "d"].getD w "a"
def rn (w : Nat) : Str := ["v", "w", "v", "w"].getD w "v"
def prE (x : D) : D := mkE "print" U .non [x]
def dE (d : Dd) : D := match d.k with
  | 0 => mkE "set" U .non [nmE RF (kn d.w), intE d.v]
  | 1 => prE (mkE "deref" W .non [nmE RF (kn d.w)])
  | 2 => mkE "put" U .non [nmE AR (rn d.w), intE d.i, intE d.v]
  | 3 => prE (mkE "at" W .non [nmE AR (rn d.w), intE d.i])
  | 4 => prE (mkE "len" W .non [nmE AR (rn d.w)])
  | _ => mkE "set" U .non [nmE RF (kn d.w), mkE "at" W .non [nmE AR (rn d.w), intE d.i]]
structure Cs (pa pb pv : Nat) (s : Sx) (G : MH) : Prop where
  a : G[pa]? = some (.lst [.int s.A])
  b : G[pb]? = some (.lst [.int s.B])
  v : G[pv]? = some (.lst (s.row.map D.int))
  ab : pa ≠ pb
  av : pa ≠ pv
  bv : pb ≠ pv
def kpos (pa pb w : Nat) : Nat := if w % 2 = 0 then pa else pb
structure Scp (pa pb pv s : Nat) (G : MH) : Prop where
  k : ∀ w, w < 4 → Ix G s (kn w) (.ref (kpos pa pb w + 5))
  r : ∀ w, w < 4 → Ix G s (rn w) (.ref (pv + 5))
def Kp (G G' : MH) : Prop := ∀ (i : Nat) kvs, G[i]? = some (.dic kvs) → G'[i]? = some (.dic kvs)
section
variable {pa pb pv sN : Nat} {s s' : Sx} {G G' G2 : MH} {w : Nat} {u : MO} {v : D}
theorem Kp.refl : Kp G G := fun _ _ e => e
theorem Kp.trans (a : Kp G G') (b : Kp G' G2) : Kp G G2 := fun i k e => b i k (a i k e)
theorem Kp.app : Kp G (G ++ [u]) := fun i k e => ap_at e
theorem Kp.set {ds es : List D} {p : Nat} (e : G[p]? = some (.lst ds)) : Kp G (G.set p (.lst es)) := fun i k e' => by
  have : p ≠ i := fun z => by subst z; rw [e] at e'; cases e'
  rw [List.getElem?_set_ne this, e']
theorem Kp.ix (k : Kp G G') {x : Str} (h : Ix G sN x v) : Ix G' sN x v := let ⟨kvs, a, b⟩ := h; ⟨kvs, k _ _ a, b⟩
theorem Kp.scp (k : Kp G G') (h : Scp pa pb pv sN G) : Scp pa pb pv sN G' := ⟨fun w hw => k.ix (h.k w hw), fun w hw => k.ix (h.r w hw)⟩
theorem Cs.app (c : Cs pa pb pv s G) : Cs pa pb pv s (G ++ [u]) := ⟨ap_at c.a, ap_at c.b, ap_at c.v, c.ab, c.av, c.bv⟩
theorem Cs.kat (c : Cs pa pb pv s G) : G[kpos pa pb w]? = some (.lst [.int (kp s w)]) := by
  unfold kpos kp
  split
  · exact c.a
  · exact c.b
theorem set_self {p : Nat} {o u : MO} (e : G[p]? = some o) : (G.set p u)[p]? = some u := List.getElem?_set_self (List.getElem?_eq_some_iff.mp e).1
theorem Cs.setK (c : Cs pa pb pv s G) {x : Int} : Cs pa pb pv (setK s w x) (G.set (kpos pa pb w) (.lst [.int x])) := by
  unfold kpos K18.setK
  split
  · exact ⟨set_self c.a, by rw [List.getElem?_set_ne c.ab]; exact c.b, by rw [List.getElem?_set_ne c.av]; exact c.v, c.ab, c.av, c.bv⟩
  · exact ⟨by rw [List.getElem?_set_ne c.ab.symm]; exact c.a, set_self c.b, by rw [List.getElem?_set_ne c.bv]; exact c.v, c.ab, c.av, c.bv⟩
theorem Cs.setR (c : Cs pa pb pv s G) {r : List Int} : Cs pa pb pv { s with row := r } (G.set pv (.lst (r.map D.int))) :=
  ⟨by rw [List.getElem?_set_ne c.av.symm]; exact c.a, by rw [List.getElem?_set_ne c.bv.symm]; exact c.b, set_self c.v, c.ab, c.av, c.bv⟩
theorem Cs.outs (c : Cs pa pb pv s G) {o : List Int} : Cs pa pb pv { s with outs := o } G := ⟨c.a, c.b, c.v, c.ab, c.av, c.bv⟩
end
section
variable {w i a b c sc : D}
theorem op_set : OpR "set" w i [a, b] [a, b] sc "_end_set" m__end_set := ⟨fun _ _ _ _ => rfl, fun _ _ _ _ => rfl, fun _ _ _ _ => rfl, rfl, fun _ _ _ _ => rfl⟩
theorem op_seq : OpR "seq" w i [a, b] [a, b] sc "_end_seq" m__end_seq := ⟨fun _ _ _ _ => rfl, fun _ _ _ _ => rfl, fun _ _ _ _ => rfl, rfl, fun _ _ _ _ => rfl⟩
theorem op_at : OpR "at" w i [a, b] [a, b] sc "_end_at" m__end_at := ⟨fun _ _ _ _ => rfl, fun _ _ _ _ => rfl, fun _ _ _ _ => rfl, rfl, fun _ _ _ _ => rfl⟩
theorem op_array : OpR "array" w i [a, b] [a, b] sc "_end_array" m__end_array := ⟨fun _ _ _ _ => rfl, fun _ _ _ _ => rfl, fun _ _ _ _ => rfl, rfl, fun _ _ _ _ => rfl⟩
theorem op_put : OpR "put" w i [a, b, c] [a, b, c] sc "_end_put" m__end_put := ⟨fun _ _ _ _ => rfl, fun _ _ _ _ => rfl, fun _ _ _ _ => rfl, rfl, fun _ _ _ _ => rfl⟩
theorem op_print : OpR "print" w i [a] [a] sc "_end_print" m__end_print := ⟨fun _ _ _ _ => rfl, fun _ _ _ _ => rfl, fun _ _ _ _ => rfl, rfl, fun _ _ _ _ => rfl⟩
theorem op_deref : OpR "deref" w i [a] [a] sc "_end_deref" m__end_deref := ⟨fun _ _ _ _ => rfl, fun _ _ _ _ => rfl, fun _ _ _ _ => rfl, rfl, fun _ _ _ _ => rfl⟩
theorem op_len : OpR "len" w i [a] [a] sc "_end_len" m__end_len := ⟨fun _ _ _ _ => rfl, fun _ _ _ _ => rfl, fun _ _ _ _ => rfl, rfl, fun _ _ _ _ => rfl⟩
theorem op_ref : OpR "ref" w i [a] [a] sc "_end_ref" m__end_ref := ⟨fun _ _ _ _ => rfl, fun _ _ _ _ => rfl, fun _ _ _ _ => rfl, rfl, fun _ _ _ _ => rfl⟩
theorem op_let : OpR "let" w i [a, b] [a] sc "_end_let" m__end_let := ⟨fun _ _ _ _ => rfl, fun _ _ _ _ => rfl, fun _ _ _ _ => rfl, rfl, fun _ _ _ _ => rfl⟩
end
def qa (fs : D) (f tk : Int) (outs : List Int) : Q := ⟨fs, f, tk, outs.map D.int, .non, .int 0⟩
def qf (fs : D) (f tk : Int) (outs : List Int) (fl : D) : Q := ⟨fs, f, tk, outs.map D.int, fl, .int 0⟩
def Run (fs : D) (f : Int) (pa pb pv m : Nat) (e sc : D) (tk : Int) (s : Sx) (G : MH) (tk' : Int) : Ot → Prop
  | .ok s' => ∃ G', Ev m e sc (qa fs f tk s.outs) G .non (qa fs f tk' s'.outs) G' ∧ Cs pa pb pv s' G' ∧ Kp G G'
  | .idx i outs => Fl m e sc (qa fs f tk s.outs) G (qf fs f tk' outs (rais "Index" i))
section
variable {fs : D} {f tk : Int} {pa pb pv sN : Nat} {s : Sx} {G : MH} {d : Dd}
theorem ev_at (c : Cs pa pb pv s G) (sp : Scp pa pb pv sN G) (hw : d.w < 4) (hr : rng d.i s.row.length = true) : Ev 6 (mkE "at" W .non [nmE AR (rn d.w), intE d.i]) (.ref (sN + 5)) (qa fs f tk s.outs) G (.int (s.row.getD d.i.toNat 0)) (qa fs f tk s.outs) (G ++ [.lst [.ref (pv + 5), .int d.i]]) :=
  ev_op (m := 2) op_at rfl rfl (EvL.cons (m := 2) (ev_nm rfl (sp.r _ hw)) (EvL.cons (m := 2) (ev_int rfl) EvL.nil)) rfl fun T X p z1 z2 => ⟨_, e_at hr c.v z2⟩
theorem fl_at (c : Cs pa pb pv s G) (sp : Scp pa pb pv sN G) (hw : d.w < 4) (hr : rng d.i s.row.length = false) : Fl 6 (mkE "at" W .non [nmE AR (rn d.w), intE d.i]) (.ref (sN + 5)) (qa fs f tk s.outs) G (qf fs f tk s.outs (rais "Index" d.i)) :=
  fl_end (m := 2) op_at rfl rfl (EvL.cons (m := 2) (ev_nm rfl (sp.r _ hw)) (EvL.cons (m := 2) (ev_int rfl) EvL.nil)) rfl fun T X p => ⟨_, _, _, _, x_at p hr c.v⟩
theorem ev_print {x : D} {v : Int} {G1 : MH} (a : Ev 6 x (.ref (sN + 5)) (qa fs f tk s.outs) G (.int v) (qa fs f tk s.outs) G1) (zo : s.outs.length < BIG) : Ev 10 (prE x) (.ref (sN + 5)) (qa fs f tk s.outs) G .non (qa fs f tk (s.outs ++ [v])) (G1 ++ [.lst [.int v]]) := by
  refine (ev_op (m := 6) (q2 := qa fs f tk (s.outs ++ [v])) (op_print (w := U) (i := .non)) rfl rfl (EvL.cons (m := 6) a EvL.nil) rfl fun T X p z1 z2 => ⟨.non, ?_⟩).mono (Nat.le_of_ble_eq_true rfl)
  have := e_print (e := mkE "print" U .non [x]) (sc := .ref (sN + 5)) (q := qa fs f tk s.outs) (T := T) (X := X) (G := G1) (v := .int v) (by show (s.outs.map D.int).length < BIG; rw [List.length_map]; exact zo) z2
  rw [this]
  unfold qa
  rw [List.map_append]; rfl
theorem deed_ok (c : Cs pa pb pv s G) (sp : Scp pa pb pv sN G) (hk : d.k < 6) (hw : d.w < 4) (zo : s.outs.length < BIG) : Run fs f pa pb pv 14 (dE d) (.ref (sN + 5)) tk s G tk (stp s d) := by
  obtain ⟨k, w, i, v⟩ := d
  have hw : w < 4 := hw
  match k, hk with
  | 0, _ =>
    refine ⟨G.set (kpos pa pb w) (.lst [.int v]) ++ [.lst [.ref (kpos pa pb w + 5), .int v]], ?_, c.setK.app, (Kp.set c.kat).trans Kp.app⟩
    have : (setK s w v).outs = s.outs := by unfold setK; split <;> rfl
    show Ev 14 _ _ _ _ _ (qa fs f tk (setK s w v).outs) _
    rw [this]
    exact (ev_op (m := 2) op_set rfl rfl (EvL.cons (m := 2) (ev_nm rfl (sp.k _ hw)) (EvL.cons (m := 2) (ev_int rfl) EvL.nil)) rfl fun T X p z1 z2 => ⟨_, e_set c.kat z2⟩).mono (Nat.le_of_ble_eq_true rfl)
  | 1, _ =>
    refine ⟨G ++ [.lst [.ref (kpos pa pb w + 5)]] ++ [.lst [.int (kp s w)]], ?_, c.app.app.outs, Kp.app.trans Kp.app⟩
    exact (ev_print ((ev_op (m := 2) op_deref rfl rfl (EvL.cons (m := 2) (ev_nm rfl (sp.k _ hw)) EvL.nil) rfl fun T X p z1 z2 => ⟨_, e_deref c.kat z2⟩).mono (Nat.le_of_ble_eq_true rfl)) zo).mono (Nat.le_of_ble_eq_true rfl)
  | 2, _ =>
    by_cases hr : rng i s.row.length = true
    · have es : stp s ⟨2, w, i, v⟩ = .ok { s with row := s.row.set i.toNat v } := if_pos hr
      rw [es]
      refine ⟨G.set pv (.lst ((s.row.set i.toNat v).map D.int)) ++ [.lst [.ref (pv + 5), .int i, .int v]], ?_, c.setR.app, (Kp.set c.v).trans Kp.app⟩
      exact (ev_op (m := 2) op_put rfl rfl (EvL.cons (m := 2) (ev_nm rfl (sp.r _ hw)) (EvL.cons (m := 2) (ev_int rfl) (EvL.cons (m := 2) (ev_int rfl) EvL.nil))) rfl fun T X p z1 z2 => ⟨_, e_put hr c.v z2⟩).mono (Nat.le_of_ble_eq_true rfl)
    · have es : stp s ⟨2, w, i, v⟩ = .idx i s.outs := if_neg hr
      rw [es]
      exact (fl_end (m := 2) op_put rfl rfl (EvL.cons (m := 2) (ev_nm rfl (sp.r _ hw)) (EvL.cons (m := 2) (ev_int rfl) (EvL.cons (m := 2) (ev_int rfl) EvL.nil))) rfl fun T X p => ⟨_, _, _, _, x_put p (by simpa using hr) c.v⟩).mono (Nat.le_of_ble_eq_true rfl)
  | 3, _ =>
    by_cases hr : rng i s.row.length = true
    · have es : stp s ⟨3, w, i, v⟩ = .ok { s with outs := s.outs ++ [s.row.getD i.toNat 0] } := if_pos hr
      rw [es]
      exact ⟨_, (ev_print (ev_at (d := ⟨3, w, i, v⟩) c sp hw hr) zo).mono (Nat.le_of_ble_eq_true rfl), c.app.app.outs, Kp.app.trans Kp.app⟩
    · have es : stp s ⟨3, w, i, v⟩ = .idx i s.outs := if_neg hr
      rw [es]
      exact (fl_op (m := 6) op_print rfl (FlL.head (m := 6) (fl_at (d := ⟨3, w, i, v⟩) c sp hw (by simpa using hr)))).mono (Nat.le_of_ble_eq_true rfl)
  | 4, _ =>
    refine ⟨G ++ [.lst [.ref (pv + 5)]] ++ [.lst [.int s.row.length]], ?_, c.app.app.outs, Kp.app.trans Kp.app⟩
    refine (ev_print ((ev_op (m := 2) (op_len (w := W) (i := .non)) rfl rfl (EvL.cons (m := 2) (ev_nm rfl (sp.r _ hw)) EvL.nil) rfl fun T X p z1 z2 => ⟨.non, ?_⟩).mono (Nat.le_of_ble_eq_true rfl)) zo).mono (Nat.le_of_ble_eq_true rfl)
    have := e_len (e := mkE "len" W .non [nmE AR (rn w)]) (sc := .ref (sN + 5)) (q := qa fs f tk s.outs) (T := T) c.v z2
    rw [List.length_map] at this
    exact this
  | 5, _ =>
    by_cases hr : rng i s.row.length = true
    · have es : stp s ⟨5, w, i, v⟩ = .ok (setK s w (s.row.getD i.toNat 0)) := if_pos hr
      rw [es]
      refine ⟨(G ++ [MO.lst [.ref (pv + 5), .int i]]).set (kpos pa pb w) (.lst [.int (s.row.getD i.toNat 0)]) ++ [.lst [.ref (kpos pa pb w + 5), .int (s.row.getD i.toNat 0)]], ?_, c.app.setK.app, (Kp.app.trans (Kp.set (ap_at c.kat))).trans Kp.app⟩
      have : (setK s w (s.row.getD i.toNat 0)).outs = s.outs := by unfold setK; split <;> rfl
      rw [this]
      exact (ev_op (m := 6) op_set rfl rfl (EvL.cons (m := 6) ((ev_nm rfl (sp.k _ hw)).mono (Nat.le_of_ble_eq_true rfl)) (EvL.cons (m := 6) (ev_at (d := ⟨5, w, i, v⟩) c sp hw hr) EvL.nil)) rfl fun T X p z1 z2 => ⟨_, e_set (ap_at c.kat) z2⟩).mono (Nat.le_of_ble_eq_true rfl)
    · have es : stp s ⟨5, w, i, v⟩ = .idx i s.outs := if_neg hr
      rw [es]
      exact (fl_op (m := 6) op_set rfl (FlL.cons (m := 6) ((ev_nm rfl (sp.k _ hw)).mono (Nat.le_of_ble_eq_true rfl)) (FlL.head (m := 6) (fl_at (d := ⟨5, w, i, v⟩) c sp hw (by simpa using hr))))).mono (Nat.le_of_ble_eq_true rfl)
  | n + 6, h => exact absurd (show n + 6 < 6 from h) (by omega)
end
end K18
namespace K18
open PySem PySem.Spec PyProof.Rows L2 MM
section
variable {h : MH} {acc : List (Key × D)} {x y kd : D} {r : List D} {g : MH → Prop} {tgt : MG} {kx vx : ME} {δ0 δ1 : MS} {k : Key} {n : Nat}
theorem dic_last : dic? (h ++ [.dic acc]) h.length = some acc := by unfold dic?; simp
theorem set_last {u v : MO} : (h ++ [u]).set h.length v = h ++ [v] := by simp
theorem dc_step (hg : g (h ++ [.dic acc])) (et : tgt x δ0 = some δ1) (ek : kx δ1 (h ++ [.dic acc]) = .ok kd (h ++ [.dic acc])) (ev : vx δ1 (h ++ [.dic acc]) = .ok y (h ++ [.dic acc])) (e : keyD kd = some k) (hz : acc.length < 16777216) :
    dcM g tgt mYes kx vx h.length δ0 (x :: r) (h ++ [.dic acc]) = dcM g tgt mYes kx vx h.length δ0 r (h ++ [.dic (putD acc k y)]) := by
  rw [dcM, if_pos hg]
  simp only [et]
  show R.bnd (R.ok true (h ++ [.dic acc])) _ = _
  rw [R.bnd_ok]
  simp only [if_true, ek]
  show R.bnd (R.ok kd (h ++ [.dic acc])) _ = _
  rw [R.bnd_ok]
  simp only [ev]
  show R.bnd (R.ok y (h ++ [.dic acc])) _ = _
  rw [R.bnd_ok]
  simp only [e, dic_last, if_pos hz, set_last]
theorem dc_last (hg : g h) : dcM g tgt mYes kx vx n δ0 [] h = .ok () h := by
  rw [dcM, if_pos hg]
end
def TG : MG := mgSeq 2 (mgCons (mgSeq 2 (mgCons (mgName 2) (mgCons (mgName 3) (mgNil)))) (mgCons (mgName 4) (mgNil)))
def kinds : D := .tup [.tup [.str "a", RF], .tup [.str "b", RF], .tup [.str "c", RF], .tup [.str "d", RF], .tup [.str "v", AR], .tup [.str "w", AR]]
def scD (a b c d v w : D) : MO := .dic [(.inr "a", a), (.inr "b", b), (.inr "c", c), (.inr "d", d), (.inr "v", v), (.inr "w", w)]
section
variable {q : Q} {G : MH} {T X : List D} {p : Nat} {a b c d v w e sc : D}
theorem bound_nil : m__bound [.tup [], .rol []] (H q T X G) = .ok (.ref (G.length + 5)) (H q T X (G ++ [.dic []])) := by
  refine fnN_ret rfl ?_
  show R.st (mDcN (mCallI fZip3 (mCons (mVar 0) (mCons (mVar 1) (mNil)))) TG (mYes) (mVar 2) (mVar 4) [2, 3, 4] [some (.tup []), some (.rol []), none, none, none] (H q T X G)) _ _ = _
  have key : mDcN (mCallI fZip3 (mCons (mVar 0) (mCons (mVar 1) (mNil)))) TG (mYes) (mVar 2) (mVar 4) [2, 3, 4] [some (.tup []), some (.rol []), none, none, none] (H q T X G) = .ok (.ref (G.length + 5)) (H q T X (G ++ [.dic []])) := by
    unfold mDcN
    have src : mCallI fZip3 (mCons (mVar 0) (mCons (mVar 1) (mNil))) [some (.tup []), some (.rol []), none, none, none] (H q T X G) = .ok ⟨[], fun h' => lstD (.rol []) h' = some []⟩ (H q T X G) := rfl
    rw [src, R.bnd_ok]
    show R.bnd (dcM (fun h' => lstD (.rol []) h' = some []) TG mYes (mVar 2) (mVar 4) (H q T X G).length [some (.tup []), some (.rol []), none, none, none] [] (H q T X G ++ [.dic []])) _ = _
    rw [dc_last (g := fun h' => lstD (.rol []) h' = some []) rfl, R.bnd_ok, dic_last]
    rfl
  rw [key]; rfl
theorem bound_six (hp : G[p]? = some (.lst [a, b, c, d, v, w])) : m__bound [kinds, .ref (p + 5)] (H q T X G) = .ok (.ref (G.length + 5)) (H q T X (G ++ [scD a b c d v w])) := by
  refine fnN_ret rfl ?_
  show R.st (mDcN (mCallI fZip3 (mCons (mVar 0) (mCons (mVar 1) (mNil)))) TG (mYes) (mVar 2) (mVar 4) [2, 3, 4] [some kinds, some (.ref (p + 5)), none, none, none] (H q T X G)) _ _ = _
  have key : mDcN (mCallI fZip3 (mCons (mVar 0) (mCons (mVar 1) (mNil)))) TG (mYes) (mVar 2) (mVar 4) [2, 3, 4] [some kinds, some (.ref (p + 5)), none, none, none] (H q T X G) = .ok (.ref (G.length + 5)) (H q T X (G ++ [scD a b c d v w])) := by
    unfold mDcN
    have el : lstD (.ref (p + 5)) (H q T X G) = some [a, b, c, d, v, w] := lst_H hp
    have src : mCallI fZip3 (mCons (mVar 0) (mCons (mVar 1) (mNil))) [some kinds, some (.ref (p + 5)), none, none, none] (H q T X G) = .ok ⟨[.tup [.tup [.str "a", RF], a], .tup [.tup [.str "b", RF], b], .tup [.tup [.str "c", RF], c], .tup [.tup [.str "d", RF], d], .tup [.tup [.str "v", AR], v], .tup [.tup [.str "w", AR], w]], fun h' => lstD (.ref (p + 5)) h' = some [a, b, c, d, v, w]⟩ (H q T X G) := by
      show fZip3 [kinds, .ref (p + 5)] (H q T X G) = _
      unfold fZip3
      simp only [el]
      rfl
    rw [src, R.bnd_ok]
    have gg : ∀ acc, lstD (.ref (p + 5)) (H q T X G ++ [.dic acc]) = some [a, b, c, d, v, w] := fun acc => lst_H (q := q) (T := T) (X := X) (ap_at hp)
    have stp : ∀ (acc : List (Key × D)) (r : List D) (x : Str) (k y : D), acc.length < 16777216 → dcM (fun h' => lstD (.ref (p + 5)) h' = some [a, b, c, d, v, w]) TG mYes (mVar 2) (mVar 4) (H q T X G).length [some kinds, some (.ref (p + 5)), none, none, none] (.tup [.tup [.str x, k], y] :: r) (H q T X G ++ [.dic acc]) = dcM (fun h' => lstD (.ref (p + 5)) h' = some [a, b, c, d, v, w]) TG mYes (mVar 2) (mVar 4) (H q T X G).length [some kinds, some (.ref (p + 5)), none, none, none] r (H q T X G ++ [.dic (putD acc (.inr x) y)]) := fun acc r x k y z =>
      dc_step (h := H q T X G) (g := fun h' => lstD (.ref (p + 5)) h' = some [a, b, c, d, v, w]) (δ1 := [some kinds, some (.ref (p + 5)), some (.str x), some k, some y]) (kd := .str x) (gg acc) rfl rfl rfl rfl z
    show R.bnd (dcM (fun h' => lstD (.ref (p + 5)) h' = some [a, b, c, d, v, w]) TG mYes (mVar 2) (mVar 4) (H q T X G).length [some kinds, some (.ref (p + 5)), none, none, none] _ (H q T X G ++ [.dic []])) _ = _
    rw [stp, stp, stp, stp, stp, stp, dc_last (g := fun h' => lstD (.ref (p + 5)) h' = some [a, b, c, d, v, w]) (gg _), R.bnd_ok, dic_last]
    · rfl
    all_goals exact Nat.le_of_ble_eq_true rfl
  rw [key]; rfl
theorem inner_ok {s : Nat} {kvs : List (Key × D)} {x : Str} {y : D} (hs : G[s]? = some (.dic kvs)) (hp : G[p]? = some (.lst [y])) (z : kvs.length < 16777216) : m_inner_scope [.ref (s + 5), .tup [.str x], .ref (p + 5)] (H q T X G) = .ok (.ref (G.length + 5)) (H q T X (G ++ [.dic (putD kvs (.inr x) y)])) := by
  refine fnN_ret rfl ?_
  show b_inner_scope [some (.ref (s + 5)), some (.tup [.str x]), some (.ref (p + 5)), none, none, none] _ = _
  unfold b_inner_scope
  have e0 : dic? (H q T X G) (s + 5) = some kvs := by unfold dic?; rw [at_H, hs]
  have e1 : fDictN [.ref (s + 5)] (H q T X G) = .ok (.ref (G.length + 5)) (H q T X (G ++ [.dic kvs])) := by
    unfold fDictN
    simp only [e0]
    rfl
  have e2 : mSet 3 (mCall fDictN (mCons (mVar 0) (mNil))) [some (.ref (s + 5)), some (.tup [.str x]), some (.ref (p + 5)), none, none, none] (H q T X G) = .ok (.next [some (.ref (s + 5)), some (.tup [.str x]), some (.ref (p + 5)), some (.ref (G.length + 5)), none, none]) (H q T X (G ++ [.dic kvs])) := by
    show R.st (fDictN [.ref (s + 5)] (H q T X G)) _ _ = _
    rw [e1]; rfl
  rw [mSeq_eq, e2, SR.seq_next, mSeq_eq, mFor_eq]
  have el : lstD (.ref (p + 5)) (H q T X (G ++ [.dic kvs])) = some [y] := lst_H (ap_at hp)
  have src : mCallI fZip3 (mCons (mVar 1) (mCons (mVar 2) (mNil))) [some (.ref (s + 5)), some (.tup [.str x]), some (.ref (p + 5)), some (.ref (G.length + 5)), none, none] (H q T X (G ++ [.dic kvs])) = .ok ⟨[.tup [.str x, y]], fun h' => lstD (.ref (p + 5)) h' = some [y]⟩ (H q T X (G ++ [.dic kvs])) := by
    show fZip3 [.tup [.str x], .ref (p + 5)] (H q T X (G ++ [.dic kvs])) = _
    unfold fZip3
    simp only [el]
    rfl
  rw [src, R.st_ok]
  have e3 : b_inner_scope_1 [some (.ref (s + 5)), some (.tup [.str x]), some (.ref (p + 5)), some (.ref (G.length + 5)), some (.str x), some y] (H q T X (G ++ [.dic kvs])) = .ok (.next [some (.ref (s + 5)), some (.tup [.str x]), some (.ref (p + 5)), some (.ref (G.length + 5)), some (.str x), some y]) (H q T X (G ++ [.dic (putD kvs (.inr x) y)])) := by
    have : setG2 (.ref (G.length + 5)) (.str x) y (H q T X (G ++ [.dic kvs])) = some (H q T X (G ++ [.dic (putD kvs (.inr x) y)])) := by
      have e4 : (H q T X (G ++ [.dic kvs]))[G.length + 5]? = some (.dic kvs) := by rw [at_H]; simp
      unfold setG2
      simp only [e4]
      show (if kvs.length < 16777216 then some ((H q T X (G ++ [.dic kvs])).set (G.length + 5) _) else none) = _
      rw [if_pos z, set_H, set_last]
    show (match setG2 (.ref (G.length + 5)) (.str x) y (H q T X (G ++ [.dic kvs])) with | some h4 => SR.ok (.next _) h4 | none => .stuck) = _
    rw [this]
  have f1 : MM.forM (fun h' => lstD (.ref (p + 5)) h' = some [y]) (mgSeq 2 (mgCons (mgName 4) (mgCons (mgName 5) (mgNil)))) b_inner_scope_1 [.tup [.str x, y]] [some (.ref (s + 5)), some (.tup [.str x]), some (.ref (p + 5)), some (.ref (G.length + 5)), none, none] (H q T X (G ++ [.dic kvs])) = .ok (.next [some (.ref (s + 5)), some (.tup [.str x]), some (.ref (p + 5)), some (.ref (G.length + 5)), some (.str x), some y]) (H q T X (G ++ [.dic (putD kvs (.inr x) y)])) := by
    have gg : ∀ k, (fun h' => lstD (.ref (p + 5)) h' = some [y]) (H q T X (G ++ [MO.dic k])) := fun k => lst_H (ap_at hp)
    have et : mgSeq 2 (mgCons (mgName 4) (mgCons (mgName 5) (mgNil))) (.tup [.str x, y]) [some (.ref (s + 5)), some (.tup [.str x]), some (.ref (p + 5)), some (.ref (G.length + 5)), none, none] = some [some (.ref (s + 5)), some (.tup [.str x]), some (.ref (p + 5)), some (.ref (G.length + 5)), some (.str x), some y] := rfl
    rw [MM.forM, if_pos (gg _)]
    simp only [et, e3]
    rw [MM.forM, if_pos (gg _)]
  rw [f1]
  rfl
def fuelF : D := .tup [.str "fuel"]
theorem spend_ok {n : Int} (z : q.tk + n ≤ q.f) : m_Outcome_spend [.ref 1, .int n] (H q T X G) = .ok (.bl true) (H { q with tk := q.tk + n } T X G) := by
  refine fnN_ret rfl ?_
  show b_Outcome_spend [some (.ref 1), some (.int n)] _ = _
  unfold b_Outcome_spend
  rw [mSeq_eq, mIfS_eq]
  show SR.seq (R.st (R.bnd (opGt (.int (q.tk + n)) (.int q.f) (H q T X G)) isB) _ _) _ = _
  rw [opGt_int, R.bnd_ok, isB_eq, decide_eq_false (by omega), R.st_ok]
  rfl
theorem spend_no {n : Int} (z : q.f < q.tk + n) : m_Outcome_spend [.ref 1, .int n] (H q T X G) = .ok (.bl false) (H { q with tk := q.f, fl := fuelF } T X G) := by
  refine fnN_ret rfl ?_
  show b_Outcome_spend [some (.ref 1), some (.int n)] _ = _
  unfold b_Outcome_spend
  rw [mSeq_eq, mIfS_eq]
  show SR.seq (R.st (R.bnd (opGt (.int (q.tk + n)) (.int q.f) (H q T X G)) isB) _ _) _ = _
  rw [opGt_int, R.bnd_ok, isB_eq, decide_eq_true (by omega), R.st_ok]
  rfl
def callE (j : Nat) (ks : List D) : D := mkE "call" U (.int j) ks
theorem op_call {j : Nat} {a b c d v w sc : D} : OpR "call" U (.int j) [a, b, c, d, v, w] [a, b, c, d, v, w] sc "_end_call" m__end_call := ⟨fun _ _ _ _ => rfl, fun _ _ _ _ => rfl, fun _ _ _ _ => rfl, rfl, fun _ _ _ _ => rfl⟩
theorem get_fn {fl : List D} {j : Nat} {u : D} {h : MH} (e : fl[j]? = some u) : opIx (.tup fl) (.int j) h = .ok u h := by
  refine opIx_of ?_
  show L2.atI fl j = _
  exact atI_nat e
theorem call_pre {fl ks : List D} {j : Nat} {nm U' body : D} (hf : q.fs = .tup fl) (hj : fl[j]? = some (.tup [nm, kinds, U', body])) (K : MSt) :
    mSeq (mAsgSeq 4 (mgCons (mgName 4) (mgCons (mgName 5) (mgCons (mgName 4) (mgCons (mgName 6) (mgNil))))) (mOp opIx (mFld ["Evaluation"] "functions" (mVar 0)) (mOp opIx (mVar 1) (mC (.int 2))))) K [some (.ref 0), some (callE j ks), some sc, some (.ref (p + 5)), none, none, none] (H q T X G)
      = K [some (.ref 0), some (callE j ks), some sc, some (.ref (p + 5)), some U', some kinds, some body] (H q T X G) := by
  have e1 : mOp opIx (mFld ["Evaluation"] "functions" (mVar 0)) (mOp opIx (mVar 1) (mC (.int 2))) [some (.ref 0), some (callE j ks), some sc, some (.ref (p + 5)), none, none, none] (H q T X G) = .ok (.tup [nm, kinds, U', body]) (H q T X G) := by
    show opIx q.fs (.int j) (H q T X G) = _
    rw [hf, get_fn hj]
  rw [mSeq_eq]
  show SR.seq (R.st (mOp opIx (mFld ["Evaluation"] "functions" (mVar 0)) (mOp opIx (mVar 1) (mC (.int 2))) [some (.ref 0), some (callE j ks), some sc, some (.ref (p + 5)), none, none, none] (H q T X G)) _ _) _ = _
  rw [e1]; rfl
theorem e_call {fl ks : List D} {j : Nat} {nm U' body : D} (hf : q.fs = .tup fl) (hj : fl[j]? = some (.tup [nm, kinds, U', body])) (z : q.tk + 1 ≤ q.f) (zt : T.length + 2 < BIG) :
    m__end_call [.ref 0, callE j ks, sc, .ref (G.length + 5)] (H q T X (G ++ [.lst [a, b, c, d, v, w]])) = .ok .non (H { q with tk := q.tk + 1 } (T ++ [bg body (.ref (G.length + 1 + 5))]) X (G ++ [.lst [a, b, c, d, v, w]] ++ [scD a b c d v w])) := by
  refine fnN_non (δ := [some (.ref 0), some (callE j ks), some sc, some (.ref (G.length + 5)), some U', some kinds, some body]) rfl ?_
  show b__end_call [some (.ref 0), some (callE j ks), some sc, some (.ref (G.length + 5)), none, none, none] _ = _
  unfold b__end_call
  rw [call_pre hf hj, mIfS_eq]
  have e1 : mTru (mMeth "Outcome" "spend" m_Outcome_spend (mFld ["Evaluation"] "outcome" (mVar 0)) (mCons (mC (.int 1)) (mNil))) [some (.ref 0), some (callE j ks), some sc, some (.ref (G.length + 5)), some U', some kinds, some body] (H q T X (G ++ [.lst [a, b, c, d, v, w]])) = .ok true (H { q with tk := q.tk + 1 } T X (G ++ [.lst [a, b, c, d, v, w]])) := by
    show R.bnd (if isI "Outcome" "spend" (.ref 1) (H q T X (G ++ [.lst [a, b, c, d, v, w]])) = true then m_Outcome_spend [.ref 1, .int 1] (H q T X (G ++ [.lst [a, b, c, d, v, w]])) else .stuck) truD = _
    rw [if_pos (isO "spend" rfl), spend_ok z, R.bnd_ok]; rfl
  rw [e1, R.st_ok]
  have e2 := bound_six (q := { q with tk := q.tk + 1 }) (T := T) (X := X) (G := G ++ [.lst [a, b, c, d, v, w]]) (p := G.length) Y_at
  rw [List.length_append, List.length_singleton] at e2
  exact begins (q := { q with tk := q.tk + 1 }) rfl rfl e2 ⟨_, _, _, _, rfl⟩ (show T.length < BIG by omega)
theorem x_call {fl ks : List D} {j : Nat} {nm U' body : D} (hf : q.fs = .tup fl) (hj : fl[j]? = some (.tup [nm, kinds, U', body])) (z : q.f < q.tk + 1) :
    m__end_call [.ref 0, callE j ks, sc, .ref (p + 5)] (H q T X G) = .ok .non (H { q with tk := q.f, fl := fuelF } T X G) := by
  refine fnN_non (δ := [some (.ref 0), some (callE j ks), some sc, some (.ref (p + 5)), some U', some kinds, some body]) rfl ?_
  show b__end_call [some (.ref 0), some (callE j ks), some sc, some (.ref (p + 5)), none, none, none] _ = _
  unfold b__end_call
  rw [call_pre hf hj, mIfS_eq]
  have e1 : mTru (mMeth "Outcome" "spend" m_Outcome_spend (mFld ["Evaluation"] "outcome" (mVar 0)) (mCons (mC (.int 1)) (mNil))) [some (.ref 0), some (callE j ks), some sc, some (.ref (p + 5)), some U', some kinds, some body] (H q T X G) = .ok false (H { q with tk := q.f, fl := fuelF } T X G) := by
    show R.bnd (if isI "Outcome" "spend" (.ref 1) (H q T X G) = true then m_Outcome_spend [.ref 1, .int 1] (H q T X G) else .stuck) truD = _
    rw [if_pos (isO "spend" rfl), spend_no z, R.bnd_ok]; rfl
  rw [e1, R.st_ok]
  rfl
def letE (w : D) (x : Str) (a b : D) : D := mkE "let" w (.str x) [a, b]
theorem e_let {s : Nat} {kvs : List (Key × D)} {x : Str} {w0 a0 b0 y : D} (hs : G[s]? = some (.dic kvs)) (zk : kvs.length < 16777216) (zt : T.length + 2 < BIG) :
    m__end_let [.ref 0, letE w0 x a0 b0, .ref (s + 5), .ref (G.length + 5)] (H q T X (G ++ [.lst [y]])) = .ok .non (H q (T ++ [bg b0 (.ref (G.length + 1 + 5))]) X (G ++ [.lst [y]] ++ [.dic (putD kvs (.inr x) y)])) := by
  refine fnN_non (δ := [some (.ref 0), some (letE w0 x a0 b0), some (.ref (s + 5)), some (.ref (G.length + 5))]) rfl ?_
  have e2 := inner_ok (q := q) (T := T) (X := X) (G := G ++ [.lst [y]]) (p := G.length) (x := x) (ap_at hs) Y_at zk
  rw [List.length_append, List.length_singleton] at e2
  exact begins (q := q) rfl rfl e2 ⟨_, _, _, _, rfl⟩ (show T.length < BIG by omega)
theorem e_array {n : Nat} {y : Int} (hn : n ≤ 12) (z : q.tk + n ≤ q.f) (zx : X.length + 2 < BIG) :
    m__end_array [.ref 0, e, sc, .ref (G.length + 5)] (H q T X (G ++ [.lst [.int n, .int y]])) = .ok .non (H { q with tk := q.tk + n } T (X ++ [.ref (G.length + 2 + 5)]) (G ++ [.lst [.int n, .int y]] ++ [.lst [.int y]] ++ [.lst ((List.replicate n y).map D.int)])) := by
  refine fnN_non (δ := [some (.ref 0), some e, some sc, some (.ref (G.length + 5)), some (.int n), some (.int y)]) rfl ?_
  show b__end_array [some (.ref 0), some e, some sc, some (.ref (G.length + 5)), none, none] _ = _
  unfold b__end_array
  rw [mSeq_eq, seq_at (q := q) (T := T) (X := X) (n := 2) (ds := [.int n, .int y]) (δ' := [some (.ref 0), some e, some sc, some (.ref (G.length + 5)), some (.int n), some (.int y)]) rfl rfl Y_at rfl rfl, SR.seq_next, mIfS_eq]
  have e0 : mNot (mB (mChain opLe opLe (mC (.int 0)) (mVar 4) (mC c_MAX_ARRAY))) [some (.ref 0), some e, some sc, some (.ref (G.length + 5)), some (.int n), some (.int y)] (H q T X (G ++ [.lst [.int n, .int y]])) = .ok false (H q T X (G ++ [.lst [.int n, .int y]])) := by
    rw [mNot_eq, mB_eq, mChain_eq, mC_eq, R.bnd_ok, v4, R.bnd_ok, opLe_int, R.bnd_ok, isB_eq, R.bnd_ok, decide_eq_true (by omega), if_pos rfl, mC_eq, R.bnd_ok]
    show R.bnd (R.bnd (opLe (.int n) (.int 12) _) isB) _ = _
    rw [opLe_int, decide_eq_true (by omega)]; rfl
  rw [e0, R.st_ok, if_neg Bool.false_ne_true, mIfS_eq]
  have e1 : mTru (mMeth "Outcome" "spend" m_Outcome_spend (mFld ["Evaluation"] "outcome" (mVar 0)) (mCons (mVar 4) (mNil))) [some (.ref 0), some e, some sc, some (.ref (G.length + 5)), some (.int n), some (.int y)] (H q T X (G ++ [.lst [.int n, .int y]])) = .ok true (H { q with tk := q.tk + n } T X (G ++ [.lst [.int n, .int y]])) := by
    show R.bnd (if isI "Outcome" "spend" (.ref 1) (H q T X (G ++ [.lst [.int n, .int y]])) = true then m_Outcome_spend [.ref 1, .int n] (H q T X (G ++ [.lst [.int n, .int y]])) else .stuck) truD = _
    rw [if_pos (isO "spend" rfl), spend_ok z, R.bnd_ok]; rfl
  rw [e1, R.st_ok, if_pos rfl]
  refine gives (q := { q with tk := q.tk + n }) (v := .ref (G.length + 2 + 5)) rfl ?_ ⟨_, _, _, _, rfl⟩ (show X.length < BIG by omega)
  have e2 : mLstN (mCons (mVar 5) (mNil)) [some (.ref 0), some e, some sc, some (.ref (G.length + 5)), some (.int n), some (.int y)] (H { q with tk := q.tk + n } T X (G ++ [.lst [.int n, .int y]])) = .ok (.ref (G.length + 1 + 5)) (H { q with tk := q.tk + n } T X (G ++ [.lst [.int n, .int y]] ++ [.lst [.int y]])) := by
    show R.ok (D.ref ((G ++ [MO.lst [.int n, .int y]]).length + 5)) _ = _
    rw [List.length_append, List.length_singleton]; rfl
  rw [mOp_eq, e2, R.bnd_ok, v4, R.bnd_ok]
  have e3 : lst? (H { q with tk := q.tk + n } T X (G ++ [.lst [.int n, .int y]] ++ [.lst [.int y]])) (G.length + 1 + 5) = some [.int y] := lst_H (by
    have := Y_at (G := G ++ [.lst [.int n, .int y]]) (Y := [.int y])
    rw [List.length_append, List.length_singleton] at this
    exact this)
  unfold opRep
  simp only [e3, Int.toNat_natCast]
  rw [if_pos ⟨by omega, by omega, by simp; omega⟩]
  have e4 : (List.replicate n [D.int y]).flatten = (List.replicate n y).map D.int := by
    rw [List.map_replicate]
    induction n with
    | zero => rfl
    | succ n ih =>
      rw [List.replicate_succ, List.replicate_succ, List.flatten_cons]
      have : (List.replicate n [D.int y]).flatten = List.replicate n (D.int y) := by simp
      rw [this]; rfl
  rw [e4]
  show R.ok (D.ref ((G ++ [MO.lst [.int n, .int y]] ++ [MO.lst [.int y]]).length + 5)) _ = _
  rw [List.length_append, List.length_append, List.length_singleton]; rfl
theorem x_array {n : Nat} {y : Int} (hn : n ≤ 12) (z : q.f < q.tk + n) :
    m__end_array [.ref 0, e, sc, .ref (G.length + 5)] (H q T X (G ++ [.lst [.int n, .int y]])) = .ok .non (H { q with tk := q.f, fl := fuelF } T X (G ++ [.lst [.int n, .int y]])) := by
  refine fnN_non (δ := [some (.ref 0), some e, some sc, some (.ref (G.length + 5)), some (.int n), some (.int y)]) rfl ?_
  show b__end_array [some (.ref 0), some e, some sc, some (.ref (G.length + 5)), none, none] _ = _
  unfold b__end_array
  rw [mSeq_eq, seq_at (q := q) (T := T) (X := X) (n := 2) (ds := [.int n, .int y]) (δ' := [some (.ref 0), some e, some sc, some (.ref (G.length + 5)), some (.int n), some (.int y)]) rfl rfl Y_at rfl rfl, SR.seq_next, mIfS_eq]
  have e0 : mNot (mB (mChain opLe opLe (mC (.int 0)) (mVar 4) (mC c_MAX_ARRAY))) [some (.ref 0), some e, some sc, some (.ref (G.length + 5)), some (.int n), some (.int y)] (H q T X (G ++ [.lst [.int n, .int y]])) = .ok false (H q T X (G ++ [.lst [.int n, .int y]])) := by
    rw [mNot_eq, mB_eq, mChain_eq, mC_eq, R.bnd_ok, v4, R.bnd_ok, opLe_int, R.bnd_ok, isB_eq, R.bnd_ok, decide_eq_true (by omega), if_pos rfl, mC_eq, R.bnd_ok]
    show R.bnd (R.bnd (opLe (.int n) (.int 12) _) isB) _ = _
    rw [opLe_int, decide_eq_true (by omega)]; rfl
  rw [e0, R.st_ok, if_neg Bool.false_ne_true, mIfS_eq]
  have e1 : mTru (mMeth "Outcome" "spend" m_Outcome_spend (mFld ["Evaluation"] "outcome" (mVar 0)) (mCons (mVar 4) (mNil))) [some (.ref 0), some e, some sc, some (.ref (G.length + 5)), some (.int n), some (.int y)] (H q T X (G ++ [.lst [.int n, .int y]])) = .ok false (H { q with tk := q.f, fl := fuelF } T X (G ++ [.lst [.int n, .int y]])) := by
    show R.bnd (if isI "Outcome" "spend" (.ref 1) (H q T X (G ++ [.lst [.int n, .int y]])) = true then m_Outcome_spend [.ref 1, .int n] (H q T X (G ++ [.lst [.int n, .int y]])) else .stuck) truD = _
    rw [if_pos (isO "spend" rfl), spend_no z, R.bnd_ok]; rfl
  rw [e1, R.st_ok]
  rfl
end
end K18
namespace K18
open PySem PySem.Spec PyProof.Rows L2 MM
def Ot.bind (o : Ot) (f : Sx → Ot) : Ot := match o with
  | .ok s => f s
  | .idx i os => .idx i os
def runs (s : Sx) : List Dd → Ot
  | [] => .ok s
  | d :: ds => (stp s d).bind fun s' => runs s' ds
theorem bind_assoc {o : Ot} {f g : Sx → Ot} : (o.bind f).bind g = o.bind fun s => (f s).bind g := by cases o <;> rfl
theorem runs_app : ∀ (xs ys : List Dd) (s : Sx), runs s (xs ++ ys) = (runs s xs).bind fun s' => runs s' ys
  | [], ys, s => rfl
  | x :: xs, ys, s => by
    show (stp s x).bind (fun s' => runs s' (xs ++ ys)) = ((stp s x).bind fun s' => runs s' xs).bind fun s' => runs s' ys
    rw [bind_assoc]
    congr 1
    funext s'
    exact runs_app xs ys s'
theorem stp_outs {s s' : Sx} {d : Dd} (e : stp s d = .ok s') : s'.outs.length ≤ s.outs.length + 1 ∧ s'.row.length = s.row.length := by
  have sk : ∀ (w : Nat) (x : Int), (setK s w x).outs = s.outs ∧ (setK s w x).row = s.row := fun w x => by unfold setK; split <;> exact ⟨rfl, rfl⟩
  unfold stp at e
  split at e
  · cases e; rw [(sk _ _).1, (sk _ _).2]; exact ⟨by omega, rfl⟩
  · cases e; exact ⟨by simp, rfl⟩
  · split at e
    · cases e; exact ⟨Nat.le_succ _, by simp⟩
    · cases e
  · split at e
    · cases e; exact ⟨by simp, rfl⟩
    · cases e
  · cases e; exact ⟨by simp, rfl⟩
  · split at e
    · cases e; rw [(sk _ _).1, (sk _ _).2]; exact ⟨by omega, rfl⟩
    · cases e
theorem runs_outs : ∀ (ds : List Dd) {s s' : Sx}, runs s ds = .ok s' → s'.outs.length ≤ s.outs.length + ds.length
  | [], s, s', e => by cases e; exact Nat.le_refl _
  | d :: ds, s, s', e => by
    have e : (stp s d).bind (fun s1 => runs s1 ds) = .ok s' := e
    cases e1 : stp s d with
    | idx i o => rw [e1] at e; cases e
    | ok s1 =>
      rw [e1] at e
      have := runs_outs ds (s := s1) e
      have := (stp_outs e1).1
      rw [List.length_cons]; omega
def seqE (w a b : D) : D := mkE "seq" w .non [a, b]
def grp (e : D) (ds : List Dd) : D := ds.foldl (fun g d => seqE U g (dE d)) e
def grpE : List Dd → D
  | [] => U
  | d :: ds => grp (dE d) ds
def OkD (d : Dd) : Prop := d.k < 6 ∧ d.w < 4
section
variable {fs : D} {f tk tk' : Int} {pa pb pv sN m n : Nat} {s : Sx} {G : MH} {d : Dd} {e e' sc w : D} {o : Ot}
theorem Run.mono (a : Run fs f pa pb pv m e sc tk s G tk' o) (h : m ≤ n) : Run fs f pa pb pv n e sc tk s G tk' o := by
  cases o with
  | ok s' => obtain ⟨G', x, y, z⟩ := a; exact ⟨G', x.mono h, y, z⟩
  | idx i os => exact Fl.mono a h
theorem run_seq {o2 : Sx → Ot} (a : Run fs f pa pb pv m e sc tk s G tk' o) (b : ∀ s1 G1, o = .ok s1 → Cs pa pb pv s1 G1 → Kp G G1 → Run fs f pa pb pv m e' sc tk' s1 G1 tk' (o2 s1)) : Run fs f pa pb pv (m + 4) (seqE w e e') sc tk s G tk' (o.bind o2) := by
  cases o with
  | idx i os => exact fl_op (m := m) op_seq rfl (FlL.head a)
  | ok s1 =>
    obtain ⟨G1, x, y, z⟩ := a
    have b := b s1 G1 rfl y z
    show Run fs f pa pb pv (m + 4) (seqE w e e') sc tk s G tk' (o2 s1)
    revert b
    generalize o2 s1 = o'
    intro b
    cases o' with
    | idx i os => exact fl_op (m := m) op_seq rfl (FlL.cons (m := m) x (FlL.head b))
    | ok s2 =>
      obtain ⟨G2, x2, y2, z2⟩ := b
      exact ⟨_, ev_op (m := m) op_seq rfl rfl (EvL.cons (m := m) x (EvL.cons (m := m) x2 EvL.nil)) rfl fun T X p z1 z2 => ⟨_, e_seq z2⟩, y2.app, (z.trans z2).trans Kp.app⟩
theorem grp_ok : ∀ (ds : List Dd) (e : D) (m : Nat) (o : Ot), 14 ≤ m → (∀ d ∈ ds, OkD d) → (∀ s1, o = .ok s1 → s1.outs.length + ds.length < BIG) → (∀ G1, Kp G G1 → Scp pa pb pv sN G1) → Run fs f pa pb pv m e (.ref (sN + 5)) tk s G tk' o → Run fs f pa pb pv (m + 4 * ds.length) (grp e ds) (.ref (sN + 5)) tk s G tk' (o.bind fun s1 => runs s1 ds)
  | [], e, m, o, _, _, _, _, a => by
    have : (o.bind fun s1 => runs s1 []) = o := by cases o <;> rfl
    rw [this]; exact a
  | d :: ds, e, m, o, hm, hd, hz, sp, a => by
    have h1 := hd d (by simp)
    have st := run_seq (w := U) (o2 := fun s1 => stp s1 d) a fun s1 G1 eo c k => (deed_ok (fs := fs) (f := f) (tk := tk') c (sp G1 k) h1.1 h1.2 (by have := hz s1 eo; rw [List.length_cons] at this; omega)).mono hm
    have ih := grp_ok ds (seqE U e (dE d)) (m + 4) _ (by omega) (fun x hx => hd x (List.mem_cons_of_mem _ hx)) (fun s1 e1 => by
      cases o with
      | idx i os => cases e1
      | ok s0 =>
        have := hz s0 rfl
        have := (stp_outs (show stp s0 d = .ok s1 from e1)).1
        rw [List.length_cons] at *; omega) sp st
    rw [bind_assoc] at ih
    have el : m + 4 + 4 * ds.length = m + 4 * (d :: ds).length := by rw [List.length_cons]; omega
    rw [el] at ih
    exact ih
theorem grpE_ok {ds : List Dd} (h0 : ds ≠ []) (h8 : ds.length ≤ 8) (hd : ∀ d ∈ ds, OkD d) (c : Cs pa pb pv s G) (sp : Scp pa pb pv sN G) (hz : s.outs.length + ds.length < BIG) : Run fs f pa pb pv 50 (grpE ds) (.ref (sN + 5)) tk s G tk (runs s ds) := by
  cases ds with
  | nil => exact absurd rfl h0
  | cons d ds =>
    have h1 := hd d (by simp)
    rw [List.length_cons] at h8 hz
    have a := deed_ok (fs := fs) (f := f) (tk := tk) c sp h1.1 h1.2 (by omega)
    exact (grp_ok ds (dE d) 14 _ (Nat.le_refl _) (fun x hx => hd x (List.mem_cons_of_mem _ hx)) (fun s1 e1 => by have := (stp_outs e1).1; omega) (fun G1 k => k.scp sp) a).mono (by omega)
end
def nms : List D := [nmE RF "a", nmE RF "b", nmE RF "c", nmE RF "d", nmE AR "v", nmE AR "w"]
def bodyJ (gs : List (List Dd)) : Nat → D
  | 0 => grpE (gs.getD 0 [])
  | j + 1 => seqE U (callE j nms) (grpE (gs.getD (j + 1) []))
def upto (gs : List (List Dd)) : Nat → List Dd
  | 0 => gs.getD 0 []
  | j + 1 => upto gs j ++ gs.getD (j + 1) []
structure Fns (fl : List D) (gs : List (List Dd)) : Prop where
  at' : ∀ j, j < gs.length → ∃ nm, fl[j]? = some (.tup [nm, kinds, U, bodyJ gs j])
  ne : ∀ j, j < gs.length → gs.getD j [] ≠ [] ∧ (gs.getD j []).length ≤ 8 ∧ ∀ d ∈ gs.getD j [], OkD d
theorem upto_len {fl : List D} {gs : List (List Dd)} (F : Fns fl gs) : ∀ j, j < gs.length → (upto gs j).length ≤ 8 * (j + 1)
  | 0, h => (F.ne 0 h).2.1
  | j + 1, h => by
    have := upto_len F j (by omega)
    have := (F.ne (j + 1) h).2.1
    show (upto gs j ++ gs.getD (j + 1) []).length ≤ _
    rw [List.length_append]; omega
section
variable {fl : List D} {gs : List (List Dd)} {f tk : Int} {pa pb pv sN m : Nat} {s : Sx} {G : MH}
theorem six_names (q : Q) (hq : q.fl = .non) (hm : 2 ≤ m) (sp : Scp pa pb pv sN G) : EvL (m + nms.length) nms (.ref (sN + 5)) q G [.ref (pa + 5), .ref (pb + 5), .ref (pa + 5), .ref (pb + 5), .ref (pv + 5), .ref (pv + 5)] q G := by
  have k := sp.k
  have r := sp.r
  exact EvL.cons (m := m) ((ev_nm hq (k 0 (by decide))).mono hm) (EvL.cons (m := m) ((ev_nm hq (k 1 (by decide))).mono hm) (EvL.cons (m := m) ((ev_nm hq (k 2 (by decide))).mono hm) (EvL.cons (m := m) ((ev_nm hq (k 3 (by decide))).mono hm)
    (EvL.cons (m := m) ((ev_nm hq (r 0 (by decide))).mono hm) (EvL.cons (m := m) ((ev_nm hq (r 1 (by decide))).mono hm) EvL.nil)))))
theorem new_scp {u : MO} : Scp pa pb pv (G.length + 1) (G ++ [u] ++ [scD (.ref (pa + 5)) (.ref (pb + 5)) (.ref (pa + 5)) (.ref (pb + 5)) (.ref (pv + 5)) (.ref (pv + 5))]) := by
  have at1 : ∀ o : MO, (G ++ [u] ++ [o])[G.length + 1]? = some o := fun o => by
    have : (G ++ [u]).length = G.length + 1 := by rw [List.length_append, List.length_singleton]
    rw [← this]; simp
  refine ⟨fun w hw => ⟨_, at1 _, ?_⟩, fun w hw => ⟨_, at1 _, ?_⟩⟩
  · match w, hw with
    | 0, _ => rfl
    | 1, _ => rfl
    | 2, _ => rfl
    | 3, _ => rfl
    | n + 4, h => omega
  · match w, hw with
    | 0, _ => rfl
    | 1, _ => rfl
    | 2, _ => rfl
    | 3, _ => rfl
    | n + 4, h => omega
theorem call_one {j : Nat} {nm body : D} {o : Ot} {tk' : Int} (hj : fl[j]? = some (.tup [nm, kinds, U, body])) (hm : 2 ≤ m) (z : tk + 1 ≤ f) (c : Cs pa pb pv s G) (sp : Scp pa pb pv sN G)
    (b : ∀ sN' G', Cs pa pb pv s G' → Scp pa pb pv sN' G' → Run (.tup fl) f pa pb pv (m + 8) body (.ref (sN' + 5)) (tk + 1) s G' tk' o) : Run (.tup fl) f pa pb pv (m + 8) (callE j nms) (.ref (sN + 5)) tk s G tk' o := by
  have b := b (G.length + 1) _ (c.app (u := .lst [.ref (pa + 5), .ref (pb + 5), .ref (pa + 5), .ref (pb + 5), .ref (pv + 5), .ref (pv + 5)])).app new_scp
  have six := six_names (m := m) (qa (.tup fl) f tk s.outs) rfl hm sp
  have r : ∀ T X, T.length + 2 < BIG → ∃ d, m__end_call [.ref 0, mkE "call" U (.int j) nms, .ref (sN + 5), .ref (G.length + 5)] (H (qa (.tup fl) f tk s.outs) T X (G ++ [.lst [.ref (pa + 5), .ref (pb + 5), .ref (pa + 5), .ref (pb + 5), .ref (pv + 5), .ref (pv + 5)]])) = .ok d (H (qa (.tup fl) f (tk + 1) s.outs) (T ++ [bg body (.ref (G.length + 1 + 5))]) X (G ++ [.lst [.ref (pa + 5), .ref (pb + 5), .ref (pa + 5), .ref (pb + 5), .ref (pv + 5), .ref (pv + 5)]] ++ [scD (.ref (pa + 5)) (.ref (pb + 5)) (.ref (pa + 5)) (.ref (pb + 5)) (.ref (pv + 5)) (.ref (pv + 5))])) := fun T X zt =>
    ⟨.non, e_call (q := qa (.tup fl) f tk s.outs) (ks := nms) rfl hj z zt⟩
  cases o with
  | ok s' =>
    obtain ⟨G', x, y, k⟩ := b
    exact ⟨G', ev_tail (m := m) op_call rfl rfl six rfl r x, y, (Kp.app.trans Kp.app).trans k⟩
  | idx i os => exact fl_tail (m := m) op_call rfl rfl six rfl r b
theorem call_ok (F : Fns fl gs) : ∀ (j : Nat) (s : Sx) (G : MH) (sN : Nat) (tk : Int), j < gs.length → Cs pa pb pv s G → Scp pa pb pv sN G → s.outs.length + 8 * (j + 1) < BIG → tk + j + 1 ≤ f → Run (.tup fl) f pa pb pv (58 + 12 * j) (callE j nms) (.ref (sN + 5)) tk s G (tk + j + 1) (runs s (upto gs j))
  | 0, s, G, sN, tk, hj, c, sp, hz, z => by
    obtain ⟨nm, e⟩ := F.at' 0 hj
    obtain ⟨n1, n2, n3⟩ := F.ne 0 hj
    refine call_one (m := 50) e (by decide) (by omega) c sp fun sN' G' c' sp' => ?_
    have := grpE_ok (fs := .tup fl) (f := f) (tk := tk + 1) n1 n2 n3 c' sp' (by omega)
    have et : tk + ((0 : Nat) : Int) + 1 = tk + 1 := by omega
    rw [et]
    exact this.mono (by decide)
  | j + 1, s, G, sN, tk, hj, c, sp, hz, z => by
    obtain ⟨nm, e⟩ := F.at' (j + 1) hj
    obtain ⟨n1, n2, n3⟩ := F.ne (j + 1) hj
    have em : 58 + 12 * (j + 1) = (62 + 12 * j) + 8 := by omega
    rw [em]
    refine call_one (m := 62 + 12 * j) e (by omega) (by omega) c sp fun sN' G' c' sp' => ?_
    have a := call_ok F j s G' sN' (tk + 1) (by omega) c' sp' (by omega) (by omega)
    have et : tk + ((j + 1 : Nat) : Int) + 1 = tk + 1 + j + 1 := by omega
    rw [et]
    have ea : runs s (upto gs (j + 1)) = (runs s (upto gs j)).bind fun s1 => runs s1 (gs.getD (j + 1) []) := runs_app _ _ _
    rw [ea]
    refine (run_seq a fun s1 G1 eo c1 k1 => ?_).mono (by omega)
    have := runs_outs _ eo
    have := upto_len F j (by omega)
    exact (grpE_ok n1 n2 n3 c1 (k1.scp sp') (by omega)).mono (by omega)
theorem call_fuel (F : Fns fl gs) : ∀ (j : Nat) (s : Sx) (G : MH) (sN : Nat) (tk : Int), j < gs.length → Cs pa pb pv s G → Scp pa pb pv sN G → tk ≤ f → f < tk + j + 1 → Fl (58 + 12 * j) (callE j nms) (.ref (sN + 5)) (qa (.tup fl) f tk s.outs) G (qf (.tup fl) f f s.outs fuelF)
  | j, s, G, sN, tk, hj, c, sp, z0, z => by
    obtain ⟨nm, e⟩ := F.at' j hj
    by_cases h1 : tk + 1 ≤ f
    · cases j with
      | zero => omega
      | succ j =>
        have a := fun sN' G' c' sp' => call_fuel F j s G' sN' (tk + 1) (by omega) c' sp' (by omega) (by omega)
        have b : ∀ T X, T.length + 2 < BIG → ∃ d, m__end_call [.ref 0, mkE "call" U (.int (j + 1 : Nat)) nms, .ref (sN + 5), .ref (G.length + 5)] (H (qa (.tup fl) f tk s.outs) T X (G ++ [.lst [.ref (pa + 5), .ref (pb + 5), .ref (pa + 5), .ref (pb + 5), .ref (pv + 5), .ref (pv + 5)]])) = .ok d (H (qa (.tup fl) f (tk + 1) s.outs) (T ++ [bg (bodyJ gs (j + 1)) (.ref (G.length + 1 + 5))]) X (G ++ [.lst [.ref (pa + 5), .ref (pb + 5), .ref (pa + 5), .ref (pb + 5), .ref (pv + 5), .ref (pv + 5)]] ++ [scD (.ref (pa + 5)) (.ref (pb + 5)) (.ref (pa + 5)) (.ref (pb + 5)) (.ref (pv + 5)) (.ref (pv + 5))])) := fun T X zt =>
          ⟨.non, e_call (q := qa (.tup fl) f tk s.outs) (ks := nms) rfl e h1 zt⟩
        have em : 58 + 12 * (j + 1) = (62 + 12 * j) + nms.length + 2 := by show _ = 62 + 12 * j + 6 + 2; omega
        rw [em]
        refine fl_tail (m := 62 + 12 * j) op_call rfl rfl (six_names _ rfl (by omega) sp) rfl b ?_
        exact (fl_op (m := 58 + 12 * j) op_seq rfl (FlL.head (a (G.length + 1) _ c.app.app new_scp))).mono (by
          show 58 + 12 * j + 2 + 2 ≤ 62 + 12 * j + 6 + 2
          omega)
    · have em : 50 + 12 * j + nms.length + 2 = 58 + 12 * j := by show 50 + 12 * j + 6 + 2 = _; omega
      rw [← em]
      refine fl_end (m := 50 + 12 * j) op_call rfl rfl (six_names _ rfl (by omega) sp) rfl fun T X p => ⟨_, _, _, _, x_call (q := qa (.tup fl) f tk s.outs) (ks := nms) rfl e (by show f < tk + 1; omega)⟩
end
end K18
namespace K18
open PySem PySem.Spec PyProof.Rows L2 MM
section
variable {q q1 q3 : Q} {G G1 G3 : MH} {m s : Nat} {w val body v vv : D} {x : Str} {kvs : List (Key × D)}
theorem ev_let (hq : q.fl = .non) (hq1 : q1.fl = .non) (a : Ev m val (.ref (s + 5)) q G v q1 G1) (hs : G1[s]? = some (.dic kvs)) (zk : kvs.length < 16777216) (b : Ev (m + 3) body (.ref (G1.length + 1 + 5)) q1 (G1 ++ [.lst [v]] ++ [.dic (putD kvs (.inr x) v)]) vv q3 G3) : Ev (m + 3) (letE w x val body) (.ref (s + 5)) q G vv q3 G3 :=
  ev_tail (m := m) op_let hq hq1 (EvL.cons (m := m) a EvL.nil) rfl (fun T X zt => ⟨_, e_let hs zk zt⟩) b
theorem fl_let (hq : q.fl = .non) (hq1 : q1.fl = .non) (a : Ev m val (.ref (s + 5)) q G v q1 G1) (hs : G1[s]? = some (.dic kvs)) (zk : kvs.length < 16777216) (b : Fl (m + 3) body (.ref (G1.length + 1 + 5)) q1 (G1 ++ [.lst [v]] ++ [.dic (putD kvs (.inr x) v)]) q3) : Fl (m + 3) (letE w x val body) (.ref (s + 5)) q G q3 :=
  fl_tail (m := m) op_let hq hq1 (EvL.cons (m := m) a EvL.nil) rfl (fun T X zt => ⟨_, e_let hs zk zt⟩) b
theorem fl_val (hq : q.fl = .non) (a : Fl m val (.ref (s + 5)) q G q3) : Fl (m + 3) (letE w x val body) (.ref (s + 5)) q G q3 :=
  fl_op (m := m) op_let hq (FlL.head a)
end
def Out (m : Nat) (e sc : D) (q : Q) (G : MH) (res : D) : Prop :=
  (∃ v q' G', Ev m e sc q G v q' G' ∧ q'.fl = .non ∧ (∃ n, v = .int n) ∧ (∃ os : List Int, q'.outs = os.map D.int) ∧ res = .tup [.non, v, .tup q'.outs, .int q'.tk]) ∨
  (∃ q' xs, Fl m e sc q G q' ∧ q'.fl = .tup xs ∧ q'.rt = .int 0 ∧ (D.tup xs).lows 0 = true ∧ (∃ os : List Int, q'.outs = os.map D.int) ∧ res = .tup [.tup xs, .int 0, .tup q'.outs, .int q'.tk])
section
variable {q q1 : Q} {G G1 : MH} {m n s : Nat} {w val body v res e sc : D} {x : Str} {kvs : List (Key × D)}
theorem Out.mono (o : Out m e sc q G res) (h : m ≤ n) : Out n e sc q G res := by
  rcases o with ⟨v, q', G', a, b⟩ | ⟨q', xs, a, b⟩
  · exact .inl ⟨v, q', G', a.mono h, b⟩
  · exact .inr ⟨q', xs, a.mono h, b⟩
theorem out_let (hq : q.fl = .non) (hq1 : q1.fl = .non) (a : Ev m val (.ref (s + 5)) q G v q1 G1) (hs : G1[s]? = some (.dic kvs)) (zk : kvs.length < 16777216) (b : Out (m + 3) body (.ref (G1.length + 1 + 5)) q1 (G1 ++ [.lst [v]] ++ [.dic (putD kvs (.inr x) v)]) res) : Out (m + 3) (letE w x val body) (.ref (s + 5)) q G res := by
  rcases b with ⟨v', q', G', b, c⟩ | ⟨q', xs, b, c⟩
  · exact .inl ⟨v', q', G', ev_let hq hq1 a hs zk b, c⟩
  · exact .inr ⟨q', xs, fl_let hq hq1 a hs zk b, c⟩
end
def derC : D := mkE "deref" W .non [nmE RF "c"]
def body1 : Nat → D
  | 0 => derC
  | j + 1 => seqE W (callE j nms) derC
def mainB (many : Nat) (st : Int) (k : Nat) : D :=
  letE W "a" (mkE "ref" RF .non [intE st]) (letE W "b" (mkE "ref" RF .non [intE (st + 1)]) (letE W "c" (nmE RF "a") (letE W "d" (nmE RF "b") (letE W "v" (mkE "array" AR .non [intE many, intE st]) (letE W "w" (nmE AR "v") (body1 k))))))
def allD (gs : List (List Dd)) : Nat → List Dd
  | 0 => []
  | j + 1 => upto gs j
def s0 (many : Nat) (st : Int) : Sx := ⟨st, st + 1, List.replicate many st, []⟩
def resO (tk : Int) : Ot → D
  | .ok s => .tup [.non, .int s.A, .tup (s.outs.map D.int), .int tk]
  | .idx i os => .tup [rais "Index" i, .int 0, .tup (os.map D.int), .int tk]
def resM (many : Nat) (st : Int) (gs : List (List Dd)) (f : Int) : D := if f < many + gs.length then .tup [fuelF, .int 0, .tup [], .int f] else resO (many + gs.length) (runs (s0 many st) (allD gs gs.length))
section
variable {fl : List D} {gs : List (List Dd)} {f tk st : Int} {pa pb pv sN m many : Nat} {s : Sx} {G : MH}
theorem ev_der (c : Cs pa pb pv s G) (sp : Scp pa pb pv sN G) : Ev 6 derC (.ref (sN + 5)) (qa (.tup fl) f tk s.outs) G (.int s.A) (qa (.tup fl) f tk s.outs) (G ++ [.lst [.ref (pa + 5)]]) :=
  (ev_op (m := 2) (op_deref (w := W) (i := .non)) rfl rfl (EvL.cons (m := 2) (ev_nm rfl (sp.k 2 (by decide))) EvL.nil) rfl fun T X p z1 z2 => ⟨.non, e_deref (v := .int s.A) c.a z2⟩).mono (Nat.le_of_ble_eq_true rfl)
theorem body_out (F : Fns fl gs) (c : Cs pa pb pv s G) (sp : Scp pa pb pv sN G) (hz : s.outs.length + 8 * gs.length < BIG) (ht : tk ≤ f) :
    Out (62 + 12 * gs.length) (body1 gs.length) (.ref (sN + 5)) (qa (.tup fl) f tk s.outs) G (if f < tk + gs.length then .tup [fuelF, .int 0, .tup (s.outs.map D.int), .int f] else resO (tk + gs.length) (runs s (allD gs gs.length))) := by
  cases hk : gs.length with
  | zero =>
    rw [if_neg (by omega)]
    have et : tk + ((0 : Nat) : Int) = tk := by omega
    rw [et]
    exact .inl ⟨.int s.A, _, _, (ev_der c sp).mono (by decide), rfl, ⟨_, rfl⟩, ⟨_, rfl⟩, rfl⟩
  | succ j =>
    by_cases z : f < tk + ((j + 1 : Nat) : Int)
    · rw [if_pos z]
      have a := call_fuel (f := f) F j s G sN tk (by omega) c sp ht (by omega)
      have e2 : Fl (58 + 12 * j + 2 + 2) (seqE W (callE j nms) derC) (.ref (sN + 5)) (qa (.tup fl) f tk s.outs) G (qf (.tup fl) f f s.outs fuelF) := fl_op (m := 58 + 12 * j) op_seq rfl (FlL.head a)
      exact .inr ⟨qf (.tup fl) f f s.outs fuelF, [.str "fuel"], e2.mono (by omega), rfl, rfl, rfl, ⟨_, rfl⟩, rfl⟩
    · rw [if_neg z]
      have a := call_ok (f := f) F j s G sN tk (by omega) c sp (by rw [hk] at hz; exact hz) (by omega)
      have et : tk + ((j + 1 : Nat) : Int) = tk + j + 1 := by omega
      rw [et]
      show Out _ _ _ _ _ (resO (tk + j + 1) (runs s (upto gs j)))
      revert a
      generalize runs s (upto gs j) = o
      intro a
      cases o with
      | ok s1 =>
        obtain ⟨G1, x, y, k⟩ := a
        have d := ev_der (fl := fl) (f := f) (tk := tk + j + 1) y (k.scp sp)
        have d2 : Ev (58 + 12 * j) derC (.ref (sN + 5)) (qa (.tup fl) f (tk + j + 1) s1.outs) G1 (.int s1.A) (qa (.tup fl) f (tk + j + 1) s1.outs) (G1 ++ [.lst [.ref (pa + 5)]]) := d.mono (by omega)
        have e2 : Ev (58 + 12 * j + 2 + 2) (seqE W (callE j nms) derC) (.ref (sN + 5)) (qa (.tup fl) f tk s.outs) G (.int s1.A) (qa (.tup fl) f (tk + j + 1) s1.outs) (G1 ++ [.lst [.ref (pa + 5)]] ++ [.lst [.non, .int s1.A]]) :=
          ev_op (m := 58 + 12 * j) op_seq rfl rfl (EvL.cons (m := 58 + 12 * j) x (EvL.cons (m := 58 + 12 * j) d2 EvL.nil)) rfl fun T X p z1 z2 => ⟨.non, e_seq z2⟩
        exact .inl ⟨.int s1.A, qa (.tup fl) f (tk + j + 1) s1.outs, _, e2.mono (by omega), rfl, ⟨_, rfl⟩, ⟨_, rfl⟩, rfl⟩
      | idx i os =>
        have e2 : Fl (58 + 12 * j + 2 + 2) (seqE W (callE j nms) derC) (.ref (sN + 5)) (qa (.tup fl) f tk s.outs) G (qf (.tup fl) f (tk + j + 1) os (rais "Index" i)) := fl_op (m := 58 + 12 * j) op_seq rfl (FlL.head a)
        exact .inr ⟨qf (.tup fl) f (tk + j + 1) os (rais "Index" i), [.str "raised", .str "Index", .int i], e2.mono (by omega), rfl, rfl, rfl, ⟨_, rfl⟩, rfl⟩
def GM (st : Int) (many : Nat) : MH :=
  [.dic [], .lst [.int st], .lst [.ref 6], .dic [(.inr "a", .ref 6)], .lst [.int (st + 1)], .lst [.ref 9], .dic [(.inr "a", .ref 6), (.inr "b", .ref 9)], .lst [.ref 6], .dic [(.inr "a", .ref 6), (.inr "b", .ref 9), (.inr "c", .ref 6)],
   .lst [.ref 9], .dic [(.inr "a", .ref 6), (.inr "b", .ref 9), (.inr "c", .ref 6), (.inr "d", .ref 9)], .lst [.int many, .int st], .lst [.int st], .lst ((List.replicate many st).map D.int), .lst [.ref 18],
   .dic [(.inr "a", .ref 6), (.inr "b", .ref 9), (.inr "c", .ref 6), (.inr "d", .ref 9), (.inr "v", .ref 18)], .lst [.ref 18], .dic [(.inr "a", .ref 6), (.inr "b", .ref 9), (.inr "c", .ref 6), (.inr "d", .ref 9), (.inr "v", .ref 18), (.inr "w", .ref 18)]]
theorem gm_cs : Cs 1 4 13 (s0 many st) (GM st many) := ⟨rfl, rfl, rfl, by decide, by decide, by decide⟩
theorem gm_scp : Scp 1 4 13 17 (GM st many) := by
  refine ⟨fun w hw => ⟨_, rfl, ?_⟩, fun w hw => ⟨_, rfl, ?_⟩⟩
  · match w, hw with
    | 0, _ => rfl
    | 1, _ => rfl
    | 2, _ => rfl
    | 3, _ => rfl
    | n + 4, h => omega
  · match w, hw with
    | 0, _ => rfl
    | 1, _ => rfl
    | 2, _ => rfl
    | 3, _ => rfl
    | n + 4, h => omega
theorem ev_refE {n : Int} {q : Q} {s : Nat} (hq : q.fl = .non) (hm : 6 ≤ m) : Ev m (mkE "ref" RF .non [intE n]) (.ref (s + 5)) q G (.ref (G.length + 5)) q (G ++ [.lst [.int n]]) :=
  (ev_op (m := 2) (op_ref (w := RF) (i := .non)) hq hq (EvL.cons (m := 2) (ev_int hq) EvL.nil) rfl fun T X p z1 z2 => ⟨.non, e_ref z2⟩).mono (Nat.le_trans (Nat.le_of_ble_eq_true rfl) hm)
theorem main_out (F : Fns fl gs) (hn : many ≤ 12) (hf : 0 ≤ f) (hz : 8 * gs.length < BIG) : Out (62 + 12 * gs.length) (mainB many st gs.length) (.ref (0 + 5)) (qa (.tup fl) f 0 []) [.dic []] (resM many st gs f) := by
  have em : 62 + 12 * gs.length = 59 + 12 * gs.length + 3 := by omega
  have h6 : 6 ≤ 59 + 12 * gs.length := by omega
  have h2 : 2 ≤ 59 + 12 * gs.length := by omega
  rw [em]
  refine out_let (kvs := []) rfl rfl (ev_refE rfl h6) rfl (by decide) ?_
  refine out_let (s := 3) (kvs := [(.inr "a", .ref 6)]) rfl rfl (ev_refE rfl h6) rfl (show 1 < 16777216 by decide) ?_
  refine out_let (s := 6) (v := .ref 6) (kvs := [(.inr "a", .ref 6), (.inr "b", .ref 9)]) rfl rfl ((ev_nm rfl ⟨_, rfl, rfl⟩).mono h2) rfl (show 2 < 16777216 by decide) ?_
  refine out_let (s := 8) (v := .ref 9) (kvs := [(.inr "a", .ref 6), (.inr "b", .ref 9), (.inr "c", .ref 6)]) rfl rfl ((ev_nm rfl ⟨_, rfl, rfl⟩).mono h2) rfl (show 3 < 16777216 by decide) ?_
  by_cases z : f < many
  · have er : resM many st gs f = .tup [fuelF, .int 0, .tup [], .int f] := if_pos (by omega)
    rw [er]
    refine .inr ⟨qf (.tup fl) f f [] fuelF, _, fl_val (s := 10) rfl ((fl_end (m := 2) (q1 := qa (.tup fl) f 0 []) (op_array (w := AR) (i := .non)) rfl rfl (EvL.cons (m := 2) (ev_int rfl) (EvL.cons (m := 2) (ev_int rfl) EvL.nil)) rfl fun T X p => ⟨.non, T, X, _, x_array (q := qa (.tup fl) f 0 []) hn (by show f < 0 + (many : Int); omega)⟩).mono (Nat.le_trans (Nat.le_of_ble_eq_true rfl) h6)), rfl, rfl, rfl, ⟨[], rfl⟩, rfl⟩
  · have ea := ev_op (m := 2) (q2 := qa (.tup fl) f many []) (op_array (w := AR) (i := .non) (sc := .ref (10 + 5))) (q := qa (.tup fl) f 0 []) (G := (GM st many).take 11) rfl rfl (EvL.cons (m := 2) (ev_int rfl) (EvL.cons (m := 2) (ev_int rfl) EvL.nil)) rfl fun T X p z1 z2 => ⟨.non, by
      have := e_array (e := mkE "array" AR .non [intE many, intE st]) (sc := .ref (10 + 5)) (q := qa (.tup fl) f 0 []) (T := T) (X := X) (G := (GM st many).take 11) (y := st) hn (by show 0 + (many : Int) ≤ f; omega) z2
      have e0 : ({ qa (.tup fl) f 0 [] with tk := (qa (.tup fl) f 0 []).tk + many } : Q) = qa (.tup fl) f many [] := by
        unfold qa
        simp
      rw [e0] at this
      exact this⟩
    refine out_let (s := 10) (q1 := qa (.tup fl) f many []) (G1 := (GM st many).take 14) (v := .ref 18) (kvs := [(.inr "a", .ref 6), (.inr "b", .ref 9), (.inr "c", .ref 6), (.inr "d", .ref 9)]) rfl rfl (Ev.mono ea (Nat.le_trans (Nat.le_of_ble_eq_true rfl) h6)) rfl (show 4 < 16777216 by decide) ?_
    refine out_let (s := 15) (v := .ref 18) (kvs := [(.inr "a", .ref 6), (.inr "b", .ref 9), (.inr "c", .ref 6), (.inr "d", .ref 9), (.inr "v", .ref 18)]) rfl rfl ((ev_nm rfl ⟨_, rfl, rfl⟩).mono h2) rfl (show 5 < 16777216 by decide) ?_
    have := body_out (tk := many) (f := f) (s := s0 many st) F (gm_cs (st := st) (many := many)) gm_scp (by show 0 + 8 * gs.length < BIG; omega) (by omega)
    rw [em] at this
    exact this
end
end K18
namespace K18
open PySem PySem.Spec PyProof.Rows L2 MM
section
variable {fl : List D} {f : Int} {m : Nat} {body args res nm lim : D} {ex : D}
def Emp (args : D) : Prop := args = .rol [] ∨ args = .tup []
theorem lc_nil {δ : MS} {h : MH} (tw : Emp args) (e : δ[1]? = some (some args)) : mLc (mSrc (mVar 1)) (mgName 5) (mYes) (mCall m_wrap (mCons (mVar 5) (mNil))) [5] δ h = .ok (.rol []) h := by
  have es : ∃ g, mSrc (mVar 1) δ h = .ok ⟨[], g⟩ h ∧ ∀ k, g (h ++ k) := by
    rw [mSrc_eq, mVar_eq e, R.bnd_ok]
    rcases tw with rfl | rfl
    · exact ⟨_, srcOf_rol, fun _ => trivial⟩
    · exact ⟨_, srcOf_tup, fun _ => trivial⟩
  obtain ⟨g, es, hg⟩ := es
  exact mLc_map (vs := [5]) (elt := mCall m_wrap (mCons (mVar 5) (mNil))) (tgt := mgName 5) (fun d => d) es hg (by show 0 < 16777216; decide) (fun d hd => by cases hd) (fun d hd => by cases hd)
theorem last_fn {u : D} {h : MH} (e : fl.getLast? = some u) : opIx (.tup fl) (.int (-1)) h = .ok u h := by
  refine opIx_of ?_
  show L2.atI fl (-1) = some u
  cases fl with
  | nil => cases e
  | cons a r =>
    unfold L2.atI
    have hl : ((a :: r).length : Int) = r.length + 1 := by rw [List.length_cons]; omega
    have : ixN (a :: r).length (-1) = some r.length := by
      unfold ixN
      rw [if_neg (by omega), if_pos (by omega)]
      congr 1
      omega
    rw [this, Option.bind_some]
    rw [List.getLast?_eq_getElem?] at e
    exact e
theorem evaluate_ok (ho : Out m body (.ref (0 + 5)) (qa (.tup fl) f 0 []) [.dic []] res) (hm : m < BIG) (hl : fl.getLast? = some (.tup [nm, .tup [], W, body])) (tw : Emp args) :
    ∃ q T Dn G, m_Evaluation_evaluate [.ref 0, args] (H (qa (.tup fl) f 0 []) [] [] []) = .ok .non (H q T Dn G) ∧ res = .tup [q.fl, q.rt, .tup q.outs, .int q.tk] ∧ q.fl.lows 0 = true ∧ q.rt.lows 0 = true ∧ ∃ os : List Int, q.outs = os.map D.int := by
  have e1 : opIx (.tup fl) (.int (-1)) (H (qa (.tup fl) f 0 []) [] [] []) = .ok (.tup [nm, .tup [], W, body]) (H (qa (.tup fl) f 0 []) [] [] []) := last_fn hl
  have e3 : fLen [args] (H (qa (.tup fl) f 0 []) [] [] []) = .ok (.int 0) (H (qa (.tup fl) f 0 []) [] [] []) := by rcases tw with rfl | rfl <;> rfl
  have e5 := lc_nil (δ := [some (.ref 0), some args, some W, some (.tup []), some body, none]) (h := H (qa (.tup fl) f 0 []) [] [] []) tw rfl
  have e6 : m__bound [.tup [], .rol []] (H (qa (.tup fl) f 0 []) [] [] []) = .ok (.ref (0 + 5)) (H (qa (.tup fl) f 0 []) [] [] [.dic []]) := bound_nil
  have e7 : mCall m__bound (mCons (mVar 3) (mCons (mLc (mSrc (mVar 1)) (mgName 5) (mYes) (mCall m_wrap (mCons (mVar 5) (mNil))) [5]) (mNil))) [some (.ref 0), some args, some W, some (.tup []), some body, none] (H (qa (.tup fl) f 0 []) [] [] []) = .ok (.ref (0 + 5)) (H (qa (.tup fl) f 0 []) [] [] [.dic []]) := by
    rw [mCall_eq, mCons_eq, v3, R.bnd_ok, mCons_eq, e5, R.bnd_ok, mNil_eq, R.bnd_ok, R.bnd_ok, R.bnd_ok, e6]
  have e8 := begins (q := qa (.tup fl) f 0 []) (T := []) (Dn := []) (G := [.dic []]) (m := mVar 4) (e := body) (h1 := H (qa (.tup fl) f 0 []) [] [] []) (δ := [some (.ref 0), some args, some W, some (.tup []), some body, none]) rfl rfl e7 ⟨_, _, _, _, rfl⟩ (by decide)
  have pre : ∀ K : MSt, mSeq (mAsgSeq 4 (mgCons (mgName 2) (mgCons (mgName 3) (mgCons (mgName 2) (mgCons (mgName 4) (mgNil))))) (mOp opIx (mFld ["Evaluation"] "functions" (mVar 0)) (mUn opNeg (mC (.int 1))))) (mSeq (mIfS (mB (mOp opNe (mCall fLen (mCons (mVar 1) (mNil))) (mCall fLen (mCons (mVar 3) (mNil))))) (mSeq (mDrop (mMeth "Outcome" "end_stuck" m_Outcome_end_stuck (mFld ["Evaluation"] "outcome" (mVar 0)) mNil)) (mRet (mC .non))) (mNext)) (mSeq (mDrop (mMeth "Evaluation" "begin" m_Evaluation_begin (mVar 0) (mCons (mVar 4) (mCons (mCall m__bound (mCons (mVar 3) (mCons (mLc (mSrc (mVar 1)) (mgName 5) (mYes) (mCall m_wrap (mCons (mVar 5) (mNil))) [5]) (mNil)))) (mNil))))) K)) [some (.ref 0), some args, none, none, none, none] (H (qa (.tup fl) f 0 []) [] [] [])
      = K [some (.ref 0), some args, some W, some (.tup []), some body, none] (H (qa (.tup fl) f 0 []) ([] ++ [bg body (.ref (0 + 5))]) [] [.dic []]) := fun K => by
    rw [mSeq_eq]
    show SR.seq (R.st (opIx (.tup fl) (.int (-1)) (H (qa (.tup fl) f 0 []) [] [] [])) _ _) _ = _
    rw [e1]
    show SR.seq (SR.ok (.next [some (.ref 0), some args, some W, some (.tup []), some body, none]) (H (qa (.tup fl) f 0 []) [] [] [])) _ = _
    rw [SR.seq_next, mSeq_eq, mIfS_eq]
    have e4 : mB (mOp opNe (mCall fLen (mCons (mVar 1) mNil)) (mCall fLen (mCons (mVar 3) mNil))) [some (.ref 0), some args, some W, some (.tup []), some body, none] (H (qa (.tup fl) f 0 []) [] [] []) = .ok false (H (qa (.tup fl) f 0 []) [] [] []) := by
      rw [mB_eq, mOp_eq, mCall_eq, mCons_eq, v1, R.bnd_ok, mNil_eq, R.bnd_ok, R.bnd_ok, e3, R.bnd_ok]
      rfl
    rw [e4, R.st_ok]
    show SR.seq (SR.ok (.next [some (.ref 0), some args, some W, some (.tup []), some body, none]) (H (qa (.tup fl) f 0 []) [] [] [])) _ = _
    rw [SR.seq_next, mSeq_eq, e8, SR.seq_next]
  have pn : Pl [] := fun t ht => by cases ht
  have hm' : ([] : List D).length + m < BIG := by show 0 + m < BIG; omega
  rcases ho with ⟨v, q', G', ev, hq, ⟨n, hv⟩, ho, hr⟩ | ⟨q', xs, ev, hq, hrt, hx, ho, hr⟩
  · have lp := ev [] [] pn hm' hm' [some args, some W, some (.tup []), some body, none] _ loop_end (fun z => by cases z)
    obtain ⟨fs', f', tk', outs', fl', rt'⟩ := q'
    have hq : fl' = .non := hq
    subst hq hv
    refine ⟨⟨fs', f', tk', outs', .non, .int n⟩, [], [.int n], G', ?_, hr, rfl, rfl, ho⟩
    refine fnN_non (δ := [some (.ref 0), some args, some W, some (.tup []), some body, none]) rfl ?_
    show b_Evaluation_evaluate [some (.ref 0), some args, none, none, none, none] _ = _
    unfold b_Evaluation_evaluate
    rw [pre, mSeq_eq]
    show SR.seq (loopB [some (.ref 0), some args, some W, some (.tup []), some body, none] _) _ = _
    rw [lp, SR.seq_next]
    rfl
  · obtain ⟨T', Dn', G', t⟩ := ev [] [] pn hm' hm'
    have lp := t [some args, some W, some (.tup []), some body, none] _ (loop_fl hq) (fun z => by cases z)
    obtain ⟨fs', f', tk', outs', fl', rt'⟩ := q'
    have hq : fl' = .tup xs := hq
    have hrt : rt' = .int 0 := hrt
    subst hq hrt
    refine ⟨⟨fs', f', tk', outs', .tup xs, .int 0⟩, T', Dn', G', ?_, hr, hx, rfl, ho⟩
    refine fnN_non (δ := [some (.ref 0), some args, some W, some (.tup []), some body, none]) rfl ?_
    show b_Evaluation_evaluate [some (.ref 0), some args, none, none, none, none] _ = _
    unfold b_Evaluation_evaluate
    rw [pre, mSeq_eq]
    show SR.seq (loopB [some (.ref 0), some args, some W, some (.tup []), some body, none] _) _ = _
    rw [lp, SR.seq_next]
    rfl
theorem lows_ints {n : Nat} : ∀ os : List Int, lowsL n (os.map D.int) = true
  | [] => rfl
  | x :: os => by
    show (true && lowsL n (os.map D.int)) = true
    rw [lows_ints os]; rfl
theorem result_ok {q : Q} {T Dn : List D} {G : MH} {os : List Int} (hl : q.fl.lows 0 = true) (hr : q.rt.lows 0 = true) (ho : q.outs = os.map D.int) : (∀ n, (D.tup [q.fl, q.rt, .tup q.outs, .int q.tk]).lows n = true) → m_Outcome_result [.ref 1] (H q T Dn G) = .ok (.tup [q.fl, q.rt, .tup q.outs, .int q.tk]) (H q T Dn G) := fun z => by
  refine fn_same rfl rfl (z _)
theorem make_ok {f' : Int} (hf : 0 ≤ f') (hf2 : f' ≤ 200) : mMake "Evaluation" m_Evaluation___init__ (mCons (mVar 0) (mCons (mVar 2) (mNil))) [some (.tup [ex, exD, .tup fl]), some args, some (.int f'), none] [] = .ok (.ref 0) (H (qa (.tup fl) f' 0 []) [] [] []) := by
  have e : (if (200 : Int) < (if (0 : Int) > f' then 0 else f') then (200 : Int) else (if (0 : Int) > f' then 0 else f')) = f' := by
    rw [if_neg (by omega), if_neg (by omega)]
  have : ∃ f2, f2 = (if (200 : Int) < (if (0 : Int) > f' then 0 else f') then (200 : Int) else (if (0 : Int) > f' then 0 else f')) ∧ mMake "Evaluation" m_Evaluation___init__ (mCons (mVar 0) (mCons (mVar 2) (mNil))) [some (.tup [ex, exD, .tup fl]), some args, some (.int f'), none] [] = .ok (.ref 0) (H (qa (.tup fl) f2 0 []) [] [] []) := ⟨_, rfl, rfl⟩
  obtain ⟨f2, e1, e2⟩ := this
  rw [e2, e1, e]
theorem run_ok (ho : Out m body (.ref (0 + 5)) (qa (.tup fl) f 0 []) [.dic []] res) (hm : m < BIG) (hl : fl.getLast? = some (.tup [nm, .tup [], W, body])) (tw : Emp args) (hf : 0 ≤ f) (hf2 : f ≤ 200) (low : ∀ n, res.lows n = true) : m_run [.tup [ex, exD, .tup fl], args, .int f] [] = .ok res [] := by
  obtain ⟨q, T, Dn, G, ev, er, l1, l2, os, eo⟩ := evaluate_ok ho hm hl tw
  have fin : b_run [some (.tup [ex, exD, .tup fl]), some args, some (.int f), none] [] = .ok (.ret res) (H q T Dn G) := by
    unfold b_run
    rw [mSeq_eq, mSet_eq, make_ok hf hf2, R.st_ok, SR.seq_next, mSeq_eq]
    show SR.seq (R.st (if isI "Evaluation" "evaluate" (.ref 0) (H (qa (.tup fl) f 0 []) [] [] []) = true then m_Evaluation_evaluate [.ref 0, args] (H (qa (.tup fl) f 0 []) [] [] []) else .stuck) _ _) _ = _
    rw [if_pos (isE "evaluate" rfl), ev, R.st_ok, SR.seq_next]
    show R.st (if isI "Outcome" "result" (.ref 1) (H q T Dn G) = true then m_Outcome_result [.ref 1] (H q T Dn G) else .stuck) _ _ = _
    rw [if_pos (isO "result" rfl), result_ok l1 l2 eo (by rw [← er]; exact low), ← er]; rfl
  have qq : m_run [.tup [ex, exD, .tup fl], args, .int f] [] = mEnd [] (b_run [some (.tup [ex, exD, .tup fl]), some args, some (.int f), none] []) := mFn_eq rfl
  rw [qq, fin]
  show leave [] res (H q T Dn G) = _
  have L : LeftOf [] (H q T Dn G) := ⟨Nat.zero_le _, fun n o hn => absurd hn (by simp)⟩
  rw [leave_eq L (low 0)]
  rfl
end
end K18
namespace K18
open PySem PySem.Spec PyProof.Rows L2 MM
theorem pow_ok {i : Int} {j : Nat} {h : MH} (hj : j ≤ 1000) (hi : i.natAbs < 2 ^ 64) : opPow (.int i) (.int (j : Int)) h = .ok (.int (i ^ j)) h := by
  unfold opPow
  simp only
  rw [if_pos ⟨by omega, by omega, hi⟩, Int.toNat_natCast]
section
variable {h : MH} {ns : List Int} {x y c n : Int} {a b k v : D} {s : Str}
theorem cell_ok (k : Nat) : m__law_cell [.rol (ns.map D.int), .int k] h = .ok (.int (ns.getD k 0)) h := by
  refine fn_same rfl ?_ rfl
  show b__law_cell [some (.rol (ns.map D.int)), some (.int k)] h = _
  unfold b__law_cell
  have e1 : fLen [.rol (ns.map D.int)] h = .ok (.int (ns.length : Int)) h := by
    rw [fLen_rol, List.length_map]
  by_cases z : k < ns.length
  · have z' : decide ((k : Int) < (ns.length : Int)) = true := decide_eq_true (by omega)
    have e2 : opIx (.rol (ns.map D.int)) (.int k) h = .ok (.int (ns.getD k 0)) h := by
      refine opIx_of ?_
      rw [ixG_rol]
      refine atI_ok (by omega) ?_
      rw [Int.toNat_natCast, List.getElem?_map, List.getD_eq_getElem?_getD, List.getElem?_eq_getElem z]
      rfl
    simp only [mSeq_eq, mSet_eq, mRet_eq, mOp_eq, mCall_eq, mCons_eq, mNil_eq, mC_eq, mIf_eq, mB_eq, isB_eq, mAndV_eq, mDrop_eq, mMeth_eq, mFld_eq, mMtd_eq, mAsg_eq, mIfS_eq, mTru_eq, mNot_eq, mUn_eq, v0, v1, v2, v3, v4, v5, v6, R.bnd_ok, R.st_ok, SR.seq_next, SR.seq_ret, List.set_cons_zero, List.set_cons_succ, fAbs_v, opLt_int, opNeg_int, opSub_int, opEq_int, opEq_str, opEq_bl, if_true, if_false, Bool.false_eq_true, Bool.true_eq_false, e1, z', e2]
  · have z' : decide ((k : Int) < (ns.length : Int)) = false := decide_eq_false (by omega)
    have e0 : ns.getD k 0 = 0 := by rw [List.getD_eq_getElem?_getD, List.getElem?_eq_none (by omega)]; rfl
    simp only [mSeq_eq, mSet_eq, mRet_eq, mOp_eq, mCall_eq, mCons_eq, mNil_eq, mC_eq, mIf_eq, mB_eq, isB_eq, mAndV_eq, mDrop_eq, mMeth_eq, mFld_eq, mMtd_eq, mAsg_eq, mIfS_eq, mTru_eq, mNot_eq, mUn_eq, v0, v1, v2, v3, v4, v5, v6, R.bnd_ok, R.st_ok, SR.seq_next, SR.seq_ret, List.set_cons_zero, List.set_cons_succ, fAbs_v, opLt_int, opNeg_int, opSub_int, opEq_int, opEq_str, opEq_bl, if_true, if_false, Bool.false_eq_true, Bool.true_eq_false, e1, z', e0]
    rfl
theorem whole_ok : m__law_whole [] h = .ok W h := fn_same rfl rfl rfl
theorem int_ok : m__law_int [.int n] h = .ok (intE n) h := by
  refine fn_same rfl ?_ rfl
  show b__law_int [some (.int n)] h = _
  unfold b__law_int
  rw [mRet_eq, mTup_eq, mCons_eq, mC_eq, R.bnd_ok, mCons_eq, mCall_eq, mNil_eq, R.bnd_ok, whole_ok, R.bnd_ok]; rfl
theorem name_ok (hk : ∀ n, k.lows n = true) : m__law_name [k, .str s] h = .ok (nmE k s) h := by
  refine fn_same rfl rfl ?_
  show (true && (k.lows h.length && (true && (true && (true && true))))) = true
  rw [hk]; rfl
theorem print_ok (ha : ∀ n, a.lows n = true) : m__law_print [a] h = .ok (prE a) h := by
  refine fn_same rfl rfl ?_
  show (true && (true && (true && ((a.lows h.length && true) && (true && true))))) = true
  rw [ha]; rfl
theorem mkE_lows {op : Str} {w i : D} {ks : List D} {n : Nat} (hw : w.lows n = true) (hi : i.lows n = true) (hk : lowsL n ks = true) : (mkE op w i ks).lows n = true := by
  show (true && (w.lows n && (i.lows n && (lowsL n ks && (true && true))))) = true
  rw [hw, hi, hk]; rfl
theorem seqw_ok {op : Str} {w i : D} {ks : List D} (hw : ∀ n, w.lows n = true) (ha : ∀ n, a.lows n = true) (hb : ∀ n, (mkE op w i ks).lows n = true) : m__law_seq [a, mkE op w i ks] h = .ok (seqE w a (mkE op w i ks)) h := by
  refine fn_same rfl rfl (mkE_lows (hw _) rfl ?_)
  show (a.lows h.length && ((mkE op w i ks).lows h.length && true)) = true
  rw [ha, hb]; rfl
theorem let_ok {op : Str} {w i : D} {ks : List D} (hw : ∀ n, w.lows n = true) (ha : ∀ n, a.lows n = true) (hb : ∀ n, (mkE op w i ks).lows n = true) : m__law_let [.str s, a, mkE op w i ks] h = .ok (letE w s a (mkE op w i ks)) h := by
  refine fn_same rfl rfl (mkE_lows (hw _) rfl ?_)
  show (a.lows h.length && ((mkE op w i ks).lows h.length && true)) = true
  rw [ha, hb]; rfl
def dT (d : Dd) : D := .tup [.int d.k, .int d.w, .int d.i, .int d.v]
theorem dE_lows {d : Dd} {n : Nat} : (dE d).lows n = true := by
  obtain ⟨k, w, i, v⟩ := d
  match k with
  | 0 | 1 | 2 | 3 | 4 => rfl
  | n + 5 => rfl
theorem dE_mk {d : Dd} : ∃ op ks, dE d = mkE op U .non ks := by
  obtain ⟨k, w, i, v⟩ := d
  match k with
  | 0 | 1 | 2 | 3 | 4 => exact ⟨_, _, rfl⟩
  | n + 5 => exact ⟨_, _, rfl⟩
section
variable {cnd : MT} {A B : MSt} {δ : MS} {r : D}
theorem if_no (hc : cnd δ h = .ok false h) : mSeq (mIfS cnd A (mNext)) B δ h = B δ h := by
  rw [mSeq_eq, mIfS_eq, hc, R.st_ok]; rfl
theorem if_yes (hc : cnd δ h = .ok true h) (ha : A δ h = .ok (.ret r) h) : mSeq (mIfS cnd A (mNext)) B δ h = .ok (.ret r) h := by
  rw [mSeq_eq, mIfS_eq, hc, R.st_ok, if_pos rfl, ha]; rfl
end
theorem expr_pre {w : Nat} (hw : w < 4) {k i v : Int} (K : MSt) :
    mSeq (mSet 1 (mTup (mCons (mC (.str "unit")) (mCons (mTup (mNil)) (mCons (mC (.int 0)) (mNil)))))) (mSeq (mSet 2 (mCall m__law_whole mNil)) (mSeq (mSet 3 (mTup (mCons (mC (.str "ref")) (mCons (mTup (mCons (mVar 2) (mNil))) (mCons (mC (.int 0)) (mNil)))))) (mSeq (mSet 4 (mTup (mCons (mC (.str "array")) (mCons (mTup (mCons (mVar 2) (mNil))) (mCons (mC (.int 0)) (mNil)))))) (mSeq (mSet 5 (mCall m__law_name (mCons (mVar 3) (mCons (mOp opIx (mLst (mCons (mC (.str "a")) (mCons (mC (.str "b")) (mCons (mC (.str "c")) (mCons (mC (.str "d")) (mNil)))))) (mOp opIx (mVar 0) (mC (.int 1)))) (mNil))))) (mSeq (mSet 6 (mCall m__law_name (mCons (mVar 4) (mCons (mOp opIx (mLst (mCons (mC (.str "v")) (mCons (mC (.str "w")) (mCons (mC (.str "v")) (mCons (mC (.str "w")) (mNil)))))) (mOp opIx (mVar 0) (mC (.int 1)))) (mNil))))) K)))))
      [some (.tup [.int k, .int w, .int i, .int v]), none, none, none, none, none, none, none] h = K [some (.tup [.int k, .int w, .int i, .int v]), some U, some W, some RF, some AR, some (nmE RF (kn w)), some (nmE AR (rn w)), none] h := by
  have n1 := name_ok (k := RF) (s := kn w) (h := h) fun _ => rfl
  have n2 := name_ok (k := AR) (s := rn w) (h := h) fun _ => rfl
  rw [mSeq_eq]
  show mSeq (mSet 2 (mCall m__law_whole mNil)) _ [some (.tup [.int k, .int w, .int i, .int v]), some U, none, none, none, none, none, none] h = _
  rw [mSeq_eq]
  show SR.seq (R.st (m__law_whole [] h) _ _) _ = _
  rw [whole_ok, R.st_ok, SR.seq_next]
  show mSeq (mSet 5 (mCall m__law_name (mCons (mVar 3) (mCons (mOp opIx (mLst (mCons (mC (.str "a")) (mCons (mC (.str "b")) (mCons (mC (.str "c")) (mCons (mC (.str "d")) (mNil)))))) (mOp opIx (mVar 0) (mC (.int 1)))) (mNil))))) _ [some (.tup [.int k, .int w, .int i, .int v]), some U, some W, some RF, some AR, none, none, none] h = _
  have a1 : mCall m__law_name (mCons (mVar 3) (mCons (mOp opIx (mLst (mCons (mC (.str "a")) (mCons (mC (.str "b")) (mCons (mC (.str "c")) (mCons (mC (.str "d")) (mNil)))))) (mOp opIx (mVar 0) (mC (.int 1)))) (mNil))) [some (.tup [.int k, .int w, .int i, .int v]), some U, some W, some RF, some AR, none, none, none] h = .ok (nmE RF (kn w)) h := by
    rw [← n1]
    match w, hw with
    | 0, _ => rfl
    | 1, _ => rfl
    | 2, _ => rfl
    | 3, _ => rfl
    | n + 4, h => omega
  have a2 : mCall m__law_name (mCons (mVar 4) (mCons (mOp opIx (mLst (mCons (mC (.str "v")) (mCons (mC (.str "w")) (mCons (mC (.str "v")) (mCons (mC (.str "w")) (mNil)))))) (mOp opIx (mVar 0) (mC (.int 1)))) (mNil))) [some (.tup [.int k, .int w, .int i, .int v]), some U, some W, some RF, some AR, some (nmE RF (kn w)), none, none] h = .ok (nmE AR (rn w)) h := by
    rw [← n2]
    match w, hw with
    | 0, _ => rfl
    | 1, _ => rfl
    | 2, _ => rfl
    | 3, _ => rfl
    | n + 4, h => omega
  rw [mSeq_eq, mSet_eq, a1, R.st_ok, SR.seq_next]
  show mSeq (mSet 6 _) K [some (.tup [.int k, .int w, .int i, .int v]), some U, some W, some RF, some AR, some (nmE RF (kn w)), none, none] h = _
  rw [mSeq_eq, mSet_eq, a2, R.st_ok, SR.seq_next]
  rfl
theorem expression_ok {d : Dd} (hd : OkD d) : m__law_expression [dT d] h = .ok (dE d) h := by
  refine fn_same rfl ?_ dE_lows
  obtain ⟨k, w, i, v⟩ := d
  obtain ⟨hk, hw⟩ := hd
  have hk : k < 6 := hk
  show b__law_expression [some (.tup [.int k, .int w, .int i, .int v]), none, none, none, none, none, none, none] h = _
  unfold b__law_expression
  rw [expr_pre hw]
  have iv : mCall m__law_int (mCons (mOp opIx (mVar 0) (mC (.int 3))) (mNil)) [some (.tup [.int k, .int w, .int i, .int v]), some U, some W, some RF, some AR, some (nmE RF (kn w)), some (nmE AR (rn w)), none] h = .ok (intE v) h := int_ok
  have ii : mCall m__law_int (mCons (mOp opIx (mVar 0) (mC (.int 2))) (mNil)) [some (.tup [.int k, .int w, .int i, .int v]), some U, some W, some RF, some AR, some (nmE RF (kn w)), some (nmE AR (rn w)), none] h = .ok (intE i) h := int_ok
  match k, hk with
  | 0, _ =>
    refine if_yes rfl ?_
    have t : mTup (mCons (mVar 5) (mCons (mCall m__law_int (mCons (mOp opIx (mVar 0) (mC (.int 3))) (mNil))) (mNil))) [some (.tup [.int (0 : Nat), .int w, .int i, .int v]), some U, some W, some RF, some AR, some (nmE RF (kn w)), some (nmE AR (rn w)), none] h = .ok (.tup [nmE RF (kn w), intE v]) h := by
      rw [mTup_eq, mCons_eq, v5, R.bnd_ok, mCons_eq, iv, R.bnd_ok]; rfl
    rw [mRet_eq, mTup_eq, mCons_eq, mC_eq, R.bnd_ok, mCons_eq, v1, R.bnd_ok, mCons_eq, mC_eq, R.bnd_ok, mCons_eq, t, R.bnd_ok]; rfl
  | 1, _ =>
    rw [if_no rfl]
    refine if_yes rfl ?_
    show R.st (m__law_print [mkE "deref" W .non [nmE RF (kn w)]] h) _ _ = _
    rw [print_ok (fun _ => rfl)]; rfl
  | 2, _ =>
    rw [if_no rfl, if_no rfl]
    refine if_yes rfl ?_
    rw [mRet_eq]
    have : mTup (mCons (mVar 6) (mCons (mCall m__law_int (mCons (mOp opIx (mVar 0) (mC (.int 2))) (mNil))) (mCons (mCall m__law_int (mCons (mOp opIx (mVar 0) (mC (.int 3))) (mNil))) (mNil)))) [some (.tup [.int (2 : Nat), .int w, .int i, .int v]), some U, some W, some RF, some AR, some (nmE RF (kn w)), some (nmE AR (rn w)), none] h = .ok (.tup [nmE AR (rn w), intE i, intE v]) h := by
      rw [mTup_eq, mCons_eq, v6, R.bnd_ok, mCons_eq, ii, R.bnd_ok, mCons_eq, iv, R.bnd_ok]; rfl
    show R.st (R.bnd (R.bnd (R.bnd (R.bnd (R.bnd (mTup _ _ h) _) _) _) _) _) _ _ = _
    rw [this]; rfl
  | 3, _ =>
    rw [if_no rfl, if_no rfl, if_no rfl]
    refine if_yes rfl ?_
    have t : mTup (mCons (mVar 6) (mCons (mCall m__law_int (mCons (mOp opIx (mVar 0) (mC (.int 2))) (mNil))) (mNil))) [some (.tup [.int (3 : Nat), .int w, .int i, .int v]), some U, some W, some RF, some AR, some (nmE RF (kn w)), some (nmE AR (rn w)), none] h = .ok (.tup [nmE AR (rn w), intE i]) h := by
      rw [mTup_eq, mCons_eq, v6, R.bnd_ok, mCons_eq, ii, R.bnd_ok]; rfl
    have t2 : mTup (mCons (mC (.str "at")) (mCons (mVar 2) (mCons (mC .non) (mCons (mTup (mCons (mVar 6) (mCons (mCall m__law_int (mCons (mOp opIx (mVar 0) (mC (.int 2))) (mNil))) (mNil)))) (mCons (mTup (mNil)) (mNil)))))) [some (.tup [.int (3 : Nat), .int w, .int i, .int v]), some U, some W, some RF, some AR, some (nmE RF (kn w)), some (nmE AR (rn w)), none] h = .ok (mkE "at" W .non [nmE AR (rn w), intE i]) h := by
      show R.bnd (R.bnd (R.bnd (R.bnd (R.bnd (mTup _ _ h) _) _) _) _) _ = _
      rw [t]; rfl
    rw [mRet_eq, mCall_eq, mCons_eq, t2, R.bnd_ok, mNil_eq, R.bnd_ok, R.bnd_ok, print_ok (fun _ => rfl)]; rfl
  | 4, _ =>
    rw [if_no rfl, if_no rfl, if_no rfl, if_no rfl]
    refine if_yes rfl ?_
    show R.st (m__law_print [mkE "len" W .non [nmE AR (rn w)]] h) _ _ = _
    rw [print_ok (fun _ => rfl)]; rfl
  | 5, _ =>
    rw [if_no rfl, if_no rfl, if_no rfl, if_no rfl, if_no rfl]
    have t : mTup (mCons (mVar 6) (mCons (mCall m__law_int (mCons (mOp opIx (mVar 0) (mC (.int 2))) (mNil))) (mNil))) [some (.tup [.int (5 : Nat), .int w, .int i, .int v]), some U, some W, some RF, some AR, some (nmE RF (kn w)), some (nmE AR (rn w)), none] h = .ok (.tup [nmE AR (rn w), intE i]) h := by
      rw [mTup_eq, mCons_eq, v6, R.bnd_ok, mCons_eq, ii, R.bnd_ok]; rfl
    have t2 : mTup (mCons (mC (.str "at")) (mCons (mVar 2) (mCons (mC .non) (mCons (mTup (mCons (mVar 6) (mCons (mCall m__law_int (mCons (mOp opIx (mVar 0) (mC (.int 2))) (mNil))) (mNil)))) (mCons (mTup (mNil)) (mNil)))))) [some (.tup [.int (5 : Nat), .int w, .int i, .int v]), some U, some W, some RF, some AR, some (nmE RF (kn w)), some (nmE AR (rn w)), none] h = .ok (mkE "at" W .non [nmE AR (rn w), intE i]) h := by
      show R.bnd (R.bnd (R.bnd (R.bnd (R.bnd (mTup _ _ h) _) _) _) _) _ = _
      rw [t]; rfl
    rw [mSeq_eq, mSet_eq, t2, R.st_ok, SR.seq_next]; rfl
  | n + 6, h => omega
end
end K18
namespace K18
open PySem PySem.Spec PyProof.Rows L2 MM
section
variable {h : MH}
theorem forM_step {g : MH → Prop} {tgt : MG} {body : MSt} {x : D} {r : List D} {δ δ1 δ2 : MS} {h h2 : MH} (q : g h) (et : tgt x δ = some δ1) (eb : body δ1 h = .ok (.next δ2) h2) : MM.forM g tgt body (x :: r) δ h = MM.forM g tgt body r δ2 h2 := by
  rw [MM.forM, if_pos q]
  simp only [et, eb]
theorem forM_nil {g : MH → Prop} {tgt : MG} {body : MSt} {δ : MS} {h : MH} (q : g h) : MM.forM g tgt body [] δ h = .ok (.next δ) h := by
  rw [MM.forM, if_pos q]
theorem op2 {f : D → D → MH → R D} {m1 m2 : ME} {δ : MS} {x y z : D} (ea : m1 δ h = .ok x h) (eb : m2 δ h = .ok y h) (eo : f x y h = .ok z h) : mOp f m1 m2 δ h = .ok z h := by
  rw [mOp_eq, ea, R.bnd_ok, eb, R.bnd_ok, eo]
theorem call1 {f : List D → MH → R D} {m1 : ME} {δ : MS} {x z : D} (ea : m1 δ h = .ok x h) (eo : f [x] h = .ok z h) : mCall f (mCons m1 mNil) δ h = .ok z h := by
  rw [mCall_eq, mCons_eq, ea, R.bnd_ok, mNil_eq, R.bnd_ok, R.bnd_ok, eo]
theorem set_ok' {m1 : ME} {δ : MS} {x : D} {i : Nat} (e : m1 δ h = .ok x h) : mSet i m1 δ h = .ok (.next (δ.set i (some x))) h := by
  rw [mSet_eq, e, R.st_ok]
theorem seq2 {A B : MSt} {δ δ1 : MS} {h h1 : MH} (e : A δ h = .ok (.next δ1) h1) : mSeq A B δ h = B δ1 h1 := by
  rw [mSeq_eq, e, SR.seq_next]
def dOf (many : Nat) (c : Int) : Dd := ⟨(c % 6).toNat, (c / 6 % 4).toNat, c / 24 % ((many : Int) + 2) - 1, c / 24 % 2147483648 - 1073741824⟩
theorem dOf_ok {many : Nat} {c : Int} : OkD (dOf many c) := by
  have h1 := Int.emod_nonneg c (b := 6) (by decide)
  have h2 := Int.emod_lt_of_pos c (b := 6) (by decide)
  have h3 := Int.emod_nonneg (c / 6) (b := 4) (by decide)
  have h4 := Int.emod_lt_of_pos (c / 6) (b := 4) (by decide)
  refine ⟨?_, ?_⟩
  · show (c % 6).toNat < 6; omega
  · show (c / 6 % 4).toNat < 4; omega
theorem dT_of {many : Nat} {c : Int} : dT (dOf many c) = .tup [.int (c % 6), .int (c / 6 % 4), .int (c / 24 % ((many : Int) + 2) - 1), .int (c / 24 % 2147483648 - 1073741824)] := by
  have h1 := Int.emod_nonneg c (b := 6) (by decide)
  have h3 := Int.emod_nonneg (c / 6) (b := 4) (by decide)
  unfold dT dOf
  simp only [Int.toNat_of_nonneg h1, Int.toNat_of_nonneg h3]
theorem deeds_for {cells : D} {many : Nat} : ∀ (cs : List Int) (acc : List D) (x3 x4 x5 x6 x7 : Option D), acc.length + cs.length < 1000 → ∃ y3 y4 y5 y6 y7, MM.forM (fun _ => True) (mgName 3) b__law_deeds_1 (cs.map D.int) [some cells, some (.int many), some (.ref 0), x3, x4, x5, x6, x7] [.lst acc] = .ok (.next [some cells, some (.int many), some (.ref 0), y3, y4, y5, y6, y7]) [.lst (acc ++ cs.map fun c => dT (dOf many c))]
  | [], acc, x3, x4, x5, x6, x7, z => ⟨x3, x4, x5, x6, x7, by rw [List.map_nil, List.map_nil, List.append_nil]; exact forM_nil trivial⟩
  | c :: cs, acc, x3, x4, x5, x6, x7, z => by
    rw [List.length_cons] at z
    obtain ⟨y3, y4, y5, y6, y7, ih⟩ := deeds_for (cells := cells) (many := many) cs (acc ++ [dT (dOf many c)]) (some (.int c)) (some (.int (c % 6))) (some (.int (c / 6 % 4))) (some (.int (c / 24 % ((many : Int) + 2) - 1))) (some (.int (c / 24 % 2147483648 - 1073741824))) (by rw [List.length_append, List.length_singleton]; omega)
    refine ⟨y3, y4, y5, y6, y7, ?_⟩
    have b : b__law_deeds_1 [some cells, some (.int many), some (.ref 0), some (.int c), x4, x5, x6, x7] [.lst acc] = .ok (.next [some cells, some (.int many), some (.ref 0), some (.int c), some (.int (c % 6)), some (.int (c / 6 % 4)), some (.int (c / 24 % ((many : Int) + 2) - 1)), some (.int (c / 24 % 2147483648 - 1073741824))]) [.lst (acc ++ [dT (dOf many c)])] := by
      unfold b__law_deeds_1
      have m6 : opMod (.int c) (.int 6) [.lst acc] = .ok (.int (c % 6)) [.lst acc] := opMod_int (by decide)
      have d6 : opDiv (.int c) (.int 6) [.lst acc] = .ok (.int (c / 6)) [.lst acc] := opDiv_int (by decide) (by decide)
      have m4 : opMod (.int (c / 6)) (.int 4) [.lst acc] = .ok (.int (c / 6 % 4)) [.lst acc] := opMod_int (by decide)
      have d24 : opDiv (.int c) (.int 24) [.lst acc] = .ok (.int (c / 24)) [.lst acc] := opDiv_int (by decide) (by decide)
      have mm : opMod (.int (c / 24)) (.int ((many : Int) + 2)) [.lst acc] = .ok (.int (c / 24 % ((many : Int) + 2))) [.lst acc] := opMod_int (by omega)
      have fi : fInt [.int (c / 24)] [.lst acc] = .ok (.int (c / 24)) [.lst acc] := rfl
      have p31 : opPow (.int 2) (.int 31) [.lst acc] = .ok (.int 2147483648) [.lst acc] := pow_ok (j := 31) (by decide) (by decide)
      have p30 : opPow (.int 2) (.int 30) [.lst acc] = .ok (.int 1073741824) [.lst acc] := pow_ok (j := 30) (by decide) (by decide)
      have m31 : opMod (.int (c / 24)) (.int 2147483648) [.lst acc] = .ok (.int (c / 24 % 2147483648)) [.lst acc] := opMod_int (by decide)
      have al : opAddL (.int (many : Int)) (.int 2) [.lst acc] = .ok (.int ((many : Int) + 2)) [.lst acc] := rfl
      have s1 : ∀ i j : Int, opSub (.int i) (.int j) [.lst acc] = .ok (.int (i - j)) [.lst acc] := fun i j => rfl
      have t : fAppend (.ref 0) [.tup [.int (c % 6), .int (c / 6 % 4), .int (c / 24 % ((many : Int) + 2) - 1), .int (c / 24 % 2147483648 - 1073741824)]] [.lst acc] = .ok .non [.lst (acc ++ [dT (dOf many c)])] := by
        rw [dT_of]
        show (if acc.length < 16777216 then _ else _) = _
        rw [if_pos (by omega)]; rfl
      rw [seq2 (set_ok' (op2 rfl rfl m6)), seq2 (set_ok' (op2 (op2 rfl rfl d6) rfl m4)), seq2 (set_ok' (op2 (op2 (op2 rfl rfl d24) (op2 rfl rfl al) mm) rfl (s1 _ _))), seq2 (set_ok' (op2 (op2 (call1 (op2 rfl rfl d24) fi) (op2 rfl rfl p31) m31) (op2 rfl rfl p30) (s1 _ _)))]
      show R.st (fAppend (.ref 0) [.tup [.int (c % 6), .int (c / 6 % 4), .int (c / 24 % ((many : Int) + 2) - 1), .int (c / 24 % 2147483648 - 1073741824)]] [.lst acc]) _ _ = _
      rw [t]; rfl
    rw [List.map_cons, forM_step (δ1 := [some cells, some (.int many), some (.ref 0), some (.int c), x4, x5, x6, x7]) trivial rfl b, ih, List.append_assoc]
    rfl
theorem deeds_ok {cs : List Int} {many : Nat} (hl : cs.length < 1000) : m__law_deeds [.rol (cs.map D.int), .int many] [] = .ok (.rol ((cs.map (dOf many)).map dT)) [] := by
  obtain ⟨y3, y4, y5, y6, y7, lp⟩ := deeds_for (cells := .rol (cs.map D.int)) (many := many) cs [] none none none none none (by show 0 + cs.length < 1000; omega)
  have q : m__law_deeds [.rol (cs.map D.int), .int many] [] = mEnd [] (b__law_deeds [some (.rol (cs.map D.int)), some (.int many), none, none, none, none, none, none] []) := mFn_eq rfl
  rw [q]
  have e : b__law_deeds [some (.rol (cs.map D.int)), some (.int many), none, none, none, none, none, none] [] = .ok (.ret (.rol ((cs.map (dOf many)).map dT))) [.dead] := by
    unfold b__law_deeds
    rw [mSeq_eq]
    show SR.seq (SR.ok (.next [some (.rol (cs.map D.int)), some (.int many), some (.ref 0), none, none, none, none, none]) [.lst []]) _ = _
    rw [SR.seq_next, mSeq_eq, mFor_eq]
    show SR.seq (R.st (R.ok (⟨cs.map D.int, fun _ => True⟩ : Src) [.lst []]) _ _) _ = _
    rw [R.st_ok, lp, SR.seq_next, List.nil_append, List.map_map]
    rfl
  rw [e]
  show leave [] (.rol ((cs.map (dOf many)).map dT)) [.dead] = _
  have L : LeftOf [] [MO.dead] := ⟨Nat.zero_le _, fun n o hn => absurd hn (by simp)⟩
  have lw : ∀ xs : List Dd, lowsL 0 (xs.map dT) = true := fun xs => by
    induction xs with
    | nil => rfl
    | cons x xs ih =>
      show ((dT x).lows 0 && lowsL 0 (xs.map dT)) = true
      rw [ih]; rfl
  rw [leave_eq L (show (D.rol ((cs.map (dOf many)).map dT)).lows 0 = true from lw _)]; rfl
theorem lowsL_of {n : Nat} : ∀ {xs : List D}, (∀ x ∈ xs, x.lows n = true) → lowsL n xs = true
  | [], _ => rfl
  | x :: xs, h => by
    show (x.lows n && lowsL n xs) = true
    rw [h x (by simp), lowsL_of fun y hy => h y (List.mem_cons_of_mem _ hy)]; rfl
theorem seqE_lows {w a b : D} (hw : ∀ n, w.lows n = true) (ha : ∀ n, a.lows n = true) (hb : ∀ n, b.lows n = true) : ∀ n, (seqE w a b).lows n = true := fun n => mkE_lows (hw n) rfl (lowsL_of fun x hx => by
  simp only [List.mem_cons, List.not_mem_nil, or_false] at hx
  rcases hx with rfl | rfl
  · exact ha n
  · exact hb n)
theorem grp_low : ∀ (ds : List Dd) {e : D}, (∀ n, e.lows n = true) → ∀ n, (grp e ds).lows n = true
  | [], e, h => h
  | d :: ds, e, h => grp_low ds (seqE_lows (fun _ => rfl) h fun n => dE_lows)
theorem grpE_low (ds : List Dd) : ∀ n, (grpE ds).lows n = true := by
  cases ds with
  | nil => exact fun _ => rfl
  | cons d ds => exact grp_low ds fun n => dE_lows
theorem grp_mk : ∀ (ds : List Dd) {e : D}, (∃ op ks, e = mkE op U .non ks) → ∃ op ks, grp e ds = mkE op U .non ks
  | [], e, h => h
  | d :: ds, e, h => grp_mk ds ⟨_, _, rfl⟩
theorem grpE_mk {ds : List Dd} (h0 : ds ≠ []) : ∃ op ks, grpE ds = mkE op U .non ks := by
  cases ds with
  | nil => exact absurd rfl h0
  | cons d ds => exact grp_mk ds dE_mk
section
variable {a0 a1 a2 a3 a4 a5 a6 a10 a11 a12 a13 a14 a15 : Option D}
theorem in_for : ∀ (es : List Dd) (e : D) (x7 x9 : Option D) (h : MH), (∀ d ∈ es, OkD d) → (∀ n, e.lows n = true) → ∃ y9, MM.forM (fun _ => True) (mgName 9) b__law_program_1 (es.map dT) [a0, a1, a2, a3, a4, a5, a6, x7, some e, x9, a10, a11, a12, a13, a14, a15] h = .ok (.next [a0, a1, a2, a3, a4, a5, a6, x7, some (grp e es), y9, a10, a11, a12, a13, a14, a15]) h
  | [], e, x7, x9, h, _, _ => ⟨x9, forM_nil trivial⟩
  | d :: es, e, x7, x9, h, hd, he => by
    obtain ⟨y9, ih⟩ := in_for es (seqE U e (dE d)) x7 (some (dT d)) h (fun x hx => hd x (List.mem_cons_of_mem _ hx)) (seqE_lows (fun _ => rfl) he fun n => dE_lows)
    refine ⟨y9, ?_⟩
    have b : b__law_program_1 [a0, a1, a2, a3, a4, a5, a6, x7, some e, some (dT d), a10, a11, a12, a13, a14, a15] h = .ok (.next [a0, a1, a2, a3, a4, a5, a6, x7, some (seqE U e (dE d)), some (dT d), a10, a11, a12, a13, a14, a15]) h := by
      have e1 : m__law_expression [dT d] h = .ok (dE d) h := expression_ok (hd d (by simp))
      have e2 : m__law_seq [e, dE d] h = .ok (seqE U e (dE d)) h := by
        obtain ⟨op, ks, ed⟩ := dE_mk (d := d)
        have lw : ∀ n, (mkE op U .non ks).lows n = true := fun n => by rw [← ed]; exact dE_lows
        rw [ed]
        exact seqw_ok (fun _ => rfl) he lw
      show R.st (R.bnd (R.bnd (R.bnd (m__law_expression [dT d] h) fun d h1 => .ok [d] h1) fun ds h2 => .ok (e :: ds) h2) m__law_seq) _ _ = _
      rw [e1, R.bnd_ok, R.bnd_ok, R.bnd_ok, e2]; rfl
    rw [List.map_cons, forM_step (δ1 := [a0, a1, a2, a3, a4, a5, a6, x7, some e, some (dT d), a10, a11, a12, a13, a14, a15]) trivial rfl b, ih]; rfl
def chunk (ds : List Dd) (j : Nat) : List Dd := (ds.drop (8 * j)).take 8
theorem cut_mid {xs : List D} {a b : Nat} (hab : a ≤ b) : MM.cutD xs (some (a : Int)) (some (b : Int)) = (xs.drop a).take (b - a) := by
  unfold MM.cutD
  rw [HT.sIx_nat, HT.sIx_nat]
  by_cases c : a ≤ xs.length
  · rw [Nat.min_eq_left c]
    by_cases c2 : b ≤ xs.length
    · rw [Nat.min_eq_left c2]
    · rw [Nat.min_eq_right (by omega), List.take_of_length_le (by rw [List.length_drop]; omega), List.take_of_length_le (by rw [List.length_drop]; omega)]
  · have e1 : min a xs.length = xs.length := by omega
    have e2 : min b xs.length = xs.length := by omega
    rw [e1, e2, List.drop_of_length_le (Nat.le_refl _), List.drop_of_length_le (show xs.length ≤ a by omega)]
    simp
theorem chunk_cons {ds : List Dd} {j : Nat} (h : 8 * j < ds.length) : chunk ds j = ds[8 * j] :: (ds.drop (8 * j + 1)).take 7 := by
  unfold chunk
  rw [List.drop_eq_getElem_cons h, List.take_succ_cons]
theorem out_for {ds : List Dd} (hd : ∀ d ∈ ds, OkD d) : ∀ (k i : Nat) (x7 x8 x9 : Option D) (acc : List D), (∀ j, j < i + k → 8 * j < ds.length) → acc.length + k < 1000 → ∃ y7 y8 y9, MM.forM (fun _ => True) (mgName 7) b__law_program_2 ((List.range' i k).map fun (j : Nat) => D.int (0 + j * 8)) [a0, a1, some (.rol (ds.map dT)), a3, a4, a5, some (.ref 0), x7, x8, x9, a10, a11, a12, a13, a14, a15] [.lst acc]
    = .ok (.next [a0, a1, some (.rol (ds.map dT)), a3, a4, a5, some (.ref 0), y7, y8, y9, a10, a11, a12, a13, a14, a15]) [.lst (acc ++ (List.range' i k).map fun j => grpE (chunk ds j))]
  | 0, i, x7, x8, x9, acc, _, _ => ⟨x7, x8, x9, by
    rw [List.range'_zero, List.map_nil, List.map_nil, List.append_nil]
    exact forM_nil trivial⟩
  | k + 1, i, x7, x8, x9, acc, hi, z => by
    have hlt := hi i (by omega)
    have mi := List.getElem_mem hlt
    have ei : ds[8 * i]? = some ds[8 * i] := List.getElem?_eq_getElem hlt
    have ec := chunk_cons hlt
    have mc : ∀ d ∈ (ds.drop (8 * i + 1)).take 7, OkD d := fun d hd' => hd d (List.mem_of_mem_drop (List.mem_of_mem_take hd'))
    generalize ds[8 * i] = d at mi ei ec
    obtain ⟨y9, inn⟩ := in_for (a0 := a0) (a1 := a1) (a2 := some (.rol (ds.map dT))) (a3 := a3) (a4 := a4) (a5 := a5) (a6 := some (.ref 0)) (a10 := a10) (a11 := a11) (a12 := a12) (a13 := a13) (a14 := a14) (a15 := a15) ((ds.drop (8 * i + 1)).take 7) (dE d) (some (.int (0 + i * 8))) x9 [.lst acc] mc fun n => dE_lows
    obtain ⟨z7, z8, z9, ih⟩ := out_for hd k (i + 1) (some (.int (0 + i * 8))) (some (grpE (chunk ds i))) y9 (acc ++ [grpE (chunk ds i)]) (fun j hj => hi j (by omega)) (by rw [List.length_append, List.length_singleton]; omega)
    refine ⟨z7, z8, z9, ?_⟩
    have b : b__law_program_2 [a0, a1, some (.rol (ds.map dT)), a3, a4, a5, some (.ref 0), some (.int (0 + i * 8)), x8, x9, a10, a11, a12, a13, a14, a15] [.lst acc] = .ok (.next [a0, a1, some (.rol (ds.map dT)), a3, a4, a5, some (.ref 0), some (.int (0 + i * 8)), some (grpE (chunk ds i)), y9, a10, a11, a12, a13, a14, a15]) [.lst (acc ++ [grpE (chunk ds i)])] := by
      unfold b__law_program_2
      have e0 : opIx (.rol (ds.map dT)) (.int (0 + i * 8)) [.lst acc] = .ok (dT d) [.lst acc] := by
        refine opIx_of ?_
        rw [ixG_rol]
        refine atI_ok (by omega) ?_
        rw [show (0 + (i : Int) * 8).toNat = 8 * i by omega, List.getElem?_map, ei]; rfl
      have e1 : mSet 8 (mCall m__law_expression (mCons (mOp opIx (mVar 2) (mVar 7)) (mNil))) [a0, a1, some (.rol (ds.map dT)), a3, a4, a5, some (.ref 0), some (.int (0 + i * 8)), x8, x9, a10, a11, a12, a13, a14, a15] [.lst acc] = .ok (.next [a0, a1, some (.rol (ds.map dT)), a3, a4, a5, some (.ref 0), some (.int (0 + i * 8)), some (dE d), x9, a10, a11, a12, a13, a14, a15]) [.lst acc] := by
        show R.st (R.bnd (R.bnd (opIx (.rol (ds.map dT)) (.int (0 + i * 8)) [.lst acc]) fun d h1 => .ok [d] h1) m__law_expression) _ _ = _
        rw [e0, R.bnd_ok, R.bnd_ok, expression_ok (hd d mi)]; rfl
      have sr : mSrc (mSl opSl (mVar 2) (mPart (mOp opAddL (mVar 7) (mC (.int 1)))) (mPart (mOp opAddL (mVar 7) (mC (.int 8))))) [a0, a1, some (.rol (ds.map dT)), a3, a4, a5, some (.ref 0), some (.int (0 + i * 8)), some (dE d), x9, a10, a11, a12, a13, a14, a15] [.lst acc] = .ok ⟨((ds.drop (8 * i + 1)).take 7).map dT, fun _ => True⟩ [.lst acc] := by
        have ct := cut_mid (xs := ds.map dT) (a := 8 * i + 1) (b := 8 * i + 8) (by omega)
        rw [show 8 * i + 8 - (8 * i + 1) = 7 by omega, ← List.map_drop, ← List.map_take] at ct
        rw [← ct, show (((8 * i + 1 : Nat)) : Int) = 0 + i * 8 + 1 by omega, show (((8 * i + 8 : Nat)) : Int) = 0 + i * 8 + 8 by omega]
        rfl
      rw [mSeq_eq, e1, SR.seq_next, mSeq_eq, mFor_eq, sr, R.st_ok, inn, SR.seq_next]
      have ap : fAppend (.ref 0) [grp (dE d) ((ds.drop (8 * i + 1)).take 7)] [.lst acc] = .ok .non [.lst (acc ++ [grpE (chunk ds i)])] := by
        rw [ec]
        show (if acc.length < 16777216 then _ else _) = _
        rw [if_pos (by omega)]; rfl
      show R.st (fAppend (.ref 0) [grp (dE d) ((ds.drop (8 * i + 1)).take 7)] [.lst acc]) _ _ = _
      rw [ap, ec]; rfl
    rw [List.range'_succ, List.map_cons, forM_step (δ1 := [a0, a1, some (.rol (ds.map dT)), a3, a4, a5, some (.ref 0), some (.int (0 + i * 8)), x8, x9, a10, a11, a12, a13, a14, a15]) trivial rfl b, ih, List.append_assoc]
    rfl
end
theorem range_ok {n : Nat} (hn : n < 1000) : fRange3 [.int 0, .int n, .int 8] h = .ok ⟨(List.range ((n + 7) / 8)).map fun (j : Nat) => .int (0 + j * 8), fun _ => True⟩ h := by
  have e1 : Builtin.Range.rangeSize 0 (n : Int) 8 = (((n + 7) / 8 : Nat) : Int) := by
    rw [PyProof.Rows.rangeSize_pos (by decide) (by omega)]
    omega
  have e2 : Builtin.Range.small 0 (n : Int) 8 = true := by
    unfold Builtin.Range.small
    rw [e1]
    unfold Builtin.Range.rangeFitsLong
    simp
    omega
  unfold fRange3
  simp only [e1, Int.toNat_natCast]
  rw [if_pos ⟨⟨by decide, by decide⟩, e2, trivial⟩]
end
end K18
namespace K18
open PySem PySem.Spec PyProof.Rows L2 MM
section
variable {h : MH} {δ : MS}
theorem ac {m : ME} {ms : MA} {x : D} {xs : List D} (e : m δ h = .ok x h) (es : ms δ h = .ok xs h) : mCons m ms δ h = .ok (x :: xs) h := by
  rw [mCons_eq, e, R.bnd_ok, es, R.bnd_ok]
theorem an : mNil δ h = .ok [] h := rfl
theorem callA {f : List D → MH → R D} {ms : MA} {xs : List D} {z : D} (e : ms δ h = .ok xs h) (eo : f xs h = .ok z h) : mCall f ms δ h = .ok z h := by
  rw [mCall_eq, e, R.bnd_ok, eo]
theorem tupA {ms : MA} {xs : List D} (e : ms δ h = .ok xs h) (z : xs.length ≤ 16777216) : mTup ms δ h = .ok (.tup xs) h := by
  rw [mTup_eq, e, R.bnd_ok, if_pos z]
theorem mkA {m1 m2 m3 m4 m5 : ME} {op : Str} {w i : D} {ks : List D} (e1 : m1 δ h = .ok (.str op) h) (e2 : m2 δ h = .ok w h) (e3 : m3 δ h = .ok i h) (e4 : m4 δ h = .ok (.tup ks) h) (e5 : m5 δ h = .ok (.tup []) h) :
    mTup (mCons m1 (mCons m2 (mCons m3 (mCons m4 (mCons m5 mNil))))) δ h = .ok (mkE op w i ks) h := tupA (ac e1 (ac e2 (ac e3 (ac e4 (ac e5 an))))) (Nat.le_of_ble_eq_true rfl)
end
theorem part_name {h : MH} : ∀ i : Nat, i < 6 → ∃ s s2 : Str, fStr3 [.int i] h = .ok (.str s) h ∧ opAddL (.str "part") (.str s) h = .ok (.str s2) h
  | 0, _ => ⟨_, _, rfl, rfl⟩
  | 1, _ => ⟨_, _, rfl, rfl⟩
  | 2, _ => ⟨_, _, rfl, rfl⟩
  | 3, _ => ⟨_, _, rfl, rfl⟩
  | 4, _ => ⟨_, _, rfl, rfl⟩
  | 5, _ => ⟨_, _, rfl, rfl⟩
  | n + 6, h => absurd h (by omega)
theorem call_low {j : Nat} : ∀ n, (callE j nms).lows n = true := fun n => rfl
theorem body_low {gs : List (List Dd)} : ∀ (j n : Nat), (bodyJ gs j).lows n = true
  | 0, n => grpE_low _ n
  | j + 1, n => seqE_lows (fun _ => rfl) call_low (grpE_low _) n
def fnD (nm : Str) (gs : List (List Dd)) (j : Nat) : D := .tup [.str nm, kinds, U, bodyJ gs j]
theorem fn_low {nm : Str} {gs : List (List Dd)} {j n : Nat} : (fnD nm gs j).lows n = true := by
  show (true && (true && (true && ((bodyJ gs j).lows n && true)))) = true
  rw [body_low]; rfl
section
variable {a0 a1 a2 a3 a4 a5 a7 a9 a10 a15 : Option D} {gs : List (List Dd)} {gl : List D}
def δF (a0 a1 a2 a3 a4 a5 a7 a9 a10 a15 x8 x14 : Option D) : MS := [a0, a1, a2, a3, a4, a5, some (.ref 0), a7, x8, a9, a10, some (.ref 1), some kinds, some (.tup nms), x14, a15]
theorem fn_for (hne : ∀ j, j < gs.length → gs.getD j [] ≠ []) (h6 : gs.length ≤ 5) : ∀ (k i : Nat) (acc : List D) (x8 x14 : Option D), i + k = gs.length → acc.length = i → (∀ j, j < i → ∃ nm, acc[j]? = some (fnD nm gs j)) →
    ∃ acc' y8 y14, MM.forM (fun h' => lstD (.ref 0) h' = some gl) (mgName 8) b__law_program_3 ((List.range' i k).map fun j => grpE (gs.getD j [])) (δF a0 a1 a2 a3 a4 a5 a7 a9 a10 a15 x8 x14) [.lst gl, .lst acc] = .ok (.next (δF a0 a1 a2 a3 a4 a5 a7 a9 a10 a15 y8 y14)) [.lst gl, .lst acc'] ∧ acc'.length = gs.length ∧ ∀ j, j < gs.length → ∃ nm, acc'[j]? = some (fnD nm gs j)
  | 0, i, acc, x8, x14, hi, hl, ha => ⟨acc, x8, x14, forM_nil rfl, by omega, fun j hj => ha j (by omega)⟩
  | k + 1, i, acc, x8, x14, hi, hl, ha => by
    obtain ⟨s, s2, n1, n2⟩ := part_name (h := [.lst gl, .lst acc]) acc.length (by omega)
    have hne' := hne i (by omega)
    have e0 : fLen [.ref 1] [.lst gl, .lst acc] = .ok (.int acc.length) [.lst gl, .lst acc] := rfl
    have fin : ∀ (g : D) (y14 : Option D), g = bodyJ gs i → (mDrop (mMtd "list" fAppend (mVar 11) (mCons (mTup (mCons (mOp opAddL (mC (.str "part")) (mCall fStr3 (mCons (mCall fLen (mCons (mVar 11) (mNil))) (mNil)))) (mCons (mVar 12) (mCons (mTup (mCons (mC (.str "unit")) (mCons (mTup (mNil)) (mCons (mC (.int 0)) (mNil))))) (mCons (mVar 8) (mNil)))))) (mNil)))) (δF a0 a1 a2 a3 a4 a5 a7 a9 a10 a15 (some g) y14) [.lst gl, .lst acc] = .ok (.next (δF a0 a1 a2 a3 a4 a5 a7 a9 a10 a15 (some g) y14)) [.lst gl, .lst (acc ++ [fnD s2 gs i])] := fun g y14 eg => by
      have t : mTup (mCons (mOp opAddL (mC (.str "part")) (mCall fStr3 (mCons (mCall fLen (mCons (mVar 11) (mNil))) (mNil)))) (mCons (mVar 12) (mCons (mTup (mCons (mC (.str "unit")) (mCons (mTup (mNil)) (mCons (mC (.int 0)) (mNil))))) (mCons (mVar 8) (mNil))))) (δF a0 a1 a2 a3 a4 a5 a7 a9 a10 a15 (some g) y14) [.lst gl, .lst acc] = .ok (fnD s2 gs i) [.lst gl, .lst acc] := by
        rw [fnD, ← eg]
        exact tupA (ac (op2 rfl (callA (ac (callA (ac rfl an) e0) an) n1) n2) (ac rfl (ac rfl (ac rfl an)))) (Nat.le_of_ble_eq_true rfl)
      have ap : fAppend (.ref 1) [fnD s2 gs i] [.lst gl, .lst acc] = .ok .non [.lst gl, .lst (acc ++ [fnD s2 gs i])] := by
        show (if acc.length < 16777216 then _ else _) = _
        rw [if_pos (by omega)]; rfl
      show R.st (R.bnd (R.bnd (mTup _ _ [.lst gl, .lst acc]) fun d h1 => .ok [d] h1) fun ds h2 => fAppend (.ref 1) ds h2) _ _ = _
      rw [t, R.bnd_ok, R.bnd_ok, ap]; rfl
    have b : ∃ y8 y14, b__law_program_3 (δF a0 a1 a2 a3 a4 a5 a7 a9 a10 a15 (some (grpE (gs.getD i []))) x14) [.lst gl, .lst acc] = .ok (.next (δF a0 a1 a2 a3 a4 a5 a7 a9 a10 a15 y8 y14)) [.lst gl, .lst (acc ++ [fnD s2 gs i])] := by
      unfold b__law_program_3
      cases i with
      | zero =>
        refine ⟨some (grpE (gs.getD 0 [])), x14, ?_⟩
        have : acc = [] := List.length_eq_zero_iff.mp hl
        subst this
        rw [mSeq_eq]
        show SR.seq (SR.ok (.next (δF a0 a1 a2 a3 a4 a5 a7 a9 a10 a15 (some (grpE (gs.getD 0 []))) x14)) [.lst gl, .lst []]) _ = _
        rw [SR.seq_next]
        exact fin _ _ rfl
      | succ j =>
        refine ⟨some (seqE U (callE j nms) (grpE (gs.getD (j + 1) []))), some (callE j nms), ?_⟩
        obtain ⟨op, ks, ek⟩ := grpE_mk hne'
        have tr : mTru (mVar 11) (δF a0 a1 a2 a3 a4 a5 a7 a9 a10 a15 (some (grpE (gs.getD (j + 1) []))) x14) [.lst gl, .lst acc] = .ok true [.lst gl, .lst acc] := by
          cases acc with
          | nil => cases hl
          | cons x r => rfl
        have sq : m__law_seq [callE j nms, grpE (gs.getD (j + 1) [])] [.lst gl, .lst acc] = .ok (seqE U (callE j nms) (grpE (gs.getD (j + 1) []))) [.lst gl, .lst acc] := by
          have lw : ∀ n, (mkE op U .non ks).lows n = true := fun n => by rw [← ek]; exact grpE_low _ n
          rw [ek]
          exact seqw_ok (fun _ => rfl) call_low lw
        have ei : opSub (.int acc.length) (.int 1) [.lst gl, .lst acc] = .ok (.int j) [.lst gl, .lst acc] := by
          show R.ok (D.int ((acc.length : Int) - 1)) _ = _
          rw [show (acc.length : Int) - 1 = j by omega]
        have s1 : mSet 14 (mTup (mCons (mC (.str "call")) (mCons (mTup (mCons (mC (.str "unit")) (mCons (mTup (mNil)) (mCons (mC (.int 0)) (mNil))))) (mCons (mOp opSub (mCall fLen (mCons (mVar 11) (mNil))) (mC (.int 1))) (mCons (mVar 13) (mCons (mTup (mNil)) (mNil))))))) (δF a0 a1 a2 a3 a4 a5 a7 a9 a10 a15 (some (grpE (gs.getD (j + 1) []))) x14) [.lst gl, .lst acc] = .ok (.next (δF a0 a1 a2 a3 a4 a5 a7 a9 a10 a15 (some (grpE (gs.getD (j + 1) []))) (some (callE j nms)))) [.lst gl, .lst acc] :=
          set_ok' (x := callE j nms) (mkA rfl rfl (op2 (callA (ac rfl an) e0) rfl ei) rfl rfl)
        have s2' : mSet 8 (mCall m__law_seq (mCons (mVar 14) (mCons (mVar 8) (mNil)))) (δF a0 a1 a2 a3 a4 a5 a7 a9 a10 a15 (some (grpE (gs.getD (j + 1) []))) (some (callE j nms))) [.lst gl, .lst acc] = .ok (.next (δF a0 a1 a2 a3 a4 a5 a7 a9 a10 a15 (some (seqE U (callE j nms) (grpE (gs.getD (j + 1) [])))) (some (callE j nms)))) [.lst gl, .lst acc] :=
          set_ok' (callA (ac rfl (ac rfl an)) sq)
        have st : mIfS (mTru (mVar 11)) (mSeq (mSet 14 (mTup (mCons (mC (.str "call")) (mCons (mTup (mCons (mC (.str "unit")) (mCons (mTup (mNil)) (mCons (mC (.int 0)) (mNil))))) (mCons (mOp opSub (mCall fLen (mCons (mVar 11) (mNil))) (mC (.int 1))) (mCons (mVar 13) (mCons (mTup (mNil)) (mNil)))))))) (mSet 8 (mCall m__law_seq (mCons (mVar 14) (mCons (mVar 8) (mNil)))))) (mNext) (δF a0 a1 a2 a3 a4 a5 a7 a9 a10 a15 (some (grpE (gs.getD (j + 1) []))) x14) [.lst gl, .lst acc]
            = .ok (.next (δF a0 a1 a2 a3 a4 a5 a7 a9 a10 a15 (some (seqE U (callE j nms) (grpE (gs.getD (j + 1) [])))) (some (callE j nms)))) [.lst gl, .lst acc] := by
          rw [mIfS_eq, tr, R.st_ok, if_pos rfl, seq2 s1, s2']
        rw [seq2 st]
        exact fin _ _ rfl
    obtain ⟨y8, y14, b⟩ := b
    obtain ⟨acc', z8, z14, ih, h2, h3⟩ := fn_for hne h6 k (i + 1) (acc ++ [fnD s2 gs i]) y8 y14 (by omega) (by rw [List.length_append, List.length_singleton]; omega) (fun j hj => by
      by_cases c : j < i
      · obtain ⟨nm, e⟩ := ha j c
        exact ⟨nm, by rw [List.getElem?_append_left (by omega), e]⟩
      · have : j = i := by omega
        subst this
        refine ⟨s2, ?_⟩
        rw [← hl]; simp)
    refine ⟨acc', z8, z14, ?_, h2, h3⟩
    rw [List.range'_succ, List.map_cons, forM_step (g := fun h' => lstD (.ref 0) h' = some gl) (tgt := mgName 8) (body := b__law_program_3) (δ := δF a0 a1 a2 a3 a4 a5 a7 a9 a10 a15 x8 x14) (δ1 := δF a0 a1 a2 a3 a4 a5 a7 a9 a10 a15 (some (grpE (gs.getD i []))) x14) rfl rfl b, ih]
end
theorem letE_lows {w a b : D} {x : Str} (hw : ∀ n, w.lows n = true) (ha : ∀ n, a.lows n = true) (hb : ∀ n, b.lows n = true) : ∀ n, (letE w x a b).lows n = true := fun n => mkE_lows (hw n) rfl (lowsL_of fun y hy => by
  simp only [List.mem_cons, List.not_mem_nil, or_false] at hy
  rcases hy with rfl | rfl
  · exact ha n
  · exact hb n)
theorem let_ok' {h : MH} {s : Str} {a b : D} (hm : ∃ op i ks, b = mkE op W i ks) (ha : ∀ n, a.lows n = true) (hb : ∀ n, b.lows n = true) : m__law_let [.str s, a, b] h = .ok (letE W s a b) h := by
  obtain ⟨op, i, ks, rfl⟩ := hm
  exact let_ok (fun _ => rfl) ha hb
theorem body1_low : ∀ (k n : Nat), (body1 k).lows n = true
  | 0, n => rfl
  | j + 1, n => seqE_lows (fun _ => rfl) call_low (fun _ => rfl) n
theorem body1_mk : ∀ k : Nat, ∃ op i ks, body1 k = mkE op W i ks
  | 0 => ⟨_, _, _, rfl⟩
  | j + 1 => ⟨_, _, _, rfl⟩
end K18
namespace K18
open PySem PySem.Spec PyProof.Rows L2 MM
def gsOf (ds : List Dd) : List (List Dd) := (List.range ((ds.length + 7) / 8)).map (chunk ds)
theorem gs_len {ds : List Dd} : (gsOf ds).length = (ds.length + 7) / 8 := by unfold gsOf; simp
theorem gs_at {ds : List Dd} {j : Nat} (h : j < (gsOf ds).length) : (gsOf ds).getD j [] = chunk ds j := by
  rw [gs_len] at h
  unfold gsOf
  rw [List.getD_eq_getElem?_getD, List.getElem?_map, List.getElem?_range h]; rfl
theorem gs_lt {ds : List Dd} {j : Nat} (h : j < (gsOf ds).length) : 8 * j < ds.length := by rw [gs_len] at h; omega
theorem chunk_ok {ds : List Dd} {j : Nat} (hd : ∀ d ∈ ds, OkD d) (h : j < (gsOf ds).length) : (gsOf ds).getD j [] ≠ [] ∧ ((gsOf ds).getD j []).length ≤ 8 ∧ ∀ d ∈ (gsOf ds).getD j [], OkD d := by
  rw [gs_at h]
  refine ⟨by rw [chunk_cons (gs_lt h)]; simp, ?_, fun d hd' => hd d (List.mem_of_mem_drop (List.mem_of_mem_take hd'))⟩
  unfold chunk
  rw [List.length_take]; omega
theorem upto_take {ds : List Dd} : ∀ j : Nat, j < (gsOf ds).length → upto (gsOf ds) j = ds.take (8 * (j + 1))
  | 0, h => by
    show (gsOf ds).getD 0 [] = _
    rw [gs_at h]; rfl
  | j + 1, h => by
    show upto (gsOf ds) j ++ (gsOf ds).getD (j + 1) [] = _
    rw [gs_at h, upto_take j (by omega)]
    unfold chunk
    rw [show 8 * (j + 1 + 1) = 8 * (j + 1) + 8 by omega, List.take_add]
theorem all_ds {ds : List Dd} : allD (gsOf ds) (gsOf ds).length = ds := by
  cases h : (gsOf ds).length with
  | zero =>
    rw [gs_len] at h
    have : ds.length = 0 := by omega
    rw [List.length_eq_zero_iff.mp this]; rfl
  | succ j =>
    show upto (gsOf ds) j = ds
    rw [upto_take j (by omega)]
    rw [gs_len] at h
    exact List.take_of_length_le (by omega)
def mainD (many : Nat) (st : Int) (k : Nat) : D := .tup [.str "main", .tup [], W, mainB many st k]
def progD (fl : List D) (many : Nat) (st : Int) (k : Nat) : D := .tup [.tup [], exD, .tup (fl ++ [mainD many st k])]
section
variable {many : Nat} {st : Int} {ds : List Dd} {h : MH}
def x1E (st : Int) : D := mkE "ref" RF .non [intE st]
theorem b6_low (k n : Nat) : (letE W "w" (nmE AR "v") (body1 k)).lows n = true := letE_lows (fun _ => rfl) (fun _ => rfl) (body1_low k) n
theorem b5_low (k n : Nat) : (letE W "v" (mkE "array" AR .non [intE many, intE st]) (letE W "w" (nmE AR "v") (body1 k))).lows n = true := letE_lows (fun _ => rfl) (fun _ => rfl) (b6_low k) n
theorem b4_low (k n : Nat) : (letE W "d" (nmE RF "b") (letE W "v" (mkE "array" AR .non [intE many, intE st]) (letE W "w" (nmE AR "v") (body1 k)))).lows n = true := letE_lows (fun _ => rfl) (fun _ => rfl) (b5_low k) n
theorem b3_low (k n : Nat) : (letE W "c" (nmE RF "a") (letE W "d" (nmE RF "b") (letE W "v" (mkE "array" AR .non [intE many, intE st]) (letE W "w" (nmE AR "v") (body1 k))))).lows n = true := letE_lows (fun _ => rfl) (fun _ => rfl) (b4_low k) n
theorem b2_low (k n : Nat) : (letE W "b" (x1E (st + 1)) (letE W "c" (nmE RF "a") (letE W "d" (nmE RF "b") (letE W "v" (mkE "array" AR .non [intE many, intE st]) (letE W "w" (nmE AR "v") (body1 k)))))).lows n = true := letE_lows (fun _ => rfl) (fun _ => rfl) (b3_low k) n
theorem main_low (k n : Nat) : (mainB many st k).lows n = true := letE_lows (fun _ => rfl) (fun _ => rfl) (b2_low k) n
theorem prog_low {fl : List D} {k n : Nat} (hf : ∀ x ∈ fl, x.lows n = true) : (progD fl many st k).lows n = true := by
  have : lowsL n (fl ++ [mainD many st k]) = true := lowsL_of fun x hx => by
    rcases List.mem_append.mp hx with hx | hx
    · exact hf x hx
    · rw [List.mem_singleton.mp hx]
      show (true && (true && (true && ((mainB many st k).lows n && true)))) = true
      rw [main_low]; rfl
  show (true && (true && (lowsL n (fl ++ [mainD many st k]) && true))) = true
  rw [this]; rfl
theorem names_ok {δ : MS} (e : δ[12]? = some (some kinds)) (hl : δ.length = 16) : mCall fTuple (mCons (mLc (mSrc (mVar 12)) (mgName 15) (mYes) (mCall m__law_name (mCons (mOp opIx (mVar 15) (mC (.int 1))) (mCons (mOp opIx (mVar 15) (mC (.int 0))) (mNil)))) [15]) (mNil)) δ h = .ok (.tup nms) h := by
  have es : mSrc (mVar 12) δ h = .ok ⟨[.tup [.str "a", RF], .tup [.str "b", RF], .tup [.str "c", RF], .tup [.str "d", RF], .tup [.str "v", AR], .tup [.str "w", AR]], fun _ => True⟩ h := by
    rw [mSrc_eq, mVar_eq e, R.bnd_ok]; rfl
  let f : D → D := fun d => match d with
    | .tup [.str s, k] => nmE k s
    | d => d
  have lc := mLc_map (vs := [15]) (elt := mCall m__law_name (mCons (mOp opIx (mVar 15) (mC (.int 1))) (mCons (mOp opIx (mVar 15) (mC (.int 0))) (mNil)))) (tgt := mgName 15) f es (fun _ => trivial) (by show 6 < 16777216; decide) (fun d hd => by
    have : ∃ s k, d = .tup [.str s, k] ∧ ∀ n, k.lows n = true := by
      simp only [List.mem_cons, List.not_mem_nil, or_false] at hd
      rcases hd with rfl | rfl | rfl | rfl | rfl | rfl
      all_goals exact ⟨_, _, rfl, fun _ => rfl⟩
    obtain ⟨s, k, rfl, lk⟩ := this
    refine ⟨_, rfl, fun g => ?_⟩
    have e15 : mVar 15 ((wipeM δ [15]).set 15 (some (D.tup [.str s, k]))) (h ++ g) = .ok (.tup [.str s, k]) (h ++ g) := mVar_eq (List.getElem?_set_self (by
      show 15 < (δ.set 15 none).length
      rw [List.length_set, hl]; decide))
    exact callA (ac (op2 e15 rfl rfl) (ac (op2 e15 rfl rfl) an)) (name_ok lk)) (fun d hd => by
    simp only [List.mem_cons, List.not_mem_nil, or_false] at hd
    rcases hd with rfl | rfl | rfl | rfl | rfl | rfl
    all_goals rfl)
  exact callA (ac lc an) rfl
theorem program_ok (hd : ∀ d ∈ ds, OkD d) (hl : ds.length ≤ 40) : ∃ fl, m__law_program [.int many, .int st, .rol (ds.map dT)] [] = .ok (progD fl many st (gsOf ds).length) [] ∧ Fns (fl ++ [mainD many st (gsOf ds).length]) (gsOf ds) := by
  have hg : (gsOf ds).length = (ds.length + 7) / 8 := gs_len
  have h5 : (gsOf ds).length ≤ 5 := by omega
  obtain ⟨y7, y8, y9, lp⟩ := out_for (a0 := some (.int many)) (a1 := some (.int st)) (a3 := some W) (a4 := some RF) (a5 := some AR) (a10 := none) (a11 := none) (a12 := none) (a13 := none) (a14 := none) (a15 := none) hd (gsOf ds).length 0 none none none [] (fun j hj => gs_lt (by omega)) (by show 0 + (gsOf ds).length < 1000; omega)
  rw [List.nil_append] at lp
  have egl : ((List.range' 0 (gsOf ds).length).map fun j => grpE (chunk ds j)) = (List.range' 0 (gsOf ds).length).map fun j => grpE ((gsOf ds).getD j []) := by
    apply List.map_congr_left
    intro j hj
    rw [gs_at (by have := List.mem_range'.mp hj; omega)]
  rw [egl] at lp
  obtain ⟨fl, z8, z14, lf, hfl, hat⟩ := fn_for (a0 := some (.int many)) (a1 := some (.int st)) (a2 := some (.rol (ds.map dT))) (a3 := some W) (a4 := some RF) (a5 := some AR) (a7 := y7) (a9 := y9) (a10 := some derC) (a15 := none) (gs := gsOf ds) (gl := (List.range' 0 (gsOf ds).length).map fun j => grpE ((gsOf ds).getD j [])) (fun j hj => (chunk_ok hd hj).1) h5 (gsOf ds).length 0 [] y8 none (by omega) rfl (fun j hj => by omega)
  refine ⟨fl, ?_, fun j hj => ?_, fun j hj => chunk_ok hd hj⟩
  rotate_left
  · obtain ⟨nm, e⟩ := hat j hj
    exact ⟨.str nm, by rw [List.getElem?_append_left (by omega)]; exact e⟩
  generalize ((List.range' 0 (gsOf ds).length).map fun j => grpE ((gsOf ds).getD j [])) = gl at lp lf
  have q : m__law_program [.int many, .int st, .rol (ds.map dT)] [] = mEnd [] (b__law_program [some (.int many), some (.int st), some (.rol (ds.map dT)), none, none, none, none, none, none, none, none, none, none, none, none, none] []) := mFn_eq rfl
  rw [q]
  have e : b__law_program [some (.int many), some (.int st), some (.rol (ds.map dT)), none, none, none, none, none, none, none, none, none, none, none, none, none] [] = .ok (.ret (progD fl many st (gsOf ds).length)) [.lst gl, .lst fl] := by
    unfold b__law_program
    have s3 : mSet 3 (mCall m__law_whole mNil) [some (.int many), some (.int st), some (.rol (ds.map dT)), none, none, none, none, none, none, none, none, none, none, none, none, none] [] = .ok (.next [some (.int many), some (.int st), some (.rol (ds.map dT)), some W, none, none, none, none, none, none, none, none, none, none, none, none]) [] := set_ok' (callA an whole_ok)
    rw [seq2 s3]
    rw [seq2 (δ1 := [some (.int many), some (.int st), some (.rol (ds.map dT)), some W, some RF, none, none, none, none, none, none, none, none, none, none, none]) (h1 := []) rfl]
    rw [seq2 (δ1 := [some (.int many), some (.int st), some (.rol (ds.map dT)), some W, some RF, some AR, none, none, none, none, none, none, none, none, none, none]) (h1 := []) rfl]
    rw [seq2 (δ1 := [some (.int many), some (.int st), some (.rol (ds.map dT)), some W, some RF, some AR, some (.ref 0), none, none, none, none, none, none, none, none, none]) (h1 := [.lst []]) rfl]
    have sr : mCallI fRange3 (mCons (mC (.int 0)) (mCons (mCall fLen (mCons (mVar 2) (mNil))) (mCons (mC (.int 8)) (mNil)))) [some (.int many), some (.int st), some (.rol (ds.map dT)), some W, some RF, some AR, some (.ref 0), none, none, none, none, none, none, none, none, none] [.lst []] = .ok ⟨(List.range' 0 (gsOf ds).length).map fun (j : Nat) => .int (0 + j * 8), fun _ => True⟩ [.lst []] := by
      have e0 : fLen [.rol (ds.map dT)] [.lst []] = .ok (.int (ds.length : Int)) [.lst []] := by rw [fLen_rol, List.length_map]
      have ea : mCons (mC (.int 0)) (mCons (mCall fLen (mCons (mVar 2) (mNil))) (mCons (mC (.int 8)) (mNil))) [some (.int many), some (.int st), some (.rol (ds.map dT)), some W, some RF, some AR, some (.ref 0), none, none, none, none, none, none, none, none, none] [.lst []] = .ok [.int 0, .int ds.length, .int 8] [.lst []] := ac rfl (ac (callA (ac rfl an) e0) (ac rfl an))
      rw [mCallI_eq, ea, R.bnd_ok, range_ok (by omega), hg, List.range_eq_range']
    have l1 : mFor (mCallI fRange3 (mCons (mC (.int 0)) (mCons (mCall fLen (mCons (mVar 2) (mNil))) (mCons (mC (.int 8)) (mNil))))) (mgName 7) (b__law_program_2) [some (.int many), some (.int st), some (.rol (ds.map dT)), some W, some RF, some AR, some (.ref 0), none, none, none, none, none, none, none, none, none] [.lst []] = .ok (.next [some (.int many), some (.int st), some (.rol (ds.map dT)), some W, some RF, some AR, some (.ref 0), y7, y8, y9, none, none, none, none, none, none]) [.lst gl] := by
      rw [mFor_eq, sr, R.st_ok]; exact lp
    rw [seq2 l1]
    have s10 := set_ok' (i := 10) (x := derC) (δ := [some (.int many), some (.int st), some (.rol (ds.map dT)), some W, some RF, some AR, some (.ref 0), y7, y8, y9, none, none, none, none, none, none]) (h := [.lst gl]) (mkA (m1 := mC (.str "deref")) (m2 := mVar 3) (m3 := mC .non) (m4 := mTup (mCons (mCall m__law_name (mCons (mVar 4) (mCons (mC (.str "c")) (mNil)))) (mNil))) (m5 := mTup (mNil)) rfl rfl rfl (tupA (ac (callA (ac rfl (ac rfl an)) (name_ok (k := RF) fun _ => rfl)) an) (Nat.le_of_ble_eq_true rfl)) rfl)
    rw [seq2 s10]
    rw [seq2 (δ1 := [some (.int many), some (.int st), some (.rol (ds.map dT)), some W, some RF, some AR, some (.ref 0), y7, y8, y9, some derC, some (.ref 1), none, none, none, none]) (h1 := [.lst gl, .lst []]) rfl]
    rw [seq2 (δ1 := [some (.int many), some (.int st), some (.rol (ds.map dT)), some W, some RF, some AR, some (.ref 0), y7, y8, y9, some derC, some (.ref 1), some kinds, none, none, none]) (h1 := [.lst gl, .lst []]) rfl]
    have s13 := set_ok' (i := 13) (names_ok (δ := [some (.int many), some (.int st), some (.rol (ds.map dT)), some W, some RF, some AR, some (.ref 0), y7, y8, y9, some derC, some (.ref 1), some kinds, none, none, none]) (h := [.lst gl, .lst []]) rfl rfl)
    rw [seq2 s13]
    have l2 : mFor (mSrc (mVar 6)) (mgName 8) (b__law_program_3) (δF (some (.int many)) (some (.int st)) (some (.rol (ds.map dT))) (some W) (some RF) (some AR) y7 y9 (some derC) none y8 none) [.lst gl, .lst []] = .ok (.next (δF (some (.int many)) (some (.int st)) (some (.rol (ds.map dT))) (some W) (some RF) (some AR) y7 y9 (some derC) none z8 z14)) [.lst gl, .lst fl] := by
      rw [mFor_eq]
      have : mSrc (mVar 6) (δF (some (.int many)) (some (.int st)) (some (.rol (ds.map dT))) (some W) (some RF) (some AR) y7 y9 (some derC) none y8 none) [.lst gl, .lst []] = .ok ⟨gl, fun h' => lstD (.ref 0) h' = some gl⟩ [.lst gl, .lst []] := rfl
      rw [this, R.st_ok]
      exact lf
    show mSeq (mFor (mSrc (mVar 6)) (mgName 8) (b__law_program_3)) _ (δF (some (.int many)) (some (.int st)) (some (.rol (ds.map dT))) (some W) (some RF) (some AR) y7 y9 (some derC) none y8 none) [.lst gl, .lst []] = _
    rw [seq2 l2]
    have sB : mIfS (mTru (mVar 11)) (mSet 10 (mCall m__law_seq (mCons (mTup (mCons (mC (.str "call")) (mCons (mTup (mCons (mC (.str "unit")) (mCons (mTup (mNil)) (mCons (mC (.int 0)) (mNil))))) (mCons (mOp opSub (mCall fLen (mCons (mVar 11) (mNil))) (mC (.int 1))) (mCons (mVar 13) (mCons (mTup (mNil)) (mNil))))))) (mCons (mVar 10) (mNil))))) (mNext) (δF (some (.int many)) (some (.int st)) (some (.rol (ds.map dT))) (some W) (some RF) (some AR) y7 y9 (some derC) none z8 z14) [.lst gl, .lst fl]
        = .ok (.next (δF (some (.int many)) (some (.int st)) (some (.rol (ds.map dT))) (some W) (some RF) (some AR) y7 y9 (some (body1 (gsOf ds).length)) none z8 z14)) [.lst gl, .lst fl] := by
      rw [← hfl]
      cases ef : fl with
      | nil => rfl
      | cons x r =>
        have tr : mTru (mVar 11) (δF (some (.int many)) (some (.int st)) (some (.rol (ds.map dT))) (some W) (some RF) (some AR) y7 y9 (some derC) none z8 z14) [.lst gl, .lst (x :: r)] = .ok true [.lst gl, .lst (x :: r)] := rfl
        have ei : opSub (.int (x :: r).length) (.int 1) [.lst gl, .lst (x :: r)] = .ok (.int r.length) [.lst gl, .lst (x :: r)] := by
          show R.ok (D.int (((x :: r).length : Int) - 1)) _ = _
          rw [show ((x :: r).length : Int) - 1 = r.length by rw [List.length_cons]; omega]
        rw [mIfS_eq, tr, R.st_ok, if_pos rfl]
        exact set_ok' (callA (ac (mkA (op := "call") (w := U) rfl rfl (op2 (callA (ac rfl an) rfl) rfl ei) rfl rfl) (ac rfl an)) (seqw_ok (fun _ => rfl) call_low fun _ => rfl))
    rw [seq2 sB]
    generalize (gsOf ds).length = k
    have t6 := set_ok' (i := 10) (δ := δF (some (.int many)) (some (.int st)) (some (.rol (ds.map dT))) (some W) (some RF) (some AR) y7 y9 (some (body1 k)) none z8 z14) (h := [.lst gl, .lst fl]) (callA (ac (m := mC (.str "w")) rfl (ac (m := mCall m__law_name (mCons (mVar 5) (mCons (mC (.str "v")) (mNil)))) (callA (ac rfl (ac rfl an)) (name_ok (k := AR) fun _ => rfl)) (ac (m := mVar 10) rfl an))) (let_ok' (body1_mk k) (fun _ => rfl) (body1_low k)))
    rw [seq2 t6]
    have t5 := set_ok' (i := 10) (δ := δF (some (.int many)) (some (.int st)) (some (.rol (ds.map dT))) (some W) (some RF) (some AR) y7 y9 (some (letE W "w" (nmE AR "v") (body1 k))) none z8 z14) (h := [.lst gl, .lst fl]) (callA (ac (m := mC (.str "v")) rfl (ac (mkA (m1 := mC (.str "array")) (m2 := mVar 5) (m3 := mC .non) (m4 := mTup (mCons (mCall m__law_int (mCons (mVar 0) (mNil))) (mCons (mCall m__law_int (mCons (mVar 1) (mNil))) (mNil)))) (m5 := mTup (mNil)) rfl rfl rfl (tupA (ac (callA (ac rfl an) int_ok) (ac (callA (ac rfl an) int_ok) an)) (Nat.le_of_ble_eq_true rfl)) rfl) (ac (m := mVar 10) rfl an))) (let_ok' ⟨_, _, _, rfl⟩ (fun _ => rfl) (b6_low k)))
    show mSeq _ _ (δF (some (.int many)) (some (.int st)) (some (.rol (ds.map dT))) (some W) (some RF) (some AR) y7 y9 (some (letE W "w" (nmE AR "v") (body1 k))) none z8 z14) _ = _
    rw [seq2 t5]
    have t4 := set_ok' (i := 10) (δ := δF (some (.int many)) (some (.int st)) (some (.rol (ds.map dT))) (some W) (some RF) (some AR) y7 y9 (some (letE W "v" (mkE "array" AR .non [intE many, intE st]) (letE W "w" (nmE AR "v") (body1 k)))) none z8 z14) (h := [.lst gl, .lst fl]) (callA (ac (m := mC (.str "d")) rfl (ac (m := mCall m__law_name (mCons (mVar 4) (mCons (mC (.str "b")) (mNil)))) (callA (ac rfl (ac rfl an)) (name_ok (k := RF) fun _ => rfl)) (ac (m := mVar 10) rfl an))) (let_ok' ⟨_, _, _, rfl⟩ (fun _ => rfl) (b5_low k)))
    show mSeq _ _ (δF (some (.int many)) (some (.int st)) (some (.rol (ds.map dT))) (some W) (some RF) (some AR) y7 y9 (some (letE W "v" (mkE "array" AR .non [intE many, intE st]) (letE W "w" (nmE AR "v") (body1 k)))) none z8 z14) _ = _
    rw [seq2 t4]
    have t3 := set_ok' (i := 10) (δ := δF (some (.int many)) (some (.int st)) (some (.rol (ds.map dT))) (some W) (some RF) (some AR) y7 y9 (some (letE W "d" (nmE RF "b") (letE W "v" (mkE "array" AR .non [intE many, intE st]) (letE W "w" (nmE AR "v") (body1 k))))) none z8 z14) (h := [.lst gl, .lst fl]) (callA (ac (m := mC (.str "c")) rfl (ac (m := mCall m__law_name (mCons (mVar 4) (mCons (mC (.str "a")) (mNil)))) (callA (ac rfl (ac rfl an)) (name_ok (k := RF) fun _ => rfl)) (ac (m := mVar 10) rfl an))) (let_ok' ⟨_, _, _, rfl⟩ (fun _ => rfl) (b4_low k)))
    show mSeq _ _ (δF (some (.int many)) (some (.int st)) (some (.rol (ds.map dT))) (some W) (some RF) (some AR) y7 y9 (some (letE W "d" (nmE RF "b") (letE W "v" (mkE "array" AR .non [intE many, intE st]) (letE W "w" (nmE AR "v") (body1 k))))) none z8 z14) _ = _
    rw [seq2 t3]
    have t2 := set_ok' (i := 10) (δ := δF (some (.int many)) (some (.int st)) (some (.rol (ds.map dT))) (some W) (some RF) (some AR) y7 y9 (some (letE W "c" (nmE RF "a") (letE W "d" (nmE RF "b") (letE W "v" (mkE "array" AR .non [intE many, intE st]) (letE W "w" (nmE AR "v") (body1 k)))))) none z8 z14) (h := [.lst gl, .lst fl]) (callA (ac (m := mC (.str "b")) rfl (ac (mkA (m1 := mC (.str "ref")) (m2 := mVar 4) (m3 := mC .non) (m4 := mTup (mCons (mCall m__law_int (mCons (mOp opAddL (mVar 1) (mC (.int 1))) (mNil))) (mNil))) (m5 := mTup (mNil)) rfl rfl rfl (tupA (ac (callA (ac (op2 rfl rfl opAddL_int) an) int_ok) an) (Nat.le_of_ble_eq_true rfl)) rfl) (ac (m := mVar 10) rfl an))) (let_ok' ⟨_, _, _, rfl⟩ (fun _ => rfl) (b3_low k)))
    show mSeq _ _ (δF (some (.int many)) (some (.int st)) (some (.rol (ds.map dT))) (some W) (some RF) (some AR) y7 y9 (some (letE W "c" (nmE RF "a") (letE W "d" (nmE RF "b") (letE W "v" (mkE "array" AR .non [intE many, intE st]) (letE W "w" (nmE AR "v") (body1 k)))))) none z8 z14) _ = _
    rw [seq2 t2]
    have t1 := set_ok' (i := 10) (δ := δF (some (.int many)) (some (.int st)) (some (.rol (ds.map dT))) (some W) (some RF) (some AR) y7 y9 (some (letE W "b" (x1E (st + 1)) (letE W "c" (nmE RF "a") (letE W "d" (nmE RF "b") (letE W "v" (mkE "array" AR .non [intE many, intE st]) (letE W "w" (nmE AR "v") (body1 k))))))) none z8 z14) (h := [.lst gl, .lst fl]) (callA (ac (m := mC (.str "a")) rfl (ac (mkA (m1 := mC (.str "ref")) (m2 := mVar 4) (m3 := mC .non) (m4 := mTup (mCons (mCall m__law_int (mCons (mVar 1) (mNil))) (mNil))) (m5 := mTup (mNil)) rfl rfl rfl (tupA (ac (callA (ac rfl an) int_ok) an) (Nat.le_of_ble_eq_true rfl)) rfl) (ac (m := mVar 10) rfl an))) (let_ok' ⟨_, _, _, rfl⟩ (fun _ => rfl) (b2_low k)))
    show mSeq _ _ (δF (some (.int many)) (some (.int st)) (some (.rol (ds.map dT))) (some W) (some RF) (some AR) y7 y9 (some (letE W "b" (x1E (st + 1)) (letE W "c" (nmE RF "a") (letE W "d" (nmE RF "b") (letE W "v" (mkE "array" AR .non [intE many, intE st]) (letE W "w" (nmE AR "v") (body1 k))))))) none z8 z14) _ = _
    rw [seq2 t1]
    show mRet _ (δF (some (.int many)) (some (.int st)) (some (.rol (ds.map dT))) (some W) (some RF) (some AR) y7 y9 (some (mainB many st k)) none z8 z14) _ = _
    have ad : opAddL (.ref 1) (.rol [mainD many st k]) [.lst gl, .lst fl] = .ok (.rol (fl ++ [mainD many st k])) [.lst gl, .lst fl] := by
      show (if fl.length + 1 ≤ 16777216 then R.ok (D.rol (fl ++ [mainD many st k])) _ else .stuck) = _
      rw [if_pos (by omega)]
    have tp : mCall fTuple (mCons (mOp opAddL (mVar 11) (mLst (mCons (mTup (mCons (mC (.str "main")) (mCons (mTup (mNil)) (mCons (mVar 3) (mCons (mVar 10) (mNil)))))) (mNil)))) (mNil)) (δF (some (.int many)) (some (.int st)) (some (.rol (ds.map dT))) (some W) (some RF) (some AR) y7 y9 (some (mainB many st k)) none z8 z14) [.lst gl, .lst fl] = .ok (.tup (fl ++ [mainD many st k])) [.lst gl, .lst fl] := callA (ac (op2 rfl rfl ad) an) rfl
    rw [mRet_eq]
    have tt : mTup (mCons (mTup (mNil)) (mCons (mTup (mCons (mC (.str "Div")) (mCons (mC (.str "Index")) (mCons (mC (.str "Size")) (mNil))))) (mCons (mCall fTuple (mCons (mOp opAddL (mVar 11) (mLst (mCons (mTup (mCons (mC (.str "main")) (mCons (mTup (mNil)) (mCons (mVar 3) (mCons (mVar 10) (mNil)))))) (mNil)))) (mNil))) (mNil)))) (δF (some (.int many)) (some (.int st)) (some (.rol (ds.map dT))) (some W) (some RF) (some AR) y7 y9 (some (mainB many st k)) none z8 z14) [.lst gl, .lst fl] = .ok (progD fl many st k) [.lst gl, .lst fl] :=
      tupA (ac rfl (ac rfl (ac tp an))) (Nat.le_of_ble_eq_true rfl)
    rw [tt]; rfl
  rw [e]
  show leave [] (progD fl many st (gsOf ds).length) [.lst gl, .lst fl] = _
  have L : LeftOf [] [MO.lst gl, MO.lst fl] := ⟨Nat.zero_le _, fun n o hn => absurd hn (by simp)⟩
  have pl : (progD fl many st (gsOf ds).length).lows 0 = true := prog_low fun x hx => by
    obtain ⟨j, hj, ex⟩ := List.getElem_of_mem hx
    obtain ⟨nm, e⟩ := hat j (by omega)
    rw [List.getElem?_eq_getElem hj] at e
    rw [← ex, Option.some.inj e]
    exact fn_low
  rw [leave_eq L pl]; rfl
end
end K18
namespace K18
open PySem PySem.Spec PyProof.Rows L2 MM
def Hd (s : Sx) : MH := [.lst [.int s.A, .int s.B], .lst (s.row.map D.int), .lst (s.outs.map D.int)]
def δD (many : Nat) (st : Int) (ds : D) (lim tk : Int) (x8 x9 x10 x11 x12 : Option D) : MS := [some (.int many), some (.int st), some ds, some (.int lim), some (.int tk), some (.ref 0), some (.ref 1), some (.ref 2), x8, x9, x10, x11, x12]
section
variable {many : Nat} {st lim tk : Int} {dsD : D} {s s' : Sx} {d : Dd} {x12 : Option D} {h : MH} {δ : MS} {cnd : MT} {A B : MSt}
theorem ifS_t (hc : cnd δ h = .ok true h) : mIfS cnd A B δ h = A δ h := by
  rw [mIfS_eq, hc, R.st_ok, if_pos rfl]
theorem ifS_f (hc : cnd δ h = .ok false h) : mIfS cnd A B δ h = B δ h := by
  rw [mIfS_eq, hc, R.st_ok]; rfl
theorem seq_skip (hc : cnd δ h = .ok false h) : mSeq (mIfS cnd A (mNext)) B δ h = B δ h := if_no hc
def δ1 (many : Nat) (st : Int) (ds : D) (lim tk : Int) (d : Dd) (x12 : Option D) : MS := δD many st ds lim tk (some (.int d.k)) (some (.int d.w)) (some (.int d.i)) (some (.int d.v)) x12
theorem or_ok : mOr (mB (mOp opLt (mVar 10) (mC (.int 0)))) (mB (mOp opGe (mVar 10) (mVar 0))) (δ1 many st dsD lim tk d x12) h = .ok (!(rng d.i many)) h := by
  have e1 : mB (mOp opLt (mVar 10) (mC (.int 0))) (δ1 many st dsD lim tk d x12) h = .ok (decide (d.i < 0)) h := rfl
  have e2 : mB (mOp opGe (mVar 10) (mVar 0)) (δ1 many st dsD lim tk d x12) h = .ok (decide ((many : Int) ≤ d.i)) h := rfl
  rw [mOr_eq, e1, R.bnd_ok]
  unfold rng
  by_cases c : d.i < 0
  · rw [decide_eq_true c, decide_eq_false (show ¬ 0 ≤ d.i by omega)]; rfl
  · rw [decide_eq_false c, decide_eq_true (show 0 ≤ d.i by omega)]
    simp only [Bool.false_eq_true, if_false]
    rw [e2]
    by_cases c2 : (many : Int) ≤ d.i
    · rw [decide_eq_true c2, decide_eq_false (show ¬ d.i < many by omega)]; rfl
    · rw [decide_eq_false c2, decide_eq_true (show d.i < many by omega)]; rfl
def cndD : MT := mAnd (mB (mOp opIn2 (mVar 8) (mTup (mCons (mC (.int 2)) (mCons (mC (.int 3)) (mCons (mC (.int 5)) (mNil))))))) (mOr (mB (mOp opLt (mVar 10) (mC (.int 0)))) (mB (mOp opGe (mVar 10) (mVar 0))))
theorem cnd_in (hk : d.k = 2 ∨ d.k = 3 ∨ d.k = 5) : cndD (δ1 many st dsD lim tk d x12) h = .ok (!(rng d.i many)) h := by
  have e1 : mB (mOp opIn2 (mVar 8) (mTup (mCons (mC (.int 2)) (mCons (mC (.int 3)) (mCons (mC (.int 5)) (mNil)))))) (δ1 many st dsD lim tk d x12) h = .ok true h := by
    obtain ⟨k, w, i, v⟩ := d
    have hk : k = 2 ∨ k = 3 ∨ k = 5 := hk
    rcases hk with rfl | rfl | rfl <;> rfl
  unfold cndD
  rw [mAnd_eq, e1, R.bnd_ok, if_pos rfl, or_ok]
theorem cnd_out (hk : d.k = 0 ∨ d.k = 1 ∨ d.k = 4) : cndD (δ1 many st dsD lim tk d x12) h = .ok false h := by
  have e1 : mB (mOp opIn2 (mVar 8) (mTup (mCons (mC (.int 2)) (mCons (mC (.int 3)) (mCons (mC (.int 5)) (mNil)))))) (δ1 many st dsD lim tk d x12) h = .ok false h := by
    obtain ⟨k, w, i, v⟩ := d
    have hk : k = 0 ∨ k = 1 ∨ k = 4 := hk
    rcases hk with rfl | rfl | rfl <;> rfl
  unfold cndD
  rw [mAnd_eq, e1, R.bnd_ok]; rfl
theorem kset {w : Nat} (hw : w < 4) {v : Int} : ∃ z, opMod (.int w) (.int 2) (Hd s) = .ok z (Hd s) ∧ setG2 (.ref 0) z (.int v) (Hd s) = some (Hd (setK s w v)) ∧ opIx (.ref 0) z (Hd s) = .ok (.int (kp s w)) (Hd s) := by
  match w, hw with
  | 0, _ => exact ⟨.int 0, rfl, rfl, rfl⟩
  | 1, _ => exact ⟨.int 1, rfl, rfl, rfl⟩
  | 2, _ => exact ⟨.int 0, rfl, rfl, rfl⟩
  | 3, _ => exact ⟨.int 1, rfl, rfl, rfl⟩
  | n + 4, h => omega
theorem rset {i v : Int} (hr : rng i s.row.length = true) : setG2 (.ref 1) (.int i) (.int v) (Hd s) = some (Hd { s with row := s.row.set i.toNat v }) := by
  unfold rng at hr
  rw [Bool.and_eq_true] at hr
  have c1 := of_decide_eq_true hr.1
  have c2 := of_decide_eq_true hr.2
  have : ixN (s.row.map D.int).length i = some i.toNat := by
    rw [List.length_map]
    unfold ixN
    rw [if_pos c1, if_pos c2]
  show ((ixN (s.row.map D.int).length i).map fun k => (Hd s).set 1 (.lst ((s.row.map D.int).set k (.int v)))) = _
  rw [this]
  show some (Hd s |>.set 1 (.lst ((s.row.map D.int).set i.toNat (.int v)))) = _
  unfold Hd
  rw [List.map_set]; rfl
theorem oapp {x : Int} (z : s.outs.length < 1000) : fAppend (.ref 2) [.int x] (Hd s) = .ok .non (Hd { s with outs := s.outs ++ [x] }) := by
  show (if (s.outs.map D.int).length < 16777216 then R.ok D.non ((Hd s).set 2 (.lst (s.outs.map D.int ++ [.int x]))) else .stuck) = _
  rw [if_pos (by rw [List.length_map]; omega)]
  unfold Hd
  simp
theorem app_st {m : ME} {x : Int} (z : s.outs.length < 1000) (em : m (δ1 many st dsD lim tk d x12) (Hd s) = .ok (.int x) (Hd s)) : mDrop (mMtd "list" fAppend (mVar 7) (mCons m (mNil))) (δ1 many st dsD lim tk d x12) (Hd s) = .ok (.next (δ1 many st dsD lim tk d x12)) (Hd { s with outs := s.outs ++ [x] }) := by
  have : mCons m mNil (δ1 many st dsD lim tk d x12) (Hd s) = .ok [.int x] (Hd s) := ac em an
  show R.st (R.bnd (mCons m mNil (δ1 many st dsD lim tk d x12) (Hd s)) fun ds h2 => fAppend (.ref 2) ds h2) _ _ = _
  rw [this, R.bnd_ok, oapp z]; rfl
theorem set_st {m mo mi : ME} {x o i : D} (em : m δ h = .ok x h) (eo : mo δ h = .ok o h) (ei : mi δ h = .ok i h) {h' : MH} (es : setG2 o i x h = some h') : mSetIx2 m mo mi δ h = .ok (.next δ) h' := by
  unfold mSetIx2
  rw [em, R.st_ok, eo, R.st_ok, ei, R.st_ok, es]
def idxD (i : Int) (os : List Int) (tk : Int) : D := .tup [rais "Index" i, .int 0, .tup (os.map D.int), .int tk]
theorem due_one (hd : OkD d) (hm : s.row.length = many) (z : s.outs.length < 1000) :
    (∃ s', stp s d = .ok s' ∧ b__law_due_1 (δ1 many st dsD lim tk d x12) (Hd s) = .ok (.next (δ1 many st dsD lim tk d x12)) (Hd s')) ∨ (∃ i os, stp s d = .idx i os ∧ b__law_due_1 (δ1 many st dsD lim tk d x12) (Hd s) = .ok (.ret (idxD i os tk)) (Hd s)) := by
  subst hm
  obtain ⟨k, w, i, v⟩ := d
  obtain ⟨hk, hw⟩ := hd
  have hk : k < 6 := hk
  have hw : w < 4 := hw
  obtain ⟨zz, k1, k2, k3⟩ := kset (s := s) hw (v := v)
  have idx : stp s ⟨k, w, i, v⟩ = .idx i s.outs → cndD (δ1 s.row.length st dsD lim tk ⟨k, w, i, v⟩ x12) (Hd s) = .ok true (Hd s) → ∃ j os, stp s ⟨k, w, i, v⟩ = .idx j os ∧ b__law_due_1 (δ1 s.row.length st dsD lim tk ⟨k, w, i, v⟩ x12) (Hd s) = .ok (.ret (idxD j os tk)) (Hd s) := fun es ec => by
    refine ⟨i, s.outs, es, ?_⟩
    unfold b__law_due_1
    have ft : mCall fTuple (mCons (mVar 7) (mNil)) (δ1 s.row.length st dsD lim tk ⟨k, w, i, v⟩ x12) (Hd s) = .ok (.tup (s.outs.map D.int)) (Hd s) := rfl
    exact if_yes ec (by
      rw [mRet_eq]
      have : mTup (mCons (mTup (mCons (mC (.str "raised")) (mCons (mC (.str "Index")) (mCons (mVar 10) (mNil))))) (mCons (mC (.int 0)) (mCons (mCall fTuple (mCons (mVar 7) (mNil))) (mCons (mVar 4) (mNil))))) (δ1 s.row.length st dsD lim tk ⟨k, w, i, v⟩ x12) (Hd s) = .ok (idxD i s.outs tk) (Hd s) :=
        tupA (ac rfl (ac rfl (ac ft (ac rfl an)))) (Nat.le_of_ble_eq_true rfl)
      rw [this]; rfl)
  match k, hk with
  | 0, _ =>
    refine .inl ⟨_, rfl, ?_⟩
    unfold b__law_due_1
    rw [show mSeq (mIfS (mAnd (mB (mOp opIn2 (mVar 8) (mTup (mCons (mC (.int 2)) (mCons (mC (.int 3)) (mCons (mC (.int 5)) (mNil))))))) (mOr (mB (mOp opLt (mVar 10) (mC (.int 0)))) (mB (mOp opGe (mVar 10) (mVar 0))))) _ _) _ = mSeq (mIfS cndD _ (mNext)) _ from rfl, seq_skip (cnd_out (.inl rfl)), ifS_t rfl]
    exact set_st rfl rfl (op2 rfl rfl k1) k2
  | 1, _ =>
    refine .inl ⟨_, rfl, ?_⟩
    unfold b__law_due_1
    rw [show mSeq (mIfS (mAnd (mB (mOp opIn2 (mVar 8) (mTup (mCons (mC (.int 2)) (mCons (mC (.int 3)) (mCons (mC (.int 5)) (mNil))))))) (mOr (mB (mOp opLt (mVar 10) (mC (.int 0)))) (mB (mOp opGe (mVar 10) (mVar 0))))) _ _) _ = mSeq (mIfS cndD _ (mNext)) _ from rfl, seq_skip (cnd_out (.inr (.inl rfl))), ifS_f rfl, ifS_t rfl]
    exact app_st z (op2 rfl (op2 rfl rfl k1) k3)
  | 2, _ =>
    by_cases hr : rng i s.row.length = true
    · refine .inl ⟨_, if_pos hr, ?_⟩
      unfold b__law_due_1
      rw [show mSeq (mIfS (mAnd (mB (mOp opIn2 (mVar 8) (mTup (mCons (mC (.int 2)) (mCons (mC (.int 3)) (mCons (mC (.int 5)) (mNil))))))) (mOr (mB (mOp opLt (mVar 10) (mC (.int 0)))) (mB (mOp opGe (mVar 10) (mVar 0))))) _ _) _ = mSeq (mIfS cndD _ (mNext)) _ from rfl, seq_skip ((cnd_in (.inl rfl)).trans (by rw [show rng (⟨2, w, i, v⟩ : Dd).i s.row.length = true from hr]; rfl)), ifS_f rfl, ifS_f rfl, ifS_t rfl]
      exact set_st rfl rfl rfl (rset hr)
    · exact .inr (idx (if_neg hr) ((cnd_in (.inl rfl)).trans (by rw [show rng (⟨2, w, i, v⟩ : Dd).i s.row.length = false by simpa using hr]; rfl)))
  | 3, _ =>
    by_cases hr : rng i s.row.length = true
    · refine .inl ⟨_, if_pos hr, ?_⟩
      unfold b__law_due_1
      rw [show mSeq (mIfS (mAnd (mB (mOp opIn2 (mVar 8) (mTup (mCons (mC (.int 2)) (mCons (mC (.int 3)) (mCons (mC (.int 5)) (mNil))))))) (mOr (mB (mOp opLt (mVar 10) (mC (.int 0)))) (mB (mOp opGe (mVar 10) (mVar 0))))) _ _) _ = mSeq (mIfS cndD _ (mNext)) _ from rfl, seq_skip ((cnd_in (.inr (.inl rfl))).trans (by rw [show rng (⟨3, w, i, v⟩ : Dd).i s.row.length = true from hr]; rfl)), ifS_f rfl, ifS_f rfl, ifS_f rfl, ifS_t rfl]
      exact app_st z (op2 rfl rfl (at_in hr rfl))
    · exact .inr (idx (if_neg hr) ((cnd_in (.inr (.inl rfl))).trans (by rw [show rng (⟨3, w, i, v⟩ : Dd).i s.row.length = false by simpa using hr]; rfl)))
  | 4, _ =>
    refine .inl ⟨_, rfl, ?_⟩
    unfold b__law_due_1
    rw [show mSeq (mIfS (mAnd (mB (mOp opIn2 (mVar 8) (mTup (mCons (mC (.int 2)) (mCons (mC (.int 3)) (mCons (mC (.int 5)) (mNil))))))) (mOr (mB (mOp opLt (mVar 10) (mC (.int 0)))) (mB (mOp opGe (mVar 10) (mVar 0))))) _ _) _ = mSeq (mIfS cndD _ (mNext)) _ from rfl, seq_skip (cnd_out (.inr (.inr rfl))), ifS_f rfl, ifS_f rfl, ifS_f rfl, ifS_f rfl, ifS_t rfl]
    exact app_st z rfl
  | 5, _ =>
    by_cases hr : rng i s.row.length = true
    · obtain ⟨zz', k1', k2', k3'⟩ := kset (s := s) hw (v := s.row.getD i.toNat 0)
      refine .inl ⟨_, if_pos hr, ?_⟩
      unfold b__law_due_1
      rw [show mSeq (mIfS (mAnd (mB (mOp opIn2 (mVar 8) (mTup (mCons (mC (.int 2)) (mCons (mC (.int 3)) (mCons (mC (.int 5)) (mNil))))))) (mOr (mB (mOp opLt (mVar 10) (mC (.int 0)))) (mB (mOp opGe (mVar 10) (mVar 0))))) _ _) _ = mSeq (mIfS cndD _ (mNext)) _ from rfl, seq_skip ((cnd_in (.inr (.inr rfl))).trans (by rw [show rng (⟨5, w, i, v⟩ : Dd).i s.row.length = true from hr]; rfl)), ifS_f rfl, ifS_f rfl, ifS_f rfl, ifS_f rfl, ifS_f rfl]
      exact set_st (op2 rfl rfl (at_in hr rfl)) rfl (op2 rfl rfl k1') k2'
    · exact .inr (idx (if_neg hr) ((cnd_in (.inr (.inr rfl))).trans (by rw [show rng (⟨5, w, i, v⟩ : Dd).i s.row.length = false by simpa using hr]; rfl)))
  | n + 6, h => omega
theorem due_for : ∀ (ds : List Dd) (s : Sx) (x8 x9 x10 x11 : Option D), (∀ d ∈ ds, OkD d) → s.row.length = many → s.outs.length + ds.length < 1000 →
    (∃ s' y8 y9 y10 y11, runs s ds = .ok s' ∧ MM.forM (fun _ => True) (mgSeq 4 (mgCons (mgName 8) (mgCons (mgName 9) (mgCons (mgName 10) (mgCons (mgName 11) (mgNil)))))) b__law_due_1 (ds.map dT) (δD many st dsD lim tk x8 x9 x10 x11 x12) (Hd s) = .ok (.next (δD many st dsD lim tk y8 y9 y10 y11 x12)) (Hd s')) ∨
    (∃ i os h', runs s ds = .idx i os ∧ MM.forM (fun _ => True) (mgSeq 4 (mgCons (mgName 8) (mgCons (mgName 9) (mgCons (mgName 10) (mgCons (mgName 11) (mgNil)))))) b__law_due_1 (ds.map dT) (δD many st dsD lim tk x8 x9 x10 x11 x12) (Hd s) = .ok (.ret (idxD i os tk)) h')
  | [], s, x8, x9, x10, x11, _, _, _ => .inl ⟨s, x8, x9, x10, x11, rfl, forM_nil trivial⟩
  | d :: ds, s, x8, x9, x10, x11, hd, hm, hz => by
    rw [List.length_cons] at hz
    have et : mgSeq 4 (mgCons (mgName 8) (mgCons (mgName 9) (mgCons (mgName 10) (mgCons (mgName 11) (mgNil))))) (dT d) (δD many st dsD lim tk x8 x9 x10 x11 x12) = some (δ1 many st dsD lim tk d x12) := rfl
    rcases due_one (st := st) (lim := lim) (tk := tk) (dsD := dsD) (x12 := x12) (hd d (by simp)) hm (by omega) with ⟨s1, e1, b⟩ | ⟨i, os, e1, b⟩
    · have ho := stp_outs e1
      have er : runs s (d :: ds) = runs s1 ds := by
        show (stp s d).bind (fun s' => runs s' ds) = _
        rw [e1]; rfl
      rw [er, List.map_cons, forM_step (tgt := mgSeq 4 (mgCons (mgName 8) (mgCons (mgName 9) (mgCons (mgName 10) (mgCons (mgName 11) (mgNil)))))) trivial et b]
      exact due_for ds s1 _ _ _ _ (fun x hx => hd x (List.mem_cons_of_mem _ hx)) (by omega) (by omega)
    · refine .inr ⟨i, os, Hd s, ?_, ?_⟩
      · show (stp s d).bind (fun s' => runs s' ds) = _
        rw [e1]; rfl
      · rw [List.map_cons, MM.forM, if_pos trivial]
        simp only [et, b]
theorem row_c {A0 : MO} : ∀ (k i : Nat) (acc : List Int) (δ : MS), acc.length + k < 1000 → (∀ x, mVar 1 (δ.set 12 x) = mVar 1 δ) → (∀ h, mVar 1 δ h = .ok (.int st) h) → compM (fun _ => True) (mgName 12) mYes (mVar 1) 1 δ ((List.range' i k).map fun (j : Nat) => D.int j) [A0, .lst (acc.map D.int)] = .ok () [A0, .lst ((acc ++ List.replicate k st).map D.int)]
  | 0, i, acc, δ, _, _, _ => by
    rw [List.range'_zero, List.map_nil, compM, if_pos trivial, List.replicate_zero, List.append_nil]
  | k + 1, i, acc, δ, hz, h1, h2 => by
    have ih := row_c (A0 := A0) k (i + 1) (acc ++ [st]) δ (by simp; omega) h1 h2
    rw [List.range'_succ, List.map_cons, compM, if_pos trivial]
    refine Eq.trans (b := R.bnd (R.nx (R.ok true [A0, .lst (acc.map D.int)])) fun b h1 => if b then R.bnd (R.nx (mVar 1 (δ.set 12 (some (D.int i))) h1)) (fun y h2 => match lst? h2 1 with
      | some ac => if ac.length < 16777216 then compM (fun _ => True) (mgName 12) mYes (mVar 1) 1 δ ((List.range' (i + 1) k).map fun (j : Nat) => D.int j) (h2.set 1 (.lst (ac ++ [y]))) else .stuck
      | none => .stuck) else compM (fun _ => True) (mgName 12) mYes (mVar 1) 1 δ ((List.range' (i + 1) k).map fun (j : Nat) => D.int j) h1) rfl ?_
    rw [R.nx_ok, R.bnd_ok, if_pos rfl, h1, h2, R.nx_ok, R.bnd_ok]
    show (if (acc.map D.int).length < 16777216 then compM (fun _ => True) (mgName 12) mYes (mVar 1) 1 δ ((List.range' (i + 1) k).map fun (j : Nat) => D.int j) [A0, .lst (acc.map D.int ++ [.int st])] else .stuck) = _
    rw [if_pos (by rw [List.length_map]; omega)]
    have e1 : acc.map D.int ++ [D.int st] = (acc ++ [st]).map D.int := by simp
    rw [e1, ih, List.append_assoc]; rfl
end
end K18
namespace K18
open PySem PySem.Spec PyProof.Rows L2 MM
theorem rng_ok {n k : Nat} {h : MH} (hk : k = n) (hn : n < 1000) : fRange1 [.int (k : Int)] h = .ok ⟨(List.range n).map fun (i : Nat) => .int i, fun _ => True⟩ h := by
  subst hk
  rw [fRange1_eq (by omega) (by omega)]; rfl
theorem res_low {tk : Int} (o : Ot) (n : Nat) : (resO tk o).lows n = true := by
  cases o with
  | ok s =>
    show (true && (true && (lowsL n (s.outs.map D.int) && (true && true)))) = true
    rw [lows_ints]; rfl
  | idx i os =>
    show ((rais "Index" i).lows n && (true && (lowsL n (os.map D.int) && (true && true)))) = true
    rw [lows_ints]; rfl
theorem resM_low {many : Nat} {st f : Int} {gs : List (List Dd)} (n : Nat) : (resM many st gs f).lows n = true := by
  unfold resM
  split
  · rfl
  · exact res_low _ n
section
variable {many : Nat} {st lim : Int} {ds : List Dd}
theorem due_ok (hd : ∀ d ∈ ds, OkD d) (hl : ds.length ≤ 40) (hm : many ≤ 12) : m__law_due [.int many, .int st, .rol (ds.map dT), .int lim] [] = .ok (resM many st (gsOf ds) lim) [] := by
  have q : m__law_due [.int many, .int st, .rol (ds.map dT), .int lim] [] = mEnd [] (b__law_due [some (.int many), some (.int st), some (.rol (ds.map dT)), some (.int lim), none, none, none, none, none, none, none, none, none] []) := mFn_eq rfl
  rw [q]
  have L : ∀ h' : MH, LeftOf [] h' := fun h' => ⟨Nat.zero_le _, fun n o hn => absurd hn (by simp)⟩
  have fin : ∀ h' : MH, b__law_due [some (.int many), some (.int st), some (.rol (ds.map dT)), some (.int lim), none, none, none, none, none, none, none, none, none] [] = .ok (.ret (resM many st (gsOf ds) lim)) h' → mEnd [] (b__law_due [some (.int many), some (.int st), some (.rol (ds.map dT)), some (.int lim), none, none, none, none, none, none, none, none, none] []) = .ok (resM many st (gsOf ds) lim) [] := fun h' e => by
    rw [e]
    show leave [] _ h' = _
    rw [leave_eq (L h') (resM_low 0)]; rfl
  have hg : (gsOf ds).length = (ds.length + 7) / 8 := gs_len
  have etk : (many : Int) + ((ds.length : Int) + 7) / 8 = many + (gsOf ds).length := by rw [hg]; omega
  have s4 : mSet 4 (mOp opAddL (mVar 0) (mOp opDiv (mOp opAddL (mCall fLen (mCons (mVar 2) (mNil))) (mC (.int 7))) (mC (.int 8)))) [some (.int many), some (.int st), some (.rol (ds.map dT)), some (.int lim), none, none, none, none, none, none, none, none, none] [] = .ok (.next [some (.int many), some (.int st), some (.rol (ds.map dT)), some (.int lim), some (.int (many + (gsOf ds).length)), none, none, none, none, none, none, none, none]) [] := by
    have e0 : fLen [.rol (ds.map dT)] [] = .ok (.int (ds.length : Int)) [] := by rw [fLen_rol, List.length_map]
    have ed : opDiv (.int ((ds.length : Int) + 7)) (.int 8) [] = .ok (.int (((ds.length : Int) + 7) / 8)) [] := opDiv_int (by decide) (by decide)
    rw [← etk]
    exact set_ok' (op2 rfl (op2 (op2 (callA (ac rfl an) e0) rfl opAddL_int) rfl ed) opAddL_int)
  have cond : mB (mOp opLt (mVar 3) (mVar 4)) [some (.int many), some (.int st), some (.rol (ds.map dT)), some (.int lim), some (.int (many + (gsOf ds).length)), none, none, none, none, none, none, none, none] [] = .ok (decide (lim < many + (gsOf ds).length)) [] := rfl
  by_cases z : lim < many + (gsOf ds).length
  · rw [decide_eq_true z] at cond
    refine fin [] ?_
    rw [show resM many st (gsOf ds) lim = .tup [fuelF, .int 0, .tup [], .int lim] from if_pos z]
    unfold b__law_due
    rw [seq2 s4]
    exact if_yes cond rfl
  · rw [decide_eq_false z] at cond
    have er : resM many st (gsOf ds) lim = resO (many + (gsOf ds).length) (runs (s0 many st) ds) := by
      unfold resM
      rw [if_neg z, all_ds]
    -- the three lists
    have pre : ∀ K : MSt, mSeq (mSet 5 (mLstN (mCons (mVar 1) (mCons (mOp opAddL (mVar 1) (mC (.int 1))) (mNil))))) (mSeq (mSet 6 (mLcN (mCallI fRange1 (mCons (mVar 0) (mNil))) (mgName 12) (mYes) (mVar 1) [12])) (mSeq (mSet 7 (mLstN (mNil))) K))
        [some (.int many), some (.int st), some (.rol (ds.map dT)), some (.int lim), some (.int (many + (gsOf ds).length)), none, none, none, none, none, none, none, none] [] = K (δD many st (.rol (ds.map dT)) lim (many + (gsOf ds).length) none none none none none) (Hd (s0 many st)) := fun K => by
      rw [seq2 (δ1 := [some (.int many), some (.int st), some (.rol (ds.map dT)), some (.int lim), some (.int (many + (gsOf ds).length)), some (.ref 0), none, none, none, none, none, none, none]) (h1 := [.lst [.int st, .int (st + 1)]]) rfl]
      have sr : mCallI fRange1 (mCons (mVar 0) (mNil)) [some (.int many), some (.int st), some (.rol (ds.map dT)), some (.int lim), some (.int (many + (gsOf ds).length)), some (.ref 0), none, none, none, none, none, none, none] [.lst [.int st, .int (st + 1)]] = .ok ⟨(List.range many).map fun (i : Nat) => .int i, fun _ => True⟩ [.lst [.int st, .int (st + 1)]] := by
        have ea : mCons (mVar 0) (mNil) [some (.int many), some (.int st), some (.rol (ds.map dT)), some (.int lim), some (.int (many + (gsOf ds).length)), some (.ref 0), none, none, none, none, none, none, none] [.lst [.int st, .int (st + 1)]] = .ok [.int (many : Int)] [.lst [.int st, .int (st + 1)]] := ac rfl an
        rw [mCallI_eq, ea, R.bnd_ok, rng_ok rfl (by omega)]
      have rc := row_c (A0 := .lst [.int st, .int (st + 1)]) (st := st) many 0 [] (wipeM [some (.int many), some (.int st), some (.rol (ds.map dT)), some (.int lim), some (.int (many + (gsOf ds).length)), some (.ref 0), none, none, none, none, none, none, none] [12]) (by show 0 + many < 1000; omega) (fun x => rfl) (fun h => rfl)
      generalize mCallI fRange1 (mCons (mVar 0) (mNil)) = src at sr ⊢
      have k : mLcN src (mgName 12) (mYes) (mVar 1) [12] [some (.int many), some (.int st), some (.rol (ds.map dT)), some (.int lim), some (.int (many + (gsOf ds).length)), some (.ref 0), none, none, none, none, none, none, none] [.lst [.int st, .int (st + 1)]] = .ok (.ref 1) [.lst [.int st, .int (st + 1)], .lst ((List.replicate many st).map D.int)] := by
        unfold mLcN
        rw [sr, R.bnd_ok, List.range_eq_range']
        show R.bnd (compM (fun _ => True) (mgName 12) mYes (mVar 1) 1 (wipeM [some (.int many), some (.int st), some (.rol (ds.map dT)), some (.int lim), some (.int (many + (gsOf ds).length)), some (.ref 0), none, none, none, none, none, none, none] [12]) ((List.range' 0 many).map fun (j : Nat) => D.int j) [.lst [.int st, .int (st + 1)], .lst (([] : List Int).map D.int)]) _ = _
        rw [rc, R.bnd_ok, List.nil_append]
        rfl
      have s6 : mSet 6 (mLcN src (mgName 12) (mYes) (mVar 1) [12]) [some (.int many), some (.int st), some (.rol (ds.map dT)), some (.int lim), some (.int (many + (gsOf ds).length)), some (.ref 0), none, none, none, none, none, none, none] [.lst [.int st, .int (st + 1)]] = .ok (.next [some (.int many), some (.int st), some (.rol (ds.map dT)), some (.int lim), some (.int (many + (gsOf ds).length)), some (.ref 0), some (.ref 1), none, none, none, none, none, none]) [.lst [.int st, .int (st + 1)], .lst ((List.replicate many st).map D.int)] := by
        rw [mSet_eq, k, R.st_ok]; rfl
      rw [seq2 s6]
      exact seq2 rfl
    have lp := due_for (many := many) (st := st) (lim := lim) (tk := many + (gsOf ds).length) (dsD := .rol (ds.map dT)) (x12 := none) ds (s0 many st) none none none none hd (by show (List.replicate many st).length = many; simp) (by show 0 + ds.length < 1000; omega)
    rcases lp with ⟨s', y8, y9, y10, y11, e1, lp⟩ | ⟨i, os, h', e1, lp⟩
    · refine fin (Hd s') ?_
      rw [er, e1]
      unfold b__law_due
      rw [seq2 s4, if_no cond, pre, mSeq_eq, mFor_eq]
      show SR.seq (R.st (R.ok (⟨ds.map dT, fun _ => True⟩ : Src) (Hd (s0 many st))) _ _) _ = _
      rw [R.st_ok, lp, SR.seq_next]
      have ft : mCall fTuple (mCons (mVar 7) (mNil)) (δD many st (.rol (ds.map dT)) lim (many + (gsOf ds).length) y8 y9 y10 y11 none) (Hd s') = .ok (.tup (s'.outs.map D.int)) (Hd s') := rfl
      have ea : mOp opIx (mVar 5) (mC (.int 0)) (δD many st (.rol (ds.map dT)) lim (many + (gsOf ds).length) y8 y9 y10 y11 none) (Hd s') = .ok (.int s'.A) (Hd s') := rfl
      have tt : mTup (mCons (mC .non) (mCons (mOp opIx (mVar 5) (mC (.int 0))) (mCons (mCall fTuple (mCons (mVar 7) (mNil))) (mCons (mVar 4) (mNil))))) (δD many st (.rol (ds.map dT)) lim (many + (gsOf ds).length) y8 y9 y10 y11 none) (Hd s') = .ok (resO (many + (gsOf ds).length) (.ok s')) (Hd s') := tupA (ac rfl (ac ea (ac ft (ac rfl an)))) (Nat.le_of_ble_eq_true rfl)
      rw [mRet_eq, tt]; rfl
    · refine fin h' ?_
      rw [er, e1]
      unfold b__law_due
      rw [seq2 s4, if_no cond, pre, mSeq_eq, mFor_eq]
      show SR.seq (R.st (R.ok (⟨ds.map dT, fun _ => True⟩ : Src) (Hd (s0 many st))) _ _) _ = _
      rw [R.st_ok, lp]; rfl
theorem eok_ints {n : Nat} : ∀ os : List Int, eokL n (os.map D.int) = true
  | [] => rfl
  | x :: os => by
    unfold List.map eokL
    rw [eok_ints os]
    rfl
theorem eok_rais {i : Int} : (rais "Index" i).eok 2 = true := by
  unfold rais
  simp only [D.eok, eokL]
  decide +kernel
theorem eok_fuel : fuelF.eok 2 = true := by
  unfold fuelF
  simp only [D.eok, eokL]
  decide +kernel
theorem eok_res {tk : Int} (o : Ot) : (resO tk o).eok 3 = true := by
  cases o with
  | ok s =>
    show eokL 2 [.non, .int s.A, .tup (s.outs.map D.int), .int tk] = true
    unfold eokL eokL eokL eokL eokL
    have : (D.tup (s.outs.map D.int)).eok 2 = true := by unfold D.eok; exact eok_ints _
    rw [this]; rfl
  | idx i os =>
    show eokL 2 [rais "Index" i, .int 0, .tup (os.map D.int), .int tk] = true
    unfold eokL eokL eokL eokL eokL
    have : (D.tup (os.map D.int)).eok 2 = true := by unfold D.eok; exact eok_ints _
    rw [this, eok_rais]; rfl
theorem eok_resM {f : Int} {gs : List (List Dd)} : (resM many st gs f).eok 3 = true := by
  unfold resM
  split
  · show eokL 2 [fuelF, .int 0, .tup [], .int f] = true
    unfold eokL eokL eokL eokL eokL
    rw [eok_fuel]; rfl
  · exact eok_res _
theorem resM_four {f : Int} {gs : List (List Dd)} : ∃ a n os tk, resM many st gs f = .tup [a, .int n, .tup os, .int tk] := by
  unfold resM
  split
  · exact ⟨_, _, _, _, rfl⟩
  · generalize runs (s0 many st) (allD gs gs.length) = o
    cases o with
    | ok s => exact ⟨_, _, _, _, rfl⟩
    | idx i os => exact ⟨_, _, _, _, rfl⟩
theorem eq_same {d : D} {h : MH} {n : Nat} (hn : n ≤ 64) (o : (seeD d h).eok n = true) : opEq d d h = .ok (.bl true) h := by
  rw [opEq_is hn hn o o, eqD_refl o]
end
end K18
namespace K18
open PySem PySem.Spec PyProof.Rows L2 MM
theorem law_true (ns : List Int) (hns : ns.length ≤ 63) : ∃ h', m_law [.rol (ns.map D.int)] [] = .ok (.bl true) h' := by
  have hd0 := cell_ok (ns := ns) (h := []) 0
  generalize ns.getD 0 0 = hd at hd0
  have hd0 : m__law_cell [.rol (ns.map D.int), .int 0] [] = .ok (.int hd) [] := hd0
  have h13 := Int.emod_nonneg hd (b := 13) (by decide)
  have h13' := Int.emod_lt_of_pos hd (b := 13) (by decide)
  obtain ⟨many, em⟩ : ∃ many : Nat, hd % 13 = (many : Int) := ⟨(hd % 13).toNat, by omega⟩
  have hm : many ≤ 12 := by omega
  have cs : MM.cutD (ns.map D.int) (some ((1 : Nat) : Int)) (some ((41 : Nat) : Int)) = ((ns.drop 1).take 40).map D.int := by
    rw [cut_mid (by decide), ← List.map_drop, ← List.map_take]
  have hcs : ((ns.drop 1).take 40).length ≤ 40 := by rw [List.length_take]; omega
  generalize (ns.drop 1).take 40 = cl at cs hcs
  have dk := deeds_ok (cs := cl) (many := many) (by omega)
  have hds : ∀ d ∈ cl.map (dOf many), OkD d := fun d hd => by
    obtain ⟨c, _, rfl⟩ := List.mem_map.mp hd
    exact dOf_ok
  have hdl : (cl.map (dOf many)).length ≤ 40 := by rw [List.length_map]; exact hcs
  generalize cl.map (dOf many) = ds at dk hds hdl
  have m13 : opMod (.int hd) (.int 13) [] = .ok (.int many) [] := by rw [opMod_int (by decide), em]
  have d13 : opDiv (.int hd) (.int 13) [] = .ok (.int (hd / 13)) [] := opDiv_int (by decide) (by decide)
  have p30 : opPow (.int 2) (.int 30) [] = .ok (.int 1073741824) [] := pow_ok (j := 30) (by decide) (by decide)
  have p32 : opPow (.int 2) (.int 32) [] = .ok (.int 4294967296) [] := pow_ok (j := 32) (by decide) (by decide)
  have m30 : opMod (.int (hd / 13)) (.int 1073741824) [] = .ok (.int (hd / 13 % 1073741824)) [] := opMod_int (by decide)
  have d30 : opDiv (.int (hd / 13)) (.int 1073741824) [] = .ok (.int (hd / 13 / 1073741824)) [] := opDiv_int (by decide) (by decide)
  have d32 : opDiv (.int (hd / 13)) (.int 4294967296) [] = .ok (.int (hd / 13 / 4294967296)) [] := opDiv_int (by decide) (by decide)
  have m4 : opMod (.int (hd / 13 / 1073741824)) (.int 4) [] = .ok (.int (hd / 13 / 1073741824 % 4)) [] := opMod_int (by decide)
  have e0 : fLen [.rol (ds.map dT)] [] = .ok (.int (ds.length : Int)) [] := by rw [fLen_rol, List.length_map]
  have ed : opDiv (.int ((ds.length : Int) + 7)) (.int 8) [] = .ok (.int (((ds.length : Int) + 7) / 8)) [] := opDiv_int (by decide) (by decide)
  generalize hd / 13 % 1073741824 = st at m30
  obtain ⟨fl, pk, F⟩ := program_ok (many := many) (st := st) hds hdl
  have hg : (gsOf ds).length = (ds.length + 7) / 8 := gs_len
  have h0 : 0 ≤ (many : Int) + ((ds.length : Int) + 7) / 8 := by omega
  have h17 : (many : Int) + ((ds.length : Int) + 7) / 8 ≤ 17 := by omega
  -- what stands behind the limit
  have rest : ∀ lim : Int, 0 ≤ lim → lim ≤ 17 → ∃ h', mSeq (mSet 6 (mCall m__law_program (mCons (mVar 2) (mCons (mVar 3) (mCons (mVar 4) (mNil)))))) (mSeq (mSet 7 (mCallN 2 1 m_run (mCons (mVar 6) (mCons (mLst (mNil)) (mNil))) (mCons (mVar 5) (mNil)))) (mSeq (mIfS (mOr (mNot (mTru (mCall fIsi (mCons (mVar 7) (mCons (mC (.ty "tuple")) (mNil)))))) (mOr (mB (mOp opNe (mCall fLen (mCons (mVar 7) (mNil))) (mC (.int 4)))) (mTru (mCall fIsi (mCons (mOp opIx (mVar 7) (mC (.int 1))) (mCons (mC (.ty "bool")) (mNil))))))) (mRet (mC (.bl false))) (mNext)) (mSeq (mSet 8 (mCall m__law_due (mCons (mVar 2) (mCons (mVar 3) (mCons (mVar 4) (mCons (mVar 5) (mNil))))))) (mRet (mAndV (mOp opEq (mVar 7) (mVar 8)) (mOp opEq (mCallN 2 1 m_run (mCons (mVar 6) (mCons (mTup (mNil)) (mNil))) (mCons (mVar 5) (mNil))) (mVar 8)))))))
      [some (.rol (ns.map D.int)), some (.int hd), some (.int many), some (.int st), some (.rol (ds.map dT)), some (.int lim), none, none, none] [] = .ok (.ret (.bl true)) h' := fun lim l0 l17 => by
    have mo := main_out (st := st) (f := lim) F hm l0 (by show 8 * (gsOf ds).length < 16777216; omega)
    have hbig : 62 + 12 * (gsOf ds).length < BIG := by show 62 + 12 * (gsOf ds).length < 16777216; omega
    have glast : (fl ++ [mainD many st (gsOf ds).length]).getLast? = some (mainD many st (gsOf ds).length) := by simp
    have r1 := run_ok (ex := .tup []) (args := .rol []) (f := lim) mo hbig glast (.inl rfl) l0 (by omega) resM_low
    have r2 := run_ok (ex := .tup []) (args := .tup []) (f := lim) mo hbig glast (.inr rfl) l0 (by omega) resM_low
    have dk := due_ok (st := st) (lim := lim) hds hdl hm
    have ok3 := eok_resM (many := many) (st := st) (f := lim) (gs := gsOf ds)
    obtain ⟨ra, rn, ros, rtk, er⟩ := resM_four (many := many) (st := st) (f := lim) (gs := gsOf ds)
    have eq : opEq (resM many st (gsOf ds) lim) (resM many st (gsOf ds) lim) [] = .ok (.bl true) [] := eq_same (n := 3) (by decide) (by
      have : seeD (resM many st (gsOf ds) lim) [] = resM many st (gsOf ds) lim := by rw [er]; rfl
      rw [this]; exact ok3)
    have s6 := set_ok' (i := 6) (δ := [some (.rol (ns.map D.int)), some (.int hd), some (.int many), some (.int st), some (.rol (ds.map dT)), some (.int lim), none, none, none]) (callA (ms := mCons (mVar 2) (mCons (mVar 3) (mCons (mVar 4) (mNil)))) (ac rfl (ac rfl (ac rfl an))) pk)
    rw [seq2 s6]
    have t1 : mCallN 2 1 m_run (mCons (mVar 6) (mCons (mLst (mNil)) (mNil))) (mCons (mVar 5) (mNil)) [some (.rol (ns.map D.int)), some (.int hd), some (.int many), some (.int st), some (.rol (ds.map dT)), some (.int lim), some (progD fl many st (gsOf ds).length), none, none] [] = .ok (resM many st (gsOf ds) lim) [] := by
      have ea : mCons (mVar 6) (mCons (mLst (mNil)) (mNil)) [some (.rol (ns.map D.int)), some (.int hd), some (.int many), some (.int st), some (.rol (ds.map dT)), some (.int lim), some (progD fl many st (gsOf ds).length), none, none] [] = .ok [progD fl many st (gsOf ds).length, .rol []] [] := ac rfl (ac rfl an)
      have eb : mCons (mVar 5) (mNil) [some (.rol (ns.map D.int)), some (.int hd), some (.int many), some (.int st), some (.rol (ds.map dT)), some (.int lim), some (progD fl many st (gsOf ds).length), none, none] [] = .ok [.int lim] [] := ac rfl an
      unfold mCallN
      rw [ea, R.bnd_ok, eb, R.bnd_ok, if_pos ⟨rfl, rfl⟩]
      exact r1
    have s7 : mSet 7 (mCallN 2 1 m_run (mCons (mVar 6) (mCons (mLst (mNil)) (mNil))) (mCons (mVar 5) (mNil))) [some (.rol (ns.map D.int)), some (.int hd), some (.int many), some (.int st), some (.rol (ds.map dT)), some (.int lim), some (progD fl many st (gsOf ds).length), none, none] [] = .ok (.next [some (.rol (ns.map D.int)), some (.int hd), some (.int many), some (.int st), some (.rol (ds.map dT)), some (.int lim), some (progD fl many st (gsOf ds).length), some (resM many st (gsOf ds) lim), none]) [] := set_ok' t1
    show ∃ h', mSeq _ _ [some (.rol (ns.map D.int)), some (.int hd), some (.int many), some (.int st), some (.rol (ds.map dT)), some (.int lim), some (progD fl many st (gsOf ds).length), none, none] [] = _
    rw [seq2 s7]
    have cond : mOr (mNot (mTru (mCall fIsi (mCons (mVar 7) (mCons (mC (.ty "tuple")) (mNil)))))) (mOr (mB (mOp opNe (mCall fLen (mCons (mVar 7) (mNil))) (mC (.int 4)))) (mTru (mCall fIsi (mCons (mOp opIx (mVar 7) (mC (.int 1))) (mCons (mC (.ty "bool")) (mNil)))))) [some (.rol (ns.map D.int)), some (.int hd), some (.int many), some (.int st), some (.rol (ds.map dT)), some (.int lim), some (progD fl many st (gsOf ds).length), some (resM many st (gsOf ds) lim), none] [] = .ok false [] := by
      rw [er]; rfl
    rw [if_no cond]
    have s8 : mSet 8 (mCall m__law_due (mCons (mVar 2) (mCons (mVar 3) (mCons (mVar 4) (mCons (mVar 5) (mNil)))))) [some (.rol (ns.map D.int)), some (.int hd), some (.int many), some (.int st), some (.rol (ds.map dT)), some (.int lim), some (progD fl many st (gsOf ds).length), some (resM many st (gsOf ds) lim), none] [] = .ok (.next [some (.rol (ns.map D.int)), some (.int hd), some (.int many), some (.int st), some (.rol (ds.map dT)), some (.int lim), some (progD fl many st (gsOf ds).length), some (resM many st (gsOf ds) lim), some (resM many st (gsOf ds) lim)]) [] :=
      set_ok' (callA (ac rfl (ac rfl (ac rfl (ac rfl an)))) dk)
    rw [seq2 s8]
    have t2 : mCallN 2 1 m_run (mCons (mVar 6) (mCons (mTup (mNil)) (mNil))) (mCons (mVar 5) (mNil)) [some (.rol (ns.map D.int)), some (.int hd), some (.int many), some (.int st), some (.rol (ds.map dT)), some (.int lim), some (progD fl many st (gsOf ds).length), some (resM many st (gsOf ds) lim), some (resM many st (gsOf ds) lim)] [] = .ok (resM many st (gsOf ds) lim) [] := by
      have ea : mCons (mVar 6) (mCons (mTup (mNil)) (mNil)) [some (.rol (ns.map D.int)), some (.int hd), some (.int many), some (.int st), some (.rol (ds.map dT)), some (.int lim), some (progD fl many st (gsOf ds).length), some (resM many st (gsOf ds) lim), some (resM many st (gsOf ds) lim)] [] = .ok [progD fl many st (gsOf ds).length, .tup []] [] := ac rfl (ac rfl an)
      have eb : mCons (mVar 5) (mNil) [some (.rol (ns.map D.int)), some (.int hd), some (.int many), some (.int st), some (.rol (ds.map dT)), some (.int lim), some (progD fl many st (gsOf ds).length), some (resM many st (gsOf ds) lim), some (resM many st (gsOf ds) lim)] [] = .ok [.int lim] [] := ac rfl an
      unfold mCallN
      rw [ea, R.bnd_ok, eb, R.bnd_ok, if_pos ⟨rfl, rfl⟩]
      exact r2
    have q1 := op2 (f := opEq) (m1 := mVar 7) (m2 := mVar 8) (δ := [some (.rol (ns.map D.int)), some (.int hd), some (.int many), some (.int st), some (.rol (ds.map dT)), some (.int lim), some (progD fl many st (gsOf ds).length), some (resM many st (gsOf ds) lim), some (resM many st (gsOf ds) lim)]) rfl rfl eq
    have q2 := op2 (f := opEq) (m2 := mVar 8) t2 rfl eq
    refine ⟨[], ?_⟩
    rw [mRet_eq, mAndV_eq, q1, R.bnd_ok, isB_eq, R.bnd_ok, if_pos rfl, q2]
    rfl
  have body : ∃ h', b_law [some (.rol (ns.map D.int)), none, none, none, none, none, none, none, none] [] = .ok (.ret (.bl true)) h' := by
    unfold b_law
    have s1 := set_ok' (i := 1) (δ := [some (.rol (ns.map D.int)), none, none, none, none, none, none, none, none]) (callA (ms := mCons (mVar 0) (mCons (mC (.int 0)) (mNil))) (ac rfl (ac rfl an)) hd0)
    rw [seq2 s1]
    have s2 := set_ok' (i := 2) (δ := [some (.rol (ns.map D.int)), some (.int hd), none, none, none, none, none, none, none]) (op2 (m1 := mVar 1) (m2 := mC (.int 13)) rfl rfl m13)
    show ∃ h', mSeq _ _ [some (.rol (ns.map D.int)), some (.int hd), none, none, none, none, none, none, none] [] = _
    rw [seq2 s2]
    have s3 := set_ok' (i := 3) (δ := [some (.rol (ns.map D.int)), some (.int hd), some (.int many), none, none, none, none, none, none]) (op2 (m1 := mOp opDiv (mVar 1) (mC (.int 13))) (m2 := mOp opPow (mC (.int 2)) (mC (.int 30))) (op2 rfl rfl d13) (op2 rfl rfl p30) m30)
    show ∃ h', mSeq _ _ [some (.rol (ns.map D.int)), some (.int hd), some (.int many), none, none, none, none, none, none] [] = _
    rw [seq2 s3]
    have sl : mSl opSl (mVar 0) (mPart (mC (.int 1))) (mPart (mC (.int 41))) [some (.rol (ns.map D.int)), some (.int hd), some (.int many), some (.int st), none, none, none, none, none] [] = .ok (.rol (cl.map D.int)) [] := by
      rw [← cs]; rfl
    have s4 := set_ok' (i := 4) (callA (ac sl (ac (m := mVar 2) rfl an)) dk)
    show ∃ h', mSeq _ _ [some (.rol (ns.map D.int)), some (.int hd), some (.int many), some (.int st), none, none, none, none, none] [] = _
    rw [seq2 s4]
    have s5 := set_ok' (i := 5) (δ := [some (.rol (ns.map D.int)), some (.int hd), some (.int many), some (.int st), some (.rol (ds.map dT)), none, none, none, none]) (op2 (f := opAddL) (m1 := mVar 2) (m2 := mOp opDiv (mOp opAddL (mCall fLen (mCons (mVar 4) (mNil))) (mC (.int 7))) (mC (.int 8))) rfl (op2 (op2 (callA (ac rfl an) e0) rfl opAddL_int) rfl ed) opAddL_int)
    show ∃ h', mSeq _ _ [some (.rol (ns.map D.int)), some (.int hd), some (.int many), some (.int st), some (.rol (ds.map dT)), none, none, none, none] [] = _
    rw [seq2 s5]
    generalize (many : Int) + ((ds.length : Int) + 7) / 8 = l5 at h0 h17
    show ∃ h', mSeq _ _ [some (.rol (ns.map D.int)), some (.int hd), some (.int many), some (.int st), some (.rol (ds.map dT)), some (.int l5), none, none, none] [] = _
    have cnd : mB (mOp opEq (mOp opMod (mOp opDiv (mOp opDiv (mVar 1) (mC (.int 13))) (mOp opPow (mC (.int 2)) (mC (.int 30)))) (mC (.int 4))) (mC (.int 1))) [some (.rol (ns.map D.int)), some (.int hd), some (.int many), some (.int st), some (.rol (ds.map dT)), some (.int l5), none, none, none] [] = .ok (decide (hd / 13 / 1073741824 % 4 = 1)) [] := by
      rw [mB_eq, op2 (op2 (op2 (op2 rfl rfl d13) (op2 rfl rfl p30) d30) rfl m4) rfl opEq_int, R.bnd_ok, isB_eq]
    by_cases c : hd / 13 / 1073741824 % 4 = 1
    · rw [decide_eq_true c] at cnd
      have hl := Int.emod_nonneg (hd / 13 / 4294967296) (b := l5 + 1) (by omega)
      have hl' := Int.emod_lt_of_pos (hd / 13 / 4294967296) (b := l5 + 1) (by omega)
      have ml : opMod (.int (hd / 13 / 4294967296)) (.int (l5 + 1)) [] = .ok (.int (hd / 13 / 4294967296 % (l5 + 1))) [] := opMod_int (by omega)
      have sx := set_ok' (i := 5) (δ := [some (.rol (ns.map D.int)), some (.int hd), some (.int many), some (.int st), some (.rol (ds.map dT)), some (.int l5), none, none, none]) (op2 (m1 := mOp opDiv (mOp opDiv (mVar 1) (mC (.int 13))) (mOp opPow (mC (.int 2)) (mC (.int 32)))) (m2 := mOp opAddL (mVar 5) (mC (.int 1))) (op2 (op2 rfl rfl d13) (op2 rfl rfl p32) d32) (op2 rfl rfl opAddL_int) ml)
      have sI := (ifS_t (B := mNext) cnd).trans sx
      rw [seq2 sI]
      exact rest _ hl (by omega)
    · rw [decide_eq_false c] at cnd
      rw [if_no cnd]
      exact rest l5 h0 h17
  obtain ⟨h', e⟩ := body
  have q : m_law [.rol (ns.map D.int)] [] = mEnd [] (b_law [some (.rol (ns.map D.int)), none, none, none, none, none, none, none, none] []) := mFn_eq rfl
  rw [q, e]
  have L : LeftOf [] h' := ⟨Nat.zero_le _, fun n o hn => absurd hn (by simp)⟩
  exact ⟨_, leave_eq (d := .bl true) L rfl⟩
end K18
open PySem PySem.W PyProof.Rows
set_option maxHeartbeats 0 in
theorem PySem.Challenge.cw_escheat_k18_shared_cells_holds : PySem.Challenge.rw_escheat_k18_shared_cells.Holds := by
  w_on; o_law; k_head; (case hw => w_witness2)
  k_fill
  refine L2.walk_of (l := PySem.Challenge.rw_escheat_k18_shared_cells) (n := 63) (k := 8) (x := "script") (CX := fun w => L2N.CX PySem.Challenge.rw_escheat_k18_shared_cells.prog w) (sp := fun w => MM.spOf _ K18.m_law) rfl (by decide) rfl ⟨rfl, by decide, by decide⟩ (fun w h Y => PySem.W.kIn_of Y) ?F (fun _ _ a ns hl _ hS => MM.law_end hS (K18.law_true ns hl)) (fun _ _ _ _ _ q => MM.no_exc q)
  case F =>
    intro w mg fa h KX G hmg
    refine' K18.law_facts KX G hmg ?ac_Outcome ?pg_Outcome ?hd_Outcome ?po_Outcome ?sa_Outcome ?no_Outcome_fault ?no_Outcome_fuel ?no_Outcome_outs ?no_Outcome_returned ?no_Outcome_ticks ?mk_Outcome ?kc_Outcome ?ac_Evaluation ?pg_Evaluation ?hd_Evaluation ?po_Evaluation ?sa_Evaluation ?no_Evaluation_done ?no_Evaluation_exceptions ?no_Evaluation_functions ?no_Evaluation_outcome ?no_Evaluation_tasks ?mk_Evaluation ?kc_Evaluation ?a0 ?l0 ?c0 ?k0 ?a1 ?l1 ?c1 ?k1 ?a2 ?l2 ?c2 ?k2 ?a3 ?l3 ?c3 ?k3 ?a4 ?l4 ?c4 ?k4 ?a5 ?l5 ?c5 ?k5 ?a6 ?l6 ?c6 ?k6 ?a7 ?l7 ?c7 ?k7 ?a8 ?l8 ?c8 ?k8 ?a9 ?l9 ?c9 ?k9 ?a10 ?j10 ?l10 ?c10 ?k10 ?a11 ?j11 ?l11 ?c11 ?k11 ?a12 ?j12 ?l12 ?c12 ?k12 ?a13 ?j13 ?l13 ?c13 ?k13 ?a14 ?l14 ?c14 ?k14 ?a15 ?l15 ?c15 ?k15 ?a16 ?j16 ?l16 ?c16 ?k16 ?a17 ?l17 ?c17 ?k17 ?a18 ?l18 ?c18 ?k18 ?a19 ?l19 ?c19 ?k19 ?a20 ?l20 ?c20 ?k20 ?a21 ?j21 ?l21 ?c21 ?k21 ?a22 ?l22 ?c22 ?k22 ?a23 ?l23 ?c23 ?k23 ?a24 ?l24 ?c24 ?k24 ?a25 ?l25 ?c25 ?k25 ?a26 ?l26 ?c26 ?k26 ?a27 ?l27 ?c27 ?k27 ?a28 ?l28 ?c28 ?k28 ?a29 ?l29 ?c29 ?k29 ?a30 ?l30 ?c30 ?k30 ?a31 ?l31 ?c31 ?k31 ?a32 ?l32 ?c32 ?k32 ?a33 ?l33 ?c33 ?k33 ?a34 ?j34 ?l34 ?c34 ?k34 ?a35 ?l35 ?c35 ?k35 ?a36 ?l36 ?c36 ?k36 ?a37 ?l37 ?c37 ?k37 ?a38 ?l38 ?c38 ?k38 ?a39 ?l39 ?c39 ?k39 ?a40 ?l40 ?c40 ?k40 ?a41 ?l41 ?c41 ?k41 ?a42 ?l42 ?c42 ?k42 ?a43 ?l43 ?c43 ?k43 ?a44 ?l44 ?c44 ?k44 ?a45 ?l45 ?c45 ?k45 ?a46 ?l46 ?c46 ?k46 ?a47 ?l47 ?c47 ?k47 ?a48 ?l48 ?c48 ?k48 ?a49 ?l49 ?c49 ?k49 ?a50 ?l50 ?c50 ?k50 ?a51 ?l51 ?c51 ?k51 ?a52 ?l52 ?c52 ?k52 ?a53 ?l53 ?c53 ?k53 ?a54 ?j54 ?l54 ?c54 ?k54 ?a55 ?j55 ?l55 ?c55 ?k55 ?a56 ?j56 ?l56 ?c56 ?k56 ?a57 ?j57 ?l57 ?c57 ?k57 ?a58 ?l58 ?c58 ?k58 ?q58_0 ?a59 ?l59 ?c59 ?k59 ?a60 ?l60 ?c60 ?k60 ?z_len ?z_int ?z_range ?z_tuple ?z_str ?z_max ?z_min ?z_zip ?z_list ?z_reversed ?z_dict ?z_abs ?z_isinstance ?z_bool ?g_MAX_FUEL ?g_EARLY ?l_EARLY ?y_EARLY ?o_EARLY ?r_EARLY ?g_MAX_ARRAY ?g_SIZE ?g_INDEX ?g_HALF ?g_OPERATIONS ?l_OPERATIONS ?y_OPERATIONS ?o_OPERATIONS ?r_OPERATIONS ?g_DIV ?g_BEGINNINGS ?l_BEGINNINGS ?y_BEGINNINGS ?o_BEGINNINGS ?r_BEGINNINGS ?g_ENDS ?l_ENDS ?y_ENDS ?o_ENDS ?r_ENDS
    (case ac_Outcome => k_is); (case pg_Outcome => k_is); (case hd_Outcome => k_is); (case po_Outcome => k_is); (case sa_Outcome => k_is); (case no_Outcome_fault => k_is); (case no_Outcome_fuel => k_is); (case no_Outcome_outs => k_is); (case no_Outcome_returned => k_is); (case no_Outcome_ticks => k_is); (case mk_Outcome => k_is); (case kc_Outcome => k_is); (case ac_Evaluation => k_is); (case pg_Evaluation => k_is); (case hd_Evaluation => k_is); (case po_Evaluation => k_is); (case sa_Evaluation => k_is); (case no_Evaluation_done => k_is); (case no_Evaluation_exceptions => k_is); (case no_Evaluation_functions => k_is); (case no_Evaluation_outcome => k_is); (case no_Evaluation_tasks => k_is); (case mk_Evaluation => k_is); (case kc_Evaluation => k_is); (case a0 => k_is); (case l0 => k_is); (case c0 => k_is); (case k0 => k_is); (case a1 => k_is); (case l1 => k_is); (case c1 => k_is); (case k1 => k_is); (case a2 => k_is); (case l2 => k_is); (case c2 => k_is); (case k2 => k_is); (case a3 => k_is); (case l3 => k_is); (case c3 => k_is); (case k3 => k_is); (case a4 => k_is); (case l4 => k_is); (case c4 => k_is); (case k4 => k_is); (case a5 => k_is); (case l5 => k_is); (case c5 => k_is); (case k5 => k_is); (case a6 => k_is); (case l6 => k_is); (case c6 => k_is); (case k6 => k_is); (case a7 => k_is); (case l7 => k_is); (case c7 => k_is); (case k7 => k_is); (case a8 => k_is); (case l8 => k_is); (case c8 => k_is); (case k8 => k_is); (case a9 => k_is); (case l9 => k_is); (case c9 => k_is); (case k9 => k_is); (case a10 => k_is); (case j10 => k_is); (case l10 => k_is); (case c10 => k_is); (case k10 => k_is); (case a11 => k_is); (case j11 => k_is); (case l11 => k_is); (case c11 => k_is); (case k11 => k_is); (case a12 => k_is); (case j12 => k_is); (case l12 => k_is); (case c12 => k_is); (case k12 => k_is); (case a13 => k_is); (case j13 => k_is); (case l13 => k_is); (case c13 => k_is); (case k13 => k_is); (case a14 => k_is); (case l14 => k_is); (case c14 => k_is); (case k14 => k_is); (case a15 => k_is); (case l15 => k_is); (case c15 => k_is); (case k15 => k_is); (case a16 => k_is); (case j16 => k_is); (case l16 => k_is); (case c16 => k_is); (case k16 => k_is); (case a17 => k_is); (case l17 => k_is); (case c17 => k_is); (case k17 => k_is); (case a18 => k_is); (case l18 => k_is); (case c18 => k_is); (case k18 => k_is); (case a19 => k_is); (case l19 => k_is); (case c19 => k_is); (case k19 => k_is); (case a20 => k_is); (case l20 => k_is); (case c20 => k_is); (case k20 => k_is); (case a21 => k_is); (case j21 => k_is); (case l21 => k_is); (case c21 => k_is); (case k21 => k_is); (case a22 => k_is); (case l22 => k_is); (case c22 => k_is); (case k22 => k_is); (case a23 => k_is); (case l23 => k_is); (case c23 => k_is); (case k23 => k_is); (case a24 => k_is); (case l24 => k_is); (case c24 => k_is); (case k24 => k_is); (case a25 => k_is); (case l25 => k_is); (case c25 => k_is); (case k25 => k_is); (case a26 => k_is); (case l26 => k_is); (case c26 => k_is); (case k26 => k_is); (case a27 => k_is); (case l27 => k_is); (case c27 => k_is); (case k27 => k_is); (case a28 => k_is); (case l28 => k_is); (case c28 => k_is); (case k28 => k_is); (case a29 => k_is); (case l29 => k_is); (case c29 => k_is); (case k29 => k_is); (case a30 => k_is); (case l30 => k_is); (case c30 => k_is); (case k30 => k_is); (case a31 => k_is); (case l31 => k_is); (case c31 => k_is); (case k31 => k_is); (case a32 => k_is); (case l32 => k_is); (case c32 => k_is); (case k32 => k_is); (case a33 => k_is); (case l33 => k_is); (case c33 => k_is); (case k33 => k_is); (case a34 => k_is); (case j34 => k_is); (case l34 => k_is); (case c34 => k_is); (case k34 => k_is); (case a35 => k_is); (case l35 => k_is); (case c35 => k_is); (case k35 => k_is); (case a36 => k_is); (case l36 => k_is); (case c36 => k_is); (case k36 => k_is); (case a37 => k_is); (case l37 => k_is); (case c37 => k_is); (case k37 => k_is); (case a38 => k_is); (case l38 => k_is); (case c38 => k_is); (case k38 => k_is); (case a39 => k_is); (case l39 => k_is); (case c39 => k_is); (case k39 => k_is); (case a40 => k_is); (case l40 => k_is); (case c40 => k_is); (case k40 => k_is); (case a41 => k_is); (case l41 => k_is); (case c41 => k_is); (case k41 => k_is); (case a42 => k_is); (case l42 => k_is); (case c42 => k_is); (case k42 => k_is); (case a43 => k_is); (case l43 => k_is); (case c43 => k_is); (case k43 => k_is); (case a44 => k_is); (case l44 => k_is); (case c44 => k_is); (case k44 => k_is); (case a45 => k_is); (case l45 => k_is); (case c45 => k_is); (case k45 => k_is); (case a46 => k_is); (case l46 => k_is); (case c46 => k_is); (case k46 => k_is); (case a47 => k_is); (case l47 => k_is); (case c47 => k_is); (case k47 => k_is); (case a48 => k_is); (case l48 => k_is); (case c48 => k_is); (case k48 => k_is); (case a49 => k_is); (case l49 => k_is); (case c49 => k_is); (case k49 => k_is); (case a50 => k_is); (case l50 => k_is); (case c50 => k_is); (case k50 => k_is); (case a51 => k_is); (case l51 => k_is); (case c51 => k_is); (case k51 => k_is); (case a52 => k_is); (case l52 => k_is); (case c52 => k_is); (case k52 => k_is); (case a53 => k_is); (case l53 => k_is); (case c53 => k_is); (case k53 => k_is); (case a54 => k_is); (case j54 => k_is); (case l54 => k_is); (case c54 => k_is); (case k54 => k_is); (case a55 => k_is); (case j55 => k_is); (case l55 => k_is); (case c55 => k_is); (case k55 => k_is); (case a56 => k_is); (case j56 => k_is); (case l56 => k_is); (case c56 => k_is); (case k56 => k_is); (case a57 => k_is); (case j57 => k_is); (case l57 => k_is); (case c57 => k_is); (case k57 => k_is); (case a58 => k_is); (case l58 => k_is); (case c58 => k_is); (case k58 => k_is); (case q58_0 => k_is); (case a59 => k_is); (case l59 => k_is); (case c59 => k_is); (case k59 => k_is); (case a60 => k_is); (case l60 => k_is); (case c60 => k_is); (case k60 => k_is); (case z_len => k_is); (case z_int => k_is); (case z_range => k_is); (case z_tuple => k_is); (case z_str => k_is); (case z_max => k_is); (case z_min => k_is); (case z_zip => k_is); (case z_list => k_is); (case z_reversed => k_is); (case z_dict => k_is); (case z_abs => k_is); (case z_isinstance => k_is); (case z_bool => k_is); (case g_MAX_FUEL => k_is); (case g_EARLY => k_is); (case l_EARLY => k_is); (case y_EARLY => k_keys); (case o_EARLY => decide); (case r_EARLY => kernel_rfl); (case g_MAX_ARRAY => k_is); (case g_SIZE => k_is); (case g_INDEX => k_is); (case g_HALF => k_is); (case g_OPERATIONS => k_is); (case l_OPERATIONS => k_is); (case y_OPERATIONS => k_keys); (case o_OPERATIONS => decide); (case r_OPERATIONS => kernel_rfl); (case g_DIV => k_is); (case g_BEGINNINGS => k_is); (case l_BEGINNINGS => k_is); (case y_BEGINNINGS => k_keys); (case o_BEGINNINGS => decide); (case r_BEGINNINGS => kernel_rfl); (case g_ENDS => k_is); (case l_ENDS => k_is); (case y_ENDS => k_keys); (case o_ENDS => decide); (case r_ENDS => kernel_rfl)
